/- A fraction of numbers that may have divisors in common, as the Go text of package frac makes it. -/
import Derived.Laws.Bits64b
import Derived.Lib.ItoaNum
import Derived.Test.YtjbboicccddhbaaGreatDoorKPAP
namespace Go.Proofs.YtjbboicccddhbaaGreatDoor
open Go.RowKit

theorem sgn_div (s : Bool) (X Y g : Nat) (hg : 0 < g) (hx : g ∣ X) (hy : g ∣ Y) (f : Rat) (hY : 0 < Y) (h : f.num * (Y : Int) = sgn s X * (f.den : Int)) (hc : Nat.Coprime (X / g) (Y / g)) : f.num = sgn s (X / g)∧f.den = Y / g:=by
 have hyq : 0 < Y / g:=Nat.div_pos (Nat.le_of_dvd hY hy) hg
 refine rat_of_coprime (sgn s (X / g)) (Y / g) (by omega) (by rw [sgn_abs]; exact hc) f ?_
 have e1 : (Y : Int) = ((Y / g : Nat) : Int) * (g : Int):=by rw [← Int.natCast_mul,Nat.div_mul_cancel hy]
 have e2 : sgn s X = sgn s (X / g) * (g : Int):=by rw [← sgn_mul,Nat.div_mul_cancel hx]
 rw [e1,e2] at h
 have hg' : (g : Int) ≠ 0:=by omega
 apply Int.eq_of_mul_eq_mul_right hg'
 rw [Int.mul_assoc,h,Int.mul_right_comm]

set_option maxHeartbeats 4000000 in
set_option maxRecDepth 100000 in
theorem ofNumbers_any (s : Bool) (vx vy : Value) (X Y : Nat) (w : World) (hx : Sl .u64 w vx (wd 18446744073709551616 X)) (hy : Sl .u64 w vy (wd 18446744073709551616 Y)) (hY : 0 < Y) (lx : (wd 18446744073709551616 X).length ≤ 1000000) (ly : (wd 18446744073709551616 Y).length ≤ 1000000) (f : Rat) (hf : f.num * (Y : Int) = sgn s X * (f.den : Int)) :
  Calls Tryz.prog 45 #[.bool s,vx,vy] w fun e w' => ∃ v,e = .returned v∧FracAt w' v f∧But [] w w':=by
 obtain ⟨g,hg⟩ : ∃ g,g = Nat.gcd X Y:=⟨_,rfl⟩
 have hg0 : 0 < g:=by rw [hg]; exact Nat.gcd_pos_of_pos_right _ hY
 have hgl : (wd 18446744073709551616 g).length ≤ 1000000:=Nat.le_trans (wd_len_mono (by rw [hg]; exact Nat.gcd_le_right _ hY)) ly
 obtain ⟨f1,f2⟩:=sgn_div s X Y g hg0 (by rw [hg]; exact Nat.gcd_dvd_left _ _) (by rw [hg]; exact Nat.gcd_dvd_right _ _) f hY hf (by rw [hg]; exact Nat.coprime_div_gcd_div_gcd (by omega))
 have GC : Hid (∀ W,But [] w W→Calls Tryz.prog 57 #[vx,vy] W fun e w' => ∃ v,e = .returned v∧Sl .u64 w' v (wd 18446744073709551616 g)∧But [] W w'):=fun W hb => by
  rw [hg]
  exact natGcd_any vx vy X Y W (hx.but_nil hb) (hy.but_nil hb) lx ly
 have Q1 : Hid (∀ W v,But [] w W→Sl .u64 W v (wd 18446744073709551616 g)→Calls Tryz.prog 58 #[vx,v] W fun e w' => ∃ v1,e = .returned v1∧Sl .u64 w' v1 (wd 18446744073709551616 (X / g))∧But [] W w'):=fun W v hb h => natQuo_any vx v _ _ W (hx.but_nil hb) h hg0 (by omega) (by omega) (Short.of _ _ lx)
 have Q2 : Hid (∀ W v,But [] w W→Sl .u64 W v (wd 18446744073709551616 g)→Calls Tryz.prog 58 #[vy,v] W fun e w' => ∃ v1,e = .returned v1∧Sl .u64 w' v1 (wd 18446744073709551616 (Y / g))∧But [] W w'):=fun W v hb h => natQuo_any vy v _ _ W (hy.but_nil hb) h hg0 (by omega) (by omega) (Short.of _ _ ly)
 have habs : f.num.natAbs = X / g:=by rw [f1,sgn_abs]
 have OL : Hid (∀ W v1 v2,Sl .u64 W v1 (wd 18446744073709551616 (X / g))→Sl .u64 W v2 (wd 18446744073709551616 (Y / g))→Calls Tryz.prog 54 #[.bool s,v1,v2] W fun e w' => ∃ v,e = .returned v∧FracAt w' v f∧But [] W w'):=fun W v1 v2 h1 h2 => ofLowered_any s v1 v2 f W (by rw [habs]; exact h1) (by rw [f2]; exact h2) (by rw [habs]; exact f1) (by rw [habs]; have:=len_quo X g 1000000 lx; omega) (by rw [f2]; have:=len_quo Y g 1000000 ly; omega)
 obtain ⟨a1,d1,rfl,-,-⟩:=hx
 obtain ⟨a2,d2,rfl,-,-⟩:=hy
 clear hg hg0 hgl f1 f2 habs lx ly hf
 generalize (wd 18446744073709551616 X).length = n1 at *
 generalize (wd 18446744073709551616 Y).length = n2 at *
 obtain ⟨W,hW⟩ : ∃ W,W = w.alloc (.cells #[.bool false,.int .u64 0,.int .u64 0,.pointer none] 27):=⟨_,rfl⟩
 have r0 : W.cell? ⟨w.heap.size,0,none⟩ = some (.bool false):=by rw [hW]; simp
 have r1 : W.cell? ⟨w.heap.size,1,none⟩ = some (.int .u64 0):=by rw [hW]; simp
 have r2 : W.cell? ⟨w.heap.size,2,none⟩ = some (.int .u64 0):=by rw [hW]; simp
 have r3 : W.cell? ⟨w.heap.size,3,none⟩ = some (.pointer none):=by rw [hW]; simp
 have fz : ∀ j,W.frozen? ⟨w.heap.size,j,none⟩ = false:=fun j => by rw [hW]; simp
 have BL : Hid (Blank W w.heap.size):=⟨r0,r1,r2,r3,fun j hj => by rw [hW,World.cell?_alloc_new]; simp; omega⟩
 have HB : Hid (But [] w W):=by show But _ _ _; rw [hW]; exact (But.refl _ _).alloc _
 have HW:=hide hW
 clear hW
 go_enter Tryz.func45,Tryz.ntmps45
 go_wp2_with fail
 rw [← unhide HW]
 obtain ⟨gr,hgr⟩ : ∃ gr,gr = w.heap.size:=⟨_,rfl⟩
 rw [← hgr] at r0 r1 r2 r3 fz BL
 rw [← hgr]
 have HGR : Hid (w.heap.size ≤ gr):=by show _ ≤ _; omega
 clear hgr HW
 have grl : gr < W.heap.size:=lt_of_cell r0
 refine (unhide GC _ (unhide HB)).mono ?_
 rintro e w1 ⟨vg,rfl,hvg,hb1⟩
 have HVG:=hide hvg
 have K1:=hide hb1
 have B1 : Hid (But [] w w1):=(unhide HB).trans' hb1
 clear hvg hb1
 go_wp2_with fail
 refine (unhide Q1 _ vg (unhide B1) (unhide HVG)).mono ?_
 rintro e w2 ⟨v1,rfl,hv1,hb2⟩
 have HV1:=hide hv1
 have HVG2:=hide ((unhide HVG).but_nil hb2)
 have K2 : Hid (But [] W w2):=(unhide K1).trans' hb2
 have B2 : Hid (But [] w w2):=(unhide B1).trans' hb2
 clear hv1 hb2
 go_wp2_with fail
 refine (unhide Q2 _ vg (unhide B2) (unhide HVG2)).mono ?_
 rintro e w3 ⟨v2,rfl,hv2,hb3⟩
 have HV2:=hide hv2
 have HV13:=hide ((unhide HV1).but_nil hb3)
 have K3 : Hid (But [] W w3):=(unhide K2).trans' hb3
 have B3 : Hid (But [] w w3):=(unhide B2).trans' hb3
 clear hv2 hb3
 go_wp2_with fail
 refine (unhide OL _ v1 v2 (unhide HV13) (unhide HV2)).mono ?_
 rintro e w4 ⟨vr,rfl,hvr,hb4⟩
 have K4 : But [] W w4:=(unhide K3).trans' hb4
 have B4 : Hid (But [] w w4):=(unhide B3).trans' hb4
 have HVR:=hide hvr
 obtain ⟨x8,y8,p8,rfl,-⟩:=hvr.agg
 generalize decide (f.num < 0) = r8 at *
 have u0:=K4.cell_some r0 (by simp)
 have u1:=K4.cell_some r1 (by simp)
 have u2:=K4.cell_some r2 (by simp)
 have u3:=K4.cell_some r3 (by simp)
 have uf : ∀ j,w4.frozen? ⟨gr,j,none⟩ = false:=fun j => (K4.frozen (p:=⟨gr,j,none⟩) grl (by simp)).trans (fz j)
 have BL4 : Hid (Blank w4 gr):=(unhide BL).but K4
 clear hvr hb4 K4 r0 r1 r2 r3 fz grl
 go_wp2
 have hBg : But [gr] w4 ((((w4.setCell ⟨gr,0,none⟩ (.bool r8)).setCell ⟨gr,1,none⟩ (.int .u64 x8)).setCell ⟨gr,2,none⟩ (.int .u64 y8)).setCell ⟨gr,3,none⟩ (.pointer p8)):=(((((But.refl [gr] w4).setCell (.inl (by simp)) _).setCell (.inl (by simp)) _).setCell (.inl (by simp)) _).setCell (.inl (by simp)) _)
 have hBf:=((((unhide B4).setCell (p:=⟨gr,0,none⟩) (.inr (unhide HGR)) (.bool r8)).setCell (p:=⟨gr,1,none⟩) (.inr (unhide HGR)) (.int .u64 x8)).setCell (p:=⟨gr,2,none⟩) (.inr (unhide HGR)) (.int .u64 y8)).setCell (p:=⟨gr,3,none⟩) (.inr (unhide HGR)) (.pointer p8)
 exact bodyPost_ret (v:=.agg #[.bool r8,.int .u64 x8,.int .u64 y8,.pointer p8]) (by simp [results,Tryz.results45,go_sem,u0,u1,u2,u3]) rfl ⟨_,rfl,(unhide BL4).frac (unhide HVR) hBg,hBf⟩
end Go.Proofs.YtjbboicccddhbaaGreatDoor

namespace Go.Proofs.YtjbboicccddhbaaGreatDoor
open Go.RowKit

/-- a text's parts, as they lie -/
def wrt (s : Bool) (tw : ByteArray) (k : Int) (tb : ByteArray) : Value:=.agg #[.bool s,.string tw,.int .u8 k,.string tb,.bool false]

set_option maxHeartbeats 2000000 in
set_option maxRecDepth 100000 in
theorem aboveDigits_0 (s : Bool) (tw tb : ByteArray) (w : World) (_h1 : tw.size < 1000) (_h2 : tb.size < 1000) :
  Calls Tryz.prog 42 #[wrt s tw 0 tb] w fun e w' => e = .returned (.int .i64 ((tw.size : Int)))∧But [] w w':=by
 unfold wrt
 go_enter Tryz.func42,Tryz.ntmps42
 go_wp2
 go_ret
 exact ⟨rfl,(But.refl _ _).alloc _⟩

set_option maxHeartbeats 2000000 in
set_option maxRecDepth 100000 in
theorem underDigits_0 (s : Bool) (tw tb : ByteArray) (w : World) (_h1 : tw.size < 1000) (h2 : tb.size < 1000) :
  Calls Tryz.prog 43 #[wrt s tw 0 tb] w fun e w' => e = .returned (.int .i64 (1 + (tb.size : Int)))∧But [] w w':=by
 unfold wrt
 go_enter Tryz.func43,Tryz.ntmps43
 go_wp2
 go_ret
 exact ⟨rfl,(But.refl _ _).alloc _⟩

set_option maxHeartbeats 2000000 in
set_option maxRecDepth 100000 in
theorem aboveDigits_47 (s : Bool) (tw tb : ByteArray) (w : World) (_h1 : tw.size < 1000) (_h2 : tb.size < 1000) :
  Calls Tryz.prog 42 #[wrt s tw 47 tb] w fun e w' => e = .returned (.int .i64 ((tw.size : Int)))∧But [] w w':=by
 unfold wrt
 go_enter Tryz.func42,Tryz.ntmps42
 go_wp2
 go_ret
 exact ⟨rfl,(But.refl _ _).alloc _⟩

set_option maxHeartbeats 2000000 in
set_option maxRecDepth 100000 in
theorem underDigits_47 (s : Bool) (tw tb : ByteArray) (w : World) (_h1 : tw.size < 1000) (_h2 : tb.size < 1000) :
  Calls Tryz.prog 43 #[wrt s tw 47 tb] w fun e w' => e = .returned (.int .i64 ((tb.size : Int)))∧But [] w w':=by
 unfold wrt
 go_enter Tryz.func43,Tryz.ntmps43
 go_wp2
 go_ret
 exact ⟨rfl,(But.refl _ _).alloc _⟩

theorem ba_list (a b : ByteArray) : (a ++ b).data.toList = a.data.toList ++ b.data.toList:=by simp

set_option maxHeartbeats 4000000 in
set_option maxRecDepth 100000 in
theorem numbers_0 (s : Bool) (tw : ByteArray) (ds : List UInt8) (w : World) (ht : tw.data.toList = ds) (hd : Digits ds) (hl : ds.length < 1000) :
  Calls Tryz.prog 44 #[wrt s tw 0 ⟨#[]⟩] w fun e w' => ∃ v1 v2,e = .returned (.tuple #[v1,v2])∧Sl .u64 w' v1 (wd 18446744073709551616 (dval ds))∧Sl .u64 w' v2 (wd 18446744073709551616 (1))∧But [] w w':=by
 unfold wrt
 have RD:=hide (fun W => natRead_any tw ds W ht hd (by omega))
 clear ht hd hl
 obtain ⟨W,hW⟩ : ∃ W,W = w.alloc (.cells #[.bool s,.string tw,.int .u8 0,.string ⟨#[]⟩,.bool false] 88):=⟨_,rfl⟩
 have c1 : W.cell? ⟨w.heap.size,1,none⟩ = some (.string tw):=by rw [hW]; simp
 have c2 : W.cell? ⟨w.heap.size,2,none⟩ = some (.int .u8 0):=by rw [hW]; simp
 have c3 : W.cell? ⟨w.heap.size,3,none⟩ = some (.string ⟨#[]⟩):=by rw [hW]; simp
 have c4 : W.cell? ⟨w.heap.size,4,none⟩ = some (.bool false):=by rw [hW]; simp
 have HB : Hid (But [] w W):=by show But _ _ _; rw [hW]; exact (But.refl _ _).alloc _
 have HW:=hide hW
 clear hW
 go_enter Tryz.func44,Tryz.ntmps44
 go_wp2_with fail
 rw [← unhide HW]
 clear HW
 generalize w.heap.size = g at *
 refine (unhide RD _).mono ?_
 rintro e w1 ⟨v1,rfl,hv1,hb1⟩
 replace c1:=hb1.cell_some c1 (by simp)
 replace c2:=hb1.cell_some c2 (by simp)
 replace c3:=hb1.cell_some c3 (by simp)
 replace c4:=hb1.cell_some c4 (by simp)
 replace HB : Hid (But [] w w1):=(unhide HB).trans' hb1
 have H1:=hide hv1
 clear hv1 hb1
 go_wp2_with fail
 refine (natOf_any 1 (by omega) _).mono ?_
 rintro e w2 ⟨v2,rfl,hv2,hb2,-⟩
 replace c1:=hb2.cell_some c1 (by simp)
 replace c2:=hb2.cell_some c2 (by simp)
 replace c3:=hb2.cell_some c3 (by simp)
 replace c4:=hb2.cell_some c4 (by simp)
 replace HB : Hid (But [] w w2):=(unhide HB).trans' hb2
 replace H1:=hide ((unhide H1).but_nil hb2)
 have H2:=hide hv2
 clear hv2 hb2
 go_wp2
 go_ret2
 exact ⟨v1,v2,rfl,unhide H1,unhide H2,unhide HB⟩

set_option maxHeartbeats 4000000 in
set_option maxRecDepth 100000 in
theorem numbers_47 (s : Bool) (tw tb : ByteArray) (ds : List UInt8) (w : World) (ht : tw.data.toList = ds) (hd : Digits ds) (hl : ds.length < 1000) (es : List UInt8) (he : tb.data.toList = es) (hde : Digits es) (hel : es.length < 1000) :
  Calls Tryz.prog 44 #[wrt s tw 47 tb] w fun e w' => ∃ v1 v2,e = .returned (.tuple #[v1,v2])∧Sl .u64 w' v1 (wd 18446744073709551616 (dval ds))∧Sl .u64 w' v2 (wd 18446744073709551616 (dval es))∧But [] w w':=by
 unfold wrt
 have RD:=hide (fun W => natRead_any tw ds W ht hd (by omega))
 have RE:=hide (fun W => natRead_any tb es W he hde (by omega))
 clear ht hd hl he hde hel
 obtain ⟨W,hW⟩ : ∃ W,W = w.alloc (.cells #[.bool s,.string tw,.int .u8 47,.string tb,.bool false] 88):=⟨_,rfl⟩
 have c1 : W.cell? ⟨w.heap.size,1,none⟩ = some (.string tw):=by rw [hW]; simp
 have c2 : W.cell? ⟨w.heap.size,2,none⟩ = some (.int .u8 47):=by rw [hW]; simp
 have c3 : W.cell? ⟨w.heap.size,3,none⟩ = some (.string tb):=by rw [hW]; simp
 have c4 : W.cell? ⟨w.heap.size,4,none⟩ = some (.bool false):=by rw [hW]; simp
 have HB : Hid (But [] w W):=by show But _ _ _; rw [hW]; exact (But.refl _ _).alloc _
 have HW:=hide hW
 clear hW
 go_enter Tryz.func44,Tryz.ntmps44
 go_wp2_with fail
 rw [← unhide HW]
 clear HW
 generalize w.heap.size = g at *
 refine (unhide RD _).mono ?_
 rintro e w1 ⟨v1,rfl,hv1,hb1⟩
 replace c1:=hb1.cell_some c1 (by simp)
 replace c2:=hb1.cell_some c2 (by simp)
 replace c3:=hb1.cell_some c3 (by simp)
 replace c4:=hb1.cell_some c4 (by simp)
 replace HB : Hid (But [] w w1):=(unhide HB).trans' hb1
 have H1:=hide hv1
 clear hv1 hb1
 go_wp2_with fail
 refine (natOf_any 1 (by omega) _).mono ?_
 rintro e w2 ⟨v2,rfl,hv2,hb2,-⟩
 replace c1:=hb2.cell_some c1 (by simp)
 replace c2:=hb2.cell_some c2 (by simp)
 replace c3:=hb2.cell_some c3 (by simp)
 replace c4:=hb2.cell_some c4 (by simp)
 replace HB : Hid (But [] w w2):=(unhide HB).trans' hb2
 replace H1:=hide ((unhide H1).but_nil hb2)
 have H2:=hide hv2
 clear hv2 hb2
 go_wp2_with fail
 refine (unhide RE _).mono ?_
 rintro e w3 ⟨v3,rfl,hv3,hb3⟩
 replace c1:=hb3.cell_some c1 (by simp)
 replace c2:=hb3.cell_some c2 (by simp)
 replace c3:=hb3.cell_some c3 (by simp)
 replace c4:=hb3.cell_some c4 (by simp)
 replace HB : Hid (But [] w w3):=(unhide HB).trans' hb3
 replace H1:=hide ((unhide H1).but_nil hb3)
 replace H2:=hide ((unhide H2).but_nil hb3)
 have H3:=hide hv3
 clear hv3 hb3
 go_wp2
 go_ret2
 exact ⟨v1,v3,rfl,unhide H1,unhide H3,unhide HB⟩

end Go.Proofs.YtjbboicccddhbaaGreatDoor
