/- A fraction of numbers that may have divi -/
import Derived.Test.YthlnhheblhapgaaGreatDoorKMF5
import Derived.Test.YthlnhheblhapgaaGreatDoorKMPv
namespace Go.Proofs.YthlnhheblhapgaaGreatDoor
open Go.RowKit
set_option maxHeartbeats 4000000
set_option maxRecDepth 100000
theorem sgn_div (s:Bool) (X Y g:Nat) (hg:0<g) (hx:g ∣ X) (hy:g ∣ Y) (f:Rat) (hY:0<Y) (h:f.num*(Y:Int)=sgn s X*(f.den:Int)) (hc:Nat.Coprime (X/g) (Y/g)):f.num=sgn s (X/g)∧f.den=Y/g:=by
 have hyq:0<Y/g:=Nat.div_pos (Nat.le_of_dvd hY hy) hg
 refine rat_of_coprime (sgn s (X/g)) (Y/g) (by omega) (by rw [sgn_abs];exact hc) f ?_
 have e1:(Y:Int)=((Y/g:Nat):Int)*(g:Int):=by rw [← Int.natCast_mul,Nat.div_mul_cancel hy]
 have e2:sgn s X=sgn s (X/g)*(g:Int):=by rw [← sgn_mul,Nat.div_mul_cancel hx]
 rw [e1,e2] at h
 have hg':(g:Int)≠0:=by omega
 apply Int.eq_of_mul_eq_mul_right hg'
 rw [Int.mul_assoc,h,Int.mul_right_comm]
theorem ofNumbers_any (s:Bool) (vx vy:Value) (X Y:Nat) (w:World) (hx:Sl .u64 w vx (wd 18446744073709551616 X)) (hy:Sl .u64 w vy (wd 18446744073709551616 Y)) (hY:0<Y) (lx:(wd 18446744073709551616 X).length≤1000000) (ly:(wd 18446744073709551616 Y).length≤1000000) (f:Rat) (hf:f.num*(Y:Int)=sgn s X*(f.den:Int)) :
  Calls Tryz.prog 126 #[.bool s,vx,vy] w fun e w'=>∃ v,e=.returned v∧FracAt w' v f∧But [] w w':=by
 obtain ⟨g,hg⟩:∃ g,g=Nat.gcd X Y:=⟨_,rfl⟩
 have hg0:0<g:=by rw [hg];exact Nat.gcd_pos_of_pos_right _ hY
 have hgl:(wd 18446744073709551616 g).length≤1000000:=Nat.le_trans (wd_len_mono (by rw [hg];exact Nat.gcd_le_right _ hY)) ly
 obtain ⟨f1,f2⟩:=sgn_div s X Y g hg0 (by rw [hg];exact Nat.gcd_dvd_left _ _) (by rw [hg];exact Nat.gcd_dvd_right _ _) f hY hf (by rw [hg];exact Nat.coprime_div_gcd_div_gcd (by omega))
 have GC:Hid (∀ W,But [] w W→Calls Tryz.prog 52 #[vx,vy] W fun e w'=>∃ v,e=.returned v∧Sl .u64 w' v (wd 18446744073709551616 g)∧But [] W w'):=fun W hb=>by
  rw [hg]
  exact natGcd_any vx vy X Y W (hx.but_nil hb) (hy.but_nil hb) lx ly
 have Q1:Hid (∀ W v,But [] w W→Sl .u64 W v (wd 18446744073709551616 g)→Calls Tryz.prog 53 #[vx,v] W fun e w'=>∃ v1,e=.returned v1∧Sl .u64 w' v1 (wd 18446744073709551616 (X/g))∧But [] W w'):=fun W v hb h=>natQuo_any vx v _ _ W (hx.but_nil hb) h hg0 (by omega) (by omega) (Short.of _ _ lx)
 have Q2:Hid (∀ W v,But [] w W→Sl .u64 W v (wd 18446744073709551616 g)→Calls Tryz.prog 53 #[vy,v] W fun e w'=>∃ v1,e=.returned v1∧Sl .u64 w' v1 (wd 18446744073709551616 (Y/g))∧But [] W w'):=fun W v hb h=>natQuo_any vy v _ _ W (hy.but_nil hb) h hg0 (by omega) (by omega) (Short.of _ _ ly)
 have habs:f.num.natAbs=X/g:=by rw [f1,sgn_abs]
 have OL:Hid (∀ W v1 v2,Sl .u64 W v1 (wd 18446744073709551616 (X/g))→Sl .u64 W v2 (wd 18446744073709551616 (Y/g))→Calls Tryz.prog 56 #[.bool s,v1,v2] W fun e w'=>∃ v,e=.returned v∧FracAt w' v f∧But [] W w'):=fun W v1 v2 h1 h2=>ofLowered_any s v1 v2 f W (by rw [habs];exact h1) (by rw [f2];exact h2) (by rw [habs];exact f1) (by rw [habs];have:=len_quo X g 1000000 lx;omega) (by rw [f2];have:=len_quo Y g 1000000 ly;omega)
 obtain ⟨a1,d1,rfl,-,-⟩:=hx
 obtain ⟨a2,d2,rfl,-,-⟩:=hy
 clear hg hg0 hgl f1 f2 habs lx ly hf
 generalize (wd 18446744073709551616 X).length=n1 at *
 generalize (wd 18446744073709551616 Y).length=n2 at *
 obtain ⟨W,hW⟩:∃ W,W=w.alloc (.cells #[.bool false,.int .u64 0,.int .u64 0,.pointer none] 41):=⟨_,rfl⟩
 have r0:W.cell? ⟨w.heap.size,0,none⟩=some (.bool false):=by rw [hW];simp
 have r1:W.cell? ⟨w.heap.size,1,none⟩=some (.int .u64 0):=by rw [hW];simp
 have r2:W.cell? ⟨w.heap.size,2,none⟩=some (.int .u64 0):=by rw [hW];simp
 have r3:W.cell? ⟨w.heap.size,3,none⟩=some (.pointer none):=by rw [hW];simp
 have fz:∀ j,W.frozen? ⟨w.heap.size,j,none⟩=false:=fun j=>by rw [hW];simp
 have BL:Hid (Blank W w.heap.size):=⟨r0,r1,r2,r3,fun j hj=>by rw [hW,World.cell?_alloc_new];simp;omega⟩
 have HB:Hid (But [] w W):=by show But _ _ _;rw [hW];exact (But.refl _ _).alloc _
 have HW:=hide hW
 clear hW
 go_enter Tryz.func126,Tryz.ntmps126
 go_wp2_with fail
 rw [← unhide HW]
 obtain ⟨gr,hgr⟩:∃ gr,gr=w.heap.size:=⟨_,rfl⟩
 rw [← hgr] at r0 r1 r2 r3 fz BL
 rw [← hgr]
 have HGR:Hid (w.heap.size≤gr):=by show _≤_;omega
 clear hgr HW
 have grl:gr<W.heap.size:=lt_of_cell r0
 refine (unhide GC _ (unhide HB)).mono ?_
 rintro e w1 ⟨vg,rfl,hvg,hb1⟩
 have HVG:=hide hvg
 have K1:=hide hb1
 have B1:Hid (But [] w w1):=(unhide HB).trans' hb1
 clear hvg hb1
 go_wp2_with fail
 refine (unhide Q1 _ vg (unhide B1) (unhide HVG)).mono ?_
 rintro e w2 ⟨v1,rfl,hv1,hb2⟩
 have HV1:=hide hv1
 have HVG2:=hide ((unhide HVG).but_nil hb2)
 have K2:Hid (But [] W w2):=(unhide K1).trans' hb2
 have B2:Hid (But [] w w2):=(unhide B1).trans' hb2
 clear hv1 hb2
 go_wp2_with fail
 refine (unhide Q2 _ vg (unhide B2) (unhide HVG2)).mono ?_
 rintro e w3 ⟨v2,rfl,hv2,hb3⟩
 have HV2:=hide hv2
 have HV13:=hide ((unhide HV1).but_nil hb3)
 have K3:Hid (But [] W w3):=(unhide K2).trans' hb3
 have B3:Hid (But [] w w3):=(unhide B2).trans' hb3
 clear hv2 hb3
 go_wp2_with fail
 refine (unhide OL _ v1 v2 (unhide HV13) (unhide HV2)).mono ?_
 rintro e w4 ⟨vr,rfl,hvr,hb4⟩
 have K4:But [] W w4:=(unhide K3).trans' hb4
 have B4:Hid (But [] w w4):=(unhide B3).trans' hb4
 have HVR:=hide hvr
 obtain ⟨x8,y8,p8,rfl,-⟩:=hvr.agg
 generalize decide (f.num<0)=r8 at *
 have u0:=K4.cell_some r0 (by simp)
 have u1:=K4.cell_some r1 (by simp)
 have u2:=K4.cell_some r2 (by simp)
 have u3:=K4.cell_some r3 (by simp)
 have uf:∀ j,w4.frozen? ⟨gr,j,none⟩=false:=fun j=>(K4.frozen (p:=⟨gr,j,none⟩) grl (by simp)).trans (fz j)
 have BL4:Hid (Blank w4 gr):=(unhide BL).but K4
 clear hvr hb4 K4 r0 r1 r2 r3 fz grl
 go_wp2
 have hBg:But [gr] w4 ((((w4.setCell ⟨gr,0,none⟩ (.bool r8)).setCell ⟨gr,1,none⟩ (.int .u64 x8)).setCell ⟨gr,2,none⟩ (.int .u64 y8)).setCell ⟨gr,3,none⟩ (.pointer p8)):=(((((But.refl [gr] w4).setCell (.inl (by simp)) _).setCell (.inl (by simp)) _).setCell (.inl (by simp)) _).setCell (.inl (by simp)) _)
 have hBf:=((((unhide B4).setCell (p:=⟨gr,0,none⟩) (.inr (unhide HGR)) (.bool r8)).setCell (p:=⟨gr,1,none⟩) (.inr (unhide HGR)) (.int .u64 x8)).setCell (p:=⟨gr,2,none⟩) (.inr (unhide HGR)) (.int .u64 y8)).setCell (p:=⟨gr,3,none⟩) (.inr (unhide HGR)) (.pointer p8)
 exact bodyPost_ret (v:=.agg #[.bool r8,.int .u64 x8,.int .u64 y8,.pointer p8]) (by simp [results,Tryz.results126,go_sem,u0,u1,u2,u3]) rfl ⟨_,rfl,(unhide BL4).frac (unhide HVR) hBg,hBf⟩
end Go.Proofs.YthlnhheblhapgaaGreatDoor

namespace Go.Proofs.YthlnhheblhapgaaGreatDoor
open Go.RowKit
set_option maxHeartbeats 4000000
set_option maxRecDepth 100000
def wrt (s:Bool) (tw:ByteArray) (k:Int) (tb:ByteArray):Value:=.agg #[.bool s,.string tw,.int .u8 k,.string tb,.bool false]
theorem aboveDigits_0 (s:Bool) (tw tb:ByteArray) (w:World) (_h1:tw.size<1000) (_h2:tb.size<1000) :
  Calls Tryz.prog 123 #[wrt s tw 0 tb] w fun e w'=>e=.returned (.int .i64 ((tw.size:Int)))∧But [] w w':=by
 unfold wrt
 go_enter Tryz.func123,Tryz.ntmps123
 go_wp2
 go_ret
 exact ⟨rfl,(But.refl _ _).alloc _⟩
theorem underDigits_0 (s:Bool) (tw tb:ByteArray) (w:World) (_h1:tw.size<1000) (h2:tb.size<1000) :
  Calls Tryz.prog 124 #[wrt s tw 0 tb] w fun e w'=>e=.returned (.int .i64 (1+(tb.size:Int)))∧But [] w w':=by
 unfold wrt
 go_enter Tryz.func124,Tryz.ntmps124
 go_wp2
 go_ret
 exact ⟨rfl,(But.refl _ _).alloc _⟩
theorem numbers_0 (s:Bool) (tw:ByteArray) (ds:List UInt8) (w:World) (ht:tw.data.toList=ds) (hd:Digits ds) (hl:ds.length<1000) :
  Calls Tryz.prog 125 #[wrt s tw 0 ⟨#[]⟩] w fun e w'=>∃ v1 v2,e=.returned (.tuple #[v1,v2])∧Sl .u64 w' v1 (wd 18446744073709551616 (dval ds))∧Sl .u64 w' v2 (wd 18446744073709551616 (1))∧But [] w w':=by
 unfold wrt
 have RD:=hide (fun W=>natRead_any tw ds W ht hd (by omega))
 clear ht hd hl
 obtain ⟨W,hW⟩:∃ W,W=w.alloc (.cells #[.bool s,.string tw,.int .u8 0,.string ⟨#[]⟩,.bool false] 179):=⟨_,rfl⟩
 have c1:W.cell? ⟨w.heap.size,1,none⟩=some (.string tw):=by rw [hW];simp
 have c2:W.cell? ⟨w.heap.size,2,none⟩=some (.int .u8 0):=by rw [hW];simp
 have c3:W.cell? ⟨w.heap.size,3,none⟩=some (.string ⟨#[]⟩):=by rw [hW];simp
 have c4:W.cell? ⟨w.heap.size,4,none⟩=some (.bool false):=by rw [hW];simp
 have HB:Hid (But [] w W):=by show But _ _ _;rw [hW];exact (But.refl _ _).alloc _
 have HW:=hide hW
 clear hW
 go_enter Tryz.func125,Tryz.ntmps125
 go_wp2_with fail
 rw [← unhide HW]
 clear HW
 generalize w.heap.size=g at *
 refine (unhide RD _).mono ?_
 rintro e w1 ⟨v1,rfl,hv1,hb1⟩
 replace c1:=hb1.cell_some c1 (by simp)
 replace c2:=hb1.cell_some c2 (by simp)
 replace c3:=hb1.cell_some c3 (by simp)
 replace c4:=hb1.cell_some c4 (by simp)
 replace HB:Hid (But [] w w1):=(unhide HB).trans' hb1
 have H1:=hide hv1
 clear hv1 hb1
 go_wp2_with fail
 refine (natOf_any 1 (by omega) _).mono ?_
 rintro e w2 ⟨v2,rfl,hv2,hb2,-⟩
 replace c1:=hb2.cell_some c1 (by simp)
 replace c2:=hb2.cell_some c2 (by simp)
 replace c3:=hb2.cell_some c3 (by simp)
 replace c4:=hb2.cell_some c4 (by simp)
 replace HB:Hid (But [] w w2):=(unhide HB).trans' hb2
 replace H1:=hide ((unhide H1).but_nil hb2)
 have H2:=hide hv2
 clear hv2 hb2
 go_wp2
 go_ret2
 exact ⟨v1,v2,rfl,unhide H1,unhide H2,unhide HB⟩
end Go.Proofs.YthlnhheblhapgaaGreatDoor

namespace Go.Proofs.YthlnhheblhapgaaGreatDoor
open Go.RowKit
set_option maxHeartbeats 8000000
set_option maxRecDepth 100000
theorem parse_gen (t:ByteArray) (s:Bool) (k n1 n2:Int) (P:ByteArray→ByteArray→Prop) (h1:n1≤60) (h2:n2≤60) (X Y:Nat) (hY:0<Y) (lx:(wd 18446744073709551616 X).length≤1000000) (ly:(wd 18446744073709551616 Y).length≤1000000) (f:Rat) (hf:f.num*(Y:Int)=sgn s X*(f.den:Int)) (w:World)
  (CU:Hid (∀ W,Calls Tryz.prog 122 #[.string t] W fun e w'=>∃ tw tb,e=.returned (.tuple #[.agg #[.bool s,.string tw,.int .u8 k,.string tb,.bool false],.int .i64 (-1)])∧P tw tb∧But [] W w'))
  (AB:Hid (∀ tw tb,P tw tb→∀ W,Calls Tryz.prog 123 #[.agg #[.bool s,.string tw,.int .u8 k,.string tb,.bool false]] W fun e w'=>e=.returned (.int .i64 n1)∧But [] W w'))
  (UN:Hid (∀ tw tb,P tw tb→∀ W,Calls Tryz.prog 124 #[.agg #[.bool s,.string tw,.int .u8 k,.string tb,.bool false]] W fun e w'=>e=.returned (.int .i64 n2)∧But [] W w'))
  (NU:Hid (∀ tw tb,P tw tb→∀ W,Calls Tryz.prog 125 #[.agg #[.bool s,.string tw,.int .u8 k,.string tb,.bool false]] W fun e w'=>∃ v1 v2,e=.returned (.tuple #[v1,v2])∧Sl .u64 w' v1 (wd 18446744073709551616 X)∧Sl .u64 w' v2 (wd 18446744073709551616 Y)∧But [] W w')) :
  Calls Tryz.prog 98 #[.string t] w fun e w'=>∃ v,e=.returned (.tuple #[v,.nilIface])∧FracAt w' v f∧But [] w w':=by
 have hyl:0<(wd 18446744073709551616 Y).length:=by rw [Nat.pos_iff_ne_zero];intro e;rw [wd_len_zero (by omega)] at e;omega
 have ON:=hide (fun (W:World) (v1 v2:Value) (a:Sl .u64 W v1 (wd 18446744073709551616 X)) (b:Sl .u64 W v2 (wd 18446744073709551616 Y))=>ofNumbers_any s v1 v2 X Y W a b hY lx ly f hf)
 have d1:decide (60<n1)=false:=decide_eq_false (by omega)
 have d2:decide (60<n2)=false:=decide_eq_false (by omega)
 obtain ⟨W,hW⟩:∃ W,W=w.alloc (.cells #[.bool false,.int .u64 0,.int .u64 0,.pointer none] 41):=⟨_,rfl⟩
 have r0:W.cell? ⟨w.heap.size,0,none⟩=some (.bool false):=by rw [hW];simp
 have r1:W.cell? ⟨w.heap.size,1,none⟩=some (.int .u64 0):=by rw [hW];simp
 have r2:W.cell? ⟨w.heap.size,2,none⟩=some (.int .u64 0):=by rw [hW];simp
 have r3:W.cell? ⟨w.heap.size,3,none⟩=some (.pointer none):=by rw [hW];simp
 have fz:∀ j,W.frozen? ⟨w.heap.size,j,none⟩=false:=fun j=>by rw [hW];simp
 have BL:Hid (Blank W w.heap.size):=⟨r0,r1,r2,r3,fun j hj=>by rw [hW,World.cell?_alloc_new];simp;omega⟩
 have HB:Hid (But [] w W):=by show But _ _ _;rw [hW];exact (But.refl _ _).alloc _
 have HW:=hide hW
 clear hW hf lx ly hY
 go_enter Tryz.func98,Tryz.ntmps98
 go_wp2_with fail
 rw [← unhide HW]
 obtain ⟨gr,hgr⟩:∃ gr,gr=w.heap.size:=⟨_,rfl⟩
 rw [← hgr] at r0 r1 r2 r3 fz BL
 rw [← hgr]
 have HGR:Hid (w.heap.size≤gr):=by show _≤_;omega
 clear hgr HW
 have grl:gr<W.heap.size:=lt_of_cell r0
 refine (unhide CU _).mono ?_
 rintro e w1 ⟨tw,tb,rfl,hP,hb1⟩
 have AB':=hide (unhide AB tw tb hP)
 have UN':=hide (unhide UN tw tb hP)
 have NU':=hide (unhide NU tw tb hP)
 have KW:=hide hb1
 clear AB UN NU CU hP hb1
 go_wp2_with fail
 obtain ⟨W1,hW1⟩:∃ W1,W1=w1.alloc (.cells #[.bool s,.string tw,.int .u8 k,.string tb,.bool false] 179):=⟨_,rfl⟩
 have c0:W1.cell? ⟨w1.heap.size,0,none⟩=some (.bool s):=by rw [hW1];simp
 have c1:W1.cell? ⟨w1.heap.size,1,none⟩=some (.string tw):=by rw [hW1];simp
 have c2:W1.cell? ⟨w1.heap.size,2,none⟩=some (.int .u8 k):=by rw [hW1];simp
 have c3:W1.cell? ⟨w1.heap.size,3,none⟩=some (.string tb):=by rw [hW1];simp
 have c4:W1.cell? ⟨w1.heap.size,4,none⟩=some (.bool false):=by rw [hW1];simp
 have KW1:Hid (But [] W W1):=by show But _ _ _;rw [hW1];exact (unhide KW).alloc _
 rw [← hW1]
 clear hW1 KW
 generalize w1.heap.size=gw at *
 refine (unhide AB' _).mono ?_
 rintro e w2 ⟨rfl,hb⟩
 replace c0:=hb.cell_some c0 (by simp)
 replace c1:=hb.cell_some c1 (by simp)
 replace c2:=hb.cell_some c2 (by simp)
 replace c3:=hb.cell_some c3 (by simp)
 replace c4:=hb.cell_some c4 (by simp)
 replace KW1:Hid (But [] W w2):=(unhide KW1).trans' hb
 clear hb
 go_wp2_with fail
 refine (unhide UN' _).mono ?_
 rintro e w3 ⟨rfl,hb⟩
 replace c0:=hb.cell_some c0 (by simp)
 replace c1:=hb.cell_some c1 (by simp)
 replace c2:=hb.cell_some c2 (by simp)
 replace c3:=hb.cell_some c3 (by simp)
 replace c4:=hb.cell_some c4 (by simp)
 replace KW1:Hid (But [] W w3):=(unhide KW1).trans' hb
 clear hb
 go_wp2_with fail
 refine (unhide NU' _).mono ?_
 rintro e w4 ⟨v1,v2,rfl,hv1,hv2,hb⟩
 replace c0:=hb.cell_some c0 (by simp)
 replace c1:=hb.cell_some c1 (by simp)
 replace c2:=hb.cell_some c2 (by simp)
 replace c3:=hb.cell_some c3 (by simp)
 replace c4:=hb.cell_some c4 (by simp)
 replace KW1:Hid (But [] W w4):=(unhide KW1).trans' hb
 have H1:=hide hv1
 have H2:=hide hv2
 obtain ⟨a2,e2,rfl,-,-⟩:=hv2
 clear hv1
 clear hb
 generalize (wd 18446744073709551616 Y).length=ny at *
 have n0:((ny:Int)==0)=false:=beq_eq_false_iff_ne.2 (by omega)
 go_wp2_with fail
 refine (unhide ON _ v1 _ (unhide H1) (unhide H2)).mono ?_
 rintro e w5 ⟨vr,rfl,hvr,hb⟩
 have K5:But [] W w5:=(unhide KW1).trans' hb
 have B5:Hid (But [] w w5):=(unhide HB).trans' K5
 have HVR:=hide hvr
 obtain ⟨x8,y8,p8,rfl,-⟩:=hvr.agg
 generalize decide (f.num<0)=r8 at *
 have u0:=K5.cell_some r0 (by simp)
 have u1:=K5.cell_some r1 (by simp)
 have u2:=K5.cell_some r2 (by simp)
 have u3:=K5.cell_some r3 (by simp)
 have uf:∀ j,w5.frozen? ⟨gr,j,none⟩=false:=fun j=>(K5.frozen (p:=⟨gr,j,none⟩) grl (by simp)).trans (fz j)
 have BL5:Hid (Blank w5 gr):=(unhide BL).but K5
 clear hvr hb K5 r0 r1 r2 r3 fz grl c0 c1 c2 c3 c4
 go_wp2
 have hBg:But [gr] w5 ((((w5.setCell ⟨gr,0,none⟩ (.bool r8)).setCell ⟨gr,1,none⟩ (.int .u64 x8)).setCell ⟨gr,2,none⟩ (.int .u64 y8)).setCell ⟨gr,3,none⟩ (.pointer p8)):=(((((But.refl [gr] w5).setCell (.inl (by simp)) _).setCell (.inl (by simp)) _).setCell (.inl (by simp)) _).setCell (.inl (by simp)) _)
 have hBf:=((((unhide B5).setCell (p:=⟨gr,0,none⟩) (.inr (unhide HGR)) (.bool r8)).setCell (p:=⟨gr,1,none⟩) (.inr (unhide HGR)) (.int .u64 x8)).setCell (p:=⟨gr,2,none⟩) (.inr (unhide HGR)) (.int .u64 y8)).setCell (p:=⟨gr,3,none⟩) (.inr (unhide HGR)) (.pointer p8)
 exact bodyPost_ret (v:=.tuple #[.agg #[.bool r8,.int .u64 x8,.int .u64 y8,.pointer p8],.nilIface]) (by simp [results,Tryz.results98,go_sem,u0,u1,u2,u3]) rfl ⟨_,rfl,(unhide BL5).frac (unhide HVR) hBg,hBf⟩
theorem dval_words {ds:List UInt8} (hd:Digits ds) (hl:ds.length≤1000000):(wd 18446744073709551616 (dval ds)).length≤1000000 :=
 Nat.le_trans (wd_length_le (B:=18446744073709551616) (by omega) _ ds.length (Nat.lt_of_lt_of_le (dval_lt hd) (Nat.pow_le_pow_left (by omega) _))) hl
theorem size_list {t:ByteArray} {ds:List UInt8} (h:t.data.toList=ds):t.size=ds.length:=by rw [← h];simp
def sg (s:Bool):List UInt8:=if s then [45] else []
theorem parse_whole (t:ByteArray) (s:Bool) (ds:List UInt8) (w:World) (ht:t.data.toList=sg s++ds) (hd:Digits ds) (h0:0<ds.length) (hl:ds.length≤60) (f:Rat) (hf:f.num=sgn s (dval ds)*(f.den:Int)) :
  Calls Tryz.prog 98 #[.string t] w fun e w'=>∃ v,e=.returned (.tuple #[v,.nilIface])∧FracAt w' v f∧But [] w w':=by
 refine parse_gen t s 0 (ds.length:Int) 1 (fun tw tb=>tw.data.toList=ds∧tb=⟨#[]⟩) (by omega) (by omega) (dval ds) 1 (by omega) (dval_words hd (by omega)) (Nat.le_trans (wd_length_le (by omega) _ 1 (by omega)) (by omega)) f (by simpa using hf) w ?_ ?_ ?_ ?_
 ·intro W
  cases s
  ·refine (cut_whole t ds W ht hd h0 (by omega)).mono ?_
   rintro e w' ⟨tw,rfl,h1,h2⟩
   exact ⟨tw,⟨#[]⟩,rfl,⟨h1,rfl⟩,h2⟩
  ·refine (cut_neg_whole t ds W ht hd h0 (by omega)).mono ?_
   rintro e w' ⟨tw,rfl,h1,h2⟩
   exact ⟨tw,⟨#[]⟩,rfl,⟨h1,rfl⟩,h2⟩
 ·rintro tw tb ⟨h1,rfl⟩ W
  have h:=aboveDigits_0 s tw ⟨#[]⟩ W (by rw [size_list h1];omega) (by decide)
  rw [size_list h1] at h
  exact h
 ·rintro tw tb ⟨h1,rfl⟩ W
  exact underDigits_0 s tw ⟨#[]⟩ W (by rw [size_list h1];omega) (by decide)
 ·rintro tw tb ⟨h1,rfl⟩ W
  exact numbers_0 s tw ds W h1 hd (by omega)
end Go.Proofs.YthlnhheblhapgaaGreatDoor
