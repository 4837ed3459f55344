/- One divided by a fraction, as the Go text of package frac makes it. -/
import Derived.Test.YtloojmaamaambaaGreatDoorKBF7
import Derived.Test.YtloojmaamaambaaGreatDoorKBN26
namespace Go.Proofs.YtloojmaamaambaaGreatDoor
open Go.RowKit

theorem inv_facts (f : Rat) (h : f.num ≠ 0) : (f⁻¹).num.natAbs = f.den∧(f⁻¹).den = f.num.natAbs∧decide ((f⁻¹).num < 0) = decide (f.num < 0):=by
 have hd:=den_pos f
 show (Rat.inv f).num.natAbs = f.den∧(Rat.inv f).den = f.num.natAbs∧decide ((Rat.inv f).num < 0) = decide (f.num < 0)
 unfold Rat.inv
 split
 ·rename_i h1
  refine ⟨by simp,rfl,?_⟩
  rw [decide_eq_true h1]
  exact decide_eq_true (by show -(f.den : Int) < 0; omega)
 ·split
  ·rename_i h1 h2
   refine ⟨by simp,rfl,?_⟩
   rw [decide_eq_false h1]
   exact decide_eq_false (by show ¬ ((f.den : Int) < 0); omega)
  ·omega
theorem inv_words {W : World} {f : Rat} (h : f.num ≠ 0) (hp : f.num.natAbs < 18446744073709551616) (hq : f.den < 18446744073709551616) (s : Bool) (hs : decide (f.num < 0) = s) : FracAt W (.agg #[.bool s,.int .u64 (f.den : Int),.int .u64 ((f.num.natAbs : Int) - 1),.pointer none]) f⁻¹:=by
 obtain ⟨h1,h2,h3⟩:=inv_facts f h
 unfold FracAt
 rw [h1,h2,h3,hs]
 exact .inl ⟨hq,hp,rfl⟩
theorem inv_large {W : World} {f : Rat} (h : f.num ≠ 0) (hb : 18446744073709551616 ≤ f.num.natAbs ∨ 18446744073709551616 ≤ f.den) (b : Nat) (v1 v2 : Value) (s : Bool) (hs : decide (f.num < 0) = s) (c0 : W.cell? ⟨b,0,none⟩ = some v2) (c1 : W.cell? ⟨b,1,none⟩ = some v1) (h1 : Sl .u64 W v1 (wd 18446744073709551616 f.num.natAbs)) (h2 : Sl .u64 W v2 (wd 18446744073709551616 f.den)) : FracAt W (.agg #[.bool s,.int .u64 0,.int .u64 0,.pointer (some ⟨b,0,none⟩)]) f⁻¹:=by
 obtain ⟨i1,i2,i3⟩:=inv_facts f h
 unfold FracAt
 rw [i1,i2,i3,hs]
 exact .inr ⟨hb.symm,b,v2,v1,rfl,c0,c1,h2,h1⟩
/-- two new blocks, one behind the other -/
theorem two_new (w W : World) (A B : Array Value) (t : TypeId) (hW : W = (w.alloc (.cells A t)).alloc (.cells B t)) :
  (∀ j,W.cell? ⟨w.heap.size,j,none⟩ = A[j]?)∧(∀ j,W.cell? ⟨w.heap.size + 1,j,none⟩ = B[j]?)∧(∀ j,W.frozen? ⟨w.heap.size + 1,j,none⟩ = false)∧But [] w W:=by
 subst hW
 refine ⟨fun j => ?_,fun j => ?_,fun j => ?_,((But.refl _ _).alloc _).alloc _⟩
 ·have h:=((But.refl [] (w.alloc (.cells A t))).alloc (.cells B t)).cell (p:=⟨w.heap.size,j,none⟩) (by simp) (by simp)
  rw [h,World.cell?_alloc_new]
 ·simp
 ·simp

set_option maxHeartbeats 8000000 in
set_option maxRecDepth 100000 in
theorem fracTurned_any (v : Value) (f : Rat) (w : World) (hf : FracAt w v f) (h0 : f.num ≠ 0) :
  Calls Tryz.prog 103 #[v] w fun e w' => ∃ v',e = .returned v'∧FracAt w' v' f⁻¹∧But [] w w':=by
 have hq0:=den_pos f
 rcases hf with ⟨hp,hq,rfl⟩ | ⟨hbig,b,v1,v2,rfl,hc0,hc1,hs1,hs2⟩
 ·have FIN : Hid (∀ W,FracAt W (.agg #[.bool (decide (f.num < 0)),.int .u64 (f.den : Int),.int .u64 ((f.num.natAbs : Int) - 1),.pointer none]) f⁻¹):=fun W => inv_words h0 hp hq _ rfl
  have hp0 : 0 < f.num.natAbs:=by omega
  generalize hss : decide (f.num < 0) = s at *
  clear hss h0
  generalize f.num.natAbs = p at *
  generalize hqq : f.den = q at *
  clear hqq
  have UN:=hide (fun W => under_any s p q hq hq0 W)
  have OW:=hide (fun W => ofWords_any s q p hq hp hp0 s (by show s = _; simp; omega) W)
  obtain ⟨W,hW⟩ : ∃ W,W = ((w.alloc (.cells #[.bool s,.int .u64 (p : Int),.int .u64 ((q : Int) - 1),.pointer none] 29)).alloc (.cells #[.bool false,.int .u64 0,.int .u64 0,.pointer none] 29)):=⟨_,rfl⟩
  obtain ⟨tA,tC,fz,hB⟩:=two_new w W _ _ _ hW
  have a0:=tA 0
  have a1:=tA 1
  have a2:=tA 2
  have a3:=tA 3
  have r0:=tC 0
  have r1:=tC 1
  have r2:=tC 2
  have r3:=tC 3
  simp only [List.getElem?_toArray,List.getElem?_cons_zero,List.getElem?_cons_succ] at a0 a1 a2 a3 r0 r1 r2 r3
  clear tA tC
  have HW:=hide hW
  have HB:=hide hB
  clear hW hB
  go_enter Tryz.func103,Tryz.ntmps103
  go_wp2_with fail
  rw [← unhide HW]
  obtain ⟨ga,hga⟩ : ∃ ga,ga = w.heap.size:=⟨_,rfl⟩
  obtain ⟨gr,hgr⟩ : ∃ gr,gr = w.heap.size + 1:=⟨_,rfl⟩
  rw [← hga] at a0 a1 a2 a3
  rw [← hgr] at r0 r1 r2 r3 fz
  rw [← hgr,← hga]
  have HGR : Hid (w.heap.size ≤ gr):=by show _ ≤ _; omega
  have nga : ga ≠ gr:=by omega
  clear hga hgr HW
  have grl : gr < W.heap.size:=lt_of_cell r0
  go_wp2
  go_region_held (fun w' => w'.cell? ⟨ga,0,none⟩ = some (.bool s)∧w'.cell? ⟨ga,1,none⟩ = some (.int .u64 (p : Int))∧w'.cell? ⟨ga,2,none⟩ = some (.int .u64 ((q : Int) - 1))∧w'.cell? ⟨ga,3,none⟩ = some (.pointer none)) (first | go_keep | exact ⟨set4_cell _ _ _ _ _ _ _ _ _ nga m0,set4_cell _ _ _ _ _ _ _ _ _ nga m1,set4_cell _ _ _ _ _ _ _ _ _ nga m2,set4_cell _ _ _ _ _ _ _ _ _ nga m3⟩) (first
   | (go_at_call 126; refine (unhide UN _).mono ?_; rintro e w1 ⟨rfl,hc1⟩; have B1 : But [] W w1:=(by first | exact hc1 | exact (But.refl _ _).drew.trans' hc1); clear hc1; have k0:=B1.cell_some a0 (by simp); have k1:=B1.cell_some a1 (by simp); have k2:=B1.cell_some a2 (by simp); have k3:=B1.cell_some a3 (by simp))
   | (go_at_call 117; refine (unhide OW _).mono ?_; rintro e w2 ⟨rfl,hc2⟩; have B2 : But [] W w2:=(by first | exact B1.trans' hc2 | exact B1.trans' ((But.refl _ _).drew.trans' hc2)); clear hc2; have m0:=B2.cell_some a0 (by simp); have m1:=B2.cell_some a1 (by simp); have m2:=B2.cell_some a2 (by simp); have m3:=B2.cell_some a3 (by simp); have u0:=B2.cell_some r0 (by simp); have u1:=B2.cell_some r1 (by simp); have u2:=B2.cell_some r2 (by simp); have u3:=B2.cell_some r3 (by simp); have uf : ∀ j,w2.frozen? ⟨gr,j,none⟩ = false:=fun j => (B2.frozen (p:=⟨gr,j,none⟩) grl (by simp)).trans (fz j)))
  all_goals go_wp2
  all_goals
   have hBf:=(((((unhide HB).trans' B2).setCell (p:=⟨gr,0,none⟩) (.inr (unhide HGR)) (.bool s)).setCell (p:=⟨gr,1,none⟩) (.inr (unhide HGR)) (.int .u64 (q : Int))).setCell (p:=⟨gr,2,none⟩) (.inr (unhide HGR)) (.int .u64 ((p : Int) - 1))).setCell (p:=⟨gr,3,none⟩) (.inr (unhide HGR)) (.pointer none)
   exact bodyPost_ret (v:=.agg #[.bool s,.int .u64 (q : Int),.int .u64 ((p : Int) - 1),.pointer none]) (by simp [results,Tryz.results103,go_sem,u0,u1,u2,u3]) rfl ⟨_,rfl,unhide FIN _,hBf⟩
 ·have FIN : Hid (∀ W b v1 v2,W.cell? ⟨b,0,none⟩ = some v2→W.cell? ⟨b,1,none⟩ = some v1→Sl .u64 W v1 (wd 18446744073709551616 f.num.natAbs)→Sl .u64 W v2 (wd 18446744073709551616 f.den)→FracAt W (.agg #[.bool (decide (f.num < 0)),.int .u64 0,.int .u64 0,.pointer (some ⟨b,0,none⟩)]) f⁻¹):=fun W b v1 v2 e1 e2 e3 e4 => inv_large h0 hbig b v1 v2 _ rfl e1 e2 e3 e4
  have HS1:=hide hs1
  have HS2:=hide hs2
  obtain ⟨a1,e1,rfl,-,-⟩:=hs1
  obtain ⟨a2,e2,rfl,-,-⟩:=hs2
  generalize hss : decide (f.num < 0) = s at *
  clear hss h0 hbig
  generalize (wd 18446744073709551616 f.num.natAbs).length = n1 at *
  generalize (wd 18446744073709551616 f.den).length = n2 at *
  have hbl : b < w.heap.size:=lt_of_cell hc0
  obtain ⟨W,hW⟩ : ∃ W,W = ((w.alloc (.cells #[.bool s,.int .u64 0,.int .u64 0,.pointer (some ⟨b,0,none⟩)] 29)).alloc (.cells #[.bool false,.int .u64 0,.int .u64 0,.pointer none] 29)):=⟨_,rfl⟩
  obtain ⟨tA,tC,fz,hB⟩:=two_new w W _ _ _ hW
  have a0:=tA 0
  have a3:=tA 3
  have r0:=tC 0
  have r1:=tC 1
  have r2:=tC 2
  have r3:=tC 3
  simp only [List.getElem?_toArray,List.getElem?_cons_zero,List.getElem?_cons_succ] at a0 a3 r0 r1 r2 r3
  have d0:=hB.cell_some hc0 (by simp)
  have d1:=hB.cell_some hc1 (by simp)
  clear tA tC hc0 hc1
  have HW:=hide hW
  have HB:=hide hB
  clear hW hB
  go_enter Tryz.func103,Tryz.ntmps103
  go_wp2_with fail
  rw [← unhide HW]
  obtain ⟨ga,hga⟩ : ∃ ga,ga = w.heap.size:=⟨_,rfl⟩
  obtain ⟨gr,hgr⟩ : ∃ gr,gr = w.heap.size + 1:=⟨_,rfl⟩
  rw [← hga] at a0 a3
  rw [← hgr] at r0 r1 r2 r3 fz
  rw [← hgr,← hga]
  have HGR : Hid (w.heap.size ≤ gr):=by show _ ≤ _; omega
  have nga : ga ≠ gr:=by omega
  have nb : b ≠ gr:=by omega
  clear hga hgr HW
  have grl : gr < W.heap.size:=lt_of_cell r0
  go_wp2
  have KK:=hide (fun (W' : World) (hb : But [gr] W W') => And.intro (hb.cell_some a0 (by simpa using nga)) (And.intro (hb.cell_some a3 (by simpa using nga)) (And.intro (hb.cell_some d0 (by simpa using nb)) (hb.cell_some d1 (by simpa using nb)))))
  go_region_held (fun w' => w'.cell? ⟨ga,0,none⟩ = some (.bool s)∧w'.cell? ⟨ga,3,none⟩ = some (.pointer (some ⟨b,0,none⟩))∧w'.cell? ⟨b,0,none⟩ = some (.slice a1 n1 e1)∧w'.cell? ⟨b,1,none⟩ = some (.slice a2 n2 e2)) (first | (refine unhide KK _ ?_; (repeat (first | exact But.refl _ _ | refine But.drew ?_ | refine But.alloc ?_ _ | refine But.setCell ?_ (.inl (by simp)) _)); done) | go_keep) (fail)
  all_goals go_wp2
  all_goals
   have hBf:=((((((unhide HB).setCell (p:=⟨gr,0,none⟩) (.inr (unhide HGR)) (.bool s)).setCell (p:=⟨gr,1,none⟩) (.inr (unhide HGR)) (.int .u64 0)).setCell (p:=⟨gr,2,none⟩) (.inr (unhide HGR)) (.int .u64 0)).setCell (p:=⟨gr,3,none⟩) (.inr (unhide HGR)) (.pointer (some ⟨W.heap.size,0,none⟩))).alloc (.cells #[.slice a2 n2 e2,.slice a1 n1 e1] 177)).drew
   refine bodyPost_ret (v:=.agg #[.bool s,.int .u64 0,.int .u64 0,.pointer (some ⟨W.heap.size,0,none⟩)]) (by simp [results,Tryz.results103,go_sem,r0,r1,r2,r3,grl]) rfl ⟨_,rfl,unhide FIN _ W.heap.size (.slice a1 n1 e1) (.slice a2 n2 e2) ?_ ?_ ((unhide HS1).but_nil hBf) ((unhide HS2).but_nil hBf),hBf⟩
   ·have:=World.cell?_alloc_new ((((W.setCell ⟨gr,0,none⟩ (.bool s)).setCell ⟨gr,1,none⟩ (.int .u64 0)).setCell ⟨gr,2,none⟩ (.int .u64 0)).setCell ⟨gr,3,none⟩ (.pointer (some ⟨W.heap.size,0,none⟩))) #[.slice a2 n2 e2,.slice a1 n1 e1] 177 0
    simpa using this
   ·have:=World.cell?_alloc_new ((((W.setCell ⟨gr,0,none⟩ (.bool s)).setCell ⟨gr,1,none⟩ (.int .u64 0)).setCell ⟨gr,2,none⟩ (.int .u64 0)).setCell ⟨gr,3,none⟩ (.pointer (some ⟨W.heap.size,0,none⟩))) #[.slice a2 n2 e2,.slice a1 n1 e1] 177 1
    simpa using this
end Go.Proofs.YtloojmaamaambaaGreatDoor

namespace Go.Proofs.YtloojmaamaambaaGreatDoor
open Go.RowKit

set_option maxHeartbeats 1000000 in
set_option maxRecDepth 100000 in
theorem cmpOr_two (b : Nat) (x y : Int) (w : World) (hx : w.cell? ⟨b,0,none⟩ = some (.int .i64 x)) (hy : w.cell? ⟨b,1,none⟩ = some (.int .i64 y)) (r : Int) (hr : Hid (r = if x ≠ 0 then x else y)) :
  Calls Tryz.prog 147 #[.slice (some ⟨b,0,none⟩) 2 2] w fun e w' => e = .returned (.int .i64 r)∧But [] w w':=by
 by_cases h0 : x = 0
 ·subst h0
  by_cases h1 : y = 0
  ·subst h1
   have er : Hid (r = 0):=by show _ = _; rw [unhide hr]; simp
   clear hr
   go_enter Tryz.func147,Tryz.ntmps147
   go_wp2
   refine wp_loop_rounds 3 ?_
   rw [rounds_succ]
   go_wp2
   rw [rounds_succ]
   go_wp2
   rw [rounds_succ]
   go_wp2
   go_ret
   exact ⟨by rw [unhide er]; rfl,But.refl _ _⟩
  ·have er : Hid (r = y):=by show _ = _; rw [unhide hr]; simp
   have n1 : (y != 0) = true:=by simp [h1]
   clear hr
   go_enter Tryz.func147,Tryz.ntmps147
   go_wp2
   refine wp_loop_rounds 2 ?_
   rw [rounds_succ]
   go_wp2
   rw [rounds_succ]
   go_wp2
   go_ret
   exact ⟨by rw [unhide er]; rfl,But.refl _ _⟩
 ·have er : Hid (r = x):=by show _ = _; rw [unhide hr]; simp [h0]
  have n1 : (x != 0) = true:=by simp [h0]
  clear hr
  go_enter Tryz.func147,Tryz.ntmps147
  go_wp2
  refine wp_loop_rounds 1 ?_
  rw [rounds_succ]
  go_wp2
  go_ret
  exact ⟨by rw [unhide er]; rfl,But.refl _ _⟩
end Go.Proofs.YtloojmaamaambaaGreatDoor

namespace Go.Proofs.YtloojmaamaambaaGreatDoor
open Go.RowKit

theorem cmp_lex (h1 l1 h2 l2 : Nat) (b1 : l1 < 18446744073709551616) (b2 : l2 < 18446744073709551616) : cmpN (l1 + 18446744073709551616 * h1) (l2 + 18446744073709551616 * h2) = if cmpN h1 h2 ≠ 0 then cmpN h1 h2 else cmpN l1 l2:=by
 rcases Nat.lt_trichotomy h1 h2 with h | h | h
 ·rw [cmpN_lt h,cmpN_lt (by omega)]; simp
 ·subst h
  have e : cmpN h1 h1 = 0:=by simp [cmpN]
  rw [e,if_neg (by simp)]
  rcases Nat.lt_trichotomy l1 l2 with h | h | h
  ·rw [cmpN_lt h,cmpN_lt (by omega)]
  ·subst h; simp [cmpN]
  ·rw [cmpN_one h,cmpN_one (by omega)]
 ·rw [cmpN_one h,cmpN_one (by omega)]; simp

set_option maxHeartbeats 8000000 in
set_option maxRecDepth 100000 in
theorem cmpSizes_words (s1 s2 : Bool) (a b c d : Nat) (ha : a < 18446744073709551616) (hb : b < 18446744073709551616) (hc : c < 18446744073709551616) (hd : d < 18446744073709551616) (hb0 : 0 < b) (hd0 : 0 < d) (w : World) (r : Int) (hr : Hid (r = cmpN (a * d) (c * b))) :
  Calls Tryz.prog 79 #[.agg #[.bool s1,.int .u64 (a : Int),.int .u64 ((b : Int) - 1),.pointer none],.agg #[.bool s2,.int .u64 (c : Int),.int .u64 ((d : Int) - 1),.pointer none]] w fun e w' => e = .returned (.int .i64 r)∧But [] w w':=by
 have U1:=hide (fun W => under_any s1 a b hb hb0 W)
 have U2:=hide (fun W => under_any s2 c d hd hd0 W)
 obtain ⟨lo1,hi1,hlo1,hhi1,e1⟩:=mul_letters a d 0 ha hd (by omega)
 obtain ⟨lo2,hi2,hlo2,hhi2,e2⟩:=mul_letters c b 0 hc hb (by omega)
 rw [Nat.add_zero] at e1 e2
 have M1:=hide (fun W => mul64_any a d hi1 lo1 ha hd hlo1 e1 W)
 have M2:=hide (fun W => mul64_any c b hi2 lo2 hc hb hlo2 e2 W)
 have hrr : Hid (r = if cmpN hi1 hi2 ≠ 0 then cmpN hi1 hi2 else cmpN lo1 lo2):=by show _ = _; rw [unhide hr,e1,e2,cmp_lex _ _ _ _ hlo1 hlo2]
 have C1:=hide (fun W => compareU hi1 hi2 W (cmpN hi1 hi2) rfl)
 have C2:=hide (fun W => compareU lo1 lo2 W (cmpN lo1 lo2) rfl)
 clear hr e1 e2
 generalize cmpN hi1 hi2 = z1 at *
 generalize cmpN lo1 lo2 = z2 at *
 obtain ⟨W,hW⟩ : ∃ W,W = ((w.alloc (.cells #[.bool s1,.int .u64 (a : Int),.int .u64 ((b : Int) - 1),.pointer none] 29)).alloc (.cells #[.bool s2,.int .u64 (c : Int),.int .u64 ((d : Int) - 1),.pointer none] 29)):=⟨_,rfl⟩
 obtain ⟨tA,tB,-,hB⟩:=two_new w W _ _ _ hW
 have x0:=tA 0
 have x1:=tA 1
 have x2:=tA 2
 have x3:=tA 3
 have y0:=tB 0
 have y1:=tB 1
 have y2:=tB 2
 have y3:=tB 3
 simp only [List.getElem?_toArray,List.getElem?_cons_zero,List.getElem?_cons_succ] at x0 x1 x2 x3 y0 y1 y2 y3
 clear tA tB
 have HW:=hide hW
 have HB:=hide hB
 clear hW hB
 go_enter Tryz.func79,Tryz.ntmps79
 go_wp2
 rw [← unhide HW]
 obtain ⟨ga,hga⟩ : ∃ ga,ga = w.heap.size:=⟨_,rfl⟩
 obtain ⟨gb,hgb⟩ : ∃ gb,gb = w.heap.size + 1:=⟨_,rfl⟩
 rw [← hga] at x0 x1 x2 x3
 rw [← hgb] at y0 y1 y2 y3
 rw [← hgb,← hga]
 clear hga hgb HW
 go_region_held (fun w' => w'.cell? ⟨ga,0,none⟩ = some (.bool s1)∧w'.cell? ⟨ga,1,none⟩ = some (.int .u64 (a : Int))∧w'.cell? ⟨ga,2,none⟩ = some (.int .u64 ((b : Int) - 1))∧w'.cell? ⟨ga,3,none⟩ = some (.pointer none)∧w'.cell? ⟨gb,0,none⟩ = some (.bool s2)∧w'.cell? ⟨gb,1,none⟩ = some (.int .u64 (c : Int))∧w'.cell? ⟨gb,2,none⟩ = some (.int .u64 ((d : Int) - 1))∧w'.cell? ⟨gb,3,none⟩ = some (.pointer none)) (go_keep) (first
  | (go_at_call 126; refine (unhide U2 _).mono ?_; rintro e w1 ⟨rfl,hb1⟩; have B1 : But [] W w1:=(by first | exact hb1 | exact (But.refl _ _).drew.trans' hb1); have k0:=B1.cell_some x0 (by simp); have k1:=B1.cell_some x1 (by simp); have k2:=B1.cell_some x2 (by simp); have k3:=B1.cell_some x3 (by simp); have l0:=B1.cell_some y0 (by simp); have l1:=B1.cell_some y1 (by simp); have l2:=B1.cell_some y2 (by simp); have l3:=B1.cell_some y3 (by simp))
  | (go_at_call 127; refine (unhide M1 _).mono ?_; rintro e w2 ⟨rfl,hw2⟩; obtain rfl:=hw2.symm; clear hw2))
 have HB1 : Hid (But [] w w1):=(unhide HB).trans' B1
 clear B1 hb1 x0 x1 x2 x3 y0 y1 y2 y3 HB
 go_wp2
 go_region_held (fun w' => w'.cell? ⟨ga,0,none⟩ = some (.bool s1)∧w'.cell? ⟨ga,1,none⟩ = some (.int .u64 (a : Int))∧w'.cell? ⟨ga,2,none⟩ = some (.int .u64 ((b : Int) - 1))∧w'.cell? ⟨ga,3,none⟩ = some (.pointer none)∧w'.cell? ⟨gb,0,none⟩ = some (.bool s2)∧w'.cell? ⟨gb,1,none⟩ = some (.int .u64 (c : Int))∧w'.cell? ⟨gb,2,none⟩ = some (.int .u64 ((d : Int) - 1))∧w'.cell? ⟨gb,3,none⟩ = some (.pointer none)) (go_keep) (first
  | (go_at_call 126; refine (unhide U1 _).mono ?_; rintro e w3 ⟨rfl,hb3⟩; have B3 : But [] w1 w3:=(by first | exact hb3 | exact (But.refl _ _).drew.trans' hb3); have m0:=B3.cell_some k0 (by simp); have m1:=B3.cell_some k1 (by simp); have m2:=B3.cell_some k2 (by simp); have m3:=B3.cell_some k3 (by simp); have n0:=B3.cell_some l0 (by simp); have n1:=B3.cell_some l1 (by simp); have n2:=B3.cell_some l2 (by simp); have n3:=B3.cell_some l3 (by simp))
  | (go_at_call 127; refine (unhide M2 _).mono ?_; rintro e w4 ⟨rfl,hw4⟩; obtain rfl:=hw4.symm; clear hw4))
 have HB3 : Hid (But [] w w3):=(unhide HB1).trans' B3
 clear B3 hb3 k0 k1 k2 k3 l0 l1 l2 l3 m0 m1 m2 m3 n0 n1 n2 n3 HB1
 go_wp2_with fail
 refine (unhide C1 _).mono ?_
 rintro e w5 ⟨rfl,hw5⟩
 obtain rfl:=hw5.symm
 clear hw5
 go_wp2_with fail
 refine (unhide C2 _).mono ?_
 rintro e w5 ⟨rfl,hw5⟩
 obtain rfl:=hw5.symm
 clear hw5
 go_wp2_with fail
 refine (cmpOr_two w3.heap.size z1 z2 _ (by simp) (by simp) r hrr).mono ?_
 rintro e w6 ⟨rfl,hb6⟩
 have HB6 : Hid (But [] w w6):=((unhide HB3).alloc _).trans' hb6
 clear hb6
 go_wp2
 go_ret
 exact ⟨rfl,unhide HB6⟩

set_option maxHeartbeats 8000000 in
set_option maxRecDepth 100000 in
theorem cmpSizes_any (vf vg : Value) (f g : Rat) (w : World) (hf : FracAt w vf f) (hg : FracAt w vg g) (lf : Len f 33554431) (lg : Len g 33554431) (r : Int) (hr : Hid (r = cmpN (f.num.natAbs * g.den) (g.num.natAbs * f.den))) :
  Calls Tryz.prog 79 #[vf,vg] w fun e w' => e = .returned (.int .i64 r)∧But [] w w':=by
 have hq1:=den_pos f
 have hq2:=den_pos g
 have NF : Hid (∀ W,But [] w W→Calls Tryz.prog 67 #[vf] W fun e w' => ∃ v1 v2,e = .returned (.tuple #[v1,v2])∧Sl .u64 w' v1 (wd 18446744073709551616 f.num.natAbs)∧Sl .u64 w' v2 (wd 18446744073709551616 f.den)∧But [] W w'):=fun W hb => numbers_any vf f W (hf.but hb)
 have NG : Hid (∀ W,But [] w W→Calls Tryz.prog 67 #[vg] W fun e w' => ∃ v1 v2,e = .returned (.tuple #[v1,v2])∧Sl .u64 w' v1 (wd 18446744073709551616 g.num.natAbs)∧Sl .u64 w' v2 (wd 18446744073709551616 g.den)∧But [] W w'):=fun W hb => numbers_any vg g W (hg.but hb)
 have CP : Hid (∀ W na nb nc nd,Sl .u64 W na (wd 18446744073709551616 f.num.natAbs)→Sl .u64 W nb (wd 18446744073709551616 f.den)→Sl .u64 W nc (wd 18446744073709551616 g.num.natAbs)→Sl .u64 W nd (wd 18446744073709551616 g.den)→Calls Tryz.prog 149 #[na,nd,nc,nb] W fun e w' => e = .returned (.int .i64 r)∧But [] W w'):=fun W na nb nc nd h1 h2 h3 h4 => cmpProducts_any na nd nc nb _ _ _ _ W h1 h4 h3 h2 (by have:=lf.1; omega) (by have:=lg.2; omega) (by have:=lg.1; omega) (by have:=lf.2; omega) r hr
 have LARGE : ∀ (s1 s2 : Bool) (x1 y1 x2 y2 : Int) (p1 p2 : Option Addr),vf = .agg #[.bool s1,.int .u64 x1,.int .u64 y1,.pointer p1]→vg = .agg #[.bool s2,.int .u64 x2,.int .u64 y2,.pointer p2]→(p1 ≠ none ∨ p2 ≠ none)→Calls Tryz.prog 79 #[vf,vg] w fun e w' => e = .returned (.int .i64 r)∧But [] w w':=by
  intro s1 s2 x1 y1 x2 y2 p1 p2 ef eg hp
  subst ef
  subst eg
  clear hf hg lf lg hr hq1 hq2
  obtain ⟨W,hW⟩ : ∃ W,W = ((w.alloc (.cells #[.bool s1,.int .u64 x1,.int .u64 y1,.pointer p1] 29)).alloc (.cells #[.bool s2,.int .u64 x2,.int .u64 y2,.pointer p2] 29)):=⟨_,rfl⟩
  obtain ⟨tA,tB,-,hB⟩:=two_new w W _ _ _ hW
  have y0:=tB 0
  have y1:=tB 1
  have y2:=tB 2
  have y3:=tB 3
  simp only [List.getElem?_toArray,List.getElem?_cons_zero,List.getElem?_cons_succ] at y0 y1 y2 y3
  clear tA tB
  have HW:=hide hW
  have HB:=hide hB
  clear hW hB
  rcases p1 with _ | p1
  ·rcases p2 with _ | p2
   ·simp at hp
   ·clear hp
    go_enter Tryz.func79,Tryz.ntmps79
    go_wp2_with fail
    rw [← unhide HW]
    obtain ⟨gb,hgb⟩ : ∃ gb,gb = w.heap.size + 1:=⟨_,rfl⟩
    rw [← hgb] at y0 y1 y2 y3
    rw [← hgb]
    clear hgb HW
    refine (unhide NF _ (unhide HB)).mono ?_
    rintro e w1 ⟨na,nb,rfl,hna,hnb,hb1⟩
    have d0:=hb1.cell_some y0 (by simp)
    have d1:=hb1.cell_some y1 (by simp)
    have d2:=hb1.cell_some y2 (by simp)
    have d3:=hb1.cell_some y3 (by simp)
    have HB1 : Hid (But [] w w1):=(unhide HB).trans' hb1
    have SA:=hide hna
    have SB:=hide hnb
    clear hb1 hna hnb y0 y1 y2 y3
    go_wp2_with fail
    refine (unhide NG _ (unhide HB1)).mono ?_
    rintro e w2 ⟨nc,nd,rfl,hnc,hnd,hb2⟩
    have HB2 : Hid (But [] w w2):=(unhide HB1).trans' hb2
    have SA2:=hide ((unhide SA).but_nil hb2)
    have SB2:=hide ((unhide SB).but_nil hb2)
    have SC:=hide hnc
    have SD:=hide hnd
    clear hb2 hnc hnd d0 d1 d2 d3
    go_wp2_with fail
    refine (unhide CP _ na nb nc nd (unhide SA2) (unhide SB2) (unhide SC) (unhide SD)).mono ?_
    rintro e w3 ⟨rfl,hb3⟩
    have HB3 : Hid (But [] w w3):=(unhide HB2).trans' hb3
    clear hb3
    go_wp2
    go_ret
    exact ⟨rfl,unhide HB3⟩
  ·clear hp
   go_enter Tryz.func79,Tryz.ntmps79
   go_wp2_with fail
   rw [← unhide HW]
   obtain ⟨gb,hgb⟩ : ∃ gb,gb = w.heap.size + 1:=⟨_,rfl⟩
   rw [← hgb] at y0 y1 y2 y3
   rw [← hgb]
   clear hgb HW
   refine (unhide NF _ (unhide HB)).mono ?_
   rintro e w1 ⟨na,nb,rfl,hna,hnb,hb1⟩
   have d0:=hb1.cell_some y0 (by simp)
   have d1:=hb1.cell_some y1 (by simp)
   have d2:=hb1.cell_some y2 (by simp)
   have d3:=hb1.cell_some y3 (by simp)
   have HB1 : Hid (But [] w w1):=(unhide HB).trans' hb1
   have SA:=hide hna
   have SB:=hide hnb
   clear hb1 hna hnb y0 y1 y2 y3
   go_wp2_with fail
   refine (unhide NG _ (unhide HB1)).mono ?_
   rintro e w2 ⟨nc,nd,rfl,hnc,hnd,hb2⟩
   have HB2 : Hid (But [] w w2):=(unhide HB1).trans' hb2
   have SA2:=hide ((unhide SA).but_nil hb2)
   have SB2:=hide ((unhide SB).but_nil hb2)
   have SC:=hide hnc
   have SD:=hide hnd
   clear hb2 hnc hnd d0 d1 d2 d3
   go_wp2_with fail
   refine (unhide CP _ na nb nc nd (unhide SA2) (unhide SB2) (unhide SC) (unhide SD)).mono ?_
   rintro e w3 ⟨rfl,hb3⟩
   have HB3 : Hid (But [] w w3):=(unhide HB2).trans' hb3
   clear hb3
   go_wp2
   go_ret
   exact ⟨rfl,unhide HB3⟩
 rcases hf.agg with ⟨x1,y1,p1,ef,h1⟩
 rcases hg.agg with ⟨x2,y2,p2,eg,h2⟩
 rcases p1 with _ | p1
 ·rcases p2 with _ | p2
  ·obtain ⟨a1,a2,a3,a4⟩:=h1 rfl
   obtain ⟨c1,c2,c3,c4⟩:=h2 rfl
   rw [ef,eg,a3,a4,c3,c4]
   exact cmpSizes_words _ _ _ _ _ _ a1 a2 c1 c2 hq1 hq2 w r hr
  ·exact LARGE _ _ _ _ _ _ _ _ ef eg (.inr (by simp))
 ·exact LARGE _ _ _ _ _ _ _ _ ef eg (.inl (by simp))
end Go.Proofs.YtloojmaamaambaaGreatDoor
