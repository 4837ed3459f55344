/- The sum of two numbers with signs; a fraction's sign, as the Go text of package frac has them. -/
import Derived.Test.YtndcigdphgojpaaGreatDoorKTF1
import Derived.Test.YtndcigdphgojpaaGreatDoorKTN20
namespace Go.Proofs.YtndcigdphgojpaaGreatDoor
open Go.RowKit

set_option maxHeartbeats 2000000 in
set_option maxRecDepth 100000 in
theorem signedSum_any (s t : Bool) (v1 v2 : Value) (m n : Nat) (w : World) (h1 : Sl .u64 w v1 (wd 18446744073709551616 m)) (h2 : Sl .u64 w v2 (wd 18446744073709551616 n)) (hl1 : (wd 18446744073709551616 m).length < 1073741824) (hl2 : (wd 18446744073709551616 n).length < 1073741824) :
  Calls Tryz.prog 119 #[.bool s,v1,.bool t,v2] w fun e w' => ∃ (r : Bool) (v : Value) (M : Nat),e = .returned (.tuple #[.bool r,v])∧Sl .u64 w' v (wd 18446744073709551616 M)∧sgn s m + sgn t n = sgn r M∧M ≤ m + n∧But [] w w':=by
 have HA:=hide (natAdd_any v1 v2 m n w h1 h2 hl1 hl2)
 have HC:=hide (natCmp_any v1 v2 m n w h1 h2 (by omega) (by omega))
 have H1:=hide h1
 have H2:=hide h2
 have HS1:=hide (fun (W : World) (a : Sl .u64 W v1 (wd 18446744073709551616 m)) (b : Sl .u64 W v2 (wd 18446744073709551616 n)) (h : n ≤ m) => natSub_any v1 v2 m n W a b hl1 h)
 have HS2:=hide (fun (W : World) (a : Sl .u64 W v1 (wd 18446744073709551616 m)) (b : Sl .u64 W v2 (wd 18446744073709551616 n)) (h : m ≤ n) => natSub_any v2 v1 n m W b a hl2 h)
 obtain ⟨a1,c1,rfl,-,-⟩:=h1
 obtain ⟨a2,c2,rfl,-,-⟩:=h2
 generalize (wd 18446744073709551616 m).length = l1 at *
 generalize (wd 18446744073709551616 n).length = l2 at *
 by_cases hst : s = t
 ·subst hst
  have hb : (s == s) = true:=by simp
  have HE : Hid (sgn s m + sgn s n = sgn s (m + n)):=by show _ = _; cases s <;> simp [sgn] <;> omega
  go_enter Tryz.func119,Tryz.ntmps119
  go_wp2_with fail
  refine (unhide HA).mono ?_
  rintro e w1 ⟨v,rfl,hv,hb1⟩
  have R:=hide (And.intro hv hb1)
  clear hv hb1
  go_wp2
  go_ret2
  exact ⟨s,v,m + n,rfl,(unhide R).1,unhide HE,Nat.le_refl _,(unhide R).2⟩
 ·have hb : (s == t) = false:=by simp [hst]
  have ht : t = !s:=by cases s <;> cases t <;> simp_all
  rcases Nat.lt_or_ge m n with hlt | hge
  ·rw [cmpN_lt hlt] at HC
   have HE : Hid (sgn s m + sgn t n = sgn t (n - m)):=by
    show _ = _
    rw [ht]
    cases s <;> simp [sgn] <;> omega
   clear ht
   go_enter Tryz.func119,Tryz.ntmps119
   go_wp2_with fail
   refine (unhide HC).mono ?_
   rintro e w1 ⟨rfl,q,rfl⟩
   go_wp2_with fail
   refine (unhide HS2 _ (by exact unhide H1) (by exact unhide H2) (Nat.le_of_lt hlt)).mono ?_
   rintro e w2 ⟨v,rfl,hv,hb1⟩
   have R:=hide (And.intro hv (((But.refl [] _).drewN q).trans' hb1))
   clear hv hb1
   go_wp2
   go_ret2
   exact ⟨t,v,n - m,rfl,(unhide R).1,unhide HE,by omega,(unhide R).2⟩
  ·have hc0:=cmpN_ge hge
   have HE : Hid (sgn s m + sgn t n = sgn s (m - n)):=by
    show _ = _
    rw [ht]
    cases s <;> simp [sgn] <;> omega
   clear ht
   generalize cmpN m n = r at *
   have hr : decide (0 ≤ r) = true:=by simp; omega
   go_enter Tryz.func119,Tryz.ntmps119
   go_wp2_with fail
   refine (unhide HC).mono ?_
   rintro e w1 ⟨rfl,q,rfl⟩
   go_wp2_with fail
   refine (unhide HS1 _ (by exact unhide H1) (by exact unhide H2) hge).mono ?_
   rintro e w2 ⟨v,rfl,hv,hb1⟩
   have R:=hide (And.intro hv (((But.refl [] _).drewN q).trans' hb1))
   clear hv hb1
   go_wp2
   go_ret2
   exact ⟨s,v,m - n,rfl,(unhide R).1,unhide HE,by omega,(unhide R).2⟩

set_option maxHeartbeats 2000000 in
set_option maxRecDepth 100000 in
theorem fracSign_any (v : Value) (f : Rat) (w : World) (hf : FracAt w v f) :
  Calls Tryz.prog 42 #[v] w fun e w' => e = .returned (.int .i64 f.num.sign)∧But [] w w':=by
 rcases hf with ⟨hp,hq,rfl⟩ | ⟨hbig,b,v1,v2,rfl,-,-,-,-⟩
 ·by_cases hn : f.num < 0
  ·have e : f.num.sign = -1:=Int.sign_eq_neg_one_of_neg hn
   rw [e]
   have hd : decide (f.num < 0) = true:=decide_eq_true hn
   rw [hd]
   generalize f.num.natAbs = p at *
   generalize f.den = q at *
   clear hn hd e
   go_enter Tryz.func42,Tryz.ntmps42
   go_wp2
   go_ret
   exact ⟨rfl,(But.refl _ _).alloc _⟩
  ·have hd : decide (f.num < 0) = false:=decide_eq_false hn
   rw [hd]
   rcases Nat.eq_zero_or_pos f.num.natAbs with h0 | h0
   ·have e : f.num.sign = 0:=by rw [Int.sign_eq_zero_iff_zero]; omega
    rw [e,h0]
    generalize f.den = q at *
    clear hn hd e h0 hp
    go_enter Tryz.func42,Tryz.ntmps42
    go_wp2
    go_ret
    exact ⟨rfl,(But.refl _ _).alloc _⟩
   ·have e : f.num.sign = 1:=Int.sign_eq_one_of_pos (by omega)
    rw [e]
    generalize f.num.natAbs = p at *
    generalize f.den = q at *
    have n0 : ((p : Int) == 0) = false:=beq_eq_false_iff_ne.2 (by omega)
    clear hn hd e
    go_enter Tryz.func42,Tryz.ntmps42
    go_wp2
    go_ret
    exact ⟨rfl,(But.refl _ _).alloc _⟩
 ·have hn0 : f.num ≠ 0:=by
   intro e0
   have e1:=f.reduced
   rw [e0,Int.natAbs_zero,Nat.coprime_zero_left] at e1
   rw [e0] at hbig
   simp at hbig
   omega
  by_cases hn : f.num < 0
  ·have e : f.num.sign = -1:=Int.sign_eq_neg_one_of_neg hn
   have hd : decide (f.num < 0) = true:=decide_eq_true hn
   rw [e,hd]
   clear hn hd e hbig hn0
   go_enter Tryz.func42,Tryz.ntmps42
   go_wp2
   go_ret
   exact ⟨rfl,(But.refl _ _).alloc _⟩
  ·have e : f.num.sign = 1:=Int.sign_eq_one_of_pos (by omega)
   have hd : decide (f.num < 0) = false:=decide_eq_false hn
   rw [e,hd]
   clear hn hd e hbig hn0
   go_enter Tryz.func42,Tryz.ntmps42
   go_wp2
   go_ret
   exact ⟨rfl,(But.refl _ _).alloc _⟩

theorem neg_at {w : World} {f : Rat} (r : Bool) (hr : r = decide (-f.num < 0)) (v : Value) (h : (f.num.natAbs < 18446744073709551616∧f.den < 18446744073709551616∧v = .agg #[.bool r,.int .u64 (f.num.natAbs : Int),.int .u64 ((f.den : Int) - 1),.pointer none]) ∨ ((18446744073709551616 ≤ f.num.natAbs ∨ 18446744073709551616 ≤ f.den)∧∃ b v1 v2,v = .agg #[.bool r,.int .u64 0,.int .u64 0,.pointer (some ⟨b,0,none⟩)]∧w.cell? ⟨b,0,none⟩ = some v1∧w.cell? ⟨b,1,none⟩ = some v2∧Sl .u64 w v1 (wd 18446744073709551616 f.num.natAbs)∧Sl .u64 w v2 (wd 18446744073709551616 f.den))) : FracAt w v (-f):=by
 unfold FracAt
 rw [Rat.neg_num,Rat.neg_den,Int.natAbs_neg,← hr]
 exact h

set_option maxHeartbeats 4000000 in
set_option maxRecDepth 100000 in
theorem fracNeg_any (v : Value) (f : Rat) (w : World) (hf : FracAt w v f) :
  Calls Tryz.prog 80 #[v] w fun e w' => ∃ v',e = .returned v'∧FracAt w' v' (-f)∧But [] w w':=by
 have HSg:=hide (fun W (h : FracAt W v f) => fracSign_any v f W h)
 have HF:=hide hf
 obtain ⟨s,x,y,p,rfl,hs,hsh⟩ : ∃ s x y p,v = .agg #[.bool s,.int .u64 x,.int .u64 y,.pointer p]∧s = decide (f.num < 0)∧(∀ (W : World) (r : Bool),r = decide (-f.num < 0)→But [] w W→FracAt W (.agg #[.bool r,.int .u64 x,.int .u64 y,.pointer p]) (-f)):=by
  rcases hf with ⟨hp,hq,rfl⟩ | ⟨hbig,b,v1,v2,rfl,k0,k1,k2,k3⟩
  ·exact ⟨_,_,_,_,rfl,rfl,fun W r hr _ => neg_at r hr _ (.inl ⟨hp,hq,rfl⟩)⟩
  ·exact ⟨_,_,_,_,rfl,rfl,fun W r hr hb => neg_at r hr _ (.inr ⟨hbig,b,v1,v2,rfl,hb.cell_some k0 (by simp),hb.cell_some k1 (by simp),k2.but_nil hb,k3.but_nil hb⟩)⟩
 have HH:=hide hsh
 clear hsh hf
 by_cases hn : f.num < 0
 ·have e : s = true:=by rw [hs]; exact decide_eq_true hn
  subst e
  have hr : Hid (false = decide (-f.num < 0)):=by show _ = _; rw [decide_eq_false]; omega
  clear hs hn HSg HF
  go_enter Tryz.func80,Tryz.ntmps80
  go_wp2
  have hB:=((But.refl [] w).alloc (.cells #[.bool false,.int .u64 x,.int .u64 y,.pointer p] 36)).alloc (.cells #[.bool false,.int .u64 x,.int .u64 y,.pointer p] 36)
  exact bodyPost_ret (v:=.agg #[.bool false,.int .u64 x,.int .u64 y,.pointer p]) (by simp [results,Tryz.results80,go_sem]) rfl ⟨_,rfl,unhide HH _ false (unhide hr) hB,hB⟩
 ·have e : s = false:=by rw [hs]; exact decide_eq_false hn
  subst e
  obtain ⟨r,hr⟩ : ∃ r,r = decide (-f.num < 0):=⟨_,rfl⟩
  obtain ⟨z,hz⟩ : ∃ z,z = f.num.sign:=⟨_,rfl⟩
  have hzr : (z != 0) = r:=by
   rw [hr,hz]
   by_cases h0 : f.num = 0
   ·rw [h0]; rfl
   ·have h1 : f.num.sign = 1:=Int.sign_eq_one_of_pos (by omega)
    rw [h1]
    rw [decide_eq_true (by omega : -f.num < 0)]
    rfl
  rw [← hz] at HSg
  obtain ⟨W,hW⟩ : ∃ W,W = (w.alloc (.cells #[.bool false,.int .u64 x,.int .u64 y,.pointer p] 36)).alloc (.cells #[.bool false,.int .u64 0,.int .u64 0,.pointer none] 36):=⟨_,rfl⟩
  have hB : But [] w W:=by rw [hW]; exact ((But.refl [] w).alloc _).alloc _
  have c0 : W.cell? ⟨w.heap.size,0,none⟩ = some (.bool false):=by rw [hW]; simp
  have c1 : W.cell? ⟨w.heap.size,1,none⟩ = some (.int .u64 x):=by rw [hW]; simp
  have c2 : W.cell? ⟨w.heap.size,2,none⟩ = some (.int .u64 y):=by rw [hW]; simp
  have c3 : W.cell? ⟨w.heap.size,3,none⟩ = some (.pointer p):=by rw [hW]; simp
  have d0 : W.cell? ⟨w.heap.size + 1,0,none⟩ = some (.bool false):=by rw [hW]; simp
  have d1 : W.cell? ⟨w.heap.size + 1,1,none⟩ = some (.int .u64 0):=by rw [hW]; simp
  have d2 : W.cell? ⟨w.heap.size + 1,2,none⟩ = some (.int .u64 0):=by rw [hW]; simp
  have d3 : W.cell? ⟨w.heap.size + 1,3,none⟩ = some (.pointer none):=by rw [hW]; simp
  have fz : ∀ b j,w.heap.size ≤ b→W.frozen? ⟨b,j,none⟩ = false:=by
   intro b j hb
   rw [hW]
   rcases Nat.lt_or_ge b (w.heap.size + 2) with h1 | h1
   ·have : b = w.heap.size ∨ b = w.heap.size + 1:=by omega
    rcases this with rfl | rfl <;> simp
   ·simp [World.frozen?,Array.getElem?_eq_none (show ((w.alloc (.cells #[.bool false,.int .u64 x,.int .u64 y,.pointer p] 36)).alloc (.cells #[.bool false,.int .u64 0,.int .u64 0,.pointer none] 36)).heap.size ≤ b by simp; omega)]
  have HW:=hide hW
  have HS2:=hide (unhide HSg W ((unhide HF).but hB))
  have HR:=hide hr
  have HB:=hide hB
  clear hW hs hn hr hz HSg HF hB
  go_enter Tryz.func80,Tryz.ntmps80
  go_wp2_with fail
  rw [← unhide HW]
  refine (unhide HS2).mono ?_
  rintro e w1 ⟨rfl,hb1⟩
  have k0:=hb1.cell_some c0 (by simp)
  have k1:=hb1.cell_some c1 (by simp)
  have k2:=hb1.cell_some c2 (by simp)
  have k3:=hb1.cell_some c3 (by simp)
  have l0:=hb1.cell_some d0 (by simp)
  have l1:=hb1.cell_some d1 (by simp)
  have l2:=hb1.cell_some d2 (by simp)
  have l3:=hb1.cell_some d3 (by simp)
  have hg1 : w.heap.size < W.heap.size:=lt_of_cell c0
  have hg2 : w.heap.size + 1 < W.heap.size:=lt_of_cell d0
  have f1 : ∀ j,w1.frozen? ⟨w.heap.size,j,none⟩ = false:=fun j => (hb1.frozen (p:=⟨w.heap.size,j,none⟩) hg1 (by simp)).trans (fz _ j (Nat.le_refl _))
  have f2 : ∀ j,w1.frozen? ⟨w.heap.size + 1,j,none⟩ = false:=fun j => (hb1.frozen (p:=⟨w.heap.size + 1,j,none⟩) hg2 (by simp)).trans (fz _ j (by omega))
  have HB1 : Hid (But [] w w1):=(unhide HB).trans' hb1
  clear hb1 c0 c1 c2 c3 d0 d1 d2 d3 fz HW HS2 hg1 hg2
  obtain ⟨ga,hga⟩ : ∃ ga,ga = w.heap.size:=⟨_,rfl⟩
  obtain ⟨gb,hgb⟩ : ∃ gb,gb = w.heap.size + 1:=⟨_,rfl⟩
  rw [← hga] at k0 k1 k2 k3 f1
  rw [← hgb] at l0 l1 l2 l3 f2
  rw [← hgb,← hga]
  have hab : ga ≠ gb:=by omega
  have ha : Hid (w.heap.size ≤ ga):=Nat.le_of_eq hga.symm
  have hb : Hid (w.heap.size ≤ gb):=by show _ ≤ _; omega
  clear hga hgb
  go_wp2
  have hBf:=((((((unhide HB1).setCell (p:=⟨ga,0,none⟩) (.inr (unhide ha)) (.bool r)).setCell (p:=⟨gb,0,none⟩) (.inr (unhide hb)) (.bool r)).setCell (p:=⟨gb,1,none⟩) (.inr (unhide hb)) (.int .u64 x)).setCell (p:=⟨gb,2,none⟩) (.inr (unhide hb)) (.int .u64 y)).setCell (p:=⟨gb,3,none⟩) (.inr (unhide hb)) (.pointer p))
  exact bodyPost_ret (v:=.agg #[.bool r,.int .u64 x,.int .u64 y,.pointer p]) (by simp [results,Tryz.results80,go_sem,l0,l1,l2,l3]) rfl ⟨_,rfl,unhide HH _ r (unhide HR) hBf,hBf⟩
end Go.Proofs.YtndcigdphgojpaaGreatDoor
