/- What single operations do, as the Go text of package frac has them: fractions and marks loaded, built, stored, their places made. -/
import Derived.Laws.AppendOwn
import Derived.Test.YtloojmaamaambaaGreatDoorKBG0
import Derived.Test.YtloojmaamaambaaGreatDoorKBR0
namespace Go.Proofs.YtloojmaamaambaaGreatDoor
open Go.RowKit

/-- each operation that binds another stands behind it -/
def lowOps (ops : Array Oper) : Bool:=(List.range ops.size).all fun i => match ops[i]? with
 | some o => o.after.all fun e => !(Region.binds .any e) || decide (e.on < i)
 | none => true
theorem low_of {ops : Array Oper} (h : lowOps ops = true) : ∀ i o,ops[i]? = some o→∀ e ∈ o.after,Region.binds .any e = true→e.on < i:=fun i o ho e he hb => by
 have hi : i < ops.size:=(Array.getElem?_eq_some_iff.1 ho).1
 unfold lowOps at h
 rw [List.all_eq_true] at h
 have h1:=h i (List.mem_range.2 hi)
 simp only [ho] at h1
 rw [Array.all_eq_true_iff_forall_mem] at h1
 have h2:=h1 e he
 simpa [hb] using h2
def depOps (ops : Array Oper) (ps : List (Nat × Nat)) : Bool:=ps.all fun p => match ops[p.1]? with
 | some o => o.after.any fun e => Region.binds .any e && e.on == p.2
 | none => false
theorem dep_of {ops : Array Oper} {ps : List (Nat × Nat)} (h : depOps ops ps = true) : ∀ i j,(i,j) ∈ ps→∃ o,ops[i]? = some o∧∃ e ∈ o.after,Region.binds .any e = true∧e.on = j:=fun i j hij => by
 unfold depOps at h
 rw [List.all_eq_true] at h
 have h1:=h (i,j) hij
 cases ho : ops[i]? with
 | none => simp [ho] at h1
 | some o =>
  simp only [ho] at h1
  rw [Array.any_eq_true] at h1
  obtain ⟨k,hk,h2⟩:=h1
  simp only [Bool.and_eq_true,beq_iff_eq] at h2
  exact ⟨o,rfl,o.after[k],Array.getElem_mem hk,h2.1,h2.2⟩

/-- a fraction's four parts lie at a block -/
def P4 (w : World) (g : Nat) (s : Bool) (x y : Int) (p : Option Addr) : Prop:=w.cell? ⟨g,0,none⟩ = some (.bool s)∧w.cell? ⟨g,1,none⟩ = some (.int .u64 x)∧w.cell? ⟨g,2,none⟩ = some (.int .u64 y)∧w.cell? ⟨g,3,none⟩ = some (.pointer p)
theorem P4.but {w w' : World} {g : Nat} {s : Bool} {x y : Int} {p : Option Addr} {l : List Nat} (h : P4 w g s x y p) (hb : But l w w') (hn : g ∉ l) : P4 w' g s x y p:=⟨hb.cell_some h.1 hn,hb.cell_some h.2.1 hn,hb.cell_some h.2.2.1 hn,hb.cell_some h.2.2.2 hn⟩
theorem set_off (w : World) (b i j : Nat) (v : Value) (hij : i ≠ j) : (w.setCell ⟨b,i,none⟩ v).cell? ⟨b,j,none⟩ = w.cell? ⟨b,j,none⟩:=World.cell?_setCell_other w ⟨b,i,none⟩ ⟨b,j,none⟩ v (fun e => hij (Addr.mk.inj e).2.1)
/-- four cells written: the block is what was written, and what it was beyond -/
theorem set4_all (w : World) (b : Nat) (v0 v1 v2 v3 : Value) (c0 : (w.cell? ⟨b,0,none⟩).isSome = true) (c1 : (w.cell? ⟨b,1,none⟩).isSome = true) (c2 : (w.cell? ⟨b,2,none⟩).isSome = true) (c3 : (w.cell? ⟨b,3,none⟩).isSome = true) :
  (∀ j,j < 4→((((w.setCell ⟨b,0,none⟩ v0).setCell ⟨b,1,none⟩ v1).setCell ⟨b,2,none⟩ v2).setCell ⟨b,3,none⟩ v3).cell? ⟨b,j,none⟩ = #[v0,v1,v2,v3][j]?)∧∀ j,4 ≤ j→((((w.setCell ⟨b,0,none⟩ v0).setCell ⟨b,1,none⟩ v1).setCell ⟨b,2,none⟩ v2).setCell ⟨b,3,none⟩ v3).cell? ⟨b,j,none⟩ = w.cell? ⟨b,j,none⟩:=by
 constructor
 ·intro j hj
  have : j = 0 ∨ j = 1 ∨ j = 2 ∨ j = 3:=by omega
  rcases this with rfl | rfl | rfl | rfl
  ·rw [set_off _ _ 3 0 _ (by omega),set_off _ _ 2 0 _ (by omega),set_off _ _ 1 0 _ (by omega)]
   exact World.cell?_setCell_same' _ _ _ c0
  ·rw [set_off _ _ 3 1 _ (by omega),set_off _ _ 2 1 _ (by omega)]
   exact World.cell?_setCell_same' _ _ _ (by rw [set_off _ _ 0 1 _ (by omega)]; exact c1)
  ·rw [set_off _ _ 3 2 _ (by omega)]
   exact World.cell?_setCell_same' _ _ _ (by rw [set_off _ _ 1 2 _ (by omega),set_off _ _ 0 2 _ (by omega)]; exact c2)
  ·exact World.cell?_setCell_same' _ _ _ (by rw [set_off _ _ 2 3 _ (by omega),set_off _ _ 1 3 _ (by omega),set_off _ _ 0 3 _ (by omega)]; exact c3)
 ·intro j hj
  rw [set_off _ _ 3 j _ (by omega),set_off _ _ 2 j _ (by omega),set_off _ _ 1 j _ (by omega),set_off _ _ 0 j _ (by omega)]
end Go.Proofs.YtloojmaamaambaaGreatDoor

namespace Go.Proofs.YtloojmaamaambaaGreatDoor
open Go.RowKit

/-- the value v is the fraction f: of words, where words do, else a pair of numbers in memory -/
def FracAt (w : World) (v : Value) (f : Rat) : Prop :=
 (f.num.natAbs < 18446744073709551616∧f.den < 18446744073709551616∧v = .agg #[.bool (decide (f.num < 0)),.int .u64 (f.num.natAbs : Int),.int .u64 ((f.den : Int) - 1),.pointer none]) ∨
 ((18446744073709551616 ≤ f.num.natAbs ∨ 18446744073709551616 ≤ f.den)∧∃ b v1 v2,v = .agg #[.bool (decide (f.num < 0)),.int .u64 0,.int .u64 0,.pointer (some ⟨b,0,none⟩)]∧w.cell? ⟨b,0,none⟩ = some v1∧w.cell? ⟨b,1,none⟩ = some v2∧Sl .u64 w v1 (wd 18446744073709551616 f.num.natAbs)∧Sl .u64 w v2 (wd 18446744073709551616 f.den))
theorem FracAt.but {w w' : World} {v : Value} {f : Rat} (h : FracAt w v f) (hb : But [] w w') : FracAt w' v f:=by
 rcases h with h | ⟨h1,b,v1,v2,h2,h3,h4,h5,h6⟩
 ·exact .inl h
 ·exact .inr ⟨h1,b,v1,v2,h2,hb.cell_some h3 (by simp),hb.cell_some h4 (by simp),h5.but_nil hb,h6.but_nil hb⟩
/-- a fraction stays where a place turns that has a Boolean first: no number and no pair of numbers lies there -/
theorem FracAt.over {w W : World} {v : Value} {f : Rat} (h : FracAt w v f) {g : Nat} {s : Bool} (c0 : w.cell? ⟨g,0,none⟩ = some (.bool s)) (hb : But [g] w W) : FracAt W v f:=by
 rcases h with h1 | ⟨h1,b,v1,v2,h2,h3,h4,h5,h6⟩
 ·exact .inl h1
 ·have hbg : b ≠ g:=by
   rintro rfl
   obtain ⟨a,cap,rfl,-⟩:=h5
   rw [c0] at h3
   simp at h3
  exact .inr ⟨h1,b,v1,v2,h2,hb.cell_some h3 (by simpa using hbg),hb.cell_some h4 (by simpa using hbg),h5.over hb c0 (by simp),h6.over hb c0 (by simp)⟩
/-- how many words the numbers of a fraction have, at most -/
def Len (f : Rat) (n : Nat) : Prop:=(wd 18446744073709551616 f.num.natAbs).length ≤ n∧(wd 18446744073709551616 f.den).length ≤ n
theorem den_pos (f : Rat) : 0 < f.den:=Nat.pos_of_ne_zero f.den_nz

set_option maxHeartbeats 4000000 in
set_option maxRecDepth 100000 in
theorem numbers_any (v : Value) (f : Rat) (w : World) (hf : FracAt w v f) :
  Calls Tryz.prog 67 #[v] w fun e w' => ∃ v1 v2,e = .returned (.tuple #[v1,v2])∧Sl .u64 w' v1 (wd 18446744073709551616 f.num.natAbs)∧Sl .u64 w' v2 (wd 18446744073709551616 f.den)∧But [] w w':=by
 rcases hf with ⟨hp,hq,rfl⟩ | ⟨-,b,v1,v2,rfl,hc0,hc1,hs1,hs2⟩
 ·have hq0:=den_pos f
  generalize decide (f.num < 0) = s
  generalize f.num.natAbs = p at *
  generalize f.den = q at *
  go_enter Tryz.func67,Tryz.ntmps67
  go_wp2
  obtain ⟨W,hW⟩ : ∃ W,W = w.alloc (.cells #[.bool s,.int .u64 (p : Int),.int .u64 ((q : Int) - 1),.pointer none] 29):=⟨_,rfl⟩
  have c0 : W.cell? ⟨w.heap.size,0,none⟩ = some (.bool s):=by rw [hW]; simp
  have c1 : W.cell? ⟨w.heap.size,1,none⟩ = some (.int .u64 (p : Int)):=by rw [hW]; simp
  have c2 : W.cell? ⟨w.heap.size,2,none⟩ = some (.int .u64 ((q : Int) - 1)):=by rw [hW]; simp
  have c3 : W.cell? ⟨w.heap.size,3,none⟩ = some (.pointer none):=by rw [hW]; simp
  have hB : But [] w W:=by rw [hW]; exact (But.refl _ _).alloc _
  rw [← hW]
  clear hW
  generalize w.heap.size = g at *
  go_region_held (fun w' => w'.cell? ⟨g,0,none⟩ = some (.bool s)∧w'.cell? ⟨g,1,none⟩ = some (.int .u64 (p : Int))∧w'.cell? ⟨g,2,none⟩ = some (.int .u64 ((q : Int) - 1))∧w'.cell? ⟨g,3,none⟩ = some (.pointer none)) (go_keep) (first
   | (go_at_call_of 129 (Value.int IntKind.u64 (p : Int)); refine (natOf_any p hp _).mono ?_; rintro e w1 ⟨v1,rfl,hv1,hb1,-⟩; have B1 : But [] W w1:=(by first | exact hb1 | exact (But.refl _ _).drew.trans' hb1); have k0:=B1.cell_some c0 (by simp); have k1:=B1.cell_some c1 (by simp); have k2:=B1.cell_some c2 (by simp); have k3:=B1.cell_some c3 (by simp))
   | (go_at_call 126; refine (under_any s p q hq hq0 _).mono ?_; rintro e w2 ⟨rfl,hb2⟩; have B2 : But [] W w2:=B1.trans' hb2; have l0:=B2.cell_some c0 (by simp); have l1:=B2.cell_some c1 (by simp); have l2:=B2.cell_some c2 (by simp); have l3:=B2.cell_some c3 (by simp))
   | (go_at_call_of 129 (Value.int IntKind.u64 (q : Int)); refine (natOf_any q hq _).mono ?_; rintro e w3 ⟨v3,rfl,hv3,hb3,-⟩; have B3 : But [] W w3:=B2.trans' hb3; have m0:=B3.cell_some c0 (by simp); have m1:=B3.cell_some c1 (by simp); have m2:=B3.cell_some c2 (by simp); have m3:=B3.cell_some c3 (by simp)))
  all_goals go_wp2
  all_goals go_ret2
  all_goals exact ⟨v1,v3,rfl,(hv1.but_nil hb2).but_nil hb3,hv3,hB.trans' B3⟩
 ·have hbl : b < w.heap.size:=lt_of_cell hc0
  have HS:=hide (And.intro hs1 hs2)
  clear hs1 hs2
  generalize decide (f.num < 0) = s
  go_enter Tryz.func67,Tryz.ntmps67
  go_wp2
  obtain ⟨W,hW⟩ : ∃ W,W = w.alloc (.cells #[.bool s,.int .u64 0,.int .u64 0,.pointer (some ⟨b,0,none⟩)] 29):=⟨_,rfl⟩
  have HB : Hid (But [] w W):=by show But _ _ _; rw [hW]; exact (But.refl _ _).alloc _
  have c3 : W.cell? ⟨w.heap.size,3,none⟩ = some (.pointer (some ⟨b,0,none⟩)):=by rw [hW]; simp
  have d0:=(unhide HB).cell_some hc0 (by simp)
  have d1:=(unhide HB).cell_some hc1 (by simp)
  rw [← hW]
  clear hW hc0 hc1
  generalize w.heap.size = g at *
  go_quiet (fail)
  go_wp2
  go_ret2
  exact ⟨v1,v2,rfl,(unhide HS).1.but_nil ((unhide HB).drewN nq),(unhide HS).2.but_nil ((unhide HB).drewN nq),(unhide HB).drewN nq⟩

theorem sgn_neg (s : Bool) (m : Nat) : decide (sgn s m < 0) = (s && decide (m ≠ 0)):=by
 cases s
 ·have h1 : ¬ ((m : Int) < 0):=by omega
  simp [sgn,h1]
 ·by_cases h0 : m = 0
  ·subst h0; rfl
  ·have h1 : -(m : Int) < 0:=by omega
   have h2 : 0 < m:=by omega
   simp [sgn,h0,h2]

set_option maxHeartbeats 4000000 in
set_option maxRecDepth 100000 in
theorem ofLowered_any (s : Bool) (v1 v2 : Value) (f : Rat) (w : World) (h1 : Sl .u64 w v1 (wd 18446744073709551616 f.num.natAbs)) (h2 : Sl .u64 w v2 (wd 18446744073709551616 f.den)) (hs : f.num = sgn s f.num.natAbs) (hl1 : (wd 18446744073709551616 f.num.natAbs).length < 2147483648) (hl2 : (wd 18446744073709551616 f.den).length < 2147483648) :
  Calls Tryz.prog 72 #[.bool s,v1,v2] w fun e w' => ∃ v,e = .returned v∧FracAt w' v f∧But [] w w':=by
 have hsg : decide (f.num < 0) = (s && decide (f.num.natAbs ≠ 0)):=by rw [hs,sgn_abs]; exact sgn_neg _ _
 have hq0:=den_pos f
 have hle0 : w.heap.size ≤ w.heap.size:=Nat.le_refl _
 obtain ⟨W0,hW0⟩ : ∃ W0,W0 = w.alloc (.cells #[.bool false,.int .u64 0,.int .u64 0,.pointer none] 29):=⟨_,rfl⟩
 have hB0 : But [] w W0:=by rw [hW0]; exact (But.refl _ _).alloc _
 have c0 : W0.cell? ⟨w.heap.size,0,none⟩ = some (.bool false):=by rw [hW0]; simp
 have c1 : W0.cell? ⟨w.heap.size,1,none⟩ = some (.int .u64 0):=by rw [hW0]; simp
 have c2 : W0.cell? ⟨w.heap.size,2,none⟩ = some (.int .u64 0):=by rw [hW0]; simp
 have c3 : W0.cell? ⟨w.heap.size,3,none⟩ = some (.pointer none):=by rw [hW0]; simp
 have fz : ∀ j,W0.frozen? ⟨w.heap.size,j,none⟩ = false:=by intro j; rw [hW0]; simp
 have hgs : w.heap.size < W0.heap.size:=by rw [hW0]; simp
 have h1':=h1.but_nil hB0
 have h2':=h2.but_nil hB0
 have HW0:=hide hW0
 have HB0:=hide hB0
 clear hW0 hB0 hle0
 by_cases hb : f.num.natAbs < 18446744073709551616∧f.den < 18446744073709551616
 ·obtain ⟨hp,hq⟩:=hb
  have HW1:=hide (natWord_any v1 f.num.natAbs hp W0 h1')
  have HW2:=hide (natWord_any v2 f.den hq W0 h2')
  have HO:=hide (ofWords_any s f.num.natAbs f.den hp hq hq0 (decide (f.num < 0)) hsg W0)
  have FIN : Hid (∀ W,FracAt W (.agg #[.bool (decide (f.num < 0)),.int .u64 (f.num.natAbs : Int),.int .u64 ((f.den : Int) - 1),.pointer none]) f):=fun W => .inl ⟨hp,hq,rfl⟩
  obtain ⟨a1,d1,rfl,-,-⟩:=h1
  obtain ⟨a2,d2,rfl,-,-⟩:=h2
  clear hs hsg h1' h2'
  generalize (wd 18446744073709551616 f.num.natAbs).length = n1 at *
  generalize (wd 18446744073709551616 f.den).length = n2 at *
  generalize decide (f.num < 0) = r at *
  generalize f.num.natAbs = p at *
  generalize hqq : f.den = q at *
  clear hqq
  go_enter Tryz.func72,Tryz.ntmps72
  go_wp2_with fail
  rw [← unhide HW0]
  obtain ⟨g,hg⟩ : ∃ g,g = w.heap.size:=⟨_,rfl⟩
  rw [← hg] at c0 c1 c2 c3 fz hgs
  rw [← hg]
  have HG : Hid (w.heap.size ≤ g):=Nat.le_of_eq hg.symm
  clear hg HW0
  refine (unhide HW1).mono ?_
  rintro e w1 ⟨rfl,hw⟩
  obtain rfl:=hw.symm
  clear hw
  go_wp2_with fail
  refine (unhide HW2).mono ?_
  rintro e w1 ⟨rfl,hw⟩
  obtain rfl:=hw.symm
  clear hw
  go_wp2_with fail
  refine (unhide HO).mono ?_
  rintro e w1 ⟨rfl,hb1⟩
  have k0:=hb1.cell_some c0 (by simp)
  have k1:=hb1.cell_some c1 (by simp)
  have k2:=hb1.cell_some c2 (by simp)
  have k3:=hb1.cell_some c3 (by simp)
  have kf : ∀ j,w1.frozen? ⟨g,j,none⟩ = false:=fun j => (hb1.frozen (p:=⟨g,j,none⟩) hgs (by simp)).trans (fz j)
  have HB1:=hide ((unhide HB0).trans' hb1)
  clear hb1 c0 c1 c2 c3 fz
  go_wp2
  refine bodyPost_ret (v:=.agg #[.bool r,.int .u64 (p : Int),.int .u64 ((q : Int) - 1),.pointer none]) (by simp [results,Tryz.results72,go_sem,k0,k1,k2,k3]) rfl ⟨_,rfl,unhide FIN _,?_⟩
  exact ((((unhide HB1).setCell (.inr (unhide HG)) _).setCell (.inr (unhide HG)) _).setCell (.inr (unhide HG)) _).setCell (.inr (unhide HG)) _
 ·have hbig : 18446744073709551616 ≤ f.num.natAbs ∨ 18446744073709551616 ≤ f.den:=by omega
  have hr : decide (f.num < 0) = s:=by
   rw [hsg]
   have hn0 : f.num.natAbs ≠ 0:=by
    intro e0
    have e1:=f.reduced
    rw [e0,Nat.coprime_zero_left] at e1
    omega
   simp [hn0]
  have H1:=hide h1
  have H2:=hide h2
  have HWS : Hid ((f.num.natAbs < 18446744073709551616∧Calls Tryz.prog 140 #[v1] W0 (fun e w' => e = .returned (.tuple #[.int .u64 (f.num.natAbs : Int),.bool true])∧w' = W0)∧Calls Tryz.prog 140 #[v2] W0 (fun e w' => e = .returned (.tuple #[.int .u64 0,.bool false])∧w' = W0)) ∨ (∃ (x : Nat) (t : Bool),Calls Tryz.prog 140 #[v1] W0 (fun e w' => e = .returned (.tuple #[.int .u64 0,.bool false])∧w' = W0)∧Calls Tryz.prog 140 #[v2] W0 (fun e w' => e = .returned (.tuple #[.int .u64 (x : Int),.bool t])∧w' = W0))):=by
   rcases Nat.lt_or_ge f.num.natAbs 18446744073709551616 with hp | hp
   ·exact .inl ⟨hp,natWord_any v1 _ hp W0 h1',natWord_long v2 _ (by omega) W0 h2' hl2⟩
   ·rcases Nat.lt_or_ge f.den 18446744073709551616 with hq | hq
    ·exact .inr ⟨f.den,true,natWord_long v1 _ hp W0 h1' hl1,natWord_any v2 _ hq W0 h2'⟩
    ·exact .inr ⟨0,false,natWord_long v1 _ hp W0 h1' hl1,natWord_long v2 _ hq W0 h2' hl2⟩
  obtain ⟨a1,d1,rfl,-,-⟩:=h1
  obtain ⟨a2,d2,rfl,-,-⟩:=h2
  have FIN : Hid (∀ W b v1 v2,W.cell? ⟨b,0,none⟩ = some v1→W.cell? ⟨b,1,none⟩ = some v2→Sl .u64 W v1 (wd 18446744073709551616 f.num.natAbs)→Sl .u64 W v2 (wd 18446744073709551616 f.den)→FracAt W (.agg #[.bool s,.int .u64 0,.int .u64 0,.pointer (some ⟨b,0,none⟩)]) f):=fun W b v1 v2 e1 e2 e3 e4 => .inr ⟨hbig,b,v1,v2,by rw [hr],e1,e2,e3,e4⟩
  clear hs hsg h1' h2' hr hb hbig
  generalize (wd 18446744073709551616 f.num.natAbs).length = n1 at *
  generalize (wd 18446744073709551616 f.den).length = n2 at *
  rcases unhide HWS with ⟨-,w1c,w2c⟩ | ⟨x,t,w1c,w2c⟩
  all_goals
   have HW1:=hide w1c
   have HW2:=hide w2c
   clear w1c w2c HWS
   go_enter Tryz.func72,Tryz.ntmps72
   go_wp2_with fail
   rw [← unhide HW0]
   obtain ⟨g,hg⟩ : ∃ g,g = w.heap.size:=⟨_,rfl⟩
   rw [← hg] at c0 c1 c2 c3 fz hgs
   rw [← hg]
   have HG : Hid (w.heap.size ≤ g):=Nat.le_of_eq hg.symm
   clear hg HW0
   refine (unhide HW1).mono ?_
   rintro e w1 ⟨rfl,hw⟩
   obtain rfl:=hw.symm
   clear hw
   go_wp2_with fail
   refine (unhide HW2).mono ?_
   rintro e w1 ⟨rfl,hw⟩
   obtain rfl:=hw.symm
   clear hw
   go_wp2
   have hBf:=(((((unhide HB0).setCell (p:=⟨g,0,none⟩) (.inr (unhide HG)) (.bool s)).setCell (p:=⟨g,1,none⟩) (.inr (unhide HG)) (.int .u64 0)).setCell (p:=⟨g,2,none⟩) (.inr (unhide HG)) (.int .u64 0)).setCell (p:=⟨g,3,none⟩) (.inr (unhide HG)) (.pointer (some ⟨W0.heap.size,0,none⟩))).alloc (.cells #[.slice a1 n1 d1,.slice a2 n2 d2] 177)
   refine bodyPost_ret (v:=.agg #[.bool s,.int .u64 0,.int .u64 0,.pointer (some ⟨W0.heap.size,0,none⟩)]) (by simp [results,Tryz.results72,go_sem,c0,c1,c2,c3,hgs]) rfl ⟨_,rfl,unhide FIN _ W0.heap.size (.slice a1 n1 d1) (.slice a2 n2 d2) ?_ ?_ ((unhide H1).but_nil hBf) ((unhide H2).but_nil hBf),hBf⟩
   ·have:=World.cell?_alloc_new ((((W0.setCell ⟨g,0,none⟩ (.bool s)).setCell ⟨g,1,none⟩ (.int .u64 0)).setCell ⟨g,2,none⟩ (.int .u64 0)).setCell ⟨g,3,none⟩ (.pointer (some ⟨W0.heap.size,0,none⟩))) #[.slice a1 n1 d1,.slice a2 n2 d2] 177 0
    simpa using this
   ·have:=World.cell?_alloc_new ((((W0.setCell ⟨g,0,none⟩ (.bool s)).setCell ⟨g,1,none⟩ (.int .u64 0)).setCell ⟨g,2,none⟩ (.int .u64 0)).setCell ⟨g,3,none⟩ (.pointer (some ⟨W0.heap.size,0,none⟩))) #[.slice a1 n1 d1,.slice a2 n2 d2] 177 1
    simpa using this
end Go.Proofs.YtloojmaamaambaaGreatDoor

namespace Go.Proofs.YtloojmaamaambaaGreatDoor
open Go.RowKit

/-- a fraction's four parts lie at a block, from an offset on -/
def P4o (w : World) (b o : Nat) (s : Bool) (x y : Int) (p : Option Addr) : Prop:=w.cell? ⟨b,o,none⟩ = some (.bool s)∧w.cell? ⟨b,o + 1,none⟩ = some (.int .u64 x)∧w.cell? ⟨b,o + 2,none⟩ = some (.int .u64 y)∧w.cell? ⟨b,o + 3,none⟩ = some (.pointer p)
theorem P4o.but {w w' : World} {b o : Nat} {s : Bool} {x y : Int} {p : Option Addr} {l : List Nat} (h : P4o w b o s x y p) (hb : But l w w') (hn : b ∉ l) : P4o w' b o s x y p:=⟨hb.cell_some h.1 hn,hb.cell_some h.2.1 hn,hb.cell_some h.2.2.1 hn,hb.cell_some h.2.2.2 hn⟩
/-- the fraction f lies at a block, from an offset on -/
def LiesAt (w : World) (b o : Nat) (f : Rat) : Prop:=∃ s x y p,P4o w b o s x y p∧FracAt w (.agg #[.bool s,.int .u64 x,.int .u64 y,.pointer p]) f
theorem LiesAt.but {w w' : World} {b o : Nat} {f : Rat} (h : LiesAt w b o f) (hb : But [] w w') : LiesAt w' b o f:=by
 obtain ⟨s,x,y,p,h1,h2⟩:=h
 exact ⟨s,x,y,p,h1.but hb (by simp),h2.but hb⟩
/-- words stay where blocks turn that hold something else at some place -/
theorem Sl.beside {k : IntKind} {w w' : World} {v : Value} {xs : List Nat} {l : List Nat} (h : Sl k w v xs) (hb : But l w w') (hc : ∀ g ∈ l,∃ i s,w.cell? ⟨g,i,none⟩ = some (.bool s)) : Sl k w' v xs:=by
 obtain ⟨a,cap,rfl,hcp,h,hi⟩:=h
 rcases Nat.eq_zero_or_pos xs.length with h0 | h0
 ·exact ⟨a,cap,rfl,hcp,fun i hi => by omega,fun b off e h1 => by omega⟩
 ·refine Sl.but (xs:=xs) ⟨a,cap,rfl,hcp,h,hi⟩ hb (fun b off cap' n e hm => ?_)
  simp only [Value.slice.injEq] at e
  obtain ⟨rfl,-,-⟩:=e
  obtain ⟨i,s,hs⟩:=hc b hm
  exact (hi _ _ rfl h0).ne hs (by simp) rfl
/-- a fraction stays where places turn that have a Boolean first -/
theorem FracAt.beside {w W : World} {v : Value} {f : Rat} {l : List Nat} (h : FracAt w v f) (hb : But l w W) (hc : ∀ g ∈ l,∃ s,w.cell? ⟨g,0,none⟩ = some (.bool s)) : FracAt W v f:=by
 rcases h with h1 | ⟨h1,b,v1,v2,h2,h3,h4,h5,h6⟩
 ·exact .inl h1
 ·have hbg : b ∉ l:=fun hm => by
   obtain ⟨s,hs⟩:=hc b hm
   obtain ⟨a,cap,rfl,-⟩:=h5
   rw [hs] at h3
   simp at h3
  exact .inr ⟨h1,b,v1,v2,h2,hb.cell_some h3 hbg,hb.cell_some h4 hbg,h5.beside hb (fun g hg => ⟨0,hc g hg⟩),h6.beside hb (fun g hg => ⟨0,hc g hg⟩)⟩
theorem LiesAt.beside {w w' : World} {b o : Nat} {f : Rat} {l : List Nat} (h : LiesAt w b o f) (hb : But l w w') (hn : b ∉ l) (hc : ∀ g ∈ l,∃ s,w.cell? ⟨g,0,none⟩ = some (.bool s)) : LiesAt w' b o f:=by
 obtain ⟨s,x,y,p,h1,h2⟩:=h
 exact ⟨s,x,y,p,h1.but hb hn,h2.beside hb hc⟩

/-- the slice v holds the fractions fs -/
def FracsAt (w : World) (v : Value) (fs : List Rat) : Prop:=∃ a cap,v = .slice a fs.length cap∧fs.length ≤ cap∧∀ i f,fs[i]? = some f→∃ b off,a = some ⟨b,off,none⟩∧LiesAt w b (off + i * 4) f
theorem FracsAt.nil (w : World) : FracsAt w (.slice none 0 0) []:=⟨none,0,rfl,Nat.le_refl _,fun i f h => by simp at h⟩
theorem FracsAt.but {w w' : World} {v : Value} {fs : List Rat} (h : FracsAt w v fs) (hb : But [] w w') : FracsAt w' v fs:=by
 obtain ⟨a,cap,e,hc,h⟩:=h
 refine ⟨a,cap,e,hc,fun i f hf => ?_⟩
 obtain ⟨b,off,e1,h1⟩:=h i f hf
 exact ⟨b,off,e1,h1.but hb⟩
/-- empty, or at an address -/
theorem FracsAt.open {w : World} {v : Value} {fs : List Rat} (h : FracsAt w v fs) :
  (fs = []∧∃ a cap,v = .slice a 0 cap) ∨ (0 < fs.length∧∃ b off cap,v = .slice (some ⟨b,off,none⟩) fs.length cap∧fs.length ≤ cap∧∀ i f,fs[i]? = some f→LiesAt w b (off + i * 4) f):=by
 obtain ⟨a,cap,rfl,hc,h⟩:=h
 rcases Nat.eq_zero_or_pos fs.length with h0 | h0
 ·exact .inl ⟨List.length_eq_zero_iff.1 h0,a,cap,by rw [h0]⟩
 ·obtain ⟨b,off,rfl,-⟩:=h 0 fs[0] (List.getElem?_eq_getElem h0)
  refine .inr ⟨h0,b,off,cap,rfl,hc,fun i f hf => ?_⟩
  obtain ⟨b',off',e,h2⟩:=h i f hf
  simp only [Option.some.injEq,Addr.mk.injEq] at e
  obtain ⟨rfl,rfl,_⟩:=e
  exact h2
/-- the parts of values, one behind the other -/
def parts4 (vs : List Value) : List Value:=vs.flatMap fun v => v.cells.toList
/-- a row of the call's own that holds fractions' values holds the fractions -/
structure Holds4 (w : World) (base : Nat) (e : TypeId) (v : Value) (fs : List Rat) (vs : List Value) : Prop where
 own : w.ownsRow base e 4 v fs.length (parts4 vs)
 len : vs.length = fs.length
 val : ∀ (i : Nat) (f : Rat),fs[i]? = some f→∃ s x y p,vs[i]? = some (Value.agg #[.bool s,.int .u64 x,.int .u64 y,.pointer p])∧FracAt w (.agg #[.bool s,.int .u64 x,.int .u64 y,.pointer p]) f
theorem parts4_get : ∀ (vs : List Value),(∀ v ∈ vs,v.cells.size = 4)→∀ (i k : Nat) (v : Value),vs[i]? = some v→k < 4→(parts4 vs)[4 * i + k]? = v.cells[k]?
 | [],_,i,k,v,e,_ => by simp at e
 | u :: vs,h,0,k,v,e,hk => by
  have hu:=h u (by simp)
  simp only [List.getElem?_cons_zero,Option.some.injEq] at e
  subst e
  unfold parts4
  rw [List.flatMap_cons,Nat.mul_zero,Nat.zero_add,List.getElem?_append_left (by rw [Array.length_toList,hu]; exact hk)]
  simp
 | u :: vs,h,i + 1,k,v,e,hk => by
  have hu:=h u (by simp)
  have ih:=parts4_get vs (fun x hx => h x (by simp [hx])) i k v (by simpa using e) hk
  unfold parts4 at ih ⊢
  rw [List.flatMap_cons,List.getElem?_append_right (by rw [Array.length_toList,hu]; omega),Array.length_toList,hu,show 4 * (i + 1) + k - 4 = 4 * i + k from by omega]
  exact ih
theorem parts4_append (vs us : List Value) : parts4 (vs ++ us) = parts4 vs ++ parts4 us:=by unfold parts4; rw [List.flatMap_append]
theorem Holds4.fracs {w : World} {base : Nat} {e : TypeId} {v : Value} {fs : List Rat} {vs : List Value} (h : Holds4 w base e v fs vs) : FracsAt w v fs:=by
 have h4 : ∀ u ∈ vs,u.cells.size = 4:=fun u hu => by
  obtain ⟨i,hi,rfl⟩:=List.mem_iff_getElem.1 hu
  obtain ⟨s,x,y,p,e,-⟩:=h.val i (fs[i]'(by rw [← h.len]; exact hi)) (List.getElem?_eq_getElem (by rw [← h.len]; exact hi))
  rw [List.getElem?_eq_getElem hi] at e
  rw [Option.some.inj e]
  rfl
 obtain ⟨hl,⟨rfl,h0⟩ | ⟨g,cap,cur,rfl,hg,hb,hn,hm,hs,ht⟩⟩:=id h.own
 ·have : fs = []:=List.length_eq_zero_iff.1 h0
  subst this
  exact FracsAt.nil w
 ·refine ⟨_,cap,rfl,hn,fun i f hf => ⟨g,0,rfl,?_⟩⟩
  obtain ⟨s,x,y,p,e1,e2⟩:=h.val i f hf
  have cell : ∀ k,k < 4→w.cell? ⟨g,0 + i * 4 + k,none⟩ = (#[Value.bool s,.int .u64 x,.int .u64 y,.pointer p] : Array Value)[k]?:=fun k hk => by
   have h1:=parts4_get vs h4 i k _ e1 hk
   have h2:=h.own.cells (g:=g) rfl
   have hlt : k < (#[Value.bool s,.int .u64 x,.int .u64 y,.pointer p] : Array Value).size:=hk
   have h3:=h2 (4 * i + k) _ (h1.trans (Array.getElem?_eq_getElem hlt))
   have h5 : (⟨g,0,none⟩ : Addr).add (4 * i + k) = ⟨g,0 + i * 4 + k,none⟩:=by
    by_cases hz : 4 * i + k = 0
    ·simp only [Addr.add,hz,if_true,Addr.mk.injEq,true_and,and_true]; omega
    ·simp only [Addr.add,hz,if_false,Addr.mk.injEq,true_and,and_true]; omega
   rw [h5] at h3
   rw [h3]
   exact (Array.getElem?_eq_getElem hlt).symm
  exact ⟨s,x,y,p,⟨cell 0 (by omega),cell 1 (by omega),cell 2 (by omega),cell 3 (by omega)⟩,e2⟩
end Go.Proofs.YtloojmaamaambaaGreatDoor

namespace Go.Proofs.YtloojmaamaambaaGreatDoor
open Go.RowKit

/-- no operation has a test -/
def bareOps (ops : Array Oper) : Bool:=(List.range ops.size).all fun i => match ops[i]? with
 | some o => o.guard.isNone
 | none => true
theorem bare_of {ops : Array Oper} (h : bareOps ops = true) : ∀ (i : Nat) (o : Oper),ops[i]? = some o→o.guard = none:=fun i o ho => by
 have hi : i < ops.size:=(Array.getElem?_eq_some_iff.1 ho).1
 unfold bareOps at h
 rw [List.all_eq_true] at h
 have h1:=h i (List.mem_range.2 hi)
 simp only [ho] at h1
 simpa using h1
theorem dep_is {ops : Array Oper} {ps : List (Nat × Nat)} (h : depOps ops ps = true) {i : Nat} {o : Oper} (ho : ops[i]? = some o) (R : Nat→Prop) (hdep : ∀ e ∈ o.after,Region.binds .any e = true→R e.on) (j : Nat) (hij : (i,j) ∈ ps) : R j:=by
 obtain ⟨o',ho',e,he,hb,rfl⟩:=dep_of h i j hij
 rw [ho] at ho'
 obtain rfl:=Option.some.inj ho'
 exact hdep e he hb
/-- what has come has come behind all that it waits for -/
def Closed (ops : Array Oper) (d : Nat→Bool) : Prop:=∀ i o,ops[i]? = some o→d i = true→∀ e ∈ o.after,Region.binds .any e = true→d e.on = true
theorem Closed.dep {ops : Array Oper} {d : Nat→Bool} (h : Closed ops d) {ps : List (Nat × Nat)} (hp : depOps ops ps = true) {i j : Nat} (hij : (i,j) ∈ ps) (hd : d i = true) : d j = true:=by
 obtain ⟨o,ho,e,he,hb,rfl⟩:=dep_of hp i j hij
 exact h i o ho hd e he hb
theorem Closed.not {ops : Array Oper} {d : Nat→Bool} (h : Closed ops d) {ps : List (Nat × Nat)} (hp : depOps ops ps = true) {i j : Nat} (hij : (i,j) ∈ ps) (hd : d j = false) : d i = false:=by
 cases e : d i with
 | false => rfl
 | true => rw [h.dep hp hij e] at hd; simp at hd
theorem Closed.next {ops : Array Oper} {d : Nat→Bool} (h : Closed ops d) {i : Nat} {o : Oper} (ho : ops[i]? = some o) (hdep : ∀ e ∈ o.after,Region.binds .any e = true→d e.on = true) : Closed ops (came d i):=fun j oj hj hd e he hbi => by
 by_cases e1 : e.on = i
 ·rw [e1]; exact came_self d i
 ·rw [came_ne d e1]
  by_cases e2 : j = i
  ·subst e2
   rw [ho] at hj
   obtain rfl:=Option.some.inj hj
   exact hdep e he hbi
  ·rw [came_ne d e2] at hd
   exact h j oj hj hd e he hbi

structure Named {α : Type} (ops : Array Oper) (base : Act) (H : α→(Nat→Bool)→World→Prop) (V : α→Nat→Value) (T : Nat→Nat) (m : Nat) (d : Nat→Bool) (a : Act) (w : World) (N : α) : Prop where
 down : Closed ops d
 mem : H N d w
 size : a.tmps.size = base.tmps.size
 defers : a.defers = base.defers
 rest : ∀ t,(∀ j,j < m→t ≠ T j)→a.tmps[t]? = base.tmps[t]?
 has : ∀ i,i < m→d i = true→a.eval (.tmp (T i)) = V N i

theorem region_names {P : Program} {id : Nat} {ops : Array Oper} {Q : Exit→Act→World→Prop} {base : Act} {W0 : World} (hm : P.follows .mixedOrders = true)
  (hlow : ∀ i o,ops[i]? = some o→∀ e ∈ o.after,Region.binds .any e = true→e.on < i)
  (hg : ∀ (i : Nat) (o : Oper),ops[i]? = some o→o.guard = none)
  {α : Type} (H : α→(Nat→Bool)→World→Prop) (V : α→Nat→Value) (T : Nat→Nat) (m : Nat) (hsz : ops.size = m)
  (hinj : ∀ i j,i < m→j < m→T i = T j→i = j) (hT : ∀ i,i < m→T i < base.tmps.size) (N0 : α) (h0 : H N0 (fun _ => false) W0.drew)
  (hstep : ∀ (N : α) (d : Nat→Bool) (i : Nat) (o : Oper) (a : Act) (w : World) (K : Act→World→Prop),i < m→ops[i]? = some o→d i = false→Closed ops d→H N d w→(∀ t,(∀ j,j < m→t ≠ T j)→a.eval (.tmp t) = base.eval (.tmp t))→(∀ e ∈ o.after,Region.binds .any e = true→d e.on = true∧a.eval (.tmp (T e.on)) = V N e.on)→(∀ N' v w',v = V N' i→(∀ j,j < m→d j = true→V N' j = V N j)→H N' (came d i) w'→K (a.put (some (T i)) v) w')→o.wp P a w K Q)
  (hend : ∀ N d w,(∀ i,i < m→d i = true)→H N d w→Q .normal (putted base ((List.range m).map fun i => (T i,V N i))) w) :
  (Code.region id ops true).wp P Q base W0:=by
 have wpo : ∀ i o a w (K : Act→World→Prop),ops[i]? = some o→o.wp P a w K Q→wpOp P ops Q i K a w:=fun i o a w K ho h => by
  unfold wpOp
  simp only [ho,Region.wanted,hg i o ho,if_true]
  exact .inl h
 refine region_inv hm hlow (fun d a w => ∃ N,Named ops base H V T m d a w N) ?_ ?_ ?_
 ·exact ⟨N0,fun _ _ _ h => by simp at h,h0,rfl,rfl,fun _ _ => rfl,fun _ _ h => by simp at h⟩
 ·rintro d a w hd ⟨N,h⟩
  have ea : a = putted base ((List.range m).map fun i => (T i,V N i)):=by
   refine putted_eq _ base a h.defers h.size (fun p hp => ?_) (fun t ht => ?_)
   ·obtain ⟨i,hi,rfl⟩:=List.mem_map.1 hp
    have hi':=List.mem_range.1 hi
    exact slot_is (h.has i hi' (hd i (by omega))) (by rw [h.size]; exact hT i hi')
   ·refine h.rest t (fun j hj e => ?_)
    exact ht (T j,V N j) (List.mem_map.2 ⟨j,List.mem_range.2 hj,rfl⟩) e
  rw [ea]
  exact hend N d w (fun i hi => hd i (by omega)) h.mem
 ·rintro d i o a w ho hdi hdep ⟨N,h⟩
  refine wpo i o a w _ ho ?_
  have hi : i < m:=by rw [← hsz]; exact (Array.getElem?_eq_some_iff.1 ho).1
  refine hstep N d i o a w _ hi ho hdi h.down h.mem (fun t ht => rest_eval (h.rest t ht)) (fun ed he hb => ⟨hdep ed he hb,h.has _ (by have:=hlow i o ho ed he hb; omega) (hdep ed he hb)⟩) ?_
  rintro N' v w' rfl hV hH
  refine ⟨N',h.down.next ho hdep,hH,by rw [size_putted]; exact h.size,h.defers,fun t ht => ?_,fun j hj hd => ?_⟩
  ·rw [slot_put,if_neg (fun e => ht i hi e.symm)]; exact h.rest t ht
  ·by_cases e : j = i
   ·subst e
    exact at_eq a (T j) _ (by rw [h.size]; exact hT j hj)
   ·rw [came_ne d e] at hd
    rw [at_ne a (T i) (T j) _ (fun e2 => e (hinj j i hj hi e2)),h.has j hj hd]
    exact (hV j hj hd).symm
end Go.Proofs.YtloojmaamaambaaGreatDoor

namespace Go.Proofs.YtloojmaamaambaaGreatDoor
open Go.RowKit

structure NamedL {α : Type} (ops : Array Oper) (base : Act) (H : α→(Nat→Bool)→World→Prop) (V : α→Nat→Value) (T : Nat→Nat) (m : Nat) (d : Nat→Bool) (a : Act) (w : World) (N : α) : Prop where
 down : Closed ops d
 mem : H N d w
 size : a.tmps.size = base.tmps.size
 defers : a.defers = base.defers
 rest : ∀ t,(∀ j,j < m→d j = true→t ≠ T j)→a.tmps[t]? = base.tmps[t]?
 has : ∀ i,i < m→d i = true→a.eval (.tmp (T i)) = V N i

theorem region_namesL {P : Program} {id : Nat} {ops : Array Oper} {Q : Exit→Act→World→Prop} {base : Act} {W0 : World} (hm : P.follows .mixedOrders = true)
  (hlow : ∀ i o,ops[i]? = some o→∀ e ∈ o.after,Region.binds .any e = true→e.on < i)
  (hg : ∀ (i : Nat) (o : Oper),ops[i]? = some o→o.guard = none)
  {α : Type} (H : α→(Nat→Bool)→World→Prop) (V : α→Nat→Value) (T : Nat→Nat) (m : Nat) (hsz : ops.size = m)
  (hinj : ∀ i j,i < m→j < m→T i = T j→i = j) (hT : ∀ i,i < m→T i < base.tmps.size) (N0 : α) (h0 : H N0 (fun _ => false) W0.drew)
  (hstep : ∀ (N : α) (d : Nat→Bool) (i : Nat) (o : Oper) (a : Act) (w : World) (K : Act→World→Prop),i < m→ops[i]? = some o→d i = false→Closed ops d→H N d w→(∀ t,(∀ j,j < m→d j = true→t ≠ T j)→a.eval (.tmp t) = base.eval (.tmp t))→(∀ e ∈ o.after,Region.binds .any e = true→d e.on = true∧a.eval (.tmp (T e.on)) = V N e.on)→(∀ N' v w',v = V N' i→(∀ j,j < m→d j = true→V N' j = V N j)→H N' (came d i) w'→K (a.put (some (T i)) v) w')→o.wp P a w K Q)
  (hend : ∀ N d w,(∀ i,i < m→d i = true)→H N d w→Q .normal (putted base ((List.range m).map fun i => (T i,V N i))) w) :
  (Code.region id ops true).wp P Q base W0:=by
 have wpo : ∀ i o a w (K : Act→World→Prop),ops[i]? = some o→o.wp P a w K Q→wpOp P ops Q i K a w:=fun i o a w K ho h => by
  unfold wpOp
  simp only [ho,Region.wanted,hg i o ho,if_true]
  exact .inl h
 refine region_inv hm hlow (fun d a w => ∃ N,NamedL ops base H V T m d a w N) ?_ ?_ ?_
 ·exact ⟨N0,fun _ _ _ h => by simp at h,h0,rfl,rfl,fun _ _ => rfl,fun _ _ h => by simp at h⟩
 ·rintro d a w hd ⟨N,h⟩
  have ea : a = putted base ((List.range m).map fun i => (T i,V N i)):=by
   refine putted_eq _ base a h.defers h.size (fun p hp => ?_) (fun t ht => ?_)
   ·obtain ⟨i,hi,rfl⟩:=List.mem_map.1 hp
    have hi':=List.mem_range.1 hi
    exact slot_is (h.has i hi' (hd i (by omega))) (by rw [h.size]; exact hT i hi')
   ·refine h.rest t (fun j hj _ e => ?_)
    exact ht (T j,V N j) (List.mem_map.2 ⟨j,List.mem_range.2 hj,rfl⟩) e
  rw [ea]
  exact hend N d w (fun i hi => hd i (by omega)) h.mem
 ·rintro d i o a w ho hdi hdep ⟨N,h⟩
  refine wpo i o a w _ ho ?_
  have hi : i < m:=by rw [← hsz]; exact (Array.getElem?_eq_some_iff.1 ho).1
  refine hstep N d i o a w _ hi ho hdi h.down h.mem (fun t ht => rest_eval (h.rest t ht)) (fun ed he hb => ⟨hdep ed he hb,h.has _ (by have:=hlow i o ho ed he hb; omega) (hdep ed he hb)⟩) ?_
  rintro N' v w' rfl hV hH
  refine ⟨N',h.down.next ho hdep,hH,by rw [size_putted]; exact h.size,h.defers,fun t ht => ?_,fun j hj hd => ?_⟩
  ·rw [slot_put,if_neg (fun e => ht i hi (came_self d i) e.symm)]
   refine h.rest t (fun j hj hd => ht j hj ?_)
   by_cases e : j = i
   ·rw [e]; exact came_self d i
   ·rw [came_ne d e]; exact hd
  ·by_cases e : j = i
   ·subst e
    exact at_eq a (T j) _ (by rw [h.size]; exact hT j hj)
   ·rw [came_ne d e] at hd
    rw [at_ne a (T i) (T j) _ (fun e2 => e (hinj j i hj hi e2)),h.has j hj hd]
    exact (hV j hj hd).symm
end Go.Proofs.YtloojmaamaambaaGreatDoor
