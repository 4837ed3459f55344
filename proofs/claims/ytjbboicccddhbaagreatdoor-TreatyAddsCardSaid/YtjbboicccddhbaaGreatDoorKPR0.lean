/- Regions that draw their order: what holds ahead of each operation, whatever has come, holds of the region; two values made, two places made, each stored. -/
import Derived.Deep.RegionHeld
import Derived.RangeFuncCalls
import Derived.OrdersIn
import Derived.Laws.AppendOwn
import Derived.Test.YtjbboicccddhbaaGreatDoorKPN7
import Derived.Test.YtjbboicccddhbaaGreatDoorKPPf
namespace Go.Proofs.YtjbboicccddhbaaGreatDoor
open Go.RowKit

/-- what has come, and one more -/
def came (d : Nat→Bool) (i : Nat) : Nat→Bool:=fun j => if j = i then true else d j
theorem came_self (d : Nat→Bool) (i : Nat) : came d i i = true:=by simp [came]
theorem came_ne (d : Nat→Bool) {i j : Nat} (h : j ≠ i) : came d i j = d j:=by simp [came,h]

theorem region_inv {P : Program} {id : Nat} {ops : Array Oper} {Q : Exit→Act→World→Prop} {base : Act} {W0 : World} (hm : P.follows .mixedOrders = true)
  (hlow : ∀ i o,ops[i]? = some o→∀ e ∈ o.after,Region.binds .any e = true→e.on < i)
  (J : (Nat→Bool)→Act→World→Prop) (h0 : J (fun _ => false) base W0.drew)
  (hend : ∀ d a w,(∀ i,i < ops.size→d i = true)→J d a w→Q .normal a w)
  (hstep : ∀ d i o a w,ops[i]? = some o→d i = false→(∀ e ∈ o.after,Region.binds .any e = true→d e.on = true)→J d a w→wpOp P ops Q i (J (came d i)) a w) :
  (Code.region id ops true).wp P Q base W0:=by
 refine wp_region_any hm ?_
 show wpAny P .any ops Q ops.size (Array.replicate ops.size false) base W0.drew
 have none_ready : ∀ (l : Array Bool),l.toList.count false = 0→Region.ready .any ops l = []:=fun l hc => by
  refine List.eq_nil_iff_forall_not_mem.2 fun i hi => ?_
  obtain ⟨hf,o,ho,hd⟩:=mem_ready.1 hi
  rw [List.count_eq_zero] at hc
  rcases Nat.lt_or_ge i l.size with h1 | h1
  ·simp only [Array.getD_eq_getD_getElem?,Array.getElem?_eq_getElem h1,Option.getD_some] at hf
   exact hc (by rw [← hf]; exact Array.getElem_mem_toList h1)
  ·simp [Array.getElem?_eq_none h1] at hf
 have end_ : ∀ (l : Array Bool) a w,l.size = ops.size→J (fun i => l.getD i false) a w→Region.ready .any ops l = []→Q .normal a w:=fun l a w hs hJ hr => by
  refine hend _ a w (fun i => ?_) hJ
  induction i using Nat.strongRecOn with
  | _ i ih =>
   intro hi
   cases e : l.getD i false with
   | true => rfl
   | false =>
    exfalso
    have hmem : i ∈ Region.ready .any ops l:=mem_ready.2 ⟨by
     simp only [Array.getD_eq_getD_getElem?,Array.getElem?_eq_getElem (show i < l.size by omega),Option.getD_some] at e ⊢
     exact e,ops[i],Array.getElem?_eq_getElem hi,fun e he hb => by
      have hl:=hlow i ops[i] (Array.getElem?_eq_getElem hi) e he hb
      exact ih e.on hl (by omega)⟩
    rw [hr] at hmem
    simp at hmem
 have key : ∀ n (l : Array Bool) a w,l.size = ops.size∧l.toList.count false = n∧J (fun i => l.getD i false) a w→wpAny P .any ops Q n l a w:=by
  intro n
  induction n with
  | zero => rintro l a w ⟨hs,hc,hJ⟩; exact ⟨none_ready l hc,end_ l a w hs hJ (none_ready l hc)⟩
  | succ n ih =>
   rintro l a w ⟨hs,hc,hJ⟩
   refine ⟨end_ l a w hs hJ,fun i hi => ?_⟩
   obtain ⟨hf,o,ho,hd⟩:=mem_ready.1 hi
   have hlt : i < l.size:=by rw [hs]; exact (Array.getElem?_eq_some_iff.1 ho).1
   have hg : l[i] = false:=by simpa [hlt] using hf
   have hf' : l.getD i false = false:=by simp [hlt,hg]
   refine wpOp_mono (fun a' w' h' => ih _ a' w' ⟨by simp [hs],?_,?_⟩) (hstep _ i o a w ho hf' hd hJ)
   ·rw [Array.toList_setIfInBounds,List.count_set (by simpa using hlt)]
    simp [hg,hc]
   ·have e : (fun j => (l.setIfInBounds i true).getD j false) = came (fun j => l.getD j false) i:=funext fun j => by
     by_cases hj : j = i
     ·subst hj; simp [came,hlt]
     ·simp [came,hj,Array.getElem?_setIfInBounds_ne (Ne.symm hj)]
    rw [e]; exact h'
 exact key _ _ _ _ ⟨by simp,by simp,by
  have e : (fun i => (Array.replicate ops.size false).getD i false) = fun _ => false:=funext fun i => by
   simp only [Array.getD_eq_getD_getElem?,Array.getElem?_replicate]
   split <;> rfl
  rw [e]; exact h0⟩

theorem at_ne (a : Act) (d t : Nat) (v : Value) (h : t ≠ d) : (a.put (some d) v).eval (.tmp t) = a.eval (.tmp t):=by
 show (a.tmps.setIfInBounds d v).getD t undef = a.tmps.getD t undef
 simp only [Array.getD_eq_getD_getElem?,Array.getElem?_setIfInBounds_ne (Ne.symm h)]
theorem at_eq (a : Act) (d : Nat) (v : Value) (h : d < a.tmps.size) : (a.put (some d) v).eval (.tmp d) = v:=by
 show (a.tmps.setIfInBounds d v).getD d undef = v
 simp [h]
theorem slot_is {a : Act} {t : Nat} {v : Value} (h : a.eval (.tmp t) = v) (hs : t < a.tmps.size) : a.tmps[t]? = some v:=by
 have e : a.tmps.getD t undef = v:=h
 rw [Array.getD_eq_getD_getElem?,Array.getElem?_eq_getElem hs] at e
 rw [Array.getElem?_eq_getElem hs]
 exact congrArg some e
theorem slot_put (a : Act) (d t : Nat) (v : Value) : (a.put (some d) v).tmps[t]? = if d = t then (if d < a.tmps.size then some v else none) else a.tmps[t]?:=by
 show (a.tmps.setIfInBounds d v)[t]? = _
 rw [Array.getElem?_setIfInBounds]
theorem size_putted (a : Act) (d : Nat) (v : Value) : (a.put (some d) v).tmps.size = a.tmps.size:=by
 show (a.tmps.setIfInBounds d v).size = a.tmps.size
 simp
/-- values put into slots, one after the other -/
def putted (base : Act) (ps : List (Nat × Value)) : Act:=ps.foldl (fun b p => b.put (some p.1) p.2) base
theorem putted_eq : ∀ (ps : List (Nat × Value)) (base a : Act),a.defers = base.defers→a.tmps.size = base.tmps.size→(∀ p ∈ ps,a.tmps[p.1]? = some p.2)→(∀ t,(∀ p ∈ ps,t ≠ p.1)→a.tmps[t]? = base.tmps[t]?)→a = putted base ps
 | [],base,a,h1,_,_,h4 => by
  cases a
  cases base
  simp only at h1 h4
  show Act.mk _ _ = Act.mk _ _
  rw [Array.ext_getElem? (fun t => h4 t (fun p hp => by simp at hp)),h1]
 | (d,v) :: ps,base,a,h1,h2,h3,h4 => by
  have hd:=h3 (d,v) (by simp)
  simp only at hd
  have hlt : d < base.tmps.size:=by
   rw [← h2]
   exact (Array.getElem?_eq_some_iff.1 hd).1
  refine putted_eq ps (base.put (some d) v) a h1 (by rw [size_putted]; exact h2) (fun p hp => h3 p (by simp [hp])) (fun t ht => ?_)
  rw [slot_put]
  by_cases e : d = t
  ·subst e
   rw [if_pos rfl,if_pos hlt]
   exact hd
  ·rw [if_neg e]
   refine h4 t (fun p hp => ?_)
   rcases List.mem_cons.1 hp with rfl | hp
   ·exact Ne.symm e
   ·exact ht p hp

theorem rest_eval {base a : Act} {t : Nat} (h : a.tmps[t]? = base.tmps[t]?) : a.eval (.tmp t) = base.eval (.tmp t):=by
 show a.tmps.getD t undef = base.tmps.getD t undef
 simp only [Array.getD_eq_getD_getElem?,h]
end Go.Proofs.YtjbboicccddhbaaGreatDoor

namespace Go.Proofs.YtjbboicccddhbaaGreatDoor
open Go.RowKit

theorem wp_value {P : Program} {Q : Exit→Act→World→Prop} {K : Act→World→Prop} {a : Act} {w w' : World} {o : Oper} {v : Value} (hr : (execOp a.eval o).run P w = .ok (.value v) w') (h : K (a.put o.dst v) w') : o.wp P a w K Q:=by
 unfold Oper.wp
 rw [hr]
 exact h
theorem wp_skipped {P : Program} {Q : Exit→Act→World→Prop} {K : Act→World→Prop} {a : Act} {w w' : World} {o : Oper} (hr : (execOp a.eval o).run P w = .ok .skip w') (h : K (a.put o.dst undef) w') : o.wp P a w K Q:=by
 unfold Oper.wp
 rw [hr]
 exact h
theorem wp_enter {P : Program} {Q : Exit→Act→World→Prop} {K : Act→World→Prop} {a : Act} {w : World} {o : Oper} {f : FuncId} {args : Array Value} (hr : (execOp a.eval o).run P w = .ok (.enter f args) w) {R : World→Value→Prop} (hc : Calls P f args w fun e w' => ∃ v,e = .returned v∧R w' v) (h : ∀ v w',R w' v→K (a.put o.dst v) w') : o.wp P a w K Q:=by
 unfold Oper.wp
 rw [hr]
 refine hc.mono ?_
 rintro e w' ⟨v,rfl,hv⟩
 exact h v w' hv
end Go.Proofs.YtjbboicccddhbaaGreatDoor

namespace Go.Proofs.YtjbboicccddhbaaGreatDoor
open Go.RowKit

/-- each operation that binds another stands behind it -/
def lowOps (ops : Array Oper) : Bool:=(List.range ops.size).all fun i => match ops[i]? with
 | some o => o.after.all fun e => !(Region.binds .any e) || decide (e.on < i)
 | none => true
theorem low_of {ops : Array Oper} (h : lowOps ops = true) : ∀ i o,ops[i]? = some o→∀ e ∈ o.after,Region.binds .any e = true→e.on < i:=fun i o ho e he hb => by
 have hi : i < ops.size:=(Array.getElem?_eq_some_iff.1 ho).1
 unfold lowOps at h
 rw [List.all_eq_true] at h
 have h1:=h i (List.mem_range.2 hi)
 simp only [ho] at h1
 rw [Array.all_eq_true_iff_forall_mem] at h1
 have h2:=h1 e he
 simpa [hb] using h2
def depOps (ops : Array Oper) (ps : List (Nat × Nat)) : Bool:=ps.all fun p => match ops[p.1]? with
 | some o => o.after.any fun e => Region.binds .any e && e.on == p.2
 | none => false
theorem dep_of {ops : Array Oper} {ps : List (Nat × Nat)} (h : depOps ops ps = true) : ∀ i j,(i,j) ∈ ps→∃ o,ops[i]? = some o∧∃ e ∈ o.after,Region.binds .any e = true∧e.on = j:=fun i j hij => by
 unfold depOps at h
 rw [List.all_eq_true] at h
 have h1:=h (i,j) hij
 cases ho : ops[i]? with
 | none => simp [ho] at h1
 | some o =>
  simp only [ho] at h1
  rw [Array.any_eq_true] at h1
  obtain ⟨k,hk,h2⟩:=h1
  simp only [Bool.and_eq_true,beq_iff_eq] at h2
  exact ⟨o,rfl,o.after[k],Array.getElem_mem hk,h2.1,h2.2⟩

end Go.Proofs.YtjbboicccddhbaaGreatDoor

namespace Go.Proofs.YtjbboicccddhbaaGreatDoor
open Go.RowKit

/-- the value v is the fraction f: of words, where words do, else a pair of numbers in memory -/
def FracAt (w : World) (v : Value) (f : Rat) : Prop :=
 (f.num.natAbs < 18446744073709551616∧f.den < 18446744073709551616∧v = .agg #[.bool (decide (f.num < 0)),.int .u64 (f.num.natAbs : Int),.int .u64 ((f.den : Int) - 1),.pointer none]) ∨
 ((18446744073709551616 ≤ f.num.natAbs ∨ 18446744073709551616 ≤ f.den)∧∃ b v1 v2,v = .agg #[.bool (decide (f.num < 0)),.int .u64 0,.int .u64 0,.pointer (some ⟨b,0,none⟩)]∧w.cell? ⟨b,0,none⟩ = some v1∧w.cell? ⟨b,1,none⟩ = some v2∧Sl .u64 w v1 (wd 18446744073709551616 f.num.natAbs)∧Sl .u64 w v2 (wd 18446744073709551616 f.den))
theorem FracAt.but {w w' : World} {v : Value} {f : Rat} (h : FracAt w v f) (hb : But [] w w') : FracAt w' v f:=by
 rcases h with h | ⟨h1,b,v1,v2,h2,h3,h4,h5,h6⟩
 ·exact .inl h
 ·exact .inr ⟨h1,b,v1,v2,h2,hb.cell_some h3 (by simp),hb.cell_some h4 (by simp),h5.but_nil hb,h6.but_nil hb⟩
/-- a fraction stays where a place turns that has a Boolean first: no number and no pair of numbers lies there -/
theorem FracAt.over {w W : World} {v : Value} {f : Rat} (h : FracAt w v f) {g : Nat} {s : Bool} (c0 : w.cell? ⟨g,0,none⟩ = some (.bool s)) (hb : But [g] w W) : FracAt W v f:=by
 rcases h with h1 | ⟨h1,b,v1,v2,h2,h3,h4,h5,h6⟩
 ·exact .inl h1
 ·have hbg : b ≠ g:=by
   rintro rfl
   obtain ⟨a,cap,rfl,-⟩:=h5
   rw [c0] at h3
   simp at h3
  exact .inr ⟨h1,b,v1,v2,h2,hb.cell_some h3 (by simpa using hbg),hb.cell_some h4 (by simpa using hbg),h5.over hb c0 (by simp),h6.over hb c0 (by simp)⟩
/-- how many words the numbers of a fraction have, at most -/
def Len (f : Rat) (n : Nat) : Prop:=(wd 18446744073709551616 f.num.natAbs).length ≤ n∧(wd 18446744073709551616 f.den).length ≤ n
theorem den_pos (f : Rat) : 0 < f.den:=Nat.pos_of_ne_zero f.den_nz

set_option maxHeartbeats 4000000 in
set_option maxRecDepth 100000 in
theorem numbers_any (v : Value) (f : Rat) (w : World) (hf : FracAt w v f) :
  Calls Tryz.prog 46 #[v] w fun e w' => ∃ v1 v2,e = .returned (.tuple #[v1,v2])∧Sl .u64 w' v1 (wd 18446744073709551616 f.num.natAbs)∧Sl .u64 w' v2 (wd 18446744073709551616 f.den)∧But [] w w':=by
 rcases hf with ⟨hp,hq,rfl⟩ | ⟨-,b,v1,v2,rfl,hc0,hc1,hs1,hs2⟩
 ·have hq0:=den_pos f
  generalize decide (f.num < 0) = s
  generalize f.num.natAbs = p at *
  generalize f.den = q at *
  go_enter Tryz.func46,Tryz.ntmps46
  go_wp2
  obtain ⟨W,hW⟩ : ∃ W,W = w.alloc (.cells #[.bool s,.int .u64 (p : Int),.int .u64 ((q : Int) - 1),.pointer none] 27):=⟨_,rfl⟩
  have c0 : W.cell? ⟨w.heap.size,0,none⟩ = some (.bool s):=by rw [hW]; simp
  have c1 : W.cell? ⟨w.heap.size,1,none⟩ = some (.int .u64 (p : Int)):=by rw [hW]; simp
  have c2 : W.cell? ⟨w.heap.size,2,none⟩ = some (.int .u64 ((q : Int) - 1)):=by rw [hW]; simp
  have c3 : W.cell? ⟨w.heap.size,3,none⟩ = some (.pointer none):=by rw [hW]; simp
  have hB : But [] w W:=by rw [hW]; exact (But.refl _ _).alloc _
  rw [← hW]
  clear hW
  generalize w.heap.size = g at *
  go_region_held (fun w' => w'.cell? ⟨g,0,none⟩ = some (.bool s)∧w'.cell? ⟨g,1,none⟩ = some (.int .u64 (p : Int))∧w'.cell? ⟨g,2,none⟩ = some (.int .u64 ((q : Int) - 1))∧w'.cell? ⟨g,3,none⟩ = some (.pointer none)) (go_keep) (first
   | (go_at_call_of 92 (Value.int IntKind.u64 (p : Int)); refine (natOf_any p hp _).mono ?_; rintro e w1 ⟨v1,rfl,hv1,hb1,-⟩; have B1 : But [] W w1:=(by first | exact hb1 | exact (But.refl _ _).drew.trans' hb1); have k0:=B1.cell_some c0 (by simp); have k1:=B1.cell_some c1 (by simp); have k2:=B1.cell_some c2 (by simp); have k3:=B1.cell_some c3 (by simp))
   | (go_at_call 93; refine (under_any s p q hq hq0 _).mono ?_; rintro e w2 ⟨rfl,hb2⟩; have B2 : But [] W w2:=B1.trans' hb2; have l0:=B2.cell_some c0 (by simp); have l1:=B2.cell_some c1 (by simp); have l2:=B2.cell_some c2 (by simp); have l3:=B2.cell_some c3 (by simp))
   | (go_at_call_of 92 (Value.int IntKind.u64 (q : Int)); refine (natOf_any q hq _).mono ?_; rintro e w3 ⟨v3,rfl,hv3,hb3,-⟩; have B3 : But [] W w3:=B2.trans' hb3; have m0:=B3.cell_some c0 (by simp); have m1:=B3.cell_some c1 (by simp); have m2:=B3.cell_some c2 (by simp); have m3:=B3.cell_some c3 (by simp)))
  all_goals go_wp2
  all_goals go_ret2
  all_goals exact ⟨v1,v3,rfl,(hv1.but_nil hb2).but_nil hb3,hv3,hB.trans' B3⟩
 ·have hbl : b < w.heap.size:=lt_of_cell hc0
  have HS:=hide (And.intro hs1 hs2)
  clear hs1 hs2
  generalize decide (f.num < 0) = s
  go_enter Tryz.func46,Tryz.ntmps46
  go_wp2
  obtain ⟨W,hW⟩ : ∃ W,W = w.alloc (.cells #[.bool s,.int .u64 0,.int .u64 0,.pointer (some ⟨b,0,none⟩)] 27):=⟨_,rfl⟩
  have HB : Hid (But [] w W):=by show But _ _ _; rw [hW]; exact (But.refl _ _).alloc _
  have c3 : W.cell? ⟨w.heap.size,3,none⟩ = some (.pointer (some ⟨b,0,none⟩)):=by rw [hW]; simp
  have d0:=(unhide HB).cell_some hc0 (by simp)
  have d1:=(unhide HB).cell_some hc1 (by simp)
  rw [← hW]
  clear hW hc0 hc1
  generalize w.heap.size = g at *
  go_quiet (fail)
  go_wp2
  go_ret2
  exact ⟨v1,v2,rfl,(unhide HS).1.but_nil ((unhide HB).drewN nq),(unhide HS).2.but_nil ((unhide HB).drewN nq),(unhide HB).drewN nq⟩

theorem sgn_neg (s : Bool) (m : Nat) : decide (sgn s m < 0) = (s && decide (m ≠ 0)):=by
 cases s
 ·have h1 : ¬ ((m : Int) < 0):=by omega
  simp [sgn,h1]
 ·by_cases h0 : m = 0
  ·subst h0; rfl
  ·have h1 : -(m : Int) < 0:=by omega
   have h2 : 0 < m:=by omega
   simp [sgn,h0,h2]

set_option maxHeartbeats 4000000 in
set_option maxRecDepth 100000 in
theorem ofLowered_any (s : Bool) (v1 v2 : Value) (f : Rat) (w : World) (h1 : Sl .u64 w v1 (wd 18446744073709551616 f.num.natAbs)) (h2 : Sl .u64 w v2 (wd 18446744073709551616 f.den)) (hs : f.num = sgn s f.num.natAbs) (hl1 : (wd 18446744073709551616 f.num.natAbs).length < 2147483648) (hl2 : (wd 18446744073709551616 f.den).length < 2147483648) :
  Calls Tryz.prog 54 #[.bool s,v1,v2] w fun e w' => ∃ v,e = .returned v∧FracAt w' v f∧But [] w w':=by
 have hsg : decide (f.num < 0) = (s && decide (f.num.natAbs ≠ 0)):=by rw [hs,sgn_abs]; exact sgn_neg _ _
 have hq0:=den_pos f
 have hle0 : w.heap.size ≤ w.heap.size:=Nat.le_refl _
 obtain ⟨W0,hW0⟩ : ∃ W0,W0 = w.alloc (.cells #[.bool false,.int .u64 0,.int .u64 0,.pointer none] 27):=⟨_,rfl⟩
 have hB0 : But [] w W0:=by rw [hW0]; exact (But.refl _ _).alloc _
 have c0 : W0.cell? ⟨w.heap.size,0,none⟩ = some (.bool false):=by rw [hW0]; simp
 have c1 : W0.cell? ⟨w.heap.size,1,none⟩ = some (.int .u64 0):=by rw [hW0]; simp
 have c2 : W0.cell? ⟨w.heap.size,2,none⟩ = some (.int .u64 0):=by rw [hW0]; simp
 have c3 : W0.cell? ⟨w.heap.size,3,none⟩ = some (.pointer none):=by rw [hW0]; simp
 have fz : ∀ j,W0.frozen? ⟨w.heap.size,j,none⟩ = false:=by intro j; rw [hW0]; simp
 have hgs : w.heap.size < W0.heap.size:=by rw [hW0]; simp
 have h1':=h1.but_nil hB0
 have h2':=h2.but_nil hB0
 have HW0:=hide hW0
 have HB0:=hide hB0
 clear hW0 hB0 hle0
 by_cases hb : f.num.natAbs < 18446744073709551616∧f.den < 18446744073709551616
 ·obtain ⟨hp,hq⟩:=hb
  have HW1:=hide (natWord_any v1 f.num.natAbs hp W0 h1')
  have HW2:=hide (natWord_any v2 f.den hq W0 h2')
  have HO:=hide (ofWords_any s f.num.natAbs f.den hp hq hq0 (decide (f.num < 0)) hsg W0)
  have FIN : Hid (∀ W,FracAt W (.agg #[.bool (decide (f.num < 0)),.int .u64 (f.num.natAbs : Int),.int .u64 ((f.den : Int) - 1),.pointer none]) f):=fun W => .inl ⟨hp,hq,rfl⟩
  obtain ⟨a1,d1,rfl,-,-⟩:=h1
  obtain ⟨a2,d2,rfl,-,-⟩:=h2
  clear hs hsg h1' h2'
  generalize (wd 18446744073709551616 f.num.natAbs).length = n1 at *
  generalize (wd 18446744073709551616 f.den).length = n2 at *
  generalize decide (f.num < 0) = r at *
  generalize f.num.natAbs = p at *
  generalize hqq : f.den = q at *
  clear hqq
  go_enter Tryz.func54,Tryz.ntmps54
  go_wp2_with fail
  rw [← unhide HW0]
  obtain ⟨g,hg⟩ : ∃ g,g = w.heap.size:=⟨_,rfl⟩
  rw [← hg] at c0 c1 c2 c3 fz hgs
  rw [← hg]
  have HG : Hid (w.heap.size ≤ g):=Nat.le_of_eq hg.symm
  clear hg HW0
  refine (unhide HW1).mono ?_
  rintro e w1 ⟨rfl,hw⟩
  obtain rfl:=hw.symm
  clear hw
  go_wp2_with fail
  refine (unhide HW2).mono ?_
  rintro e w1 ⟨rfl,hw⟩
  obtain rfl:=hw.symm
  clear hw
  go_wp2_with fail
  refine (unhide HO).mono ?_
  rintro e w1 ⟨rfl,hb1⟩
  have k0:=hb1.cell_some c0 (by simp)
  have k1:=hb1.cell_some c1 (by simp)
  have k2:=hb1.cell_some c2 (by simp)
  have k3:=hb1.cell_some c3 (by simp)
  have kf : ∀ j,w1.frozen? ⟨g,j,none⟩ = false:=fun j => (hb1.frozen (p:=⟨g,j,none⟩) hgs (by simp)).trans (fz j)
  have HB1:=hide ((unhide HB0).trans' hb1)
  clear hb1 c0 c1 c2 c3 fz
  go_wp2
  refine bodyPost_ret (v:=.agg #[.bool r,.int .u64 (p : Int),.int .u64 ((q : Int) - 1),.pointer none]) (by simp [results,Tryz.results54,go_sem,k0,k1,k2,k3]) rfl ⟨_,rfl,unhide FIN _,?_⟩
  exact ((((unhide HB1).setCell (.inr (unhide HG)) _).setCell (.inr (unhide HG)) _).setCell (.inr (unhide HG)) _).setCell (.inr (unhide HG)) _
 ·have hbig : 18446744073709551616 ≤ f.num.natAbs ∨ 18446744073709551616 ≤ f.den:=by omega
  have hr : decide (f.num < 0) = s:=by
   rw [hsg]
   have hn0 : f.num.natAbs ≠ 0:=by
    intro e0
    have e1:=f.reduced
    rw [e0,Nat.coprime_zero_left] at e1
    omega
   simp [hn0]
  have H1:=hide h1
  have H2:=hide h2
  have HWS : Hid ((f.num.natAbs < 18446744073709551616∧Calls Tryz.prog 94 #[v1] W0 (fun e w' => e = .returned (.tuple #[.int .u64 (f.num.natAbs : Int),.bool true])∧w' = W0)∧Calls Tryz.prog 94 #[v2] W0 (fun e w' => e = .returned (.tuple #[.int .u64 0,.bool false])∧w' = W0)) ∨ (∃ (x : Nat) (t : Bool),Calls Tryz.prog 94 #[v1] W0 (fun e w' => e = .returned (.tuple #[.int .u64 0,.bool false])∧w' = W0)∧Calls Tryz.prog 94 #[v2] W0 (fun e w' => e = .returned (.tuple #[.int .u64 (x : Int),.bool t])∧w' = W0))):=by
   rcases Nat.lt_or_ge f.num.natAbs 18446744073709551616 with hp | hp
   ·exact .inl ⟨hp,natWord_any v1 _ hp W0 h1',natWord_long v2 _ (by omega) W0 h2' hl2⟩
   ·rcases Nat.lt_or_ge f.den 18446744073709551616 with hq | hq
    ·exact .inr ⟨f.den,true,natWord_long v1 _ hp W0 h1' hl1,natWord_any v2 _ hq W0 h2'⟩
    ·exact .inr ⟨0,false,natWord_long v1 _ hp W0 h1' hl1,natWord_long v2 _ hq W0 h2' hl2⟩
  obtain ⟨a1,d1,rfl,-,-⟩:=h1
  obtain ⟨a2,d2,rfl,-,-⟩:=h2
  have FIN : Hid (∀ W b v1 v2,W.cell? ⟨b,0,none⟩ = some v1→W.cell? ⟨b,1,none⟩ = some v2→Sl .u64 W v1 (wd 18446744073709551616 f.num.natAbs)→Sl .u64 W v2 (wd 18446744073709551616 f.den)→FracAt W (.agg #[.bool s,.int .u64 0,.int .u64 0,.pointer (some ⟨b,0,none⟩)]) f):=fun W b v1 v2 e1 e2 e3 e4 => .inr ⟨hbig,b,v1,v2,by rw [hr],e1,e2,e3,e4⟩
  clear hs hsg h1' h2' hr hb hbig
  generalize (wd 18446744073709551616 f.num.natAbs).length = n1 at *
  generalize (wd 18446744073709551616 f.den).length = n2 at *
  rcases unhide HWS with ⟨-,w1c,w2c⟩ | ⟨x,t,w1c,w2c⟩
  all_goals
   have HW1:=hide w1c
   have HW2:=hide w2c
   clear w1c w2c HWS
   go_enter Tryz.func54,Tryz.ntmps54
   go_wp2_with fail
   rw [← unhide HW0]
   obtain ⟨g,hg⟩ : ∃ g,g = w.heap.size:=⟨_,rfl⟩
   rw [← hg] at c0 c1 c2 c3 fz hgs
   rw [← hg]
   have HG : Hid (w.heap.size ≤ g):=Nat.le_of_eq hg.symm
   clear hg HW0
   refine (unhide HW1).mono ?_
   rintro e w1 ⟨rfl,hw⟩
   obtain rfl:=hw.symm
   clear hw
   go_wp2_with fail
   refine (unhide HW2).mono ?_
   rintro e w1 ⟨rfl,hw⟩
   obtain rfl:=hw.symm
   clear hw
   go_wp2
   have hBf:=(((((unhide HB0).setCell (p:=⟨g,0,none⟩) (.inr (unhide HG)) (.bool s)).setCell (p:=⟨g,1,none⟩) (.inr (unhide HG)) (.int .u64 0)).setCell (p:=⟨g,2,none⟩) (.inr (unhide HG)) (.int .u64 0)).setCell (p:=⟨g,3,none⟩) (.inr (unhide HG)) (.pointer (some ⟨W0.heap.size,0,none⟩))).alloc (.cells #[.slice a1 n1 d1,.slice a2 n2 d2] 151)
   refine bodyPost_ret (v:=.agg #[.bool s,.int .u64 0,.int .u64 0,.pointer (some ⟨W0.heap.size,0,none⟩)]) (by simp [results,Tryz.results54,go_sem,c0,c1,c2,c3,hgs]) rfl ⟨_,rfl,unhide FIN _ W0.heap.size (.slice a1 n1 d1) (.slice a2 n2 d2) ?_ ?_ ((unhide H1).but_nil hBf) ((unhide H2).but_nil hBf),hBf⟩
   ·have:=World.cell?_alloc_new ((((W0.setCell ⟨g,0,none⟩ (.bool s)).setCell ⟨g,1,none⟩ (.int .u64 0)).setCell ⟨g,2,none⟩ (.int .u64 0)).setCell ⟨g,3,none⟩ (.pointer (some ⟨W0.heap.size,0,none⟩))) #[.slice a1 n1 d1,.slice a2 n2 d2] 151 0
    simpa using this
   ·have:=World.cell?_alloc_new ((((W0.setCell ⟨g,0,none⟩ (.bool s)).setCell ⟨g,1,none⟩ (.int .u64 0)).setCell ⟨g,2,none⟩ (.int .u64 0)).setCell ⟨g,3,none⟩ (.pointer (some ⟨W0.heap.size,0,none⟩))) #[.slice a1 n1 d1,.slice a2 n2 d2] 151 1
    simpa using this
end Go.Proofs.YtjbboicccddhbaaGreatDoor

namespace Go.Proofs.YtjbboicccddhbaaGreatDoor
open Go.RowKit

/-- a fraction's four parts lie at a block, from an offset on -/
def P4o (w : World) (b o : Nat) (s : Bool) (x y : Int) (p : Option Addr) : Prop:=w.cell? ⟨b,o,none⟩ = some (.bool s)∧w.cell? ⟨b,o + 1,none⟩ = some (.int .u64 x)∧w.cell? ⟨b,o + 2,none⟩ = some (.int .u64 y)∧w.cell? ⟨b,o + 3,none⟩ = some (.pointer p)
theorem P4o.but {w w' : World} {b o : Nat} {s : Bool} {x y : Int} {p : Option Addr} {l : List Nat} (h : P4o w b o s x y p) (hb : But l w w') (hn : b ∉ l) : P4o w' b o s x y p:=⟨hb.cell_some h.1 hn,hb.cell_some h.2.1 hn,hb.cell_some h.2.2.1 hn,hb.cell_some h.2.2.2 hn⟩
end Go.Proofs.YtjbboicccddhbaaGreatDoor

namespace Go.Proofs.YtjbboicccddhbaaGreatDoor
open Go.RowKit

/-- no operation has a test -/
def bareOps (ops : Array Oper) : Bool:=(List.range ops.size).all fun i => match ops[i]? with
 | some o => o.guard.isNone
 | none => true
theorem bare_of {ops : Array Oper} (h : bareOps ops = true) : ∀ (i : Nat) (o : Oper),ops[i]? = some o→o.guard = none:=fun i o ho => by
 have hi : i < ops.size:=(Array.getElem?_eq_some_iff.1 ho).1
 unfold bareOps at h
 rw [List.all_eq_true] at h
 have h1:=h i (List.mem_range.2 hi)
 simp only [ho] at h1
 simpa using h1
theorem dep_is {ops : Array Oper} {ps : List (Nat × Nat)} (h : depOps ops ps = true) {i : Nat} {o : Oper} (ho : ops[i]? = some o) (R : Nat→Prop) (hdep : ∀ e ∈ o.after,Region.binds .any e = true→R e.on) (j : Nat) (hij : (i,j) ∈ ps) : R j:=by
 obtain ⟨o',ho',e,he,hb,rfl⟩:=dep_of h i j hij
 rw [ho] at ho'
 obtain rfl:=Option.some.inj ho'
 exact hdep e he hb
/-- what has come has come behind all that it waits for -/
def Closed (ops : Array Oper) (d : Nat→Bool) : Prop:=∀ i o,ops[i]? = some o→d i = true→∀ e ∈ o.after,Region.binds .any e = true→d e.on = true
theorem Closed.dep {ops : Array Oper} {d : Nat→Bool} (h : Closed ops d) {ps : List (Nat × Nat)} (hp : depOps ops ps = true) {i j : Nat} (hij : (i,j) ∈ ps) (hd : d i = true) : d j = true:=by
 obtain ⟨o,ho,e,he,hb,rfl⟩:=dep_of hp i j hij
 exact h i o ho hd e he hb
theorem Closed.not {ops : Array Oper} {d : Nat→Bool} (h : Closed ops d) {ps : List (Nat × Nat)} (hp : depOps ops ps = true) {i j : Nat} (hij : (i,j) ∈ ps) (hd : d j = false) : d i = false:=by
 cases e : d i with
 | false => rfl
 | true => rw [h.dep hp hij e] at hd; simp at hd
theorem Closed.next {ops : Array Oper} {d : Nat→Bool} (h : Closed ops d) {i : Nat} {o : Oper} (ho : ops[i]? = some o) (hdep : ∀ e ∈ o.after,Region.binds .any e = true→d e.on = true) : Closed ops (came d i):=fun j oj hj hd e he hbi => by
 by_cases e1 : e.on = i
 ·rw [e1]; exact came_self d i
 ·rw [came_ne d e1]
  by_cases e2 : j = i
  ·subst e2
   rw [ho] at hj
   obtain rfl:=Option.some.inj hj
   exact hdep e he hbi
  ·rw [came_ne d e2] at hd
   exact h j oj hj hd e he hbi

end Go.Proofs.YtjbboicccddhbaaGreatDoor

namespace Go.Proofs.YtjbboicccddhbaaGreatDoor
open Go.RowKit

structure NamedS {α : Type} (ops : Array Oper) (base : Act) (H : α→(Nat→Bool)→World→Prop) (V : α→Nat→Value) (T : Nat→Nat) (wr : Nat→Bool) (m : Nat) (d : Nat→Bool) (a : Act) (w : World) (N : α) : Prop where
 down : Closed ops d
 mem : H N d w
 size : a.tmps.size = base.tmps.size
 defers : a.defers = base.defers
 rest : ∀ t,(∀ j,j < m→wr j = true→d j = true→t ≠ T j)→a.tmps[t]? = base.tmps[t]?
 has : ∀ i,i < m→wr i = true→d i = true→a.eval (.tmp (T i)) = V N i
theorem region_all {P : Program} {id : Nat} {ops : Array Oper} {Q : Exit→Act→World→Prop} {base : Act} {W0 : World} (hm : P.follows .mixedOrders = true)
  (hlow : ∀ i o,ops[i]? = some o→∀ e ∈ o.after,Region.binds .any e = true→e.on < i)
  (hg : ∀ (i : Nat) (o : Oper),ops[i]? = some o→o.guard = none)
  {α : Type} (H : α→(Nat→Bool)→World→Prop) (V : α→Nat→Value) (T : Nat→Nat) (wr : Nat→Bool) (m : Nat) (hsz : ops.size = m)
  (hinj : ∀ i j,i < m→j < m→wr i = true→wr j = true→T i = T j→i = j) (hT : ∀ i,i < m→wr i = true→T i < base.tmps.size) (N0 : α) (h0 : H N0 (fun _ => false) W0.drew)
  (hstep : ∀ (N : α) (d : Nat→Bool) (i : Nat) (o : Oper) (a : Act) (w : World) (K : Act→World→Prop),i < m→ops[i]? = some o→d i = false→Closed ops d→H N d w→(∀ t,(∀ j,j < m→wr j = true→d j = true→t ≠ T j)→a.eval (.tmp t) = base.eval (.tmp t))→(∀ e ∈ o.after,Region.binds .any e = true→d e.on = true∧(wr e.on = true→a.eval (.tmp (T e.on)) = V N e.on))→(∀ N' v w',(wr i = true→v = V N' i)→(∀ j,j < m→wr j = true→d j = true→V N' j = V N j)→H N' (came d i) w'→K (a.put (if wr i = true then some (T i) else none) v) w')→o.wp P a w K Q)
  (hend : ∀ N d w,(∀ i,i < m→d i = true)→H N d w→Q .normal (putted base (((List.range m).filter wr).map fun i => (T i,V N i))) w) :
  (Code.region id ops true).wp P Q base W0:=by
 have wpo : ∀ i o a w (K : Act→World→Prop),ops[i]? = some o→o.wp P a w K Q→wpOp P ops Q i K a w:=fun i o a w K ho h => by
  unfold wpOp
  simp only [ho,Region.wanted,hg i o ho,if_true]
  exact .inl h
 refine region_inv hm hlow (fun d a w => ∃ N,NamedS ops base H V T wr m d a w N) ?_ ?_ ?_
 ·exact ⟨N0,fun _ _ _ h => by simp at h,h0,rfl,rfl,fun _ _ => rfl,fun _ _ _ h => by simp at h⟩
 ·rintro d a w hd ⟨N,h⟩
  have ea : a = putted base (((List.range m).filter wr).map fun i => (T i,V N i)):=by
   refine putted_eq _ base a h.defers h.size (fun p hp => ?_) (fun t ht => ?_)
   ·obtain ⟨i,hi,rfl⟩:=List.mem_map.1 hp
    obtain ⟨hi1,hi2⟩:=List.mem_filter.1 hi
    have hi':=List.mem_range.1 hi1
    exact slot_is (h.has i hi' hi2 (hd i (by omega))) (by rw [h.size]; exact hT i hi' hi2)
   ·refine h.rest t (fun j hj hw hdj e => ?_)
    exact ht (T j,V N j) (List.mem_map.2 ⟨j,List.mem_filter.2 ⟨List.mem_range.2 hj,hw⟩,rfl⟩) e
  rw [ea]
  exact hend N d w (fun i hi => hd i (by omega)) h.mem
 ·rintro d i o a w ho hdi hdep ⟨N,h⟩
  refine wpo i o a w _ ho ?_
  have hi : i < m:=by rw [← hsz]; exact (Array.getElem?_eq_some_iff.1 ho).1
  refine hstep N d i o a w _ hi ho hdi h.down h.mem (fun t ht => rest_eval (h.rest t ht)) (fun ed he hb => ⟨hdep ed he hb,fun hw => h.has _ (by have:=hlow i o ho ed he hb; omega) hw (hdep ed he hb)⟩) ?_
  rintro N' v w' hv hV hH
  by_cases hw : wr i = true
  ·obtain rfl:=hv hw
   rw [if_pos hw]
   refine ⟨N',h.down.next ho hdep,hH,by rw [size_putted]; exact h.size,h.defers,fun t ht => ?_,fun j hj hwj hd => ?_⟩
   ·rw [slot_put,if_neg (fun e => ht i hi hw (came_self d i) e.symm)]
    refine h.rest t (fun j hj hwj hdj => ht j hj hwj ?_)
    by_cases e : j = i
    ·subst e; exact came_self d j
    ·rw [came_ne d e]; exact hdj
   ·by_cases e : j = i
    ·subst e
     exact at_eq a (T j) _ (by rw [h.size]; exact hT j hj hwj)
    ·rw [came_ne d e] at hd
     rw [at_ne a (T i) (T j) _ (fun e2 => e (hinj j i hj hi hwj hw e2)),h.has j hj hwj hd]
     exact (hV j hj hwj hd).symm
  ·rw [if_neg hw]
   have ne : ∀ j,wr j = true→j ≠ i:=fun j hj e => hw (e ▸ hj)
   refine ⟨N',h.down.next ho hdep,hH,h.size,h.defers,fun t ht => h.rest t (fun j hj hwj hdj => ht j hj hwj (by rw [came_ne d (ne j hwj)]; exact hdj)),fun j hj hwj hd => ?_⟩
   rw [came_ne d (ne j hwj)] at hd
   rw [show a.put none v = a from rfl,h.has j hj hwj hd]
   exact (hV j hj hwj hd).symm
end Go.Proofs.YtjbboicccddhbaaGreatDoor
