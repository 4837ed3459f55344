/- Regions that draw their order: what holds ahead of each operation, whatever has come, holds of the region; two values made, two places made, each stored. -/
import Derived.Deep.RegionHeld
import Derived.RangeFuncCalls
import Derived.OrdersIn
import Derived.Test.YtjbboicccddhbaaGreatDoorKBBase
namespace Go.Proofs.YtjbboicccddhbaaGreatDoor
open Go.RowKit

/-- what has come, and one more -/
def came (d : Nat → Bool) (i : Nat) : Nat → Bool := fun j => if j = i then true else d j
theorem came_self (d : Nat → Bool) (i : Nat) : came d i i = true := by simp [came]
theorem came_ne (d : Nat → Bool) {i j : Nat} (h : j ≠ i) : came d i j = d j := by simp [came, h]

theorem region_inv {P : Program} {id : Nat} {ops : Array Oper} {Q : Exit → Act → World → Prop} {base : Act} {W0 : World} (hm : P.follows .mixedOrders = true)
    (hlow : ∀ i o, ops[i]? = some o → ∀ e ∈ o.after, Region.binds .any e = true → e.on < i)
    (J : (Nat → Bool) → Act → World → Prop) (h0 : J (fun _ => false) base W0.drew)
    (hend : ∀ d a w, (∀ i, i < ops.size → d i = true) → J d a w → Q .normal a w)
    (hstep : ∀ d i o a w, ops[i]? = some o → d i = false → (∀ e ∈ o.after, Region.binds .any e = true → d e.on = true) → J d a w → wpOp P ops Q i (J (came d i)) a w) :
    (Code.region id ops true).wp P Q base W0 := by
  refine wp_region_any hm ?_
  show wpAny P .any ops Q ops.size (Array.replicate ops.size false) base W0.drew
  have none_ready : ∀ (l : Array Bool), l.toList.count false = 0 → Region.ready .any ops l = [] := fun l hc => by
    refine List.eq_nil_iff_forall_not_mem.2 fun i hi => ?_
    obtain ⟨hf, o, ho, hd⟩ := mem_ready.1 hi
    rw [List.count_eq_zero] at hc
    rcases Nat.lt_or_ge i l.size with h1 | h1
    · simp only [Array.getD_eq_getD_getElem?, Array.getElem?_eq_getElem h1, Option.getD_some] at hf
      exact hc (by rw [← hf]; exact Array.getElem_mem_toList h1)
    · simp [Array.getElem?_eq_none h1] at hf
  have end_ : ∀ (l : Array Bool) a w, l.size = ops.size → J (fun i => l.getD i false) a w → Region.ready .any ops l = [] → Q .normal a w := fun l a w hs hJ hr => by
    refine hend _ a w (fun i => ?_) hJ
    induction i using Nat.strongRecOn with
    | _ i ih =>
      intro hi
      cases e : l.getD i false with
      | true => rfl
      | false =>
        exfalso
        have hmem : i ∈ Region.ready .any ops l := mem_ready.2 ⟨by
          simp only [Array.getD_eq_getD_getElem?, Array.getElem?_eq_getElem (show i < l.size by omega), Option.getD_some] at e ⊢
          exact e, ops[i], Array.getElem?_eq_getElem hi, fun e he hb => by
            have hl := hlow i ops[i] (Array.getElem?_eq_getElem hi) e he hb
            exact ih e.on hl (by omega)⟩
        rw [hr] at hmem
        simp at hmem
  have key : ∀ n (l : Array Bool) a w, l.size = ops.size ∧ l.toList.count false = n ∧ J (fun i => l.getD i false) a w → wpAny P .any ops Q n l a w := by
    intro n
    induction n with
    | zero => rintro l a w ⟨hs, hc, hJ⟩; exact ⟨none_ready l hc, end_ l a w hs hJ (none_ready l hc)⟩
    | succ n ih =>
      rintro l a w ⟨hs, hc, hJ⟩
      refine ⟨end_ l a w hs hJ, fun i hi => ?_⟩
      obtain ⟨hf, o, ho, hd⟩ := mem_ready.1 hi
      have hlt : i < l.size := by rw [hs]; exact (Array.getElem?_eq_some_iff.1 ho).1
      have hg : l[i] = false := by simpa [hlt] using hf
      have hf' : l.getD i false = false := by simp [hlt, hg]
      refine wpOp_mono (fun a' w' h' => ih _ a' w' ⟨by simp [hs], ?_, ?_⟩) (hstep _ i o a w ho hf' hd hJ)
      · rw [Array.toList_setIfInBounds, List.count_set (by simpa using hlt)]
        simp [hg, hc]
      · have e : (fun j => (l.setIfInBounds i true).getD j false) = came (fun j => l.getD j false) i := funext fun j => by
          by_cases hj : j = i
          · subst hj; simp [came, hlt]
          · simp [came, hj, Array.getElem?_setIfInBounds_ne (Ne.symm hj)]
        rw [e]; exact h'
  exact key _ _ _ _ ⟨by simp, by simp, by
    have e : (fun i => (Array.replicate ops.size false).getD i false) = fun _ => false := funext fun i => by
      simp only [Array.getD_eq_getD_getElem?, Array.getElem?_replicate]
      split <;> rfl
    rw [e]; exact h0⟩

theorem op_value {P : Program} {ops : Array Oper} {Q : Exit → Act → World → Prop} {i : Nat} {K : Act → World → Prop} {a : Act} {w w' : World} {o : Oper} {v : Value} (ho : ops[i]? = some o) (hg : o.guard = none) (hr : (execOp a.eval o).run P w = .ok (.value v) w') (h : K (a.put o.dst v) w') : wpOp P ops Q i K a w := by
  unfold wpOp
  simp only [ho, Region.wanted, hg, if_true, Oper.wp, hr, Oper.upon_value]
  exact .inl h
theorem op_skip {P : Program} {ops : Array Oper} {Q : Exit → Act → World → Prop} {i : Nat} {K : Act → World → Prop} {a : Act} {w w' : World} {o : Oper} (ho : ops[i]? = some o) (hg : o.guard = none) (hr : (execOp a.eval o).run P w = .ok .skip w') (h : K (a.put o.dst undef) w') : wpOp P ops Q i K a w := by
  unfold wpOp
  simp only [ho, Region.wanted, hg, if_true, Oper.wp, hr, Oper.upon_skip]
  exact .inl h
theorem op_enter {P : Program} {ops : Array Oper} {Q : Exit → Act → World → Prop} {i : Nat} {K : Act → World → Prop} {a : Act} {w : World} {o : Oper} {f : FuncId} {args : Array Value} (ho : ops[i]? = some o) (hg : o.guard = none) (hr : (execOp a.eval o).run P w = .ok (.enter f args) w) {R : World → Value → Prop} (hc : Calls P f args w fun e w' => ∃ v, e = .returned v ∧ R w' v) (h : ∀ v w', R w' v → K (a.put o.dst v) w') : wpOp P ops Q i K a w := by
  unfold wpOp
  simp only [ho, Region.wanted, hg, if_true, Oper.wp, hr, Oper.upon_enter]
  refine .inl (hc.mono ?_)
  rintro e w' ⟨v, rfl, hv⟩
  exact h v w' hv

theorem at_ne (a : Act) (d t : Nat) (v : Value) (h : t ≠ d) : (a.put (some d) v).eval (.tmp t) = a.eval (.tmp t) := by
  show (a.tmps.setIfInBounds d v).getD t undef = a.tmps.getD t undef
  simp only [Array.getD_eq_getD_getElem?, Array.getElem?_setIfInBounds_ne (Ne.symm h)]
theorem at_eq (a : Act) (d : Nat) (v : Value) (h : d < a.tmps.size) : (a.put (some d) v).eval (.tmp d) = v := by
  show (a.tmps.setIfInBounds d v).getD d undef = v
  simp [h]
theorem slot_is {a : Act} {t : Nat} {v : Value} (h : a.eval (.tmp t) = v) (hs : t < a.tmps.size) : a.tmps[t]? = some v := by
  have e : a.tmps.getD t undef = v := h
  rw [Array.getD_eq_getD_getElem?, Array.getElem?_eq_getElem hs] at e
  rw [Array.getElem?_eq_getElem hs]
  exact congrArg some e
theorem slot_put (a : Act) (d t : Nat) (v : Value) : (a.put (some d) v).tmps[t]? = if d = t then (if d < a.tmps.size then some v else none) else a.tmps[t]? := by
  show (a.tmps.setIfInBounds d v)[t]? = _
  rw [Array.getElem?_setIfInBounds]
theorem size_putted (a : Act) (d : Nat) (v : Value) : (a.put (some d) v).tmps.size = a.tmps.size := by
  show (a.tmps.setIfInBounds d v).size = a.tmps.size
  simp
/-- values put into slots, one after the other -/
def putted (base : Act) (ps : List (Nat × Value)) : Act := ps.foldl (fun b p => b.put (some p.1) p.2) base
theorem putted_eq : ∀ (ps : List (Nat × Value)) (base a : Act), a.defers = base.defers → a.tmps.size = base.tmps.size → (∀ p ∈ ps, a.tmps[p.1]? = some p.2) → (∀ t, (∀ p ∈ ps, t ≠ p.1) → a.tmps[t]? = base.tmps[t]?) → a = putted base ps
  | [], base, a, h1, _, _, h4 => by
    cases a
    cases base
    simp only at h1 h4
    show Act.mk _ _ = Act.mk _ _
    rw [Array.ext_getElem? (fun t => h4 t (fun p hp => by simp at hp)), h1]
  | (d, v) :: ps, base, a, h1, h2, h3, h4 => by
    have hd := h3 (d, v) (by simp)
    simp only at hd
    have hlt : d < base.tmps.size := by
      rw [← h2]
      exact (Array.getElem?_eq_some_iff.1 hd).1
    refine putted_eq ps (base.put (some d) v) a h1 (by rw [size_putted]; exact h2) (fun p hp => h3 p (by simp [hp])) (fun t ht => ?_)
    rw [slot_put]
    by_cases e : d = t
    · subst e
      rw [if_pos rfl, if_pos hlt]
      exact hd
    · rw [if_neg e]
      refine h4 t (fun p hp => ?_)
      rcases List.mem_cons.1 hp with rfl | hp
      · exact Ne.symm e
      · exact ht p hp

/-- block b holds the parts of v -/
def Full (w : World) (b : Nat) (v : Value) : Prop := ∃ vs : Array Value, v = .agg vs ∧ ∀ j, w.cell? ⟨b, j, none⟩ = vs[j]?
theorem Full.but {w w' : World} {b : Nat} {v : Value} {l : List Nat} (h : Full w b v) (hb : But l w w') (hl : b < w.heap.size) (hn : b ∉ l) : Full w' b v := by
  obtain ⟨vs, e, h⟩ := h
  exact ⟨vs, e, fun j => (hb.cell (p := ⟨b, j, none⟩) hl hn).trans (h j)⟩
/-- a value made, a place made, the value stored there, as far as that has come -/
structure Limb (W w : World) (a : Act) (cd pd : Nat) (R : World → Value → Prop) (Z : Array Value) (lc lp ls : Bool) (v : Value) (b : Nat) : Prop where
  val : lc = true → a.eval (.tmp cd) = v ∧ R w v
  place : lp = true → a.eval (.tmp pd) = .pointer (some ⟨b, 0, none⟩) ∧ W.heap.size ≤ b ∧ b < w.heap.size ∧ ∀ j, w.frozen? ⟨b, j, none⟩ = false
  full : ls = true → lp = true ∧ lc = true ∧ Full w b v
  void : lp = true → ls = false → ∀ j, w.cell? ⟨b, j, none⟩ = Z[j]?
theorem Limb.put {W w : World} {a : Act} {cd pd : Nat} {R : World → Value → Prop} {Z : Array Value} {lc lp ls : Bool} {v : Value} {b : Nat} (h : Limb W w a cd pd R Z lc lp ls v b) (d : Nat) (u : Value) (h1 : cd ≠ d) (h2 : pd ≠ d) : Limb W w (a.put (some d) u) cd pd R Z lc lp ls v b :=
  ⟨fun e => ⟨(at_ne a d cd u h1).trans (h.val e).1, (h.val e).2⟩, fun e => ⟨(at_ne a d pd u h2).trans (h.place e).1, (h.place e).2⟩, h.full, h.void⟩
theorem Limb.world {W w w' : World} {a : Act} {cd pd : Nat} {R : World → Value → Prop} {Z : Array Value} {lc lp ls : Bool} {v : Value} {b : Nat} {l : List Nat} (h : Limb W w a cd pd R Z lc lp ls v b) (hb : But l w w') (hn : lp = true → b ∉ l) (hR : R w v → R w' v) : Limb W w' a cd pd R Z lc lp ls v b :=
  ⟨fun e => ⟨(h.val e).1, hR (h.val e).2⟩, fun e => by
    obtain ⟨h1, h2, h3, h4⟩ := h.place e
    exact ⟨h1, h2, Nat.lt_of_lt_of_le h3 hb.size, fun j => (hb.frozen (p := ⟨b, j, none⟩) h3 (hn e)).trans (h4 j)⟩, fun e => by
    obtain ⟨h1, h2, h3⟩ := h.full e
    exact ⟨h1, h2, h3.but hb (h.place h1).2.2.1 (hn h1)⟩, fun e f j => (hb.cell (p := ⟨b, j, none⟩) (h.place e).2.2.1 (hn e)).trans (h.void e f j)⟩

/-- two values and two places -/
structure Two (W : World) (base : Act) (t0 c1 t2 c3 p4 p5 : Nat) (A0 A2 : Value) (Rx Ry : World → Value → Prop) (Zx Zy : Array Value) (d : Nat → Bool) (a : Act) (w : World) (vx vy : Value) (bx bY : Nat) : Prop where
  but : But [] W w
  size : a.tmps.size = base.tmps.size
  defers : a.defers = base.defers
  rest : ∀ t, t ≠ t0 → t ≠ c1 → t ≠ t2 → t ≠ c3 → t ≠ p4 → t ≠ p5 → a.tmps[t]? = base.tmps[t]?
  a0 : d 0 = true → a.eval (.tmp t0) = A0
  a2 : d 2 = true → a.eval (.tmp t2) = A2
  x : Limb W w a c1 p4 Rx Zx (d 1) (d 4) (d 6) vx bx
  y : Limb W w a c3 p5 Ry Zy (d 3) (d 5) (d 7) vy bY
  ne : d 4 = true → d 5 = true → bx ≠ bY
theorem rest_eval {base a : Act} {t : Nat} (h : a.tmps[t]? = base.tmps[t]?) : a.eval (.tmp t) = base.eval (.tmp t) := by
  show a.tmps.getD t undef = base.tmps.getD t undef
  simp only [Array.getD_eq_getD_getElem?, h]
end Go.Proofs.YtjbboicccddhbaaGreatDoor

namespace Go.Proofs.YtjbboicccddhbaaGreatDoor
open Go.RowKit

/-- an operation in a round, where it is none that defers: as everywhere -/
theorem wpIn_of_wp {P : Program} {o : Oper} {a : Act} {w : World} {K : Act → World → Prop} {Q : Exit → Act → World → Prop} (l n : Nat) (hd : ∀ c, o.op ≠ .defer c) (h : o.wp P a w K Q) : o.wpIn (Fence.wide.inRound l) n P a w K Q := by
  unfold Oper.wp at h
  unfold Oper.wpIn
  refine ⟨fun _ _ => trivial, ?_⟩
  rw [Oper.semAt_eq _ _ _ hd]
  generalize (execOp a.eval o).run P w = r at *
  cases r with
  | ok x w' =>
    cases x with
    | value v => exact h
    | skip => exact h
    | defer d => exact h
    | enter f args => exact ⟨fun e => by simp [Fence.wide] at e, CallsIn.inRound l (callsIn_wide.2 h)⟩
    | row r args => exact ⟨fun e => by simp [Fence.wide] at e, fun c cs _ => by
      obtain ⟨v, w1, hr, hs⟩ := h c cs
      exact ⟨v, w1, hr, stepsIn_wide.2 hs⟩⟩
    | _ => exact h.elim
  | halt x w' => cases x <;> exact h

theorem region_invR {P : Program} {id l0 n0 : Nat} {ops : Array Oper} {Q : Exit → Act → World → Prop} {base : Act} {W0 : World} (hm : P.follows .mixedOrders = true)
    (hnd : ∀ (i : Nat) (o : Oper), ops[i]? = some o → o.guard = none ∧ ∀ c, o.op ≠ .defer c)
    (hlow : ∀ i o, ops[i]? = some o → ∀ e ∈ o.after, Region.binds .any e = true → e.on < i)
    (J : (Nat → Bool) → Act → World → Prop) (h0 : J (fun _ => false) base W0.drew)
    (hend : ∀ d a w, (∀ i, i < ops.size → d i = true) → J d a w → Q .normal a w)
    (hstep : ∀ d i o a w, ops[i]? = some o → d i = false → (∀ e ∈ o.after, Region.binds .any e = true → d e.on = true) → J d a w → o.wp P a w (J (came d i)) Q) :
    (Code.region id ops true).wpIn (Fence.wide.inRound l0) n0 P Q base W0 := by
  refine wpIn_region_any hm ?_
  show wpAnyIn (Fence.wide.inRound l0) n0 P .any ops Q ops.size (Array.replicate ops.size false) base W0.drew
  have none_ready : ∀ (l : Array Bool), l.toList.count false = 0 → Region.ready .any ops l = [] := fun l hc => by
    refine List.eq_nil_iff_forall_not_mem.2 fun i hi => ?_
    obtain ⟨hf, o, ho, hd⟩ := mem_ready.1 hi
    rw [List.count_eq_zero] at hc
    rcases Nat.lt_or_ge i l.size with h1 | h1
    · simp only [Array.getD_eq_getD_getElem?, Array.getElem?_eq_getElem h1, Option.getD_some] at hf
      exact hc (by rw [← hf]; exact Array.getElem_mem_toList h1)
    · simp [Array.getElem?_eq_none h1] at hf
  have end_ : ∀ (l : Array Bool) a w, l.size = ops.size → J (fun i => l.getD i false) a w → Region.ready .any ops l = [] → Q .normal a w := fun l a w hs hJ hr => by
    refine hend _ a w (fun i => ?_) hJ
    induction i using Nat.strongRecOn with
    | _ i ih =>
      intro hi
      cases e : l.getD i false with
      | true => rfl
      | false =>
        exfalso
        have hmem : i ∈ Region.ready .any ops l := mem_ready.2 ⟨by
          simp only [Array.getD_eq_getD_getElem?, Array.getElem?_eq_getElem (show i < l.size by omega), Option.getD_some] at e ⊢
          exact e, ops[i], Array.getElem?_eq_getElem hi, fun e he hb => by
            have hl := hlow i ops[i] (Array.getElem?_eq_getElem hi) e he hb
            exact ih e.on hl (by omega)⟩
        rw [hr] at hmem
        simp at hmem
  have key : ∀ n (l : Array Bool) a w, l.size = ops.size ∧ l.toList.count false = n ∧ J (fun i => l.getD i false) a w → wpAnyIn (Fence.wide.inRound l0) n0 P .any ops Q n l a w := by
    intro n
    induction n with
    | zero => rintro l a w ⟨hs, hc, hJ⟩; exact ⟨none_ready l hc, end_ l a w hs hJ (none_ready l hc)⟩
    | succ n ih =>
      rintro l a w ⟨hs, hc, hJ⟩
      refine ⟨end_ l a w hs hJ, fun i hi => ?_⟩
      obtain ⟨hf, o, ho, hd⟩ := mem_ready.1 hi
      have hlt : i < l.size := by rw [hs]; exact (Array.getElem?_eq_some_iff.1 ho).1
      have hg : l[i] = false := by simpa [hlt] using hf
      have hf' : l.getD i false = false := by simp [hlt, hg]
      have hop : wpOpIn (Fence.wide.inRound l0) n0 P ops Q i (J (came (fun j => l.getD j false) i)) a w := by
        unfold wpOpIn
        simp only [ho, Region.wanted, (hnd i o ho).1, if_true]
        exact wpIn_of_wp l0 n0 (hnd i o ho).2 (hstep _ i o a w ho hf' hd hJ)
      refine wpOpIn_mono (fun a' w' h' => ih _ a' w' ⟨by simp [hs], ?_, ?_⟩) hop
      · rw [Array.toList_setIfInBounds, List.count_set (by simpa using hlt)]
        simp [hg, hc]
      · have e : (fun j => (l.setIfInBounds i true).getD j false) = came (fun j => l.getD j false) i := funext fun j => by
          by_cases hj : j = i
          · subst hj; simp [came, hlt]
          · simp [came, hj, Array.getElem?_setIfInBounds_ne (Ne.symm hj)]
        rw [e]; exact h'
  exact key _ _ _ _ ⟨by simp, by simp, by
    have e : (fun i => (Array.replicate ops.size false).getD i false) = fun _ => false := funext fun i => by
      simp only [Array.getD_eq_getD_getElem?, Array.getElem?_replicate]
      split <;> rfl
    rw [e]; exact h0⟩

theorem wp_value {P : Program} {Q : Exit → Act → World → Prop} {K : Act → World → Prop} {a : Act} {w w' : World} {o : Oper} {v : Value} (hr : (execOp a.eval o).run P w = .ok (.value v) w') (h : K (a.put o.dst v) w') : o.wp P a w K Q := by
  unfold Oper.wp
  rw [hr]
  exact h
theorem wp_skipped {P : Program} {Q : Exit → Act → World → Prop} {K : Act → World → Prop} {a : Act} {w w' : World} {o : Oper} (hr : (execOp a.eval o).run P w = .ok .skip w') (h : K (a.put o.dst undef) w') : o.wp P a w K Q := by
  unfold Oper.wp
  rw [hr]
  exact h
theorem wp_enter {P : Program} {Q : Exit → Act → World → Prop} {K : Act → World → Prop} {a : Act} {w : World} {o : Oper} {f : FuncId} {args : Array Value} (hr : (execOp a.eval o).run P w = .ok (.enter f args) w) {R : World → Value → Prop} (hc : Calls P f args w fun e w' => ∃ v, e = .returned v ∧ R w' v) (h : ∀ v w', R w' v → K (a.put o.dst v) w') : o.wp P a w K Q := by
  unfold Oper.wp
  rw [hr]
  refine hc.mono ?_
  rintro e w' ⟨v, rfl, hv⟩
  exact h v w' hv
end Go.Proofs.YtjbboicccddhbaaGreatDoor

namespace Go.Proofs.YtjbboicccddhbaaGreatDoor
open Go.RowKit

structure Flow (W : World) (base : Act) (C : Nat → World → Value → Prop) (T : Nat → Nat) (m : Nat) (d : Nat → Bool) (a : Act) (w : World) : Prop where
  but : But [] W w
  size : a.tmps.size = base.tmps.size
  defers : a.defers = base.defers
  rest : ∀ t, (∀ j, j < m → t ≠ T j) → a.tmps[t]? = base.tmps[t]?
  has : ∀ i, i < m → d i = true → C i w (a.eval (.tmp (T i)))
theorem Flow.next {W : World} {base : Act} {C : Nat → World → Value → Prop} {T : Nat → Nat} {m : Nat} {d : Nat → Bool} {a : Act} {w : World} (h : Flow W base C T m d a w)
    (hinj : ∀ i j, i < m → j < m → T i = T j → i = j) (hT : ∀ i, i < m → T i < base.tmps.size) (hC : ∀ i w w' v, i < m → C i w v → But [] w w' → C i w' v)
    (i : Nat) (hi : i < m) (v : Value) (w' : World) (hb : But [] w w') (hv : C i w' v) : Flow W base C T m (came d i) (a.put (some (T i)) v) w' where
  but := h.but.trans' hb
  size := by rw [size_putted]; exact h.size
  defers := h.defers
  rest := fun t ht => by rw [slot_put, if_neg (fun e => ht i hi e.symm)]; exact h.rest t ht
  has := fun j hj hd => by
    by_cases e : j = i
    · subst e
      rw [at_eq a (T j) v (by rw [h.size]; exact hT j hj)]
      exact hv
    · rw [came_ne d e] at hd
      rw [at_ne a (T i) (T j) v (fun e2 => e (hinj j i hj hi e2))]
      exact hC j w w' _ hj (h.has j hj hd) hb
theorem Flow.eval {W : World} {base : Act} {C : Nat → World → Value → Prop} {T : Nat → Nat} {m : Nat} {d : Nat → Bool} {a : Act} {w : World} (h : Flow W base C T m d a w) (t : Nat) (ht : ∀ j, j < m → t ≠ T j) : a.eval (.tmp t) = base.eval (.tmp t) := by
  show a.tmps.getD t undef = base.tmps.getD t undef
  simp only [Array.getD_eq_getD_getElem?, h.rest t ht]

theorem region_flowR {P : Program} {id l0 n0 : Nat} {ops : Array Oper} {Q : Exit → Act → World → Prop} {base : Act} {W0 : World} (hm : P.follows .mixedOrders = true)
    (hnd : ∀ (i : Nat) (o : Oper), ops[i]? = some o → o.guard = none ∧ ∀ c, o.op ≠ .defer c)
    (hlow : ∀ i o, ops[i]? = some o → ∀ e ∈ o.after, Region.binds .any e = true → e.on < i)
    (C : Nat → World → Value → Prop) (T : Nat → Nat) (m : Nat) (hsz : ops.size = m + 1)
    (hinj : ∀ i j, i < m → j < m → T i = T j → i = j) (hT : ∀ i, i < m → T i < base.tmps.size) (hC : ∀ i w w' v, i < m → C i w v → But [] w w' → C i w' v)
    (hall : ∀ i, i < m → ∃ o, ops[m]? = some o ∧ ∃ e ∈ o.after, Region.binds .any e = true ∧ e.on = i)
    (hstep : ∀ (i : Nat) (o : Oper) (a : Act) (w : World) (K : Act → World → Prop), i < m → ops[i]? = some o → But [] W0.drew w → (∀ t, (∀ j, j < m → t ≠ T j) → a.eval (.tmp t) = base.eval (.tmp t)) → (∀ e ∈ o.after, Region.binds .any e = true → C e.on w (a.eval (.tmp (T e.on)))) → (∀ v w', But [] w w' → C i w' v → K (a.put (some (T i)) v) w') → o.wp P a w K Q)
    (Fin : World → Prop)
    (hstore : ∀ (o : Oper) (a : Act) (w : World) (K : Act → World → Prop), ops[m]? = some o → But [] W0.drew w → (∀ t, (∀ j, j < m → t ≠ T j) → a.eval (.tmp t) = base.eval (.tmp t)) → (∀ i, i < m → C i w (a.eval (.tmp (T i)))) → (∀ a' w', Fin w' → K a' w') → o.wp P a w K Q)
    (hend : ∀ a w, Fin w → Q .normal a w) :
    (Code.region id ops true).wpIn (Fence.wide.inRound l0) n0 P Q base W0 := by
  refine region_invR hm hnd hlow (fun d a w => if d m = true then (Fin w ∧ ∀ i, i < m → d i = true) else Flow W0.drew base C T m d a w) ?_ ?_ ?_
  · simp only [Bool.false_eq_true, if_false]
    exact ⟨But.refl _ _, rfl, rfl, fun _ _ => rfl, fun _ _ h => by simp at h⟩
  · intro d a w hd h
    rw [if_pos (hd m (by omega))] at h
    exact hend a w h.1
  · intro d i o a w ho hdi hdep h
    have hi : i < m + 1 := by rw [← hsz]; exact (Array.getElem?_eq_some_iff.1 ho).1
    by_cases e : i = m
    · subst e
      rw [if_neg (by rw [hdi]; simp)] at h
      have hd : ∀ j, j < i → d j = true := fun j hj => by
        obtain ⟨o', ho', ed, he, hb, rfl⟩ := hall j hj
        rw [ho] at ho'
        obtain rfl := Option.some.inj ho'
        exact hdep ed he hb
      refine hstore o a w _ ho h.but (fun t ht => h.eval t ht) (fun j hj => h.has j hj (hd j hj)) (fun a' w' hf => ?_)
      rw [if_pos (came_self d i)]
      exact ⟨hf, fun j hj => by rw [came_ne d (by omega)]; exact hd j hj⟩
    · have him : i < m := by omega
      by_cases hdm : d m = true
      · exfalso
        rw [if_pos hdm] at h
        rw [h.2 i him] at hdi
        simp at hdi
      · rw [if_neg hdm] at h
        refine hstep i o a w _ him ho h.but (fun t ht => h.eval t ht) (fun ed he hb => h.has _ (by have := hlow i o ho ed he hb; omega) (hdep ed he hb)) (fun v w' hb hv => ?_)
        rw [if_neg (by rw [came_ne d (Ne.symm e)]; exact hdm)]
        exact h.next hinj hT hC i him v w' hb hv
end Go.Proofs.YtjbboicccddhbaaGreatDoor
