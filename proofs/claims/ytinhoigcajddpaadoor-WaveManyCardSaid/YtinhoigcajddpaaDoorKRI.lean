/- Regions that draw their order, in a round of a range over a function: what holds ahead of each operation, whatever has come, holds of the region. -/
import Derived.RangeFuncCalls
import Derived.OrdersIn
import Derived.Test.YtinhoigcajddpaaDoorKR0
namespace Go.Proofs.YtinhoigcajddpaaDoor
open Go.RowKit

/-- an operation in a round, where it is none that defers: as everywhere -/
theorem wpIn_of_wp {P : Program} {o : Oper} {a : Act} {w : World} {K : Act → World → Prop} {Q : Exit → Act → World → Prop} (l n : Nat) (hd : ∀ c, o.op ≠ .defer c) (h : o.wp P a w K Q) : o.wpIn (Fence.wide.inRound l) n P a w K Q := by
  unfold Oper.wp at h
  unfold Oper.wpIn
  refine ⟨fun _ _ => trivial, ?_⟩
  rw [Oper.semAt_eq _ _ _ hd]
  generalize (execOp a.eval o).run P w = r at *
  cases r with
  | ok x w' =>
    cases x with
    | value v => exact h
    | skip => exact h
    | defer d => exact h
    | enter f args => exact ⟨fun e => by simp [Fence.wide] at e, CallsIn.inRound l (callsIn_wide.2 h)⟩
    | row r args => exact ⟨fun e => by simp [Fence.wide] at e, fun c cs _ => by
      obtain ⟨v, w1, hr, hs⟩ := h c cs
      exact ⟨v, w1, hr, stepsIn_wide.2 hs⟩⟩
    | _ => exact h.elim
  | halt x w' => cases x <;> exact h

theorem region_invR {P : Program} {id l0 n0 : Nat} {ops : Array Oper} {Q : Exit → Act → World → Prop} {base : Act} {W0 : World} (hm : P.follows .mixedOrders = true)
    (hnd : ∀ (i : Nat) (o : Oper), ops[i]? = some o → o.guard = none ∧ ∀ c, o.op ≠ .defer c)
    (hlow : ∀ i o, ops[i]? = some o → ∀ e ∈ o.after, Region.binds .any e = true → e.on < i)
    (J : (Nat → Bool) → Act → World → Prop) (h0 : J (fun _ => false) base W0.drew)
    (hend : ∀ d a w, (∀ i, i < ops.size → d i = true) → J d a w → Q .normal a w)
    (hstep : ∀ d i o a w, ops[i]? = some o → d i = false → (∀ e ∈ o.after, Region.binds .any e = true → d e.on = true) → J d a w → o.wp P a w (J (came d i)) Q) :
    (Code.region id ops true).wpIn (Fence.wide.inRound l0) n0 P Q base W0 := by
  refine wpIn_region_any hm ?_
  show wpAnyIn (Fence.wide.inRound l0) n0 P .any ops Q ops.size (Array.replicate ops.size false) base W0.drew
  have none_ready : ∀ (l : Array Bool), l.toList.count false = 0 → Region.ready .any ops l = [] := fun l hc => by
    refine List.eq_nil_iff_forall_not_mem.2 fun i hi => ?_
    obtain ⟨hf, o, ho, hd⟩ := mem_ready.1 hi
    rw [List.count_eq_zero] at hc
    rcases Nat.lt_or_ge i l.size with h1 | h1
    · simp only [Array.getD_eq_getD_getElem?, Array.getElem?_eq_getElem h1, Option.getD_some] at hf
      exact hc (by rw [← hf]; exact Array.getElem_mem_toList h1)
    · simp [Array.getElem?_eq_none h1] at hf
  have end_ : ∀ (l : Array Bool) a w, l.size = ops.size → J (fun i => l.getD i false) a w → Region.ready .any ops l = [] → Q .normal a w := fun l a w hs hJ hr => by
    refine hend _ a w (fun i => ?_) hJ
    induction i using Nat.strongRecOn with
    | _ i ih =>
      intro hi
      cases e : l.getD i false with
      | true => rfl
      | false =>
        exfalso
        have hmem : i ∈ Region.ready .any ops l := mem_ready.2 ⟨by
          simp only [Array.getD_eq_getD_getElem?, Array.getElem?_eq_getElem (show i < l.size by omega), Option.getD_some] at e ⊢
          exact e, ops[i], Array.getElem?_eq_getElem hi, fun e he hb => by
            have hl := hlow i ops[i] (Array.getElem?_eq_getElem hi) e he hb
            exact ih e.on hl (by omega)⟩
        rw [hr] at hmem
        simp at hmem
  have key : ∀ n (l : Array Bool) a w, l.size = ops.size ∧ l.toList.count false = n ∧ J (fun i => l.getD i false) a w → wpAnyIn (Fence.wide.inRound l0) n0 P .any ops Q n l a w := by
    intro n
    induction n with
    | zero => rintro l a w ⟨hs, hc, hJ⟩; exact ⟨none_ready l hc, end_ l a w hs hJ (none_ready l hc)⟩
    | succ n ih =>
      rintro l a w ⟨hs, hc, hJ⟩
      refine ⟨end_ l a w hs hJ, fun i hi => ?_⟩
      obtain ⟨hf, o, ho, hd⟩ := mem_ready.1 hi
      have hlt : i < l.size := by rw [hs]; exact (Array.getElem?_eq_some_iff.1 ho).1
      have hg : l[i] = false := by simpa [hlt] using hf
      have hf' : l.getD i false = false := by simp [hlt, hg]
      have hop : wpOpIn (Fence.wide.inRound l0) n0 P ops Q i (J (came (fun j => l.getD j false) i)) a w := by
        unfold wpOpIn
        simp only [ho, Region.wanted, (hnd i o ho).1, if_true]
        exact wpIn_of_wp l0 n0 (hnd i o ho).2 (hstep _ i o a w ho hf' hd hJ)
      refine wpOpIn_mono (fun a' w' h' => ih _ a' w' ⟨by simp [hs], ?_, ?_⟩) hop
      · rw [Array.toList_setIfInBounds, List.count_set (by simpa using hlt)]
        simp [hg, hc]
      · have e : (fun j => (l.setIfInBounds i true).getD j false) = came (fun j => l.getD j false) i := funext fun j => by
          by_cases hj : j = i
          · subst hj; simp [came, hlt]
          · simp [came, hj, Array.getElem?_setIfInBounds_ne (Ne.symm hj)]
        rw [e]; exact h'
  exact key _ _ _ _ ⟨by simp, by simp, by
    have e : (fun i => (Array.replicate ops.size false).getD i false) = fun _ => false := funext fun i => by
      simp only [Array.getD_eq_getD_getElem?, Array.getElem?_replicate]
      split <;> rfl
    rw [e]; exact h0⟩

theorem wp_value {P : Program} {Q : Exit → Act → World → Prop} {K : Act → World → Prop} {a : Act} {w w' : World} {o : Oper} {v : Value} (hr : (execOp a.eval o).run P w = .ok (.value v) w') (h : K (a.put o.dst v) w') : o.wp P a w K Q := by
  unfold Oper.wp
  rw [hr]
  exact h
theorem wp_skipped {P : Program} {Q : Exit → Act → World → Prop} {K : Act → World → Prop} {a : Act} {w w' : World} {o : Oper} (hr : (execOp a.eval o).run P w = .ok .skip w') (h : K (a.put o.dst undef) w') : o.wp P a w K Q := by
  unfold Oper.wp
  rw [hr]
  exact h
theorem wp_enter {P : Program} {Q : Exit → Act → World → Prop} {K : Act → World → Prop} {a : Act} {w : World} {o : Oper} {f : FuncId} {args : Array Value} (hr : (execOp a.eval o).run P w = .ok (.enter f args) w) {R : World → Value → Prop} (hc : Calls P f args w fun e w' => ∃ v, e = .returned v ∧ R w' v) (h : ∀ v w', R w' v → K (a.put o.dst v) w') : o.wp P a w K Q := by
  unfold Oper.wp
  rw [hr]
  refine hc.mono ?_
  rintro e w' ⟨v, rfl, hv⟩
  exact h v w' hv
end Go.Proofs.YtinhoigcajddpaaDoor
