/- A region that draws its order: values made one of the other, in whatever order, and one operation behind all. -/
import Derived.Test.YtinhoigcajddpaaDoorKRJ
namespace Go.Proofs.YtinhoigcajddpaaDoor
open Go.RowKit

structure Flow2 (base : Act) (H : (Nat → Bool) → World → Prop) (C : Nat → World → Value → Prop) (T : Nat → Nat) (m : Nat) (d : Nat → Bool) (a : Act) (w : World) : Prop where
  mem : H d w
  size : a.tmps.size = base.tmps.size
  defers : a.defers = base.defers
  rest : ∀ t, (∀ j, j < m → t ≠ T j) → a.tmps[t]? = base.tmps[t]?
  has : ∀ i, i < m → d i = true → C i w (a.eval (.tmp (T i)))
theorem Flow2.next {base : Act} {H : (Nat → Bool) → World → Prop} {C : Nat → World → Value → Prop} {T : Nat → Nat} {m : Nat} {d : Nat → Bool} {a : Act} {w : World} (h : Flow2 base H C T m d a w)
    (hinj : ∀ i j, i < m → j < m → T i = T j → i = j) (hT : ∀ i, i < m → T i < base.tmps.size)
    (i : Nat) (hi : i < m) (v : Value) (w' : World) (hH : H (came d i) w') (hC : ∀ j, j < m → d j = true → ∀ u, C j w u → C j w' u) (hv : C i w' v) : Flow2 base H C T m (came d i) (a.put (some (T i)) v) w' where
  mem := hH
  size := by rw [size_putted]; exact h.size
  defers := h.defers
  rest := fun t ht => by rw [slot_put, if_neg (fun e => ht i hi e.symm)]; exact h.rest t ht
  has := fun j hj hd => by
    by_cases e : j = i
    · subst e
      rw [at_eq a (T j) v (by rw [h.size]; exact hT j hj)]
      exact hv
    · rw [came_ne d e] at hd
      rw [at_ne a (T i) (T j) v (fun e2 => e (hinj j i hj hi e2))]
      exact hC j hj hd _ (h.has j hj hd)
theorem Flow2.eval {base : Act} {H : (Nat → Bool) → World → Prop} {C : Nat → World → Value → Prop} {T : Nat → Nat} {m : Nat} {d : Nat → Bool} {a : Act} {w : World} (h : Flow2 base H C T m d a w) (t : Nat) (ht : ∀ j, j < m → t ≠ T j) : a.eval (.tmp t) = base.eval (.tmp t) := by
  show a.tmps.getD t undef = base.tmps.getD t undef
  simp only [Array.getD_eq_getD_getElem?, h.rest t ht]

theorem Flow2.puts {base : Act} {H : (Nat → Bool) → World → Prop} {C : Nat → World → Value → Prop} {T : Nat → Nat} {m : Nat} {d : Nat → Bool} {a : Act} {w : World} (h : Flow2 base H C T m d a w) (hT : ∀ i, i < m → T i < base.tmps.size) (V : Nat → Value) (hV : ∀ i, i < m → a.eval (.tmp (T i)) = V i) : a = putted base ((List.range m).map fun i => (T i, V i)) := by
  refine putted_eq _ base a h.defers h.size (fun p hp => ?_) (fun t ht => ?_)
  · obtain ⟨i, hi, rfl⟩ := List.mem_map.1 hp
    have hi' := List.mem_range.1 hi
    exact slot_is (hV i hi') (by rw [h.size]; exact hT i hi')
  · refine h.rest t (fun j hj e => ?_)
    exact ht (T j, V j) (List.mem_map.2 ⟨j, List.mem_range.2 hj, rfl⟩) e
theorem putted_snoc (base : Act) (l : List (Nat × Value)) (t : Nat) (v : Value) : (putted base l).put (some t) v = putted base (l ++ [(t, v)]) := by
  unfold putted
  rw [List.foldl_append]
  rfl

theorem region_flow {P : Program} {id : Nat} {ops : Array Oper} {Q : Exit → Act → World → Prop} {base : Act} {W0 : World} (hm : P.follows .mixedOrders = true)
    (hlow : ∀ i o, ops[i]? = some o → ∀ e ∈ o.after, Region.binds .any e = true → e.on < i)
    (hg : ∀ (i : Nat) (o : Oper), ops[i]? = some o → o.guard = none)
    (H : (Nat → Bool) → World → Prop) (C : Nat → World → Value → Prop) (T : Nat → Nat) (m : Nat) (hsz : ops.size = m + 1)
    (hinj : ∀ i j, i < m → j < m → T i = T j → i = j) (hT : ∀ i, i < m → T i < base.tmps.size) (h0 : H (fun _ => false) W0.drew)
    (hall : ∀ i, i < m → ∃ o, ops[m]? = some o ∧ ∃ e ∈ o.after, Region.binds .any e = true ∧ e.on = i)
    (hstep : ∀ (d : Nat → Bool) (i : Nat) (o : Oper) (a : Act) (w : World) (K : Act → World → Prop), i < m → ops[i]? = some o → d i = false → H d w → (∀ t, (∀ j, j < m → t ≠ T j) → a.eval (.tmp t) = base.eval (.tmp t)) → (∀ e ∈ o.after, Region.binds .any e = true → d e.on = true ∧ C e.on w (a.eval (.tmp (T e.on)))) → (∀ v w', H (came d i) w' → (∀ j, j < m → d j = true → ∀ u, C j w u → C j w' u) → C i w' v → K (a.put (some (T i)) v) w') → o.wp P a w K Q)
    (Fin : Act → World → Prop)
    (hlast : ∀ (d : Nat → Bool) (o : Oper) (a : Act) (w : World) (K : Act → World → Prop), ops[m]? = some o → (∀ i, i < m → d i = true) → Flow2 base H C T m d a w → (∀ a' w', Fin a' w' → K a' w') → o.wp P a w K Q)
    (hend : ∀ a w, Fin a w → Q .normal a w) :
    (Code.region id ops true).wp P Q base W0 := by
  have wpo : ∀ i o a w (K : Act → World → Prop), ops[i]? = some o → o.wp P a w K Q → wpOp P ops Q i K a w := fun i o a w K ho h => by
    unfold wpOp
    simp only [ho, Region.wanted, hg i o ho, if_true]
    exact .inl h
  refine region_inv hm hlow (fun d a w => if d m = true then (Fin a w ∧ ∀ i, i < m → d i = true) else Flow2 base H C T m d a w) ?_ ?_ ?_
  · simp only [Bool.false_eq_true, if_false]
    exact ⟨h0, rfl, rfl, fun _ _ => rfl, fun _ _ h => by simp at h⟩
  · intro d a w hd h
    rw [if_pos (hd m (by omega))] at h
    exact hend a w h.1
  · intro d i o a w ho hdi hdep h
    refine wpo i o a w _ ho ?_
    have hi : i < m + 1 := by rw [← hsz]; exact (Array.getElem?_eq_some_iff.1 ho).1
    by_cases e : i = m
    · subst e
      rw [if_neg (by rw [hdi]; simp)] at h
      have hd : ∀ j, j < i → d j = true := fun j hj => by
        obtain ⟨o', ho', ed, he, hb, rfl⟩ := hall j hj
        rw [ho] at ho'
        obtain rfl := Option.some.inj ho'
        exact hdep ed he hb
      refine hlast d o a w _ ho hd h (fun a' w' hf => ?_)
      rw [if_pos (came_self d i)]
      exact ⟨hf, fun j hj => by rw [came_ne d (by omega)]; exact hd j hj⟩
    · have him : i < m := by omega
      by_cases hdm : d m = true
      · exfalso
        rw [if_pos hdm] at h
        rw [h.2 i him] at hdi
        simp at hdi
      · rw [if_neg hdm] at h
        refine hstep d i o a w _ him ho hdi h.mem (fun t ht => h.eval t ht) (fun ed he hb => ⟨hdep ed he hb, h.has _ (by have := hlow i o ho ed he hb; omega) (hdep ed he hb)⟩) (fun v w' hH hC hv => ?_)
        rw [if_neg (by rw [came_ne d (Ne.symm e)]; exact hdm)]
        exact h.next hinj hT i him v w' hH hC hv
end Go.Proofs.YtinhoigcajddpaaDoor
