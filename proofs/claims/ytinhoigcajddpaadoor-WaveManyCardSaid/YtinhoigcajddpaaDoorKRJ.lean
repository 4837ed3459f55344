/- A region that draws its order, in a round: values made one of the other, in whatever order, and at last one store. -/
import Derived.Test.YtinhoigcajddpaaDoorKRI
namespace Go.Proofs.YtinhoigcajddpaaDoor
open Go.RowKit

structure Flow (W : World) (base : Act) (C : Nat → World → Value → Prop) (T : Nat → Nat) (m : Nat) (d : Nat → Bool) (a : Act) (w : World) : Prop where
  but : But [] W w
  size : a.tmps.size = base.tmps.size
  defers : a.defers = base.defers
  rest : ∀ t, (∀ j, j < m → t ≠ T j) → a.tmps[t]? = base.tmps[t]?
  has : ∀ i, i < m → d i = true → C i w (a.eval (.tmp (T i)))
theorem Flow.next {W : World} {base : Act} {C : Nat → World → Value → Prop} {T : Nat → Nat} {m : Nat} {d : Nat → Bool} {a : Act} {w : World} (h : Flow W base C T m d a w)
    (hinj : ∀ i j, i < m → j < m → T i = T j → i = j) (hT : ∀ i, i < m → T i < base.tmps.size) (hC : ∀ i w w' v, i < m → C i w v → But [] w w' → C i w' v)
    (i : Nat) (hi : i < m) (v : Value) (w' : World) (hb : But [] w w') (hv : C i w' v) : Flow W base C T m (came d i) (a.put (some (T i)) v) w' where
  but := h.but.trans' hb
  size := by rw [size_putted]; exact h.size
  defers := h.defers
  rest := fun t ht => by rw [slot_put, if_neg (fun e => ht i hi e.symm)]; exact h.rest t ht
  has := fun j hj hd => by
    by_cases e : j = i
    · subst e
      rw [at_eq a (T j) v (by rw [h.size]; exact hT j hj)]
      exact hv
    · rw [came_ne d e] at hd
      rw [at_ne a (T i) (T j) v (fun e2 => e (hinj j i hj hi e2))]
      exact hC j w w' _ hj (h.has j hj hd) hb
theorem Flow.eval {W : World} {base : Act} {C : Nat → World → Value → Prop} {T : Nat → Nat} {m : Nat} {d : Nat → Bool} {a : Act} {w : World} (h : Flow W base C T m d a w) (t : Nat) (ht : ∀ j, j < m → t ≠ T j) : a.eval (.tmp t) = base.eval (.tmp t) := by
  show a.tmps.getD t undef = base.tmps.getD t undef
  simp only [Array.getD_eq_getD_getElem?, h.rest t ht]

theorem region_flowR {P : Program} {id l0 n0 : Nat} {ops : Array Oper} {Q : Exit → Act → World → Prop} {base : Act} {W0 : World} (hm : P.follows .mixedOrders = true)
    (hnd : ∀ (i : Nat) (o : Oper), ops[i]? = some o → o.guard = none ∧ ∀ c, o.op ≠ .defer c)
    (hlow : ∀ i o, ops[i]? = some o → ∀ e ∈ o.after, Region.binds .any e = true → e.on < i)
    (C : Nat → World → Value → Prop) (T : Nat → Nat) (m : Nat) (hsz : ops.size = m + 1)
    (hinj : ∀ i j, i < m → j < m → T i = T j → i = j) (hT : ∀ i, i < m → T i < base.tmps.size) (hC : ∀ i w w' v, i < m → C i w v → But [] w w' → C i w' v)
    (hall : ∀ i, i < m → ∃ o, ops[m]? = some o ∧ ∃ e ∈ o.after, Region.binds .any e = true ∧ e.on = i)
    (hstep : ∀ (i : Nat) (o : Oper) (a : Act) (w : World) (K : Act → World → Prop), i < m → ops[i]? = some o → But [] W0.drew w → (∀ t, (∀ j, j < m → t ≠ T j) → a.eval (.tmp t) = base.eval (.tmp t)) → (∀ e ∈ o.after, Region.binds .any e = true → C e.on w (a.eval (.tmp (T e.on)))) → (∀ v w', But [] w w' → C i w' v → K (a.put (some (T i)) v) w') → o.wp P a w K Q)
    (Fin : World → Prop)
    (hstore : ∀ (o : Oper) (a : Act) (w : World) (K : Act → World → Prop), ops[m]? = some o → But [] W0.drew w → (∀ t, (∀ j, j < m → t ≠ T j) → a.eval (.tmp t) = base.eval (.tmp t)) → (∀ i, i < m → C i w (a.eval (.tmp (T i)))) → (∀ a' w', Fin w' → K a' w') → o.wp P a w K Q)
    (hend : ∀ a w, Fin w → Q .normal a w) :
    (Code.region id ops true).wpIn (Fence.wide.inRound l0) n0 P Q base W0 := by
  refine region_invR hm hnd hlow (fun d a w => if d m = true then (Fin w ∧ ∀ i, i < m → d i = true) else Flow W0.drew base C T m d a w) ?_ ?_ ?_
  · simp only [Bool.false_eq_true, if_false]
    exact ⟨But.refl _ _, rfl, rfl, fun _ _ => rfl, fun _ _ h => by simp at h⟩
  · intro d a w hd h
    rw [if_pos (hd m (by omega))] at h
    exact hend a w h.1
  · intro d i o a w ho hdi hdep h
    have hi : i < m + 1 := by rw [← hsz]; exact (Array.getElem?_eq_some_iff.1 ho).1
    by_cases e : i = m
    · subst e
      rw [if_neg (by rw [hdi]; simp)] at h
      have hd : ∀ j, j < i → d j = true := fun j hj => by
        obtain ⟨o', ho', ed, he, hb, rfl⟩ := hall j hj
        rw [ho] at ho'
        obtain rfl := Option.some.inj ho'
        exact hdep ed he hb
      refine hstore o a w _ ho h.but (fun t ht => h.eval t ht) (fun j hj => h.has j hj (hd j hj)) (fun a' w' hf => ?_)
      rw [if_pos (came_self d i)]
      exact ⟨hf, fun j hj => by rw [came_ne d (by omega)]; exact hd j hj⟩
    · have him : i < m := by omega
      by_cases hdm : d m = true
      · exfalso
        rw [if_pos hdm] at h
        rw [h.2 i him] at hdi
        simp at hdi
      · rw [if_neg hdm] at h
        refine hstep i o a w _ him ho h.but (fun t ht => h.eval t ht) (fun ed he hb => h.has _ (by have := hlow i o ho ed he hb; omega) (hdep ed he hb)) (fun v w' hb hv => ?_)
        rw [if_neg (by rw [came_ne d (Ne.symm e)]; exact hdm)]
        exact h.next hinj hT hC i him v w' hb hv
end Go.Proofs.YtinhoigcajddpaaDoor
