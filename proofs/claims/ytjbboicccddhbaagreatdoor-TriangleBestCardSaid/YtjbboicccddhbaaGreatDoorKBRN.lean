/- A region that draws its order: values made one of the other and one store among them, in whatever order, and one operation behind all. -/
import Derived.Test.YtjbboicccddhbaaGreatDoorKBRK
namespace Go.Proofs.YtjbboicccddhbaaGreatDoor
open Go.RowKit

theorem region_flow4 {P : Program} {id : Nat} {ops : Array Oper} {Q : Exit → Act → World → Prop} {base : Act} {W0 : World} (hm : P.follows .mixedOrders = true)
    (hlow : ∀ i o, ops[i]? = some o → ∀ e ∈ o.after, Region.binds .any e = true → e.on < i)
    (hg : ∀ (i : Nat) (o : Oper), ops[i]? = some o → o.guard = none)
    (H : World → Prop) (hH0 : H W0.drew) (hHB : ∀ w w', H w → But [] w w' → H w') (C : Nat → World → Value → Prop) (T : Nat → Nat) (m q ka : Nat) (hka : ka < m) (St : World → Value → Prop) (hsz : ops.size = m + 1)
    (hinj : ∀ i j, i < m → j < m → T i = T j → i = j) (hT : ∀ i, i < m → T i < base.tmps.size)
    (hC : ∀ i w w' v, i < m → C i w v → But [] w w' → C i w' v) (hCq : ∀ w v, C q w v) (hSt : ∀ w w' v, St w v → But [] w w' → St w' v)
    (hall : ∀ i, i < m → ∃ o, ops[m]? = some o ∧ ∃ e ∈ o.after, Region.binds .any e = true ∧ e.on = i)
    (hqk : ∃ o, ops[q]? = some o ∧ ∃ e ∈ o.after, Region.binds .any e = true ∧ e.on = ka)
    (hstep : ∀ (i : Nat) (o : Oper) (a : Act) (w : World) (K : Act → World → Prop), i < m → i ≠ q → ops[i]? = some o → H w → (∀ t, (∀ j, j < m → t ≠ T j) → a.eval (.tmp t) = base.eval (.tmp t)) → (∀ e ∈ o.after, Region.binds .any e = true → C e.on w (a.eval (.tmp (T e.on)))) → (∀ v w', But [] w w' → C i w' v → K (a.put (some (T i)) v) w') → o.wp P a w K Q)
    (hmute : ∀ (o : Oper) (a : Act) (w : World) (K : Act → World → Prop), ops[q]? = some o → H w → (∀ t, (∀ j, j < m → t ≠ T j) → a.eval (.tmp t) = base.eval (.tmp t)) → (∀ e ∈ o.after, Region.binds .any e = true → C e.on w (a.eval (.tmp (T e.on)))) → (∀ w', H w' → (∀ j, j < m → ∀ u, C j w u → C j w' u) → St w' (a.eval (.tmp (T ka))) → K a w') → o.wp P a w K Q)
    (Fin : Act → World → Prop)
    (hlast : ∀ (d : Nat → Bool) (o : Oper) (a : Act) (w : World) (K : Act → World → Prop), ops[m]? = some o → (∀ i, i < m → d i = true) → Flow2 base (fun _ w => H w) C T m d a w → St w (a.eval (.tmp (T ka))) → (∀ a' w', Fin a' w' → K a' w') → o.wp P a w K Q)
    (hend : ∀ a w, Fin a w → Q .normal a w) (hqm : q < m) :
    (Code.region id ops true).wp P Q base W0 := by
  have wpo : ∀ i o a w (K : Act → World → Prop), ops[i]? = some o → o.wp P a w K Q → wpOp P ops Q i K a w := fun i o a w K ho h => by
    unfold wpOp
    simp only [ho, Region.wanted, hg i o ho, if_true]
    exact .inl h
  refine region_inv hm hlow (fun d a w => if d m = true then (Fin a w ∧ ∀ i, i < m → d i = true) else (Flow2 base (fun _ w => H w) C T m d a w ∧ (d q = true → d ka = true ∧ St w (a.eval (.tmp (T ka)))))) ?_ ?_ ?_
  · simp only [Bool.false_eq_true, if_false]
    exact ⟨⟨hH0, rfl, rfl, fun _ _ => rfl, fun _ _ h => by simp at h⟩, fun h => by simp at h⟩
  · intro d a w hd h
    rw [if_pos (hd m (by omega))] at h
    exact hend a w h.1
  · intro d i o a w ho hdi hdep h
    refine wpo i o a w _ ho ?_
    have hi : i < m + 1 := by rw [← hsz]; exact (Array.getElem?_eq_some_iff.1 ho).1
    by_cases e : i = m
    · subst e
      rw [if_neg (by rw [hdi]; simp)] at h
      have hd : ∀ j, j < i → d j = true := fun j hj => by
        obtain ⟨o', ho', ed, he, hb, rfl⟩ := hall j hj
        rw [ho] at ho'
        obtain rfl := Option.some.inj ho'
        exact hdep ed he hb
      refine hlast d o a w _ ho hd h.1 (h.2 (hd q hqm)).2 (fun a' w' hf => ?_)
      rw [if_pos (came_self d i)]
      exact ⟨hf, fun j hj => by rw [came_ne d (by omega)]; exact hd j hj⟩
    · have him : i < m := by omega
      by_cases hdm : d m = true
      · exfalso
        rw [if_pos hdm] at h
        rw [h.2 i him] at hdi
        simp at hdi
      · rw [if_neg hdm] at h
        obtain ⟨h, hs⟩ := h
        have hdp := fun (ed : Edge) (he : ed ∈ o.after) (hb : Region.binds .any ed = true) => h.has _ (show ed.on < m by have := hlow i o ho ed he hb; omega) (hdep ed he hb)
        by_cases eq : i = q
        · subst eq
          refine hmute o a w _ ho h.mem (fun t ht => h.eval t ht) hdp (fun w' hB hCw hSw => ?_)
          rw [if_neg (by rw [came_ne d (Ne.symm e)]; exact hdm)]
          refine ⟨⟨hB, h.size, h.defers, h.rest, fun j hj hd => ?_⟩, fun _ => ?_⟩
          · by_cases ej : j = i
            · rw [ej]; exact hCq _ _
            · rw [came_ne d ej] at hd
              exact hCw j hj _ (h.has j hj hd)
          · obtain ⟨o', ho', ed, he, hb, ek⟩ := hqk
            rw [ho] at ho'
            obtain rfl := Option.some.inj ho'
            have hk := hdep ed he hb
            rw [ek] at hk
            have hne : ka ≠ i := fun e2 => by rw [e2, hdi] at hk; simp at hk
            exact ⟨by rw [came_ne d hne]; exact hk, hSw⟩
        · refine hstep i o a w _ him eq ho h.mem (fun t ht => h.eval t ht) hdp (fun v w' hB hv => ?_)
          rw [if_neg (by rw [came_ne d (Ne.symm e)]; exact hdm)]
          refine ⟨h.next hinj hT i him v w' (hHB _ _ h.mem hB) (fun j hj _ u hu => hC j w w' u hj hu hB) hv, fun hq => ?_⟩
          rw [came_ne d (Ne.symm eq)] at hq
          obtain ⟨h1, h2⟩ := hs hq
          have hne : ka ≠ i := fun e2 => by rw [e2, hdi] at h1; simp at h1
          refine ⟨by rw [came_ne d hne]; exact h1, ?_⟩
          rw [at_ne a (T i) (T ka) v (fun e2 => hne (hinj ka i hka him e2))]
          exact hSt w w' _ h2 hB
theorem region_flow3 {P : Program} {id : Nat} {ops : Array Oper} {Q : Exit → Act → World → Prop} {base : Act} {W0 : World} (hm : P.follows .mixedOrders = true)
    (hlow : ∀ i o, ops[i]? = some o → ∀ e ∈ o.after, Region.binds .any e = true → e.on < i)
    (hg : ∀ (i : Nat) (o : Oper), ops[i]? = some o → o.guard = none)
    (C : Nat → World → Value → Prop) (T : Nat → Nat) (m q ka : Nat) (hka : ka < m) (St : World → Value → Prop) (hsz : ops.size = m + 1)
    (hinj : ∀ i j, i < m → j < m → T i = T j → i = j) (hT : ∀ i, i < m → T i < base.tmps.size)
    (hC : ∀ i w w' v, i < m → C i w v → But [] w w' → C i w' v) (hCq : ∀ w v, C q w v) (hSt : ∀ w w' v, St w v → But [] w w' → St w' v)
    (hall : ∀ i, i < m → ∃ o, ops[m]? = some o ∧ ∃ e ∈ o.after, Region.binds .any e = true ∧ e.on = i)
    (hqk : ∃ o, ops[q]? = some o ∧ ∃ e ∈ o.after, Region.binds .any e = true ∧ e.on = ka)
    (hstep : ∀ (i : Nat) (o : Oper) (a : Act) (w : World) (K : Act → World → Prop), i < m → i ≠ q → ops[i]? = some o → But [] W0.drew w → (∀ t, (∀ j, j < m → t ≠ T j) → a.eval (.tmp t) = base.eval (.tmp t)) → (∀ e ∈ o.after, Region.binds .any e = true → C e.on w (a.eval (.tmp (T e.on)))) → (∀ v w', But [] w w' → C i w' v → K (a.put (some (T i)) v) w') → o.wp P a w K Q)
    (hmute : ∀ (o : Oper) (a : Act) (w : World) (K : Act → World → Prop), ops[q]? = some o → But [] W0.drew w → (∀ t, (∀ j, j < m → t ≠ T j) → a.eval (.tmp t) = base.eval (.tmp t)) → (∀ e ∈ o.after, Region.binds .any e = true → C e.on w (a.eval (.tmp (T e.on)))) → (∀ w', But [] W0.drew w' → (∀ j, j < m → ∀ u, C j w u → C j w' u) → St w' (a.eval (.tmp (T ka))) → K a w') → o.wp P a w K Q)
    (Fin : Act → World → Prop)
    (hlast : ∀ (d : Nat → Bool) (o : Oper) (a : Act) (w : World) (K : Act → World → Prop), ops[m]? = some o → (∀ i, i < m → d i = true) → Flow2 base (fun _ w => But [] W0.drew w) C T m d a w → St w (a.eval (.tmp (T ka))) → (∀ a' w', Fin a' w' → K a' w') → o.wp P a w K Q)
    (hend : ∀ a w, Fin a w → Q .normal a w) (hqm : q < m) :
    (Code.region id ops true).wp P Q base W0 :=
  region_flow4 hm hlow hg (fun w => But [] W0.drew w) (But.refl _ _) (fun _ _ h hb => h.trans' hb) C T m q ka hka St hsz hinj hT hC hCq hSt hall hqk hstep hmute Fin hlast hend hqm
end Go.Proofs.YtjbboicccddhbaaGreatDoor
