/- As RL, where some operations are never wanted: their test always says no. -/
import Derived.Test.YtjbboicccddhbaaGreatDoorKBL2
namespace Go.Proofs.YtjbboicccddhbaaGreatDoor
open Go.RowKit

theorem region_skip {P : Program} {id : Nat} {ops : Array Oper} {Q : Exit → Act → World → Prop} {base : Act} {W0 : World} (hm : P.follows .mixedOrders = true)
    (hlow : ∀ i o, ops[i]? = some o → ∀ e ∈ o.after, Region.binds .any e = true → e.on < i)
    (C : Nat → World → Value → Prop) (T : Nat → Nat) (hpl : plainOps ops T = true) (sk : Nat → Bool)
    (hgd : ∀ (i : Nat) (o : Oper) (j : Nat) (want : Bool), ops[i]? = some o → o.guard = some (j, want) → ∀ w v, C j w v → v = .bool (if sk i then !want else want))
    (hsk : ∀ (i : Nat) (o : Oper), ops[i]? = some o → sk i = true → o.guard ≠ none) (hCs : ∀ i w, sk i = true → C i w undef)
    (hinj : ∀ i j, i < ops.size → j < ops.size → T i = T j → i = j) (hT : ∀ i, i < ops.size → T i < base.tmps.size) (hC : ∀ i w w' v, i < ops.size → C i w v → But [] w w' → C i w' v)
    (hstep : ∀ (i : Nat) (o : Oper) (a : Act) (w : World) (K : Act → World → Prop), sk i = false → ops[i]? = some o → But [] W0.drew w → (∀ t, (∀ j, j < ops.size → t = T j → ∃ oj, ops[j]? = some oj ∧ ∃ e ∈ oj.after, Region.binds .any e = true ∧ e.on = i) → a.eval (.tmp t) = base.eval (.tmp t)) → (∀ e ∈ o.after, Region.binds .any e = true → C e.on w (a.eval (.tmp (T e.on)))) → (∀ v w', But [] w w' → C i w' v → K (a.put o.dst v) w') → o.wp P a w K Q)
    (hend : ∀ a w, Run W0.drew ops base C T (fun _ => true) a w → Q .normal a w) :
    (Code.region id ops true).wp P Q base W0 := by
  have hp := plain_of hpl
  refine region_inv hm hlow (fun d a w => Run W0.drew ops base C T d a w) ?_ ?_ ?_
  · exact ⟨fun _ _ _ h => by simp at h, But.refl _ _, rfl, rfl, fun _ _ => rfl, fun _ _ h => by simp at h⟩
  · intro d a w hd h
    refine hend a w ⟨fun _ _ _ _ _ _ _ => rfl, h.but, h.size, h.defers, fun t ht => h.rest t (fun j hj _ => ht j hj rfl), fun i hi _ => h.has i hi (hd i hi)⟩
  · intro d i o a w ho hdi hdep h
    have hi : i < ops.size := (Array.getElem?_eq_some_iff.1 ho).1
    obtain ⟨hdst, hg⟩ := hp i o ho
    have hw : Region.wanted o (yielded ops a.tmps) = !sk i := by
      unfold Region.wanted
      cases hgo : o.guard with
      | none =>
        have : sk i = false := by
          cases e : sk i with
          | false => rfl
          | true => exact absurd hgo (hsk i o ho e)
        rw [this]; rfl
      | some jw =>
        obtain ⟨j, want⟩ := jw
        obtain ⟨hj, e, he, hbi, hon⟩ := hg j want hgo
        have hdj : d j = true := by rw [← hon]; exact hdep e he hbi
        have hv := hgd i o j want ho hgo w _ (h.has j hj hdj)
        have hoj := Array.getElem?_eq_getElem hj
        have hdj2 := (hp j _ hoj).1
        have hsl := slot_is hv (by rw [h.size]; exact hT j hj)
        show (yielded ops a.tmps j == some want) = !sk i
        unfold yielded
        rw [hoj, Option.bind_some, hdj2, Option.bind_some, hsl]
        cases sk i <;> cases want <;> rfl
    unfold wpOp
    by_cases es : sk i = true
    · rw [es] at hw
      simp only [ho, hw, Bool.not_true, Bool.false_eq_true, if_false]
      rw [hdst]
      exact h.next hinj hT hC i o ho hdep undef w (But.refl _ _) (hCs i w es)
    · have es' : sk i = false := by simpa using es
      rw [es'] at hw
      simp only [ho, hw, Bool.not_false, if_true]
      refine .inl (hstep i o a w _ es' ho h.but (fun t ht => h.eval t (fun j hj hd e => ?_)) (fun e he hb => h.has _ (by have := hlow i o ho e he hb; omega) (hdep e he hb)) (fun v w' hb hv => ?_))
      · obtain ⟨oj, hoj, ed, hed, hbi, hon⟩ := ht j hj e
        have := h.down j oj hoj hd ed hed hbi
        rw [hon, hdi] at this
        simp at this
      · rw [hdst]
        exact h.next hinj hT hC i o ho hdep v w' hb hv
end Go.Proofs.YtjbboicccddhbaaGreatDoor

namespace Go.Proofs.YtjbboicccddhbaaGreatDoor
open Go.RowKit

set_option maxHeartbeats 2000000 in
theorem pick_gen (a n : Int) (h1 : -9223372036854775808 ≤ a) (h2 : a < 9223372036854775808) (hn : 0 < n) (hn2 : n < 9223372036854775808) (w : World) :
    Calls Tryz.prog 14 #[.int .i64 a, .int .i64 n] w fun e w' => e = .returned (.int .i64 ((((if a < 0 then a + 18446744073709551616 else a) % n).toNat : Nat) : Int)) ∧ But [] w w' := by
  obtain ⟨u, hu⟩ : ∃ u : Int, u = if a < 0 then a + 18446744073709551616 else a := ⟨_, rfl⟩
  have u1 : 0 ≤ u ∧ u < 18446744073709551616 := by rw [hu]; split <;> omega
  have e1 : IntKind.u64.wrap a = u := by rw [IntKind.wrap_u64, hu]; split <;> omega
  rw [← hu]
  have e2 := Int.emod_nonneg u (show n ≠ 0 by omega)
  have e3 := Int.emod_lt_of_pos u hn
  clear hu
  have e5 : u.tmod n = u % n := Int.tmod_eq_emod_of_nonneg u1.1
  obtain ⟨m, hm⟩ : ∃ m, m = u % n := ⟨_, rfl⟩
  rw [← hm] at e2 e3 e5 ⊢
  have e4 : ((m.toNat : Nat) : Int) = m := by omega
  rw [e4]
  have e6 : IntKind.i64.wrap m = m := by rw [IntKind.wrap_i64]; omega
  have e7 : IntKind.u64.wrap n = n := by rw [IntKind.wrap_u64]; omega
  have e8 : IntKind.u64.wrap m = m := by rw [IntKind.wrap_u64]; omega
  have n0 : (n == 0) = false := beq_eq_false_iff_ne.2 (by omega)
  have n1 : n ≠ 0 := by omega
  clear e4 hm
  go_enter Tryz.func14, Tryz.ntmps14
  go_wp2
  go_ret
  exact ⟨rfl, But.refl _ _⟩
end Go.Proofs.YtjbboicccddhbaaGreatDoor

namespace Go.Proofs.YtjbboicccddhbaaGreatDoor
open Go.RowKit

theorem cmpZ_tells (x y : Rat) (r : Int) (hr : r = cmpZ (x.num * (y.den : Int)) (y.num * (x.den : Int))) : (r < 0 ↔ x < y) ∧ (0 < r ↔ y < x) ∧ (r = 0 ↔ x = y) := by
  have h1 : x < y ↔ x.num * (y.den : Int) < y.num * (x.den : Int) := Rat.lt_iff x y
  have h2 : y < x ↔ y.num * (x.den : Int) < x.num * (y.den : Int) := Rat.lt_iff y x
  have h3 : x = y ↔ x.num * (y.den : Int) = y.num * (x.den : Int) := by
    constructor
    · intro h; rw [h]
    · intro h
      exact Rat.le_antisymm ((Rat.le_iff _ _).2 (by omega)) ((Rat.le_iff _ _).2 (by omega))
  rw [h1, h2, h3, hr]
  unfold cmpZ
  split
  · omega
  · split <;> omega
end Go.Proofs.YtjbboicccddhbaaGreatDoor
