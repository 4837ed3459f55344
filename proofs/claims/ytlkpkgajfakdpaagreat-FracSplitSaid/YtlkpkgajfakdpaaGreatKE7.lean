/- FracSplit: at every number of units and every row of weights, each a pair of whole numbers, the law (nothing is lost; each share is less than one off; who weighs more has no less) answers true and leaves its arguments as they were. No condition. -/
import Derived.Test.YtlkpkgajfakdpaaGreatRows
import Derived.Lib.SmallJoins
import Derived.ProofKit
import Derived.SizedLaws
import Derived.OpenShut
import Derived.LaidMore
import Derived.LaidHandle
import Derived.Stop.Joined
import Derived.SevenTiedAt
import Derived.Deep.SlicePairs
import Derived.Carry
import Derived.Test.YtlkpkgajfakdpaaGreatKY9r
namespace Go.Proofs.YtlkpkgajfakdpaaGreat
open Go.ChangeShapes Go.WideShapes Go.ChangeAt Go.RowKit Go.Joins
set_option linter.unusedVariables false

theorem own : ownKnob Tryz.prog.godebug = none := by kernel_rfl
theorem cellsQ : Tryz.prog.cellsOf 42 = 2 := by kernel_rfl
theorem laid_out : laidOutB Tryz.prog = true := by kernel_rfl
theorem cellsI : Tryz.prog.cellsOf 3 = 1 := by kernel_rfl
theorem spot_none {w : World} {a : Addr} {v : Value} (h : w.cell? a = some v) : a.spot = none := by
  unfold World.cell? at h
  cases hs : a.spot with
  | none => rfl
  | some _ =>
    rw [hs] at h
    cases hb : w.heap[a.block]? with
    | none => rw [hb] at h; simp at h
    | some o => rw [hb] at h; cases o <;> simp at h
theorem add_none (a : Addr) (k : Nat) (h : (a.add k).spot = none) : a.add k = ⟨a.block, a.off + k, none⟩ ∧ (0 < k ∨ a.spot = none) := by
  unfold Addr.add at *
  split at h
  · rename_i hk
    subst hk
    refine ⟨?_, .inr h⟩
    rw [if_pos rfl]
    cases a
    simp only at h
    subst h
    rfl
  · rename_i hk
    exact ⟨by rw [if_neg hk], .inl (by omega)⟩
set_option maxRecDepth 100000 in
/-- a slice of pairs that came in -/
theorem pairs_in {H : Type} {enc : TypeId × Value → H} {W : World} {v : Value} {d : DataW H} {ps : List MemPlace} (hval : Value.okWide Tryz.prog W .any 0 22 v) (h : DataW.Trod enc Tryz.prog W 0 (fun _ => true) true 22 v d ps) :
    ∃ qs : List (Int × Int), QsAt W v qs ∧ (∀ q ∈ qs, Fits q) ∧ ∀ x ∈ ps, x.block < W.heap.size := by
  obtain ⟨a, len, cap, rfl⟩ := okWide_slice Tryz.underlying22 hval
  obtain ⟨fuel, hf⟩ := h
  rcases Deep.open_slice_pairs Tryz.underlying22 Tryz.underlying42 cellsQ rfl rfl cellsI cellsI hf with ⟨hc, hx⟩ | ⟨b, len', cap', m, k, V0, V1, D0, D1, P0, P1, hc, -, hl, hm, hmm, hx, hall⟩
  · have hc' : [Value.slice a len cap] = [.slice none 0 0] := hc
    simp only [List.cons.injEq, Value.slice.injEq, and_true] at hc'
    obtain ⟨rfl, rfl, rfl⟩ := hc'
    have : ps = [] := (Prod.mk.inj hx).2
    subst this
    exact ⟨[], ⟨none, 0, rfl, Nat.le_refl _, fun i q hq => by simp at hq⟩, fun q hq => by simp at hq, fun x hx => by simp at hx⟩
  · have hc' : [Value.slice a len cap] = [.slice (some b) len' cap'] := hc
    simp only [List.cons.injEq, Value.slice.injEq, and_true] at hc'
    obtain ⟨rfl, rfl, rfl⟩ := hc'
    have hlm : len ≤ m := by rw [hmm]; simpa using hl
    have each : ∀ i, i < m → ∃ q : Int × Int, Fits q ∧ W.cell? ⟨b.block, b.off + i * 2, none⟩ = some (.int .i64 q.1) ∧ W.cell? ⟨b.block, b.off + i * 2 + 1, none⟩ = some (.int .i64 q.2) ∧ P0 i = [] ∧ P1 i = [] := fun i hi => by
      obtain ⟨c0, c1, t0, t1⟩ := hall i hi
      obtain ⟨x, e1, e2, w1⟩ := DataW.trod_int Tryz.underlying3 t0
      obtain ⟨y, f1, f2, w2⟩ := DataW.trod_int Tryz.underlying3 t1
      simp only [List.cons.injEq, and_true] at e1 f1
      rw [(add_none b _ (spot_none c0)).1, e1] at c0
      rw [(add_none b _ (spot_none c1)).1, f1] at c1
      have Bx := bounds_i64 w1
      have By := bounds_i64 w2
      exact ⟨(x, y), ⟨by omega, by omega, by omega, by omega⟩, c0, c1, (Prod.mk.inj e2).2, (Prod.mk.inj f2).2⟩
    have hspot : 0 < m → b.spot = none := fun h0 => by
      obtain ⟨c0, -⟩ := hall 0 h0
      have := (add_none b _ (spot_none c0)).2
      simpa using this
    obtain ⟨q, hq⟩ := Classical.axiomOfChoice (fun i : Nat => (by
      by_cases hi : i < m
      · obtain ⟨q, h⟩ := each i hi
        exact ⟨q, fun _ => h⟩
      · exact ⟨(0, 0), fun h => absurd h hi⟩ : ∃ q : Int × Int, i < m → Fits q ∧ W.cell? ⟨b.block, b.off + i * 2, none⟩ = some (.int .i64 q.1) ∧ W.cell? ⟨b.block, b.off + i * 2 + 1, none⟩ = some (.int .i64 q.2) ∧ P0 i = [] ∧ P1 i = []))
    refine ⟨(List.range len).map q, ⟨some b, cap, by simp, by simpa using hl, fun i z hz => ?_⟩, fun z hz => ?_, fun x hx' => ?_⟩
    · rw [List.getElem?_map] at hz
      by_cases hi : i < len
      · rw [List.getElem?_range hi, Option.map_some] at hz
        obtain rfl := Option.some.inj hz
        have hs := hspot (by omega)
        refine ⟨b.block, b.off, ?_, (hq i (by omega)).2.1, (hq i (by omega)).2.2.1⟩
        cases b
        simp only at hs
        subst hs
        rfl
      · rw [List.getElem?_eq_none (by simpa using hi)] at hz
        simp at hz
    · obtain ⟨i, hi, rfl⟩ := List.mem_map.1 hz
      exact (hq i (by have := List.mem_range.1 hi; omega)).1
    · have hps : ps = MemPlace.row b (m * 2) ++ (List.range m).flatMap fun i => P0 i ++ P1 i := (Prod.mk.inj hx).2
      rw [hps] at hx'
      have hfl : ((List.range m).flatMap fun i => P0 i ++ P1 i) = [] := by
        rw [List.flatMap_eq_nil_iff]
        intro i hi
        have h := hq i (List.mem_range.1 hi)
        rw [h.2.2.2.1, h.2.2.2.2]
        rfl
      rw [hfl, List.append_nil] at hx'
      rcases Nat.eq_zero_or_pos m with h0 | h0
      · subst h0
        simp [MemPlace.row] at hx'
      · have hb : b.block < W.heap.size := by
          have h := lt_of_cell (hq 0 h0).2.1
          exact h
        have : x.block = b.block := by
          unfold MemPlace.row at hx'
          obtain ⟨i, -, rfl⟩ := List.mem_map.1 hx'
          rfl
        omega

set_option maxRecDepth 100000 in
theorem lifted (os : Os) (started : os.Started) (H : Type) (enc : TypeId × Value → H) :
    ReturnsInHanded {} Tryz.checked os 3 .any (Rows.fracSplitSpec.pre6 enc Tryz.prog Tryz.f3 Rows.fracSplitRow.domain false) (Rows.fracSplitSpec.post enc Tryz.prog Tryz.f3 false true false false) := by
  refine returnsInHanded_of_change_sized (C := Tryz.checked) own started (by kernel_rfl) Tryz.func3
    (ChangeSpec.witness6 (enc := enc) (C := Tryz.checked) false ⟨#[], #[.int .i64 0, .slice none 0 0], []⟩ 8 (by kernel_rfl) (by kernel_rfl) (by kernel_rfl) (by kernel_rfl)) ?_
  intro W base args ds gs before hval0 hW _ _ _
  have hval : ∀ (j : Nat) t v, Tryz.f3.params[j]? = some t → args[j]? = some v → Value.okWide Tryz.prog W .any base t v := hval0
  have hW' := hW
  obtain ⟨p, q, hA0, hV, rfl, hfz, hnd⟩ := hW
  have hA : DataW.TrodAll enc Tryz.prog W 0 (fun _ => true) true Tryz.f3.params.toList args.toList ds p := hA0
  rw [Tryz.params3] at hA hval
  obtain ⟨v0, v1, d0, d1, p0, p1, rfl, rfl, rfl, h0, h1⟩ := trodAll_two hA
  obtain ⟨rfl, rfl⟩ := trodVars_none hV
  obtain ⟨a1, rfl, rfl, rfl, wa1⟩ := open_int Tryz.underlying3 (hval 0 3 v0 rfl rfl) h0
  obtain ⟨qs, hqs, hfit, hlt⟩ := pairs_in (hval 1 22 v1 rfl rfl) h1
  clear hA0 hval0 hval h0 hA
  simp only [List.append_nil] at hW'
  have Ba1 : -9223372036854775808 ≤ a1 ∧ a1 < 9223372036854775808 := by have := bounds_i64 wa1; omega
  have key : Calls Tryz.prog 3 #[.int .i64 a1, v1] W fun e w' => e = .returned (.bool true) ∧ But [] (undrawn W) w' := fracSplit_any a1 Ba1.1 Ba1.2 v1 qs W hqs hfit
  refine key.mono fun e W' ⟨he, hb⟩ => ?_
  subst he
  have hbl : Below W.heap.size W W' := ⟨hb.os, hb.tape, hb.output, hb.size, fun k hk => hb.block k hk (by simp)⟩
  have e1 : Rows.fracSplitSpec.fn H ([.lit (.int .i64 a1), d1] ++ []) = { results := [.lit (.bool true)], args := [.lit (.int .i64 a1), d1] } := by simp [Rows.fracSplitSpec]
  refine ⟨_, rfl, _, _, _, [], [] ++ p1, [], hW', ?_, ?_, ?_, hbl.frame _, fun h => by cases h⟩
  · rw [e1]; exact trodAll_mk1 (shut_bool Tryz.underlying4 true)
  · rw [e1]; exact trodAll_mk2 (shut_int Tryz.underlying3 wa1) (Below.trod laid_out (by kernel_rfl) (of_decide_eq_true (by kernel_rfl)) h1 hbl hlt)
  · rw [e1]; rfl

theorem row_holds : Rows.FracSplitSaid :=
  OpenClaim.holds_of_wide 3 Tryz.f3 rfl rfl rfl rfl rfl rfl rfl ⟨rfl, rfl, rfl, rfl, rfl⟩ rfl rfl rfl rfl rfl (by kernel_rfl) Tryz.func3 (by kernel_rfl)
    (of_decide_eq_true (by kernel_rfl)) (by unfold Func.isWrapper; rw [if_neg (of_decide_eq_false (by kernel_rfl))]; exact ⟨rfl, rfl⟩)
    (fun os started H enc _ => lifted os started H enc)

#print axioms row_holds
end Go.Proofs.YtlkpkgajfakdpaaGreat
