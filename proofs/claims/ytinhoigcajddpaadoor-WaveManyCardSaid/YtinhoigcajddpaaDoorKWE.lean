/- WaveMany: at every row of floats and every number the law (package wave's Many answers, bit by bit, NaNs among themselves, what the document's own reckoning answers, and the errors that it asks for) answers true and leaves its arguments as they were: the row, and the card that ties the listed variable to the program's text. -/
import Derived.Test.YtinhoigcajddpaaDoorRows
import Derived.Test.YtinhoigcajddpaaDoorTie
import Derived.Test.YtinhoigcajddpaaDoorCards
import Derived.Lib.SmallJoins
import Derived.ProofKit
import Derived.OpenShut
import Derived.LaidMore
import Derived.LaidHandle
import Derived.Stop.Joined
import Derived.SevenTiedAt
import Derived.Deep.Slices
import Derived.Carry
import Derived.Test.YtinhoigcajddpaaDoorKWD
namespace Go.Proofs.YtinhoigcajddpaaDoor
open Go.ChangeShapes Go.WideShapes Go.ChangeAt Go.RowKit Go.Joins
set_option linter.unusedVariables false

theorem own : ownKnob Tryd.prog.godebug = none := by kernel_rfl
theorem gErr : Tryd.prog.globalNamed "errors.errorType" = some 0 := by kernel_rfl
theorem rtErr : (Tryd.prog.cutTypes.find? (·.1 == "internal/reflectlite.rtype")).map (·.2) = some 66 := by kernel_rfl
theorem oneRow : ((List.range 110).filter fun t => Tryd.prog.rowNamed t [101, 114, 114, 111, 114]) = [24] := by kernel_rfl
theorem tsize : Tryd.prog.types.size = 110 := by kernel_rfl
theorem cellsF : Tryd.prog.cellsOf 32 = 1 := by kernel_rfl
theorem laid_out : laidOutB Tryd.prog = true := by kernel_rfl

theorem door_met (os : Os) (args : Array Value) : laidMetH Tryd.prog Rows.waveManyRow.laid ((World.doorLaid Tryd.prog 400 os).forCall (fun _ _ => 0) ⟨#[], args, []⟩).memory :=
  laidMetH_of_parts3 (fuel := 8) (laidMet_of_run' 8 (by kernel_rfl) (by kernel_rfl)) (by kernel_rfl) (by kernel_rfl)

/-- what the listed variable gives the walk: the type's handle -/
theorem of_laid {W : World} (h : laidMetH Tryd.prog Rows.waveManyRow.laid W) : W.cell? ⟨0, 0, none⟩ = some (.iface 66 (.agg #[.pointer (some ⟨2, 24, none⟩)])) := by
  have h' : laidMet Tryd.prog [] W ∧ handlesMet Tryd.prog [("errors.errorType", Rows.laid_errors_errorType)] W := h
  obtain ⟨name, u, ty, e1, e2, e3, e4, e5⟩ := h'.2 _ (List.mem_singleton.2 rfl)
  have en : name = [101, 114, 114, 111, 114] := (Option.some.inj e1).symm
  subst en
  obtain rfl := Option.some.inj (rtErr.symm.trans e2)
  have hm : ty ∈ (List.range 110).filter fun t => Tryd.prog.rowNamed t [101, 114, 114, 111, 114] := List.mem_filter.2 ⟨List.mem_range.2 (by rw [← tsize]; exact e3), e4⟩
  rw [oneRow] at hm
  obtain rfl := List.mem_singleton.1 hm
  have hh : typeHandle Tryd.prog 24 = .pointer (some ⟨2, 24, none⟩) := by kernel_rfl
  rw [hh] at e5
  simpa using World.var?_cell gErr e5 0

theorem trod_float {H : Type} {enc : TypeId × Value → H} {w : World} {base : Nat} {spare : Nat → Bool} {held : Bool} {fuel : Nat} {cs : List Value} {x : DataW H × List MemPlace} (h : DataW.trod enc Tryd.prog w base spare held fuel 32 cs = some x) : ∃ n, cs = [.float .f64 n] ∧ x = (.lit (.float .f64 n), []) := by
  cases fuel with
  | zero => simp [DataW.trod] at h
  | succ n =>
    unfold DataW.trod at h
    rw [Tryd.underlying32] at h
    split at h <;> simp_all
theorem spot_none {w : World} {a : Addr} {v : Value} (h : w.cell? a = some v) : a.spot = none := by
  unfold World.cell? at h
  cases hs : a.spot with
  | none => rfl
  | some _ =>
    rw [hs] at h
    cases hb : w.heap[a.block]? with
    | none => rw [hb] at h; simp at h
    | some o => rw [hb] at h; cases o <;> simp at h
theorem add_none (a : Addr) (k : Nat) (h : (a.add k).spot = none) : a.add k = ⟨a.block, a.off + k, none⟩ ∧ (0 < k ∨ a.spot = none) := by
  unfold Addr.add at *
  split at h
  · rename_i hk
    subst hk
    refine ⟨?_, .inr h⟩
    rw [if_pos rfl]
    cases a
    simp only at h
    subst h
    rfl
  · rename_i hk
    exact ⟨by rw [if_neg hk], .inl (by omega)⟩
set_option maxRecDepth 100000 in
/-- a slice of floats that came in -/
theorem floats_in {H : Type} {enc : TypeId × Value → H} {W : World} {v : Value} {d : DataW H} {ps : List MemPlace} (hval : Value.okWide Tryd.prog W .any 0 22 v) (h : DataW.Trod enc Tryd.prog W 0 (fun _ => true) true 22 v d ps) :
    ∃ n f, FAt W v n f ∧ n < 9223372036854775808 ∧ ∀ x ∈ ps, x.block < W.heap.size := by
  obtain ⟨a, len, cap, rfl⟩ := okWide_slice Tryd.underlying22 hval
  obtain ⟨fuel, hf⟩ := h
  rcases Deep.open_slice1 Tryd.underlying22 cellsF hf with ⟨hc, hx⟩ | ⟨b, len', cap', m, k, V, D, Pl, hc, -, hl, hm, hmm, hx, hall⟩
  · have hc' : [Value.slice a len cap] = [.slice none 0 0] := hc
    simp only [List.cons.injEq, Value.slice.injEq, and_true] at hc'
    obtain ⟨rfl, rfl, rfl⟩ := hc'
    have : ps = [] := (Prod.mk.inj hx).2
    subst this
    exact ⟨0, fun _ => none, ⟨none, 0, rfl, Nat.le_refl _, fun i hi => by omega⟩, by omega, fun x hx => by simp at hx⟩
  · have hc' : [Value.slice a len cap] = [.slice (some b) len' cap'] := hc
    simp only [List.cons.injEq, Value.slice.injEq, and_true] at hc'
    obtain ⟨rfl, rfl, rfl⟩ := hc'
    have hlm : len ≤ m := by rw [hmm]; simpa using hl
    have each : ∀ i, i < m → ∃ x, W.cell? ⟨b.block, b.off + i, none⟩ = some (.float .f64 x) ∧ Pl i = [] ∧ (0 < i ∨ b.spot = none) := fun i hi => by
      obtain ⟨c0, t0⟩ := hall i hi
      obtain ⟨x, e1, e2⟩ := trod_float t0
      simp only [List.cons.injEq, and_true] at e1
      rw [e1] at c0
      have hs := add_none b i (spot_none c0)
      rw [hs.1] at c0
      exact ⟨x, c0, (Prod.mk.inj e2).2, hs.2⟩
    have hspot : 0 < m → b.spot = none := fun h0 => by
      obtain ⟨x, -, -, h1⟩ := each 0 h0
      simpa using h1
    obtain ⟨X, hX⟩ := Classical.axiomOfChoice (fun i : Nat => (by
      by_cases hi : i < m
      · obtain ⟨x, h⟩ := each i hi
        exact ⟨x, fun _ => ⟨h.1, h.2.1⟩⟩
      · exact ⟨0, fun h => absurd h hi⟩ : ∃ x, i < m → W.cell? ⟨b.block, b.off + i, none⟩ = some (.float .f64 x) ∧ Pl i = []))
    refine ⟨len, fun i => can (X i), ⟨some b, cap, rfl, hl, fun i hi => ?_⟩, ?_, fun x hx' => ?_⟩
    · have hs := hspot (by omega)
      refine ⟨b.block, b.off, X i, ?_, (hX i (by omega)).1, rfl⟩
      cases b
      simp only at hs
      subst hs
      rfl
    · have : maxLen < 9223372036854775808 := by unfold maxLen; omega
      omega
    · have hps : ps = MemPlace.row b m ++ (List.range m).flatMap Pl := (Prod.mk.inj hx).2
      rw [hps] at hx'
      have hfl : (List.range m).flatMap Pl = [] := by
        rw [List.flatMap_eq_nil_iff]
        intro i hi
        exact (hX i (List.mem_range.1 hi)).2
      rw [hfl, List.append_nil] at hx'
      rcases Nat.eq_zero_or_pos m with h0 | h0
      · subst h0
        simp [MemPlace.row] at hx'
      · have hb : b.block < W.heap.size := by
          have h := lt_of_cell (hX 0 h0).1
          exact h
        have : x.block = b.block := by
          unfold MemPlace.row at hx'
          obtain ⟨i, -, rfl⟩ := List.mem_map.1 hx'
          rfl
        omega

set_option maxRecDepth 100000 in
theorem lifted (os : Os) (started : os.Started) (H : Type) (enc : TypeId × Value → H) :
    ReturnsInHanded {} Tryd.checked os 3 .any (fun w args => (Rows.waveManySpec.pre enc Tryd.prog Tryd.f3 [] false w args ∧ laidMetH Tryd.prog Rows.waveManyRow.laid w) ∧ sizedMet enc Tryd.prog Tryd.f3 (OpenSpec.ofChange Rows.waveManySpec) false w args)
      (Rows.waveManySpec.post enc Tryd.prog Tryd.f3 false true false false) := by
  refine returnsInHanded_of_change_and (C := Tryd.checked) (X := fun w _ => laidMetH Tryd.prog Rows.waveManyRow.laid w) (fun _ _ _ hh h => h.of_heap hh) own started (by kernel_rfl) Tryd.func3
    (ChangeSpec.witness_shaped (enc := enc) (C := Tryd.checked) (os := os) (X := fun w _ => laidMetH Tryd.prog Rows.waveManyRow.laid w) false (World.doorLaid Tryd.prog 400 os) #[.slice none 0 0, .int .i64 0] 8 rfl (World.shaped_of_RefB (by kernel_rfl) (by kernel_rfl)) (by kernel_rfl) (by kernel_rfl) (by kernel_rfl) (door_met os _)) ?_
  intro W base args ds gs before hval0 hW _ _ hL _
  have hval : ∀ (j : Nat) t v, Tryd.f3.params[j]? = some t → args[j]? = some v → Value.okWide Tryd.prog W .any base t v := hval0
  have hW' := hW
  obtain ⟨p, q, hA0, hV, rfl, hfz, hnd⟩ := hW
  have hA : DataW.TrodAll enc Tryd.prog W 0 (fun _ => true) true Tryd.f3.params.toList args.toList ds p := hA0
  rw [Tryd.params3] at hA hval
  obtain ⟨v0, v1, d0, d1, p0, p1, rfl, rfl, rfl, h0, h1⟩ := trodAll_two hA
  obtain ⟨rfl, rfl⟩ := trodVars_none hV
  obtain ⟨b1, rfl, rfl, rfl, wb1⟩ := open_int Tryd.underlying3 (hval 1 3 v1 rfl rfl) h1
  have herr := of_laid hL
  obtain ⟨n, f, hfa, hn, hlt⟩ := floats_in (hval 0 22 v0 rfl rfl) h0
  clear hA0 hval0 hval hA
  have Bb1 : -9223372036854775808 ≤ b1 ∧ b1 < 9223372036854775808 := by have := bounds_i64 wb1; omega
  have key : Calls Tryd.prog 3 #[v0, .int .i64 b1] W fun e w' => e = .returned (.bool true) ∧ But [] W w' := waveMany_any v0 n f b1 Bb1 W hfa hn herr
  refine key.mono fun e W' ⟨he, hb⟩ => ?_
  subst he
  have hbl := hb.below
  have e1 : Rows.waveManySpec.fn H ([d0, .lit (.int .i64 b1)] ++ []) = { results := [.lit (.bool true)], args := [d0, .lit (.int .i64 b1)] } := by simp [Rows.waveManySpec]
  refine ⟨_, rfl, _, _, _, [], p0 ++ [], [], hW', ?_, ?_, ?_, hbl.frame _, fun h => by cases h⟩
  · rw [e1]; exact trodAll_mk1 (shut_bool Tryd.underlying4 true)
  · rw [e1]; exact trodAll_mk2 (Below.trod laid_out (by kernel_rfl) (of_decide_eq_true (by kernel_rfl)) h0 hbl hlt) (shut_int Tryd.underlying3 wb1)
  · rw [e1]; rfl

theorem row_holds : Rows.WaveManySaid :=
  OpenClaim.holds_of_wide 3 Tryd.f3 rfl rfl rfl rfl rfl rfl rfl ⟨rfl, rfl, rfl, rfl, rfl⟩ rfl rfl rfl rfl rfl (by kernel_rfl) Tryd.func3 (by kernel_rfl)
    (of_decide_eq_true (by kernel_rfl)) (by unfold Func.isWrapper; rw [if_neg (of_decide_eq_false (by kernel_rfl))]; exact ⟨rfl, rfl⟩)
    (fun os started H enc _ => lifted os started H enc)

theorem card_holds : Rows.WaveManyCardSaid :=
  Claim7.holds_tied_plain_at .later [] [.handle] true (true, "3debaf37765f823804eab4f8ff289f20d4d81f344710e30dd90467fc0c8b9882") true
    row_holds (fun _ h => by cases h) (by kernel_rfl) (fun _ h => by cases h) waveMany_row_tie rfl ⟨rfl, rfl⟩ (by kernel_rfl) rfl
    (fun f fn hf hfn => by
      obtain rfl : f = 3 := Option.some.inj ((show Tryd.prog.funcNamed "tontine/tontinelaw.WaveMany" = some 3 by kernel_rfl).symm.trans hf) |>.symm
      obtain rfl : fn = Tryd.f3 := (Option.some.inj (Tryd.func3.symm.trans hfn)).symm
      exact ⟨by kernel_rfl, fun j t ht => by
        rw [Tryd.params3] at ht
        rcases j with _ | _ | j
        · obtain rfl : 22 = t := by simpa using ht
          exact (show Tryd.prog.wantsStandIn 22 = false by kernel_rfl)
        · obtain rfl : 3 = t := by simpa using ht
          exact (show Tryd.prog.wantsStandIn 3 = false by kernel_rfl)
        · simp at ht⟩)
    (by kernel_rfl)
#print axioms card_holds
end Go.Proofs.YtinhoigcajddpaaDoor
