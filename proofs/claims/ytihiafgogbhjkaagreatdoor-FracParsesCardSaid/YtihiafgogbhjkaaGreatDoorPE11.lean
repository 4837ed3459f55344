/- FracParses: at every text the law (Parse answers what the document's own reading answers: the fraction, or the error and its place) answers true and leaves its argument as it was: the row, and the card that ties the listed variables to the program's text. -/
import Derived.Test.YtihiafgogbhjkaaGreatDoorRows
import Derived.Test.YtihiafgogbhjkaaGreatDoorTie
import Derived.Test.YtihiafgogbhjkaaGreatDoorCards
import Derived.Lib.SmallJoins
import Derived.ProofKit
import Derived.OpenShut
import Derived.LaidMore
import Derived.LaidHandle
import Derived.Stop.Joined
import Derived.SevenTiedAt
import Derived.ChangeMaps5
import Derived.Test.YtihiafgogbhjkaaGreatDoorPHPc
namespace Go.Proofs.YtihiafgogbhjkaaGreatDoor
open Go.ChangeShapes Go.WideShapes Go.ChangeAt Go.RowKit Go.Joins Go.ChangeMaps
set_option linter.unusedVariables false

theorem own : ownKnob Tryz.prog.godebug = none := by kernel_rfl
theorem gPow : Tryz.prog.globalNamed "internal/strconv.uint64pow10" = some 4 := by kernel_rfl
theorem tPow : (Tryz.prog.globals[4]?).map (·.type) = some 239 := by kernel_rfl
theorem gErr : Tryz.prog.globalNamed "errors.errorType" = some 1 := by kernel_rfl
theorem rtErr : (Tryz.prog.cutTypes.find? (·.1 == "internal/reflectlite.rtype")).map (·.2) = some 212 := by kernel_rfl
theorem oneRow : ((List.range 274).filter fun t => Tryz.prog.rowNamed t [101, 114, 114, 111, 114]) = [32] := by kernel_rfl
theorem tsize : Tryz.prog.types.size = 274 := by kernel_rfl
theorem cells20 : Tryz.prog.cellsOf 239 = 20 := by kernel_rfl
theorem cellsQ : Tryz.prog.cellsOf 23 = 2 := by kernel_rfl
theorem cells1 : Tryz.prog.cellsOf 24 = 1 := by kernel_rfl
theorem powData : (Rows.laid_internal_strconv_uint64pow10 : DataW Unit) = Lib.tabData .u64 Lib.pow10Tab := by kernel_rfl

theorem door_met (os : Os) (args : Array Value) : laidMetH Tryz.prog Rows.fracParsesRow.laid ((World.doorLaid Tryz.prog 400 os).forCall (fun _ _ => 0) ⟨#[], args, []⟩).memory :=
  laidMetH_of_parts3 (fuel := 8) (laidMet_of_run' 8 (by kernel_rfl) (by kernel_rfl)) (by kernel_rfl) (by kernel_rfl)

theorem gFine : Tryz.prog.globalNamed "tontine/tontineref.fine" = some 0 := by kernel_rfl
theorem tFine : (Tryz.prog.globals[0]?).map (·.type) = some 62 := by kernel_rfl
theorem cellsE : Tryz.prog.cellsOf 35 = 1 := by kernel_rfl
theorem cellsI : Tryz.prog.cellsOf 3 = 1 := by kernel_rfl

/-- what the listed variables give the walk: the table of powers of ten, the type's handle, the reference's word for no fault -/
theorem of_laid {W : World} (h : laidMetH Tryz.prog Rows.fracParsesRow.laid W) : Lib.TabIs Tryz.prog W "internal/strconv.uint64pow10" .u64 Lib.pow10Tab ∧ W.cell? ⟨1, 0, none⟩ = some (.iface 212 (.agg #[.pointer (some ⟨8, 32, none⟩)])) ∧ Fine W := by
  have h' : laidMet Tryz.prog [("math/bits.deBruijn32tab", Rows.laid_math_bits_deBruijn32tab), ("math/bits.deBruijn64tab", Rows.laid_math_bits_deBruijn64tab), ("internal/strconv.uint64pow10", Rows.laid_internal_strconv_uint64pow10), ("tontine/tontineref.fine", Rows.laid_tontine_tontineref_fine)] W ∧ handlesMet Tryz.prog [("errors.errorType", Rows.laid_errors_errorType)] W := h
  refine ⟨?_, ?_, ?_⟩
  · obtain ⟨ps, ⟨g0, t0, cs0, f0, p0, q0, -, -, -, -, ⟨g1, t1, cs1, f1, p1, q1, -, -, -, -, ⟨g2, t2, cs2, f2, p2, q2, hg2, ht2, hv2, hd2, -, -⟩, -⟩, -⟩, -⟩ := h'.1
    obtain rfl := Option.some.inj (gPow.symm.trans hg2)
    obtain rfl := Option.some.inj (tPow.symm.trans ht2)
    rw [powData] at hd2
    unfold Lib.TabIs
    rw [hv2, ← Lib.cells_of_tab Tryz.underlying239 Tryz.underlying24 cells1 cells20 hd2]
  · obtain ⟨name, u, ty, e1, e2, e3, e4, e5⟩ := h'.2 _ (List.mem_singleton.2 rfl)
    have en : name = [101, 114, 114, 111, 114] := (Option.some.inj e1).symm
    subst en
    obtain rfl := Option.some.inj (rtErr.symm.trans e2)
    have hm : ty ∈ (List.range 274).filter fun t => Tryz.prog.rowNamed t [101, 114, 114, 111, 114] := List.mem_filter.2 ⟨List.mem_range.2 (by rw [← tsize]; exact e3), e4⟩
    rw [oneRow] at hm
    obtain rfl := List.mem_singleton.1 hm
    have hh : typeHandle Tryz.prog 32 = .pointer (some ⟨8, 32, none⟩) := by kernel_rfl
    rw [hh] at e5
    simpa using World.var?_cell gErr e5 0
  · obtain ⟨ps, ⟨g0, t0, cs0, f0, p0, q0, -, -, -, -, ⟨g1, t1, cs1, f1, p1, q1, -, -, -, -, ⟨g2, t2, cs2, f2, p2, q2, -, -, -, -, ⟨g3, t3, cs3, f3, p3, q3, hg3, ht3, hv3, hd3, -, -⟩, -⟩, -⟩, -⟩, -⟩ := h'.1
    obtain rfl := Option.some.inj (gFine.symm.trans hg3)
    obtain rfl := Option.some.inj (tFine.symm.trans ht3)
    obtain ⟨y0, y1, n, hx, hlen, k0, k1⟩ := trod_struct2 Tryz.underlying62 hd3
    obtain ⟨a0, e0, r0, -⟩ := DataW.trod_int Tryz.underlying35 k0
    obtain ⟨a1, e1, r1, -⟩ := DataW.trod_int Tryz.underlying3 k1
    subst r0 r1
    have hx1 : (Rows.laid_tontine_tontineref_fine : DataW Unit) = .agg [.lit (.int .i64 a0), .lit (.int .i64 a1)] := (Prod.mk.inj hx).1
    unfold Rows.laid_tontine_tontineref_fine at hx1
    simp only [DataW.agg.injEq, List.cons.injEq, DataW.lit.injEq, Lit.int.injEq, true_and, and_true] at hx1
    obtain ⟨rfl, rfl⟩ := hx1
    have c0 := World.var?_cell gFine hv3 0
    have c1 := World.var?_cell gFine hv3 1
    have z0 : cs3.toList[0]? = some (.int .i64 0) := by
      have := congrArg (fun l : List Value => l[0]?) e0
      simpa [cellsE] using this
    have z1 : cs3.toList[1]? = some (.int .i64 (-1)) := by
      have := congrArg (fun l : List Value => l[0]?) e1
      simpa [cellsI] using this
    exact ⟨c0.trans (by simpa using z0), c1.trans (by simpa using z1)⟩

set_option maxRecDepth 100000 in
theorem lifted (os : Os) (started : os.Started) (H : Type) (enc : TypeId × Value → H) :
    ReturnsInHanded {} Tryz.checked os 4 .any (fun w args => (Rows.fracParsesSpec.pre enc Tryz.prog Tryz.f4 [] false w args ∧ laidMetH Tryz.prog Rows.fracParsesRow.laid w) ∧ sizedMet enc Tryz.prog Tryz.f4 (OpenSpec.ofChange Rows.fracParsesSpec) false w args)
      (Rows.fracParsesSpec.post enc Tryz.prog Tryz.f4 false true false false) := by
  refine returnsInHanded_of_change_and (C := Tryz.checked) (X := fun w _ => laidMetH Tryz.prog Rows.fracParsesRow.laid w) (fun _ _ _ hh h => h.of_heap hh) own started (by kernel_rfl) Tryz.func4
    (ChangeSpec.witness_shaped (enc := enc) (C := Tryz.checked) (os := os) (X := fun w _ => laidMetH Tryz.prog Rows.fracParsesRow.laid w) false (World.doorLaid Tryz.prog 400 os) #[.string ⟨#[]⟩] 8 rfl (World.shaped_of_RefB (by kernel_rfl) (by kernel_rfl)) (by kernel_rfl) (by kernel_rfl) (by kernel_rfl) (door_met os _)) ?_
  intro W base args ds gs before hval0 hW _ hwt hL _
  have hval : ∀ (j : Nat) t v, Tryz.f4.params[j]? = some t → args[j]? = some v → Value.okWide Tryz.prog W .any base t v := hval0
  have hW' := hW
  obtain ⟨p, q, hA0, hV, rfl, hfz, hnd⟩ := hW
  have hA : DataW.TrodAll enc Tryz.prog W 0 (fun _ => true) true Tryz.f4.params.toList args.toList ds p := hA0
  rw [Tryz.params4] at hA hval hwt
  obtain ⟨v0, d0, rfl, rfl, h0⟩ := trodAll_one hA
  obtain ⟨rfl, rfl⟩ := trodVars_none hV
  obtain ⟨t, rfl, rfl, rfl, ht⟩ := open_string Tryz.underlying9 (hval 0 9 v0 rfl rfl) h0
  have hN : t.data.toList.length ≤ 140737488355328 := by
    have h1 : t.data.toList.length ≤ reachBytes := by
      have h2 := List.all_eq_true.1 hwt t.data.toList.length (by simp [DataW.weightsEach, DataW.weights])
      exact of_decide_eq_true h2
    have h2 : reachBytes = 140737488351232 := rfl
    omega
  obtain ⟨htab, herr, hfine⟩ := of_laid hL
  clear hA0 hval0 hval h0 hA hwt
  simp only [List.append_nil] at hW'
  have key : Calls Tryz.prog 4 #[.string t] W fun e w' => e = .returned (.bool true) ∧ But [] W w' := fracParses_any t W hN htab herr hfine
  refine key.mono fun e W' ⟨he, hb⟩ => ?_
  subst he
  have hbl := hb.below
  have e1 : Rows.fracParsesSpec.fn H ([.lit (.string t.data.toList)] ++ []) = { results := [.lit (.bool true)], args := [.lit (.string t.data.toList)] } := by simp [Rows.fracParsesSpec]
  refine ⟨_, rfl, _, _, _, [], [], [], hW', ?_, ?_, ?_, hbl.frame _, fun h => by cases h⟩
  · rw [e1]; exact trodAll_mk1 (shut_bool Tryz.underlying4 true)
  · rw [e1]; exact trodAll_mk1 (shut_string Tryz.underlying9 ht)
  · rw [e1]; rfl

theorem row_holds : Rows.FracParsesSaid :=
  OpenClaim.holds_of_wide 4 Tryz.f4 rfl rfl rfl rfl rfl rfl rfl ⟨rfl, rfl, rfl, rfl, rfl⟩ rfl rfl rfl rfl rfl (by kernel_rfl) Tryz.func4 (by kernel_rfl)
    (of_decide_eq_true (by kernel_rfl)) (by unfold Func.isWrapper; rw [if_neg (of_decide_eq_false (by kernel_rfl))]; exact ⟨rfl, rfl⟩)
    (fun os started H enc _ => lifted os started H enc)

theorem card_holds : Rows.FracParsesCardSaid :=
  Claim7.holds_tied_plain_at .later [] [.data, .data, .data, .handle, .data] true (true, "5ef8e5fd90412caa3542f80456b9da710f1914ca0bb6e581037d16b0d033831b") true
    row_holds (fun _ h => by cases h) (by kernel_rfl) (fun _ h => by cases h) fracParses_row_tie rfl ⟨rfl, rfl⟩ (by kernel_rfl) rfl
    (fun f fn hf hfn => by
      obtain rfl : f = 4 := Option.some.inj ((show Tryz.prog.funcNamed "tontine/tontinelaw.FracParses" = some 4 by kernel_rfl).symm.trans hf) |>.symm
      obtain rfl : fn = Tryz.f4 := (Option.some.inj (Tryz.func4.symm.trans hfn)).symm
      exact ⟨by kernel_rfl, fun j t ht => by
        rw [Tryz.params4] at ht
        rcases j with _ | j
        · obtain rfl : 9 = t := by simpa using ht
          exact (show Tryz.prog.wantsStandIn 9 = false by kernel_rfl)
        · simp at ht⟩)
    (by kernel_rfl)
#print axioms card_holds
end Go.Proofs.YtihiafgogbhjkaaGreatDoor
