/- The law TriangleBest from the comparison of factors on. -/
import Derived.Test.YtjbboicccddhbaaGreatDoorKBTYe
namespace Go.Proofs.YtjbboicccddhbaaGreatDoor
open Go.RowKit
set_option linter.unusedVariables false

set_option maxHeartbeats 32000000 in
set_option maxRecDepth 100000 in
theorem best_least (w W : World) (B3 B4 tb tof n tcap gf m : Nat) (qa qb : Int) (hq : Fits (qa, qb)) (t : List (List Int)) (ko : Int) (wh : Bool) (hko : -9223372036854775808 ≤ ko ∧ ko < 9223372036854775808) (HS : Hid (BestSt W B3 B4 tb tof n tcap qa qb t)) (HB : Hid (But [] w W)) (HG : Hid (TriGood t)) (HN : Hid (n = t.length)) (HM : Hid (m = n - 1)) (hcap : tcap ≤ 9223372036854775807) (HR : Hid (Row4 W gf m m (fc t))) (hgf : gf < W.heap.size) (HL : Hid (∀ k, Len (fc t k) 1 ∨ m ≤ k)) (HW : Hid (wh = true → ∀ i k, k < n - i → i < n → 0 < tc t i k)) (q0 q1 q5 q6 q7 q8 q11 q12 q13 q16 q17 q18 q19 q20 q21 q22 q23 q24 q25 q26 q27 q28 q29 q30 q31 q32 q33 q34 q35 q36 q37 q38 q39 q40 q41 q42 q43 q44 q45 q46 q47 q48 q49 q50 q51 q52 q53 q54 q55 q56 q57 q58 q59 q60 q61 q62 q63 q64 q65 q66 q67 q68 q69 q70 q71 q72 q73 q74 q75 q76 q77 q78 q79 q80 q81 q82 q83 q84 q85 q86 q87 q88 q89 q90 q91 q92 q93 q94 q95 q96 q97 q98 q99 q100 q101 q102 q103 q104 q105 q106 q107 q108 q109 q110 q111 q112 q113 q114 q115 q116 q117 q118 q119 q120 q121 q122 q123 q124 q125 q126 q127 q128 q129 q130 q131 q132 q133 q134 q135 q136 q137 q138 q139 q140 q141 q142 q143 q144 q145 q146 q147 q148 q149 q150 q151 q152 q153 q154 q155 q156 q157 q158 q159 q160 q161 q162 q163 q164 q165 q166 q167 q168 q169 q170 q171 q172 q173 q174 q175 q176 q177 q178 q179 q180 q181 q182 q183 q184 q185 q186 q187 q188 q189 q190 q191 q192 q193 q194 q195 q196 q197 q198 q199 q200 q201 q202 q203 q204 q205 q206 q207 q208 q209 q210 q211 q212 q213 q214 q215 q216 q217 q218 q219 q220 q221 q222 q223 q224 q225 q226 q227 q228 q229 q230 q231 q232 q233 : Value) :
    Code.wp Tryz.prog (tailT 11 triBody) (bodyPost Tryz.prog Tryz.f7 fun e w' => e = .returned (.bool true) ∧ But [] w w') { tmps := (q0 :: q1 :: .int .i64 ko :: .pointer (some ⟨B3, 0, none⟩) :: .pointer (some ⟨B4, 0, none⟩) :: q5 :: q6 :: q7 :: q8 :: .slice (some ⟨tb, tof, none⟩) n tcap :: .slice (some ⟨gf, 0, none⟩) m m :: q11 :: q12 :: q13 :: .func (.func 35) #[] #[.pointer (some ⟨B3, 0, none⟩)] :: .bool wh :: q16 :: q17 :: q18 :: q19 :: q20 :: q21 :: q22 :: q23 :: q24 :: q25 :: q26 :: q27 :: q28 :: q29 :: q30 :: q31 :: q32 :: q33 :: q34 :: q35 :: q36 :: q37 :: q38 :: q39 :: q40 :: q41 :: q42 :: q43 :: q44 :: q45 :: q46 :: q47 :: q48 :: q49 :: q50 :: q51 :: q52 :: q53 :: q54 :: q55 :: q56 :: q57 :: q58 :: q59 :: q60 :: q61 :: q62 :: q63 :: q64 :: q65 :: q66 :: q67 :: q68 :: q69 :: q70 :: q71 :: q72 :: q73 :: q74 :: q75 :: q76 :: q77 :: q78 :: q79 :: q80 :: q81 :: q82 :: q83 :: q84 :: q85 :: q86 :: q87 :: q88 :: q89 :: q90 :: q91 :: q92 :: q93 :: q94 :: q95 :: q96 :: q97 :: q98 :: q99 :: q100 :: q101 :: q102 :: q103 :: q104 :: q105 :: q106 :: q107 :: q108 :: q109 :: q110 :: q111 :: q112 :: q113 :: q114 :: q115 :: q116 :: q117 :: q118 :: q119 :: q120 :: q121 :: q122 :: q123 :: q124 :: q125 :: q126 :: q127 :: q128 :: q129 :: q130 :: q131 :: q132 :: q133 :: q134 :: q135 :: q136 :: q137 :: q138 :: q139 :: q140 :: q141 :: q142 :: q143 :: q144 :: q145 :: q146 :: q147 :: q148 :: q149 :: q150 :: q151 :: q152 :: q153 :: q154 :: q155 :: q156 :: q157 :: q158 :: q159 :: q160 :: q161 :: q162 :: q163 :: q164 :: q165 :: q166 :: q167 :: q168 :: q169 :: q170 :: q171 :: q172 :: q173 :: q174 :: q175 :: q176 :: q177 :: q178 :: q179 :: q180 :: q181 :: q182 :: q183 :: q184 :: q185 :: q186 :: q187 :: q188 :: q189 :: q190 :: q191 :: q192 :: q193 :: q194 :: q195 :: q196 :: q197 :: q198 :: q199 :: q200 :: q201 :: q202 :: q203 :: q204 :: q205 :: q206 :: q207 :: q208 :: q209 :: q210 :: q211 :: q212 :: q213 :: q214 :: q215 :: q216 :: q217 :: q218 :: q219 :: q220 :: q221 :: q222 :: q223 :: q224 :: q225 :: q226 :: q227 :: q228 :: q229 :: q230 :: q231 :: q232 :: q233 :: []).toArray, defers := [] } W := by
  conv => arg 2; whnf
  have n20 : n ≤ 20 := by rw [unhide HN]; exact (unhide HG).1.2.1
  have n2 : 2 ≤ n := by rw [unhide HN]; exact (unhide HG).1.1
  have m20 : m ≤ 20 := by have := unhide HM; omega
  obtain ⟨rs, rx, ry, lq, FQ, PQ⟩ := plainF_at (qa, qb) hq
  have HLQ := hide lq
  have HFQ := hide FQ
  have HPQ := hide PQ
  clear lq FQ PQ
  go_wp2
  rename ∀ a w, Code.wp _ _ _ a w → _ => hK
  have HK := hide hK
  clear hK
  go_loopw [18] (fun jv wr => ∃ j : Nat, j ≤ m ∧ jv = .int .i64 (j : Int) ∧ Hid (But [] W wr)) (fun jv _ => m - (intOf jv).toNat)
  case atStart => exact ⟨0, Nat.zero_le _, rfl, But.refl _ _⟩
  case round =>
    obtain ⟨j, hj, rfl, HI⟩ := hrel
    rename World => wr
    by_cases hlt : j < m
    · cases wh with
      | true =>
        obtain ⟨s1, x1, y1, p1, c1, f1⟩ := ((unhide HR).but (unhide HI) hgf).told j hlt
        obtain ⟨c3, q0, q1, hta, htb⟩ := (unhide HS).step (unhide HI)
        have l1 : Len (fc t j) 1 := by
          rcases unhide HL j with l | l
          · exact l
          · omega
        have hjn : j + 1 < n := by have := unhide HM; omega
        obtain ⟨S1, hS1⟩ : ∃ S1, S1 = offS t j (fc t j) (n - 1 - j) := ⟨_, rfl⟩
        obtain ⟨S2, hS2⟩ : ∃ S2, S2 = offS t j (qf (qa, qb)) (n - 1 - j) := ⟨_, rfl⟩
        have OF1 : Hid (∀ w', But [] wr w' → Calls Tryz.prog 35 #[.agg #[.bool s1, .int .u64 x1, .int .u64 y1, .pointer p1], .int .i64 (j : Int), .pointer (some ⟨B3, 0, none⟩)] w' fun e w'' => ∃ v, e = .returned v ∧ FracAt w'' v S1 ∧ But [] w' w'') := fun w' hb => off_any B3 tb tof n tcap j _ (fc t j) t w' (hb.cell_some c3 (by simp)) (hta.but hb) (unhide HG).1 (unhide HN) hjn (f1.but hb) l1 S1 hS1
        have OF2 : Hid (∀ w', But [] wr w' → Calls Tryz.prog 35 #[.agg #[.bool rs, .int .u64 rx, .int .u64 ry, .pointer none], .int .i64 (j : Int), .pointer (some ⟨B3, 0, none⟩)] w' fun e w'' => ∃ v, e = .returned v ∧ FracAt w'' v S2 ∧ But [] w' w'') := fun w' hb => off_any B3 tb tof n tcap j _ (qf (qa, qb)) t w' (hb.cell_some c3 (by simp)) (hta.but hb) (unhide HG).1 (unhide HN) hjn (unhide HFQ w') (unhide HLQ) S2 hS2
        have L1 : Len S1 1000 := by rw [hS1]; exact (len_offS (unhide HG).1 j _ l1 _).mono (by omega)
        have L2 : Len S2 1000 := by rw [hS2]; exact (len_offS (unhide HG).1 j _ (unhide HLQ) _).mono (by omega)
        obtain ⟨c, hc⟩ : ∃ c, c = cmpZ (S1.num * (S2.den : Int)) (S2.num * (S1.den : Int)) := ⟨_, rfl⟩
        have CM : Hid (∀ w', But [] wr w' → ∀ u v, FracAt w' u S1 → FracAt w' v S2 → Calls Tryz.prog 22 #[u, v] w' fun e w'' => e = .returned (.int .i64 c) ∧ But [] w' w'') := fun w' _ u v hu hv => fracCmp_any u v S1 S2 w' hu hv (L1.mono (by omega)) (L2.mono (by omega)) c hc
        have hle : S1 ≤ S2 := by
          rw [hS1, hS2, unhide HN]
          exact off_least t j _ (by have := unhide HN; omega) (fun k hk => unhide HW rfl k j (by have := unhide HN; omega) (by have := unhide HN; omega))
        have hd : decide (0 < c) = false := by
          refine decide_eq_false fun h => ?_
          have := ((cmpZ_tells S1 S2 c hc).2.1).1 h
          exact absurd this (Rat.not_lt.2 hle)
        have C1 := hide c1
        have Q0 := hide q0
        have Q1 := hide q1
        clear c1 f1 c3 q0 q1 hta htb l1 hS1 hS2 L1 L2 hc hle
        go_wp2
        refine best_region27 27 _ _ wr B3 gf m j qa qb s1 x1 y1 p1 rs rx ry S1 S2 c (by simp) B4 (by simp [Act.eval]) (by simp [Act.eval]) (by simp [Act.eval]) (by simp [Act.eval]) hlt (by omega) (unhide C1) (unhide Q0) (unhide Q1) (unhide OF1) (unhide HPQ) (unhide OF2) (unhide CM) ?_
        intro w7 v6 v11 hb7
        simp only [putted, List.foldl_cons, List.foldl_nil, Act.put, List.setIfInBounds_toArray, List.set_cons_zero, List.set_cons_succ]
        rw [hd]
        have NX := hide ((unhide HI).trans' hb7)
        clear hb7 OF1 OF2 CM hd
        go_wp2
        exact ⟨⟨j + 1, by omega, by go_num, unhide NX⟩, by simp [intOf]; omega⟩
      | false =>
        have HSr := hide ((unhide HS).step (unhide HI))
        have HBr := hide ((unhide HB).trans' (unhide HI))
        go_wp2
        refine unhide HK _ _ ?_
        exact best_build w _ B3 B4 tb tof n tcap qa qb t ko hko HSr HBr HG HN hcap _ _ _ _ _ _ _ _ _ _ _ _ _ _ _ _ _ _ _ _ _ _ _ _ _ _ _ _ _ _ _ _ _ _ _ _ _ _ _ _ _ _ _ _ _ _ _ _ _ _ _ _ _ _ _ _ _ _ _ _ _ _ _ _ _ _ _ _ _ _ _ _ _ _ _ _ _ _ _ _ _ _ _ _ _ _ _ _ _ _ _ _ _ _ _ _ _ _ _ _ _ _ _ _ _ _ _ _ _ _ _ _ _ _ _ _ _ _ _ _ _ _ _ _ _ _ _ _ _ _ _ _ _ _ _ _ _ _ _ _ _ _ _ _ _ _ _ _ _ _ _ _ _ _ _ _ _ _ _ _ _ _ _ _ _ _ _ _ _ _ _ _ _ _ _ _ _ _ _ _ _ _ _ _ _ _ _ _ _ _ _ _ _ _ _ _ _ _ _ _ _ _ _ _ _ _ _ _ _ _ _ _ _ _ _ _ _ _ _ _ _ _ _ _ _ _ _ _ _ _ _
    · obtain rfl : j = m := by omega
      have HSr := hide ((unhide HS).step (unhide HI))
      have HBr := hide ((unhide HB).trans' (unhide HI))
      go_wp2
      refine unhide HK _ _ ?_
      exact best_build w _ B3 B4 tb tof n tcap qa qb t ko hko HSr HBr HG HN hcap _ _ _ _ _ _ _ _ _ _ _ _ _ _ _ _ _ _ _ _ _ _ _ _ _ _ _ _ _ _ _ _ _ _ _ _ _ _ _ _ _ _ _ _ _ _ _ _ _ _ _ _ _ _ _ _ _ _ _ _ _ _ _ _ _ _ _ _ _ _ _ _ _ _ _ _ _ _ _ _ _ _ _ _ _ _ _ _ _ _ _ _ _ _ _ _ _ _ _ _ _ _ _ _ _ _ _ _ _ _ _ _ _ _ _ _ _ _ _ _ _ _ _ _ _ _ _ _ _ _ _ _ _ _ _ _ _ _ _ _ _ _ _ _ _ _ _ _ _ _ _ _ _ _ _ _ _ _ _ _ _ _ _ _ _ _ _ _ _ _ _ _ _ _ _ _ _ _ _ _ _ _ _ _ _ _ _ _ _ _ _ _ _ _ _ _ _ _ _ _ _ _ _ _ _ _ _ _ _ _ _ _ _ _ _ _ _ _ _ _ _ _ _ _ _ _ _ _ _ _ _
end Go.Proofs.YtjbboicccddhbaaGreatDoor
