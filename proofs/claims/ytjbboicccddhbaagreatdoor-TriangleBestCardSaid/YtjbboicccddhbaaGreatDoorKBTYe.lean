/- The law TriangleBest from its reserves on. -/
import Derived.Test.YtjbboicccddhbaaGreatDoorKBTI
import Derived.Test.YtjbboicccddhbaaGreatDoorKBTJ
import Derived.Test.YtjbboicccddhbaaGreatDoorKBTT
namespace Go.Proofs.YtjbboicccddhbaaGreatDoor
open Go.RowKit
set_option linter.unusedVariables false

/-- the law's body from a statement on -/
def tailT : Nat → Code → Code
  | 0, c => c
  | n + 1, .seq _ b => tailT n b
  | _ + 1, c => c
noncomputable def triBody : Code := (Tryz.f7.body).getD .skip
/-- what holds all along -/
def BestSt (W : World) (B3 B4 tb tof n tcap : Nat) (qa qb : Int) (t : List (List Int)) : Prop := W.cell? ⟨B3, 0, none⟩ = some (.slice (some ⟨tb, tof, none⟩) n tcap) ∧ W.cell? ⟨B4, 0, none⟩ = some (.int .i64 qa) ∧ W.cell? ⟨B4, 1, none⟩ = some (.int .i64 qb) ∧ TriAt W (.slice (some ⟨tb, tof, none⟩) n tcap) t ∧ Lib.TabIs Tryz.prog W "internal/strconv.uint64pow10" .u64 Lib.pow10Tab
theorem BestSt.step {W W' : World} {B3 B4 tb tof n tcap : Nat} {qa qb : Int} {t : List (List Int)} (h : BestSt W B3 B4 tb tof n tcap qa qb t) (hb : But [] W W') : BestSt W' B3 B4 tb tof n tcap qa qb t :=
  ⟨hb.cell_some h.1 (by simp), hb.cell_some h.2.1 (by simp), hb.cell_some h.2.2.1 (by simp), h.2.2.2.1.but hb, TabIs.but h.2.2.2.2 hb⟩
set_option maxHeartbeats 32000000 in
set_option maxRecDepth 100000 in
theorem best_end (w W : World) (B3 B4 tb tof n tcap : Nat) (qa qb : Int) (t : List (List Int)) (kk : Int) (ya : Option Addr) (yc : Nat) (base : Nat) (HS : Hid (BestSt W B3 B4 tb tof n tcap qa qb t)) (HB : Hid (But [] w W)) (HG : Hid (TriGood t)) (HN : Hid (n = t.length)) (hcap : tcap ≤ 9223372036854775807) (hk1 : 1 ≤ kk) (hk9 : kk ≤ 9) (HY : Hid (TriG W base (.slice ya n yc) (scl kk t))) (HYG : Hid (TriGood (scl kk t))) (q0 q1 q3 q4 q5 q6 q7 q8 q10 q11 q12 q13 q14 q15 q16 q17 q18 q20 q21 q22 q23 q24 q25 q26 q27 q28 q29 q30 q31 q32 q33 q34 q35 q36 q37 q38 q39 q40 q41 q42 q43 q44 q45 q46 q47 q48 q49 q50 q51 q52 q53 q54 q55 q56 q57 q58 q59 q60 q61 q62 q63 q64 q65 q66 q67 q68 q69 q70 q71 q72 q73 q74 q75 q76 q77 q78 q79 q80 q81 q82 q83 q84 q85 q86 q87 q88 q89 q90 q91 q92 q93 q94 q95 q96 q97 q98 q99 q100 q101 q102 q103 q104 q105 q106 q107 q108 q109 q110 q111 q112 q113 q114 q115 q116 q117 q118 q119 q120 q121 q122 q123 q124 q125 q126 q127 q128 q129 q130 q131 q132 q133 q134 q135 q136 q137 q138 q139 q140 q141 q142 q143 q144 q145 q146 q147 q148 q149 q150 q151 q152 q153 q154 q155 q156 q157 q158 q159 q160 q161 q162 q163 q164 q165 q166 q167 q168 q169 q170 q171 q172 q173 q174 q175 q176 q177 q178 q179 q180 q181 q182 q183 q184 q185 q186 q187 q188 q189 q190 q191 q192 q193 q194 q195 q196 q197 q198 q199 q200 q201 q202 q203 q204 q205 q206 q207 q208 q209 q210 q211 q212 q213 q214 q215 q216 q217 q218 q219 q220 q221 q222 q223 q224 q225 q226 q227 q228 q229 q230 q231 q232 q233 : Value) :
    Code.wp Tryz.prog (tailT 15 triBody) (bodyPost Tryz.prog Tryz.f7 fun e w' => e = .returned (.bool true) ∧ But [] w w') { tmps := (q0 :: q1 :: .int .i64 kk :: q3 :: q4 :: q5 :: q6 :: q7 :: q8 :: .slice (some ⟨tb, tof, none⟩) n tcap :: q10 :: q11 :: q12 :: q13 :: q14 :: q15 :: q16 :: q17 :: q18 :: .slice ya n yc :: q20 :: q21 :: q22 :: q23 :: q24 :: q25 :: q26 :: q27 :: q28 :: q29 :: q30 :: q31 :: q32 :: q33 :: q34 :: q35 :: q36 :: q37 :: q38 :: q39 :: q40 :: q41 :: q42 :: q43 :: q44 :: q45 :: q46 :: q47 :: q48 :: q49 :: q50 :: q51 :: q52 :: q53 :: q54 :: q55 :: q56 :: q57 :: q58 :: q59 :: q60 :: q61 :: q62 :: q63 :: q64 :: q65 :: q66 :: q67 :: q68 :: q69 :: q70 :: q71 :: q72 :: q73 :: q74 :: q75 :: q76 :: q77 :: q78 :: q79 :: q80 :: q81 :: q82 :: q83 :: q84 :: q85 :: q86 :: q87 :: q88 :: q89 :: q90 :: q91 :: q92 :: q93 :: q94 :: q95 :: q96 :: q97 :: q98 :: q99 :: q100 :: q101 :: q102 :: q103 :: q104 :: q105 :: q106 :: q107 :: q108 :: q109 :: q110 :: q111 :: q112 :: q113 :: q114 :: q115 :: q116 :: q117 :: q118 :: q119 :: q120 :: q121 :: q122 :: q123 :: q124 :: q125 :: q126 :: q127 :: q128 :: q129 :: q130 :: q131 :: q132 :: q133 :: q134 :: q135 :: q136 :: q137 :: q138 :: q139 :: q140 :: q141 :: q142 :: q143 :: q144 :: q145 :: q146 :: q147 :: q148 :: q149 :: q150 :: q151 :: q152 :: q153 :: q154 :: q155 :: q156 :: q157 :: q158 :: q159 :: q160 :: q161 :: q162 :: q163 :: q164 :: q165 :: q166 :: q167 :: q168 :: q169 :: q170 :: q171 :: q172 :: q173 :: q174 :: q175 :: q176 :: q177 :: q178 :: q179 :: q180 :: q181 :: q182 :: q183 :: q184 :: q185 :: q186 :: q187 :: q188 :: q189 :: q190 :: q191 :: q192 :: q193 :: q194 :: q195 :: q196 :: q197 :: q198 :: q199 :: q200 :: q201 :: q202 :: q203 :: q204 :: q205 :: q206 :: q207 :: q208 :: q209 :: q210 :: q211 :: q212 :: q213 :: q214 :: q215 :: q216 :: q217 :: q218 :: q219 :: q220 :: q221 :: q222 :: q223 :: q224 :: q225 :: q226 :: q227 :: q228 :: q229 :: q230 :: q231 :: q232 :: q233 :: []).toArray, defers := [] } W := by
  conv => arg 2; whnf
  have n20 : n ≤ 20 := by rw [unhide HN]; exact (unhide HG).1.2.1
  have n2 : 2 ≤ n := by rw [unhide HN]; exact (unhide HG).1.1
  have R1 := hide (reserves_any (.slice (some ⟨tb, tof, none⟩) n tcap) t W (unhide HS).2.2.2.1 (fun a m c e => by simp only [Value.slice.injEq] at e; omega) n (unhide HN))
  have R2 : Hid (∀ W', But [] W W' → Calls Tryz.prog 38 #[.slice ya n yc] W' fun e w' => ResPost (scl kk t) n W' e w') := fun W' hb => reserves_any (.slice ya n yc) (scl kk t) W' ((unhide HY).but hb).tri (fun a m c e => (unhide HY).cap a m c e) n (by rw [scl_len]; exact unhide HN)
  have RV : Hid (∀ i, rv (scl kk t) i = rv t i * ((kk : Int) : Rat)) := fun i => rv_scl kk t (by omega) (unhide HG).2 (by have := unhide HN; omega) i
  obtain ⟨ws, wx, FW, WH⟩ := whole_is kk (by omega) (by omega)
  have HFW := hide FW
  have HWH := hide WH
  have lk := hide (len_int kk (by omega))
  have HK1 := hide hk1
  have HK9 := hide hk9
  clear FW WH hk1 hk9
  go_wp2_with fail
  refine (unhide R1).mono ?_
  rintro e w1 ⟨hb1, ⟨-, ga, rfl, ra, a1, a2, la⟩ | ⟨hno, -⟩⟩
  · have HB1 := hide hb1
    have HRA := hide ra
    have HLA := hide la
    clear hb1 ra la R1
    dsimp only
    go_wp2_with fail
    refine (unhide R2 _ (unhide HB1)).mono ?_
    rintro e w2 ⟨hb2, ⟨-, gb, rfl, rb, b1, b2, lb⟩ | ⟨hno, -⟩⟩
    · have RA2 := hide ((unhide HRA).but hb2 a2)
      have ga2 : ga < w2.heap.size := Nat.lt_of_lt_of_le a2 hb2.size
      have RB2 := hide rb
      have HB2 := hide ((unhide HB1).trans' hb2)
      clear hb2 rb lb R2 HRA
      dsimp only
      go_wp2
      go_loopw [27] (fun iv wr => ∃ i : Nat, i ≤ n ∧ iv = .int .i64 (i : Int) ∧ Hid (But [] w2 wr)) (fun iv _ => n - (intOf iv).toNat)
      case atStart => exact ⟨0, Nat.zero_le _, rfl, But.refl _ _⟩
      case round =>
        obtain ⟨i, hi, rfl, HI⟩ := hrel
        rename World => wr
        by_cases hlt : i < n
        · obtain ⟨s1, x1, y1, p1, c1, f1⟩ := ((unhide RA2).but (unhide HI) ga2).told i hlt
          obtain ⟨s2, x2, y2, p2, c2, f2⟩ := ((unhide RB2).but (unhide HI) b2).told i hlt
          rw [unhide RV i] at f2
          have l1 := unhide HLA i
          have lm := len_mul l1 (unhide lk) 30 (by omega)
          have BW : Hid (But [] W wr) := (unhide HB2).trans' (unhide HI)
          have MU : Hid (∀ w', But [] wr w' → Calls Tryz.prog 37 #[.agg #[.bool s1, .int .u64 x1, .int .u64 y1, .pointer p1], .agg #[.bool ws, .int .u64 wx, .int .u64 0, .pointer none]] w' fun e w'' => ∃ v, e = .returned v ∧ FracAt w'' v (rv t i * ((kk : Int) : Rat)) ∧ But [] w' w'') := fun w' hb => fracMul_any _ _ _ _ w' (f1.but hb) (unhide HFW w') (l1.mono (by omega)) ((unhide lk).mono (by omega))
          have LI : Hid (∀ w', But [] wr w' → ∀ v, FracAt w' v (rv t i * ((kk : Int) : Rat)) → Calls Tryz.prog 13 #[v, .agg #[.bool s2, .int .u64 x2, .int .u64 y2, .pointer p2]] w' fun e w'' => e = .returned (.bool true) ∧ But [] w' w'') := fun w' hb v hv => like_len v _ _ w' hv (f2.but hb) (lm.mono (by omega)) (TabIs.but (unhide HS).2.2.2.2 ((unhide BW).trans' hb))
          have C1 := hide c1
          have C2 := hide c2
          clear c1 c2 f1 f2 l1 lm
          go_wp2
          refine best_region49 49 _ _ wr ga gb n i kk s1 x1 y1 p1 s2 x2 y2 p2 ws wx (rv t i) (by simp) (by simp [Act.eval]) (by simp [Act.eval]) (by simp [Act.eval]) (by simp [Act.eval]) hlt (by omega) (unhide C1) (unhide C2) (unhide HWH) (unhide MU) (unhide LI) ?_
          intro w7 v6 hb7
          simp only [putted, List.foldl_cons, List.foldl_nil, Act.put, List.setIfInBounds_toArray, List.set_cons_zero, List.set_cons_succ]
          have NX := hide ((unhide HI).trans' hb7)
          clear hb7 MU LI
          go_wp2
          exact ⟨⟨i + 1, by omega, by go_num, unhide NX⟩, by simp [intOf]; omega⟩
        · obtain rfl : i = n := by omega
          go_wp2
          go_ret
          exact ⟨rfl, ((unhide HB).trans' (unhide HB2)).trans' (unhide HI)⟩
    · exact absurd (unhide HYG) hno
  · exact absurd (unhide HG) hno
end Go.Proofs.YtjbboicccddhbaaGreatDoor

namespace Go.Proofs.YtjbboicccddhbaaGreatDoor
open Go.RowKit
set_option linter.unusedVariables false

theorem scl_take (k : Int) (t : List (List Int)) (i : Nat) (r : List Int) (h : t[i]? = some r) : scl k (t.take (i + 1)) = scl k (t.take i) ++ [r.map fun x => k * x] := by
  rw [List.take_add_one, h]
  unfold scl
  simp
theorem map_take (k : Int) (r : List Int) (j : Nat) (z : Int) (h : r[j]? = some z) : (r.take (j + 1)).map (fun x => k * x) = (r.take j).map (fun x => k * x) ++ [k * z] := by
  rw [List.take_add_one, h]
  simp
set_option maxHeartbeats 32000000 in
set_option maxRecDepth 100000 in
theorem best_build (w W : World) (B3 B4 tb tof n tcap : Nat) (qa qb : Int) (t : List (List Int)) (ko : Int) (hko : -9223372036854775808 ≤ ko ∧ ko < 9223372036854775808) (HS : Hid (BestSt W B3 B4 tb tof n tcap qa qb t)) (HB : Hid (But [] w W)) (HG : Hid (TriGood t)) (HN : Hid (n = t.length)) (hcap : tcap ≤ 9223372036854775807) (q0 q1 q4 q5 q6 q7 q8 q10 q11 q12 q13 q14 q15 q16 q17 q18 q19 q20 q21 q22 q23 q24 q25 q26 q27 q28 q29 q30 q31 q32 q33 q34 q35 q36 q37 q38 q39 q40 q41 q42 q43 q44 q45 q46 q47 q48 q49 q50 q51 q52 q53 q54 q55 q56 q57 q58 q59 q60 q61 q62 q63 q64 q65 q66 q67 q68 q69 q70 q71 q72 q73 q74 q75 q76 q77 q78 q79 q80 q81 q82 q83 q84 q85 q86 q87 q88 q89 q90 q91 q92 q93 q94 q95 q96 q97 q98 q99 q100 q101 q102 q103 q104 q105 q106 q107 q108 q109 q110 q111 q112 q113 q114 q115 q116 q117 q118 q119 q120 q121 q122 q123 q124 q125 q126 q127 q128 q129 q130 q131 q132 q133 q134 q135 q136 q137 q138 q139 q140 q141 q142 q143 q144 q145 q146 q147 q148 q149 q150 q151 q152 q153 q154 q155 q156 q157 q158 q159 q160 q161 q162 q163 q164 q165 q166 q167 q168 q169 q170 q171 q172 q173 q174 q175 q176 q177 q178 q179 q180 q181 q182 q183 q184 q185 q186 q187 q188 q189 q190 q191 q192 q193 q194 q195 q196 q197 q198 q199 q200 q201 q202 q203 q204 q205 q206 q207 q208 q209 q210 q211 q212 q213 q214 q215 q216 q217 q218 q219 q220 q221 q222 q223 q224 q225 q226 q227 q228 q229 q230 q231 q232 q233 : Value) :
    Code.wp Tryz.prog (tailT 12 triBody) (bodyPost Tryz.prog Tryz.f7 fun e w' => e = .returned (.bool true) ∧ But [] w w') { tmps := (q0 :: q1 :: .int .i64 ko :: .pointer (some ⟨B3, 0, none⟩) :: q4 :: q5 :: q6 :: q7 :: q8 :: .slice (some ⟨tb, tof, none⟩) n tcap :: q10 :: q11 :: q12 :: q13 :: q14 :: q15 :: q16 :: q17 :: q18 :: q19 :: q20 :: q21 :: q22 :: q23 :: q24 :: q25 :: q26 :: q27 :: q28 :: q29 :: q30 :: q31 :: q32 :: q33 :: q34 :: q35 :: q36 :: q37 :: q38 :: q39 :: q40 :: q41 :: q42 :: q43 :: q44 :: q45 :: q46 :: q47 :: q48 :: q49 :: q50 :: q51 :: q52 :: q53 :: q54 :: q55 :: q56 :: q57 :: q58 :: q59 :: q60 :: q61 :: q62 :: q63 :: q64 :: q65 :: q66 :: q67 :: q68 :: q69 :: q70 :: q71 :: q72 :: q73 :: q74 :: q75 :: q76 :: q77 :: q78 :: q79 :: q80 :: q81 :: q82 :: q83 :: q84 :: q85 :: q86 :: q87 :: q88 :: q89 :: q90 :: q91 :: q92 :: q93 :: q94 :: q95 :: q96 :: q97 :: q98 :: q99 :: q100 :: q101 :: q102 :: q103 :: q104 :: q105 :: q106 :: q107 :: q108 :: q109 :: q110 :: q111 :: q112 :: q113 :: q114 :: q115 :: q116 :: q117 :: q118 :: q119 :: q120 :: q121 :: q122 :: q123 :: q124 :: q125 :: q126 :: q127 :: q128 :: q129 :: q130 :: q131 :: q132 :: q133 :: q134 :: q135 :: q136 :: q137 :: q138 :: q139 :: q140 :: q141 :: q142 :: q143 :: q144 :: q145 :: q146 :: q147 :: q148 :: q149 :: q150 :: q151 :: q152 :: q153 :: q154 :: q155 :: q156 :: q157 :: q158 :: q159 :: q160 :: q161 :: q162 :: q163 :: q164 :: q165 :: q166 :: q167 :: q168 :: q169 :: q170 :: q171 :: q172 :: q173 :: q174 :: q175 :: q176 :: q177 :: q178 :: q179 :: q180 :: q181 :: q182 :: q183 :: q184 :: q185 :: q186 :: q187 :: q188 :: q189 :: q190 :: q191 :: q192 :: q193 :: q194 :: q195 :: q196 :: q197 :: q198 :: q199 :: q200 :: q201 :: q202 :: q203 :: q204 :: q205 :: q206 :: q207 :: q208 :: q209 :: q210 :: q211 :: q212 :: q213 :: q214 :: q215 :: q216 :: q217 :: q218 :: q219 :: q220 :: q221 :: q222 :: q223 :: q224 :: q225 :: q226 :: q227 :: q228 :: q229 :: q230 :: q231 :: q232 :: q233 :: []).toArray, defers := [] } W := by
  conv => arg 2; whnf
  have n20 : n ≤ 20 := by rw [unhide HN]; exact (unhide HG).1.2.1
  have n2 : 2 ≤ n := by rw [unhide HN]; exact (unhide HG).1.1
  have PK := hide (pick_gen ko 9 hko.1 hko.2 (by omega) (by omega) W)
  obtain ⟨p, hp⟩ : ∃ p, p = (((if ko < 0 then ko + 18446744073709551616 else ko) % 9).toNat : Nat) := ⟨_, rfl⟩
  rw [← hp] at PK
  have hp9 : p < 9 := by
    rw [hp]
    have h1 := Int.emod_nonneg (if ko < 0 then ko + 18446744073709551616 else ko) (show (9 : Int) ≠ 0 by omega)
    have h2 := Int.emod_lt_of_pos (if ko < 0 then ko + 18446744073709551616 else ko) (show (0 : Int) < 9 by omega)
    omega
  obtain ⟨kk, hkk⟩ : ∃ kk : Int, kk = 1 + (p : Int) := ⟨_, rfl⟩
  have hk1 : 1 ≤ kk := by omega
  have hk9 : kk ≤ 9 := by omega
  clear hp hko
  go_wp2_with fail
  refine (unhide PK).mono ?_
  rintro e w1 ⟨rfl, hb1⟩
  have HS1 := hide ((unhide HS).step hb1)
  have HB1 := hide ((unhide HB).trans' hb1)
  clear hb1 PK
  dsimp only
  go_wp2
  rw [← hkk]
  clear hkk hp9
  rename ∀ a w, Code.wp _ _ _ a w → _ => hK
  have HK := hide hK
  clear hK
  go_loopw [19, 20] (fun yv iv wr => ∃ i : Nat, i ≤ n ∧ iv = .int .i64 (i : Int) ∧ (∃ ya yl yc, yv = .slice ya yl yc) ∧ Hid (TriG wr w1.heap.size yv (scl kk (t.take i)) ∧ But [] w1 wr) ∧ Hid (∀ r ∈ t.take i, ∀ x ∈ r, x ≤ 100000000000000)) (fun _ iv _ => n - (intOf iv).toNat)
  case atStart => exact ⟨0, Nat.zero_le _, rfl, ⟨none, 0, 0, rfl⟩, ⟨TriG.nil _ _, But.refl _ _⟩, fun r hr => by simp at hr⟩
  case round =>
    obtain ⟨i, hi, rfl, ⟨ya, yl, yc, rfl⟩, HI, HX⟩ := hrel
    rename World => wr
    obtain ⟨c3, -, -, hta, -⟩ := (unhide HS1).step (unhide HI).2
    by_cases hlt : i < n
    · have hil : i < t.length := by have := unhide HN; omega
      have hge : t[i]? = some t[i] := List.getElem?_eq_getElem hil
      obtain ⟨r, hr⟩ : ∃ r, r = t[i] := ⟨_, rfl⟩
      rw [← hr] at hge
      obtain ⟨a', cap', ea, -, hc⟩ := hta
      simp only [Value.slice.injEq] at ea
      obtain ⟨rfl, -, rfl⟩ := ea
      obtain ⟨b', off', rv', eb, c0, c1⟩ := hc i r hge
      obtain ⟨rfl, rfl⟩ : tb = b' ∧ tof = off' := by simpa using eb
      obtain ⟨ra, rcap, rfl, hrc, hri⟩ := c1
      have hrl : r.length = n - i := by rw [(unhide HG).1.len hge, unhide HN]
      obtain ⟨x0, hx0⟩ : ∃ x, r[0]? = some x := ⟨_, List.getElem?_eq_getElem (by omega)⟩
      obtain ⟨rb, ro, rfl, -⟩ := hri 0 x0 hx0
      obtain ⟨rn, hrn⟩ : ∃ rn, rn = r.length := ⟨_, rfl⟩
      rw [← hrn] at c0 hrl
      have hrn1 : rn ≤ 20 := by omega
      have HRN := hide hrn
      have HGE := hide hge
      have HRI : Hid (∀ k x, r[k]? = some x → wr.cell? ⟨rb, ro + k, none⟩ = some (.int .i64 x) ∧ 0 ≤ x) := fun k x hx => by
        obtain ⟨b2, o2, e2, c2⟩ := hri k x hx
        obtain ⟨rfl, rfl⟩ : rb = b2 ∧ ro = o2 := by simpa using e2
        exact ⟨c2, (((unhide HG).1.2.2 i r hge).2 x (List.mem_of_getElem? hx)).1⟩
      have C0 := hide c0
      have C3 := hide c3
      clear hge hr hri hx0 hrn hc eb hrc hil hrl
      go_wp2
      go_loopw [21, 22] (fun rv jv wj => ∃ j : Nat, j ≤ rn ∧ jv = .int .i64 (j : Int) ∧ (∃ ra rl rc, rv = .slice ra rl rc) ∧ Hid (OwnI wj wr.heap.size rv ((r.take j).map fun x => kk * x) ∧ But [] wr wj) ∧ Hid (∀ x ∈ r.take j, x ≤ 100000000000000)) (fun _ jv _ => rn - (intOf jv).toNat)
      case atStart => exact ⟨0, Nat.zero_le _, rfl, ⟨none, 0, 0, rfl⟩, ⟨OwnI.nil _ _, But.refl _ _⟩, fun x hx => by simp at hx⟩
      case round =>
        obtain ⟨j, hj, rfl, ⟨va, vl, vc, rfl⟩, HJ, HXJ⟩ := hrel
        rename World => wj
        have d3 := (unhide HJ).2.cell_some (unhide C3) (by simp)
        have d0 := (unhide HJ).2.cell_some (unhide C0) (by simp)
        by_cases hjl : j < rn
        · obtain ⟨z, hz⟩ : ∃ z, r[j]? = some z := ⟨_, List.getElem?_eq_getElem (by have := unhide HRN; omega)⟩
          obtain ⟨cz, z0⟩ := unhide HRI j z hz
          have dz := (unhide HJ).2.cell_some cz (by simp)
          have HZ := hide hz
          clear cz hz
          by_cases hbig : 100000000000000 < z
          · have BF := hide (((unhide HB1).trans' (unhide HI).2).trans' (unhide HJ).2)
            go_wp2
            go_ret
            exact ⟨rfl, unhide BF⟩
          · have m1 : 0 ≤ kk * z := Int.mul_nonneg (by omega) z0
            have m2 : kk * z ≤ 900000000000000 := by
              have := Int.mul_le_mul hk9 (show z ≤ 100000000000000 by omega) z0 (by omega)
              omega
            obtain ⟨pz, hpz⟩ : ∃ pz, pz = kk * z := ⟨_, rfl⟩
            have hwrap : IntKind.i64.wrap (kk * z) = pz := by rw [IntKind.wrap_i64, hpz]; omega
            obtain ⟨V, hV⟩ : ∃ V, V = wj.alloc (.cells #[.int .i64 pz] 3) := ⟨_, rfl⟩
            have bV : But [] wj V := by rw [hV]; exact (But.refl _ _).alloc _
            have cV : V.cell? ⟨wj.heap.size, 0, none⟩ = some (.int .i64 pz) := by rw [hV]; simp
            have oV := (unhide HJ).1.but bV
            have bW : But [] wr V := (unhide HJ).2.trans' bV
            obtain ⟨v', w', hr, ho, hg⟩ := append_int V wr.heap.size (.slice va vl vc) _ oV wj.heap.size pz cV (by rw [List.length_map, List.length_take]; omega) bW.size
            have NX : Hid (OwnI w' wr.heap.size v' ((r.take (j + 1)).map fun x => kk * x) ∧ But [] wr w') := ⟨by rw [map_take kk r j z (unhide HZ), ← hpz]; exact ho, but_of_grown bW oV (Nat.le_refl _) hg⟩
            have NXX : Hid (∀ x ∈ r.take (j + 1), x ≤ 100000000000000) := fun x hx => by
              rw [List.take_add_one, unhide HZ] at hx
              simp only [Option.toList_some, List.mem_append, List.mem_cons, List.not_mem_nil, or_false] at hx
              rcases hx with hx | hx
              · exact unhide HXJ x hx
              · omega
            obtain ⟨a2, l2, c2, hv2⟩ : ∃ a l c, v' = .slice a l c := by
              obtain ⟨a, c, e⟩ := ownsRow_form ho
              exact ⟨a, _, c, e⟩
            subst hv2
            have HR : Hid ((Builtin.append_ #[53, 53] 53 #[.slice va vl vc, .slice (some ⟨wj.heap.size, 0, none⟩) 1 1]).run Tryz.prog (wj.alloc (.cells #[.int .i64 pz] 3)) = .ok (.slice a2 l2 c2) w') := by rw [← hV]; exact hr
            clear hr ho hg bV cV oV bW hV hpz
            go_wp2_with (at_builtin; refine wpList_app rfl _ _ 53 53 rfl _ _ (.slice a2 l2 c2) w' rfl rfl (unhide HR) ?_)
            exact ⟨⟨j + 1, by omega, by go_num, ⟨_, _, _, rfl⟩, unhide NX, unhide NXX⟩, by simp [intOf]; omega⟩
        · obtain rfl : j = rn := by omega
          have htk : r.take j = r := List.take_of_length_le (by have := unhide HRN; omega)
          have oJ := (unhide HJ).1
          have xJ := unhide HXJ
          rw [htk] at oJ xJ
          obtain ⟨V, hV⟩ : ∃ V, V = wj.alloc (.cells #[.slice va vl vc] 53) := ⟨_, rfl⟩
          have bV : But [] wj V := by rw [hV]; exact (But.refl _ _).alloc _
          have cV : V.cell? ⟨wj.heap.size, 0, none⟩ = some (.slice va vl vc) := by rw [hV]; simp
          have bW : But [] wr V := (unhide HJ).2.trans' bV
          have tV := (unhide HI).1.but bW
          have b1V : But [] w1 V := (unhide HI).2.trans' bW
          obtain ⟨v', w', hr, ho, hg, -⟩ := append_row V w1.heap.size (.slice ya yl yc) _ tV wj.heap.size (.slice va vl vc) (r.map fun x => kk * x) ((oJ.but bV).mono (unhide HI).2.size) cV (by rw [scl_len, List.length_take]; omega) b1V.size
          obtain ⟨us, -, oT, -⟩ := id tV
          have NX : Hid (TriG w' w1.heap.size v' (scl kk (t.take (i + 1))) ∧ But [] w1 w') := ⟨by rw [scl_take kk t i r (unhide HGE)]; exact ho, but_of_grown b1V oT (Nat.le_refl _) hg⟩
          have NXX : Hid (∀ q ∈ t.take (i + 1), ∀ x ∈ q, x ≤ 100000000000000) := fun q hq => by
            rw [List.take_add_one, unhide HGE] at hq
            simp only [Option.toList_some, List.mem_append, List.mem_cons, List.not_mem_nil, or_false] at hq
            rcases hq with hq | hq
            · exact unhide HX q hq
            · subst hq
              exact xJ
          obtain ⟨a2, l2, c2, hv2⟩ : ∃ a l c, v' = .slice a l c := by
            obtain ⟨us, -, h2, -⟩ := ho
            obtain ⟨a, c, e⟩ := ownsRow_form h2
            exact ⟨a, _, c, e⟩
          subst hv2
          have HR : Hid ((Builtin.append_ #[74, 74] 74 #[.slice ya yl yc, .slice (some ⟨wj.heap.size, 0, none⟩) 1 1]).run Tryz.prog (wj.alloc (.cells #[.slice va vl vc] 53)) = .ok (.slice a2 l2 c2) w') := by rw [← hV]; exact hr
          clear hr ho hg bV cV bW hV tV oT b1V htk oJ xJ
          go_wp2_with (at_builtin; refine wpList_app rfl _ _ 74 74 rfl _ _ (.slice a2 l2 c2) w' rfl rfl (unhide HR) ?_)
          exact ⟨⟨i + 1, by omega, by go_num, ⟨_, _, _, rfl⟩, unhide NX, unhide NXX⟩, by simp [intOf]; omega⟩
    · obtain rfl : i = n := by omega
      have htk : t.take i = t := List.take_of_length_le (by have := unhide HN; omega)
      have HY := hide (unhide HI).1
      have hx := unhide HX
      rw [htk] at HY hx
      have HYG := hide (scl_good kk t hk1 hk9 (unhide HG) hx)
      have hyl : yl = i := by
        obtain ⟨us, -, h2, -⟩ := unhide HY
        obtain ⟨a, c, e⟩ := ownsRow_form h2
        simp only [Value.slice.injEq] at e
        rw [e.2.1, scl_len]
        exact (unhide HN).symm
      subst hyl
      have HSr := hide ((unhide HS1).step (unhide HI).2)
      have HBr := hide ((unhide HB1).trans' (unhide HI).2)
      clear htk hx hta
      go_wp2
      refine unhide HK _ _ ?_
      exact best_end w _ B3 B4 tb tof yl tcap qa qb t kk ya yc _ HSr HBr HG HN hcap hk1 hk9 HY HYG _ _ _ _ _ _ _ _ _ _ _ _ _ _ _ _ _ _ _ _ _ _ _ _ _ _ _ _ _ _ _ _ _ _ _ _ _ _ _ _ _ _ _ _ _ _ _ _ _ _ _ _ _ _ _ _ _ _ _ _ _ _ _ _ _ _ _ _ _ _ _ _ _ _ _ _ _ _ _ _ _ _ _ _ _ _ _ _ _ _ _ _ _ _ _ _ _ _ _ _ _ _ _ _ _ _ _ _ _ _ _ _ _ _ _ _ _ _ _ _ _ _ _ _ _ _ _ _ _ _ _ _ _ _ _ _ _ _ _ _ _ _ _ _ _ _ _ _ _ _ _ _ _ _ _ _ _ _ _ _ _ _ _ _ _ _ _ _ _ _ _ _ _ _ _ _ _ _ _ _ _ _ _ _ _ _ _ _ _ _ _ _ _ _ _ _ _ _ _ _ _ _ _ _ _ _ _ _ _ _ _ _ _ _ _ _ _ _ _ _ _ _ _ _ _ _ _ _ _ _ _
end Go.Proofs.YtjbboicccddhbaaGreatDoor
