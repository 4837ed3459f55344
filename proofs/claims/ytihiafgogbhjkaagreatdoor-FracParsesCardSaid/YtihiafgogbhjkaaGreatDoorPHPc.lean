/- Parse of package tontineref from what stands behind the first digits on. -/
import Derived.Test.YtihiafgogbhjkaaGreatDoorPLX
namespace Go.Proofs.YtihiafgogbhjkaaGreatDoor
open Go.RowKit

def MidIs (w0 w' : World) (e : Ending) (ds : List UInt8) (below : Bool) (i : Nat) : List UInt8 → Prop
  | [] => FinIs w0 w' e ds [49] below false
  | c :: r => if c.toNat = 47 ∨ c.toNat = 46 then (if (dgs r).length = 0 then BadIs w0 w' e ((i : Int) + 1) else EndIs w0 w' e (if c.toNat = 46 then ds ++ dgs r else ds) (if c.toNat = 46 then 49 :: Lib.repeatL [48] (dgs r).length else dgs r) below (i + 1 + (dgs r).length) (und r)) else EndIs w0 w' e ds [49] below i (c :: r)
theorem digits_one : Digits [49] := fun d h => by simp at h; subst h; decide
theorem repeatL_48 : ∀ n, ∀ d ∈ Lib.repeatL [48] n, d = 48
  | 0, d, h => by simp [Lib.repeatL] at h
  | n + 1, d, h => by
    rw [Lib.repeatL_add, Lib.repeatL_one, List.mem_append] at h
    rcases h with h | h
    · exact repeatL_48 n d h
    · simpa using h
theorem digits_ten (n : Nat) : Digits (49 :: Lib.repeatL [48] n) := fun d h => by
  rcases List.mem_cons.1 h with rfl | h
  · decide
  · rw [repeatL_48 n d h]; decide
/-- the digits from a place on, byte by byte -/
theorem digs_at (t : ByteArray) (a : Nat) (l : List UInt8) (h : t.data.toList.drop a = l) (ha : a ≤ t.data.toList.length) (m : Nat) (hm : m = a + (dgs l).length) :
    t.size = m + (und l).length ∧ (∀ k, a ≤ k → k < m → ∃ dd : Nat, (∀ W : World, (Instr.index 9 (.string t) (.int .i64 (k : Int))).run Tryz.prog W = .ok (.int .u8 (dd : Int)) W) ∧ (48 ≤ dd ∧ dd ≤ 57)) ∧ ((t.size : Nat) ≤ m ∨ ∃ dd : Nat, (∀ W : World, (Instr.index 9 (.string t) (.int .i64 (m : Int))).run Tryz.prog W = .ok (.int .u8 (dd : Int)) W) ∧ m < t.size ∧ (dd < 48 ∨ 57 < dd)) := by
  have zt : t.size = t.data.toList.length := by simp
  have zl : l.length = t.size - a := by rw [← h, List.length_drop, zt]
  have zu := und_length l
  have at_ : ∀ j, t.data.toList[a + j]? = (dgs l ++ und l)[j]? := fun j => by rw [dgs_und, ← h, List.getElem?_drop]
  refine ⟨by omega, fun k h1 h2 => ?_, ?_⟩
  · refine ⟨(t.data.toList[k]?.getD 0).toNat, fun W => byte_at (t := t) rfl k (by omega) 9 Tryz.underlying9 W, ?_⟩
    have e := at_ (k - a)
    rw [show a + (k - a) = k from by omega, List.getElem?_append_left (by omega)] at e
    rw [e, List.getElem?_eq_getElem (by omega), Option.getD_some]
    exact dgs_digits l _ (List.getElem_mem _)
  · by_cases hu : (und l).length = 0
    · exact .inl (by omega)
    · refine .inr ⟨(t.data.toList[m]?.getD 0).toNat, fun W => byte_at (t := t) rfl m (by omega) 9 Tryz.underlying9 W, by omega, ?_⟩
      have e := at_ (dgs l).length
      rw [← hm, List.getElem?_append_right (Nat.le_refl _), Nat.sub_self] at e
      rw [e, List.getElem?_eq_getElem (by omega), Option.getD_some]
      exact und_head l _ (by rw [List.head?_eq_getElem?, List.getElem?_eq_getElem (by omega)])
theorem extract_digs (t : ByteArray) (a : Nat) (l : List UInt8) (h : t.data.toList.drop a = l) (m : Nat) (hm : m = a + (dgs l).length) : (t.extract a m).data.toList = dgs l := by
  have e : (t.extract a m).data.toList = (t.data.toList.drop a).take (m - a) := by simp [ByteArray.data_extract, List.extract_eq_take_drop]
  rw [e, h, show m - a = (dgs l).length from by omega]
  have h1 := List.take_left (l₁ := dgs l) (l₂ := und l)
  rw [dgs_und] at h1
  exact h1

set_option maxHeartbeats 32000000 in
set_option maxRecDepth 100000 in
theorem parse_t8 (w0 W : World) (gf : Nat) (t tO : ByteArray) (ds : List UInt8) (below : Bool) (i : Nat) (r : List UInt8) (hr : t.data.toList.drop i = r) (hi : i ≤ t.data.toList.length) (hN : t.data.toList.length ≤ 140737488355328) (hO : tO.data.toList = ds) (dO : Digits ds) (lO : 0 < ds.length) (lL : ds.length ≤ i) (HB : Hid (But [] w0 W)) (HX : Hid (Box2 w0 W gf)) (HF : Hid (Fine w0)) (R : Ending → World → Prop) (HR : Hid (∀ e w', MidIs w0 w' e ds below i r → R e w')) (q1 q2 q6 q9 q10 q11 q12 q13 q14 q15 q16 q17 q18 q19 q20 q21 q22 q23 q24 q25 q26 q27 q28 q29 q30 q31 q32 q33 q34 q35 q36 q37 q38 q39 q40 q41 q42 q43 q44 q45 q46 q47 q48 q49 q50 q51 q52 q53 q54 q55 q56 q57 q58 q59 q60 q61 q62 q63 q64 q65 q66 q67 q68 q69 q70 q71 q72 q73 q74 q75 q76 q77 q78 q79 q80 q81 q82 q83 q84 q85 q86 q87 q88 q89 q90 q91 q92 q93 q94 q95 q96 q97 q98 q99 q100 q101 q102 q103 q104 q105 q106 q107 q108 q109 q110 q111 q112 q113 q114 q115 q116 q117 q118 q119 q120 q121 q122 q123 q124 q125 q126 q127 q128 q129 q130 q131 q132 q133 q134 q135 q136 q137 q138 q139 q140 q141 q142 q143 q144 q145 q146 q147 q148 q149 q150 q151 q152 q153 q154 q155 q156 q157 q158 q159 q160 q161 q162 q163 q164 q165 q166 q167 q168 q169 q170 q171 q172 q173 : Value) :
    Code.wp Tryz.prog (tailP 8 parseBody) (bodyPost Tryz.prog Tryz.f44 R) { tmps := (.string t :: q1 :: q2 :: .pointer (some ⟨gf, 0, none⟩) :: .int .i64 (i : Int) :: .bool below :: q6 :: .string tO :: .string ⟨#[49]⟩ :: q9 :: q10 :: q11 :: q12 :: q13 :: q14 :: q15 :: q16 :: q17 :: q18 :: q19 :: q20 :: q21 :: q22 :: q23 :: q24 :: q25 :: q26 :: q27 :: q28 :: q29 :: q30 :: q31 :: q32 :: q33 :: q34 :: q35 :: q36 :: q37 :: q38 :: q39 :: q40 :: q41 :: q42 :: q43 :: q44 :: q45 :: q46 :: q47 :: q48 :: q49 :: q50 :: q51 :: q52 :: q53 :: q54 :: q55 :: q56 :: q57 :: q58 :: q59 :: q60 :: q61 :: q62 :: q63 :: q64 :: q65 :: q66 :: q67 :: q68 :: q69 :: q70 :: q71 :: q72 :: q73 :: q74 :: q75 :: q76 :: q77 :: q78 :: q79 :: q80 :: q81 :: q82 :: q83 :: q84 :: q85 :: q86 :: q87 :: q88 :: q89 :: q90 :: q91 :: q92 :: q93 :: q94 :: q95 :: q96 :: q97 :: q98 :: q99 :: q100 :: q101 :: q102 :: q103 :: q104 :: q105 :: q106 :: q107 :: q108 :: q109 :: q110 :: q111 :: q112 :: q113 :: q114 :: q115 :: q116 :: q117 :: q118 :: q119 :: q120 :: q121 :: q122 :: q123 :: q124 :: q125 :: q126 :: q127 :: q128 :: q129 :: q130 :: q131 :: q132 :: q133 :: q134 :: q135 :: q136 :: q137 :: q138 :: q139 :: q140 :: q141 :: q142 :: q143 :: q144 :: q145 :: q146 :: q147 :: q148 :: q149 :: q150 :: q151 :: q152 :: q153 :: q154 :: q155 :: q156 :: q157 :: q158 :: q159 :: q160 :: q161 :: q162 :: q163 :: q164 :: q165 :: q166 :: q167 :: q168 :: q169 :: q170 :: q171 :: q172 :: q173 :: []).toArray, defers := [] } W := by
  conv => arg 2; whnf
  have zt : t.size = t.data.toList.length := by simp
  have zr : r.length = t.size - i := by rw [← hr, List.length_drop, zt]
  have HO := hide hO
  have DO := hide dO
  have HRR := hide hr
  have HII := hide hi
  have HNN : Hid (t.data.toList.length < 2305843009213693952) := by show _ < _; omega
  match r with
  | [] =>
    have hlt : ¬ (i : Int) < (t.size : Int) := by simp at zr; omega
    have hl2 : decide ((i : Int) < (t.size : Int)) = false := decide_eq_false hlt
    clear hO dO zr zt hr hi hN
    go_upto_if 70 with fail
    go_cut [4, 7, 8] (fun s4 s7 s8 wx => s4 = .int .i64 (i : Int) ∧ s7 = .string tO ∧ s8 = .string ⟨#[49]⟩ ∧ wx = W)
    case first =>
      go_wp2_with fail
      go_meet
      exact ⟨rfl, rfl, rfl, rfl⟩
    case rest =>
      obtain ⟨rfl, rfl, rfl, rfl⟩ := hcut
      rename ∀ a w, Code.wp _ _ _ a w → _ => hK
      refine hK _ _ ?_
      exact parse_t9 w0 _ gf t tO ⟨#[49]⟩ ds [49] below i ([]) (unhide HRR) (unhide HII) (unhide HNN) (unhide HO) rfl (unhide DO) digits_one lO (by decide) HB HX HF R HR _ _ _ _ _ _ _ _ _ _ _ _ _ _ _ _ _ _ _ _ _ _ _ _ _ _ _ _ _ _ _ _ _ _ _ _ _ _ _ _ _ _ _ _ _ _ _ _ _ _ _ _ _ _ _ _ _ _ _ _ _ _ _ _ _ _ _ _ _ _ _ _ _ _ _ _ _ _ _ _ _ _ _ _ _ _ _ _ _ _ _ _ _ _ _ _ _ _ _ _ _ _ _ _ _ _ _ _ _ _ _ _ _ _ _ _ _ _ _ _ _ _ _ _ _ _ _ _ _ _ _ _ _ _ _ _ _ _ _ _ _ _ _ _ _ _ _ _ _ _ _ _ _ _ _ _ _ _ _ _ _ _ _ _ _ _ _ _
  | c :: r' =>
    have hlt : (i : Int) < (t.size : Int) := by simp at zr; omega
    have hl2 : decide ((i : Int) < (t.size : Int)) = true := decide_eq_true hlt
    have hb := fun W => byte_at (t := t) rfl i (by omega) 9 Tryz.underlying9 W
    have hdr : t.data.toList.drop (i + 1) = r' := by
      rw [← List.drop_drop, hr]; rfl
    rw [show t.data.toList[i]?.getD 0 = c from by
      have h1 : (t.data.toList.drop i)[0]? = some c := by rw [hr]; rfl
      rw [List.getElem?_drop, Nat.add_zero] at h1
      rw [h1]; rfl] at hb
    have i0 : (0 : Int) ≤ (i : Int) := by omega
    have hw : IntKind.i64.wrap ((i : Int) + 1) = (i : Int) + 1 := by rw [IntKind.wrap_i64]; omega
    obtain ⟨d, hd⟩ : ∃ d, d = c.toNat := ⟨_, rfl⟩
    rw [← hd] at hb
    by_cases hk : d = 47 ∨ d = 46
    · obtain ⟨m, hm⟩ : ∃ m, m = i + 1 + (dgs r').length := ⟨_, rfl⟩
      obtain ⟨z1, z2, z3⟩ := digs_at t (i + 1) r' hdr (by omega) m hm
      have xt := extract_digs t (i + 1) r' hdr m hm
      have HZ := hide z1
      have HDG := hide z2
      have HND := hide z3
      have him : i + 1 ≤ m := by omega
      have hmt : m ≤ t.size := by omega
      have hm47 : m ≤ 140737488355328 := by omega
      have dr9 : t.data.toList.drop m = und r' := by
        rw [hm, ← List.drop_drop, hdr]
        have h1 := List.drop_left (l₁ := dgs r') (l₂ := und r')
        rw [dgs_und] at h1
        exact h1
      have HD9 := hide dr9
      have hsl : ∀ W : World, (Instr.slice 9 (.string t) (some (.int .i64 ((i : Int) + 1))) (some (.int .i64 (m : Int))) none).run Tryz.prog W = .ok (.string (t.extract (i + 1) m)) W := fun W => by
        rw [run_slice_string W 9 t .i64 .i64 _ _ Tryz.underlying9 (by omega) (by omega) (by omega)]
        rfl
      have HM := hide hm
      have XT := hide xt
      clear z1 z2 z3 xt dr9 hO dO zr zt hr hi hN hdr HRR
      have HRQ : Hid (∀ e w', (if (dgs r').length = 0 then BadIs w0 w' e ((i : Int) + 1) else EndIs w0 w' e (if d = 46 then ds ++ dgs r' else ds) (if d = 46 then 49 :: Lib.repeatL [48] (dgs r').length else dgs r') below (i + 1 + (dgs r').length) (und r')) → R e w') := fun e w' h => unhide HR e w' (by
        show (if c.toNat = 47 ∨ c.toNat = 46 then _ else _)
        rw [← hd, if_pos hk]
        exact h)
      clear hm hd HR
      rcases hk with h47 | h46
      · have c47 : ((d : Int) == 47) = true := by rw [h47]; rfl
        have c46 : ((d : Int) == 46) = false := by rw [h47]; rfl
        have H47 := hide h47
        clear h47
        go_upto_if 70 with fail
        go_cut [4, 7, 8] (fun s4 s7 s8 wx => s4 = .int .i64 (m : Int) ∧ s7 = .string tO ∧ s8 = .string (t.extract (i + 1) m) ∧ i + 1 < m ∧ wx = W)
        case first =>
          go_upto_block 2 with fail
          go_cut [4] (fun s4 wx => s4 = .int .i64 (m : Int) ∧ wx = W)
          case first =>
            go_wp2_with fail
            go_loopw [4] (fun a wq => ∃ k : Nat, a = .int .i64 (k : Int) ∧ i + 1 ≤ k ∧ k ≤ m ∧ Hid (wq = W)) (fun a _ => m - (intOf a).toNat)
            case atStart => exact ⟨i + 1, by go_num, Nat.le_refl _, by omega, rfl⟩
            case round =>
              obtain ⟨k, rfl, hk1, hk2, HW⟩ := hrel
              rename World => wq
              have hwr : IntKind.i64.wrap ((k : Int) + 1) = (k : Int) + 1 := by rw [IntKind.wrap_i64]; omega
              have i0 : (0 : Int) ≤ (k : Int) := by omega
              by_cases hkm : k < m
              · obtain ⟨dd, hb, hdd⟩ := unhide HDG k hk1 hkm
                have l1 : (k : Int) < (t.size : Int) := by have := unhide HZ; omega
                have l2 : decide ((k : Int) < (t.size : Int)) = true := decide_eq_true l1
                go_wp2_with fail
                refine (digit_any dd _ true (by show true = _; rw [decide_eq_true hdd.1, decide_eq_true hdd.2]; rfl)).mono ?_
                rintro e w1 ⟨rfl, hw1⟩
                obtain rfl := hw1.symm
                dsimp only
                go_wp2
                exact ⟨⟨k + 1, by go_num, by omega, by omega, unhide HW⟩, by simp [intOf]; omega⟩
              · obtain rfl : k = m := by omega
                rcases unhide HND with hz | ⟨dd, hb, hz, hdd⟩
                · have l1 : ¬ (k : Int) < (t.size : Int) := by omega
                  have l2 : decide ((k : Int) < (t.size : Int)) = false := decide_eq_false l1
                  go_wp2_with fail
                  go_meet
                  exact ⟨rfl, unhide HW⟩
                · have l1 : (k : Int) < (t.size : Int) := by omega
                  have l2 : decide ((k : Int) < (t.size : Int)) = true := decide_eq_true l1
                  go_wp2_with fail
                  refine (digit_any dd _ false (by show false = _; rcases hdd with h | h; (rw [decide_eq_false (by omega)]; rfl); (rw [decide_eq_false (p := dd ≤ 57) (by omega), Bool.and_false]))).mono ?_
                  rintro e w1 ⟨rfl, hw1⟩
                  obtain rfl := hw1.symm
                  dsimp only
                  go_wp2_with fail
                  go_meet
                  exact ⟨rfl, unhide HW⟩
          case rest =>
            obtain ⟨rfl, hwc⟩ := hcut
            obtain rfl := hwc.symm
            by_cases hz : m = i + 1
            · have hz1 : (m : Int) ≤ (i : Int) + 1 := by omega
              have hz2 : ((m : Int) == (i : Int) + 1) = true := by rw [hz]; simp
              have HR : Hid (∀ e w', BadIs w0 w' e (m : Int) → R e w') := fun e w' h => unhide HRQ e w' (by rw [if_pos (by have := unhide HM; omega), show (i : Int) + 1 = (m : Int) from by omega]; exact h)
              clear hz HRQ
              have al := (But.refl [] W).alloc (.cells #[.bool false, .slice none 0 0, .bool false, .slice none 0 0] 80)
              have X3 := (unhide HX).but al
              obtain ⟨n0, c0⟩ := X3.c0
              obtain ⟨n1, c1⟩ := X3.c1
              have f0 := X3.f0
              have f1 := X3.f1
              have RV := hide (put2_cells _ gf _ _ 3 (m : Int) c0 c1)
              have RB := hide (put2_but 3 (m : Int) ((unhide HB).trans' al) X3.old)
              clear al X3
              go_wp2
              obtain ⟨k0, k1⟩ := unhide RV
              refine bodyPost_ret (v := .tuple #[.pointer (some ⟨W.heap.size, 0, none⟩), .agg #[.int .i64 3, .int .i64 (m : Int)]]) (by simp [results, Tryz.results44, go_sem, k0, k1]) rfl ?_
              exact unhide HR _ _ (⟨_, unhide RB, rfl⟩)
            · have hz2 : ((m : Int) == (i : Int) + 1) = false := beq_eq_false_iff_ne.2 (by omega)
              go_wp2_with fail
              go_meet
              exact ⟨rfl, rfl, rfl, by omega, rfl⟩
        case rest =>
          obtain ⟨rfl, rfl, rfl, hlt, rfl⟩ := hcut
          rename ∀ a w, Code.wp _ _ _ a w → _ => hK
          refine hK _ _ ?_
          exact parse_t9 w0 _ gf t tO (t.extract (i + 1) m) ds (dgs r') below m (und r') (unhide HD9) (by simpa using hmt) (unhide HNN) (unhide HO) (unhide XT) (unhide DO) (dgs_digits r') lO (by have := unhide HM; omega) HB HX HF R (fun e w' h => unhide HRQ e w' (by rw [if_neg (by have := unhide HM; omega), if_neg (by have := unhide H47; omega), if_neg (by have := unhide H47; omega), ← unhide HM]; exact h)) _ _ _ _ _ _ _ _ _ _ _ _ _ _ _ _ _ _ _ _ _ _ _ _ _ _ _ _ _ _ _ _ _ _ _ _ _ _ _ _ _ _ _ _ _ _ _ _ _ _ _ _ _ _ _ _ _ _ _ _ _ _ _ _ _ _ _ _ _ _ _ _ _ _ _ _ _ _ _ _ _ _ _ _ _ _ _ _ _ _ _ _ _ _ _ _ _ _ _ _ _ _ _ _ _ _ _ _ _ _ _ _ _ _ _ _ _ _ _ _ _ _ _ _ _ _ _ _ _ _ _ _ _ _ _ _ _ _ _ _ _ _ _ _ _ _ _ _ _ _ _ _ _ _ _ _ _ _ _ _ _ _ _ _ _ _ _ _
      · have c47 : ((d : Int) == 47) = false := by rw [h46]; rfl
        have c46 : ((d : Int) == 46) = true := by rw [h46]; rfl
        have H46 := hide h46
        clear h46
        obtain ⟨n, hn⟩ : ∃ n, n = (dgs r').length := ⟨_, rfl⟩
        have hsub : (m : Int) - ((i : Int) + 1) = (n : Int) := by have := unhide HM; omega
        have hwn : IntKind.i64.wrap (n : Int) = (n : Int) := by rw [IntKind.wrap_i64]; have := unhide HM; omega
        have RP := hide (fun W => Tryz.strings_Repeat ⟨#[48]⟩ n W (by have := unhide HM; omega) (by show 1 * n ≤ _; have := unhide HM; omega))
        have HNL := hide hn
        have zE : (t.extract (i + 1) m).size ≤ m - (i + 1) := by rw [ByteArray.size_extract]; omega
        have zO : tO.size ≤ i := by rw [show tO.size = ds.length from by rw [← unhide HO]; simp]; exact lL
        have zR : (⟨(Lib.repeatL [48] n).toArray⟩ : ByteArray).size = n := by
          show (Lib.repeatL [48] n).toArray.size = n
          rw [List.size_toArray, Lib.repeatL_length]; simp
        have cat1 : tO.size + (t.extract (i + 1) m).size ≤ 9223372036854775807 := by omega
        have cat2 : (⟨#[49]⟩ : ByteArray).size + (⟨(Lib.repeatL [48] n).toArray⟩ : ByteArray).size ≤ 9223372036854775807 := by
          rw [zR, show (⟨#[49]⟩ : ByteArray).size = 1 from rfl]; have := unhide HM; omega
        have hcat1 := fun (W : World) => run_string_add_sum (P := Tryz.prog) W tO (t.extract (i + 1) m) cat1
        have hcat2 := fun (W : World) => run_string_add_sum (P := Tryz.prog) W ⟨#[49]⟩ ⟨(Lib.repeatL [48] n).toArray⟩ cat2
        have cat1' : ¬ 9223372036854775807 < ((tO.size : Nat) : Int) + (((t.extract (i + 1) m).size : Nat) : Int) := by omega
        clear hn zE zO zR
        go_upto_if 70 with fail
        go_cut [4, 7, 8] (fun s4 s7 s8 wx => s4 = .int .i64 (m : Int) ∧ s7 = .string (tO ++ t.extract (i + 1) m) ∧ s8 = .string (⟨#[49]⟩ ++ ⟨(Lib.repeatL [48] n).toArray⟩) ∧ i + 1 < m ∧ Hid (But [] W wx))
        case first =>
          go_upto_block 2 with fail
          go_cut [4] (fun s4 wx => s4 = .int .i64 (m : Int) ∧ wx = W)
          case first =>
            go_wp2_with fail
            go_loopw [4] (fun a wq => ∃ k : Nat, a = .int .i64 (k : Int) ∧ i + 1 ≤ k ∧ k ≤ m ∧ Hid (wq = W)) (fun a _ => m - (intOf a).toNat)
            case atStart => exact ⟨i + 1, by go_num, Nat.le_refl _, by omega, rfl⟩
            case round =>
              obtain ⟨k, rfl, hk1, hk2, HW⟩ := hrel
              rename World => wq
              have hwr : IntKind.i64.wrap ((k : Int) + 1) = (k : Int) + 1 := by rw [IntKind.wrap_i64]; omega
              have i0 : (0 : Int) ≤ (k : Int) := by omega
              by_cases hkm : k < m
              · obtain ⟨dd, hb, hdd⟩ := unhide HDG k hk1 hkm
                have l1 : (k : Int) < (t.size : Int) := by have := unhide HZ; omega
                have l2 : decide ((k : Int) < (t.size : Int)) = true := decide_eq_true l1
                go_wp2_with fail
                refine (digit_any dd _ true (by show true = _; rw [decide_eq_true hdd.1, decide_eq_true hdd.2]; rfl)).mono ?_
                rintro e w1 ⟨rfl, hw1⟩
                obtain rfl := hw1.symm
                dsimp only
                go_wp2
                exact ⟨⟨k + 1, by go_num, by omega, by omega, unhide HW⟩, by simp [intOf]; omega⟩
              · obtain rfl : k = m := by omega
                rcases unhide HND with hz | ⟨dd, hb, hz, hdd⟩
                · have l1 : ¬ (k : Int) < (t.size : Int) := by omega
                  have l2 : decide ((k : Int) < (t.size : Int)) = false := decide_eq_false l1
                  go_wp2_with fail
                  go_meet
                  exact ⟨rfl, unhide HW⟩
                · have l1 : (k : Int) < (t.size : Int) := by omega
                  have l2 : decide ((k : Int) < (t.size : Int)) = true := decide_eq_true l1
                  go_wp2_with fail
                  refine (digit_any dd _ false (by show false = _; rcases hdd with h | h; (rw [decide_eq_false (by omega)]; rfl); (rw [decide_eq_false (p := dd ≤ 57) (by omega), Bool.and_false]))).mono ?_
                  rintro e w1 ⟨rfl, hw1⟩
                  obtain rfl := hw1.symm
                  dsimp only
                  go_wp2_with fail
                  go_meet
                  exact ⟨rfl, unhide HW⟩
          case rest =>
            obtain ⟨rfl, hwc⟩ := hcut
            obtain rfl := hwc.symm
            by_cases hz : m = i + 1
            · have hz1 : (m : Int) ≤ (i : Int) + 1 := by omega
              have hz2 : ((m : Int) == (i : Int) + 1) = true := by rw [hz]; simp
              have HR : Hid (∀ e w', BadIs w0 w' e (m : Int) → R e w') := fun e w' h => unhide HRQ e w' (by rw [if_pos (by have := unhide HM; omega), show (i : Int) + 1 = (m : Int) from by omega]; exact h)
              clear hz HRQ
              have al := (But.refl [] W).alloc (.cells #[.bool false, .slice none 0 0, .bool false, .slice none 0 0] 80)
              have X3 := (unhide HX).but al
              obtain ⟨n0, c0⟩ := X3.c0
              obtain ⟨n1, c1⟩ := X3.c1
              have f0 := X3.f0
              have f1 := X3.f1
              have RV := hide (put2_cells _ gf _ _ 3 (m : Int) c0 c1)
              have RB := hide (put2_but 3 (m : Int) ((unhide HB).trans' al) X3.old)
              clear al X3
              go_wp2
              obtain ⟨k0, k1⟩ := unhide RV
              refine bodyPost_ret (v := .tuple #[.pointer (some ⟨W.heap.size, 0, none⟩), .agg #[.int .i64 3, .int .i64 (m : Int)]]) (by simp [results, Tryz.results44, go_sem, k0, k1]) rfl ?_
              exact unhide HR _ _ (⟨_, unhide RB, rfl⟩)
            · have hz2 : ((m : Int) == (i : Int) + 1) = false := beq_eq_false_iff_ne.2 (by omega)
              go_wp2_with fail
              refine (unhide RP _).mono ?_
              rintro e w1 ⟨rfl, hb1⟩
              dsimp only
              have B1 := hide (But.of_below hb1)
              clear hb1
              go_wp2_with fail
              go_meet
              exact ⟨rfl, rfl, rfl, by omega, unhide B1⟩
        case rest =>
          obtain ⟨rfl, rfl, rfl, hlt, BX⟩ := hcut
          rename ∀ a w, Code.wp _ _ _ a w → _ => hK
          refine hK _ _ ?_
          have eO : (tO ++ t.extract (i + 1) m).data.toList = ds ++ dgs r' := by
            rw [ByteArray.data_append, Array.toList_append, unhide HO, unhide XT]
          have eU : ((⟨#[49]⟩ ++ ⟨(Lib.repeatL [48] n).toArray⟩ : ByteArray)).data.toList = 49 :: Lib.repeatL [48] (dgs r').length := by
            rw [ByteArray.data_append, Array.toList_append, unhide HNL]; rfl
          exact parse_t9 w0 _ gf t _ _ (ds ++ dgs r') (49 :: Lib.repeatL [48] (dgs r').length) below m (und r') (unhide HD9) (by simpa using hmt) (unhide HNN) eO eU (fun d h => by
            rcases List.mem_append.1 h with h | h
            · exact unhide DO d h
            · exact dgs_digits r' d h) (digits_ten _) (by rw [List.length_append]; omega) (by simp) ((unhide HB).trans' (unhide BX)) ((unhide HX).but (unhide BX)) HF R (fun e w' h => unhide HRQ e w' (by rw [if_neg (by have := unhide HM; omega), if_pos (unhide H46), if_pos (unhide H46), ← unhide HM]; exact h)) _ _ _ _ _ _ _ _ _ _ _ _ _ _ _ _ _ _ _ _ _ _ _ _ _ _ _ _ _ _ _ _ _ _ _ _ _ _ _ _ _ _ _ _ _ _ _ _ _ _ _ _ _ _ _ _ _ _ _ _ _ _ _ _ _ _ _ _ _ _ _ _ _ _ _ _ _ _ _ _ _ _ _ _ _ _ _ _ _ _ _ _ _ _ _ _ _ _ _ _ _ _ _ _ _ _ _ _ _ _ _ _ _ _ _ _ _ _ _ _ _ _ _ _ _ _ _ _ _ _ _ _ _ _ _ _ _ _ _ _ _ _ _ _ _ _ _ _ _ _ _ _ _ _ _ _ _ _ _ _ _ _ _ _ _ _ _ _
    · have c47 : ((d : Int) == 47) = false := beq_eq_false_iff_ne.2 (by omega)
      have c46 : ((d : Int) == 46) = false := beq_eq_false_iff_ne.2 (by omega)
      have HRQ : Hid (∀ e w', EndIs w0 w' e ds [49] below i (c :: r') → R e w') := fun e w' h => unhide HR e w' (by
        show (if c.toNat = 47 ∨ c.toNat = 46 then _ else _)
        rw [← hd, if_neg hk]
        exact h)
      clear HR
      have HR := HRQ
      clear hO dO zr zt hr hi hN hdr hk hd HRQ
      go_upto_if 70 with fail
      go_cut [4, 7, 8] (fun s4 s7 s8 wx => s4 = .int .i64 (i : Int) ∧ s7 = .string tO ∧ s8 = .string ⟨#[49]⟩ ∧ wx = W)
      case first =>
        go_wp2_with fail
        go_meet
        exact ⟨rfl, rfl, rfl, rfl⟩
      case rest =>
        obtain ⟨rfl, rfl, rfl, rfl⟩ := hcut
        rename ∀ a w, Code.wp _ _ _ a w → _ => hK
        refine hK _ _ ?_
        exact parse_t9 w0 _ gf t tO ⟨#[49]⟩ ds [49] below i (c :: r') (unhide HRR) (unhide HII) (unhide HNN) (unhide HO) rfl (unhide DO) digits_one lO (by decide) HB HX HF R HR _ _ _ _ _ _ _ _ _ _ _ _ _ _ _ _ _ _ _ _ _ _ _ _ _ _ _ _ _ _ _ _ _ _ _ _ _ _ _ _ _ _ _ _ _ _ _ _ _ _ _ _ _ _ _ _ _ _ _ _ _ _ _ _ _ _ _ _ _ _ _ _ _ _ _ _ _ _ _ _ _ _ _ _ _ _ _ _ _ _ _ _ _ _ _ _ _ _ _ _ _ _ _ _ _ _ _ _ _ _ _ _ _ _ _ _ _ _ _ _ _ _ _ _ _ _ _ _ _ _ _ _ _ _ _ _ _ _ _ _ _ _ _ _ _ _ _ _ _ _ _ _ _ _ _ _ _ _ _ _ _ _ _ _ _ _ _ _
end Go.Proofs.YtihiafgogbhjkaaGreatDoor

namespace Go.Proofs.YtihiafgogbhjkaaGreatDoor
open Go.RowKit

/-- what the reference answers of a text of that form -/
def RefIs (w0 w' : World) (e : Ending) : Form → Prop
  | .bad p => BadIs w0 w' e p
  | .good s ds k es pc => FinIs w0 w' e (if k = 46 then ds ++ es else ds) (if k = 47 then es else 49 :: Lib.repeatL [48] es.length) s pc
theorem ref_end (w0 w' : World) (e : Ending) (s : Bool) (ds : List UInt8) (k : Nat) (es : List UInt8) (i : Nat) (r : List UInt8) (h : EndIs w0 w' e (if k = 46 then ds ++ es else ds) (if k = 47 then es else 49 :: Lib.repeatL [48] es.length) s i r) : RefIs w0 w' e (endForm s ds k es i r) := by
  match r with
  | [] => exact h
  | [c] =>
    show RefIs w0 w' e (if c.toNat = 37 then Form.good s ds k es true else Form.bad i)
    have h1 : (if c.toNat = 37 then FinIs w0 w' e _ _ s true else BadIs w0 w' e i) := h
    by_cases hc : c.toNat = 37
    · rw [if_pos hc] at h1 ⊢; exact h1
    · rw [if_neg hc] at h1 ⊢; exact h1
  | c :: _ :: _ =>
    show RefIs w0 w' e (if c.toNat = 37 then Form.bad (i + 1) else Form.bad i)
    have h1 : (if c.toNat = 37 then BadIs w0 w' e ((i : Int) + 1) else BadIs w0 w' e i) := h
    by_cases hc : c.toNat = 37
    · rw [if_pos hc] at h1 ⊢; exact h1
    · rw [if_neg hc] at h1 ⊢; exact h1
theorem ref_mid (w0 w' : World) (e : Ending) (s : Bool) (ds : List UInt8) (i : Nat) (r : List UInt8) (h : MidIs w0 w' e ds s i r) : RefIs w0 w' e (midForm s ds i r) := by
  match r with
  | [] => exact h
  | c :: r =>
    show RefIs w0 w' e (if c.toNat = 47 ∨ c.toNat = 46 then (if (dgs r).length = 0 then Form.bad (i + 1) else endForm s ds c.toNat (dgs r) (i + 1 + (dgs r).length) (und r)) else endForm s ds 0 [] i (c :: r))
    have h1 : (if c.toNat = 47 ∨ c.toNat = 46 then (if (dgs r).length = 0 then BadIs w0 w' e ((i : Int) + 1) else EndIs w0 w' e (if c.toNat = 46 then ds ++ dgs r else ds) (if c.toNat = 46 then 49 :: Lib.repeatL [48] (dgs r).length else dgs r) s (i + 1 + (dgs r).length) (und r)) else EndIs w0 w' e ds [49] s i (c :: r)) := h
    by_cases hc : c.toNat = 47 ∨ c.toNat = 46
    · rw [if_pos hc] at h1 ⊢
      by_cases h0 : (dgs r).length = 0
      · rw [if_pos h0] at h1 ⊢; exact h1
      · rw [if_neg h0] at h1 ⊢
        refine ref_end w0 w' e s ds c.toNat (dgs r) _ _ ?_
        rcases hc with hc | hc
        · rw [if_neg (by omega), if_pos hc]
          rw [if_neg (by omega), if_neg (by omega)] at h1
          exact h1
        · rw [if_pos hc, if_neg (by omega)]
          rw [if_pos hc, if_pos hc] at h1
          exact h1
    · rw [if_neg hc] at h1 ⊢
      exact ref_end w0 w' e s ds 0 [] i (c :: r) h1
theorem extract_zero (t : ByteArray) : ((t.extract 0 0).toList == [45]) = false := by
  rw [ByteArray.toList_eq]
  have e1 : (t.extract 0 0).data.toList = [] := by simp
  rw [e1]; rfl
theorem extract_one (t : ByteArray) (c : UInt8) (l : List UInt8) (hl : t.data.toList = c :: l) (h45 : c.toNat = 45) : ((t.extract 0 1).toList == [45]) = true := by
  have hc : c = 45 := UInt8.toNat.inj h45
  rw [ByteArray.toList_eq]
  have e1 : (t.extract 0 1).data.toList = (t.data.toList.drop 0).take 1 := by simp [ByteArray.data_extract, List.extract_eq_take_drop]
  rw [e1, hl, hc]; rfl

set_option maxHeartbeats 32000000 in
set_option maxRecDepth 100000 in
theorem parse_none (t : ByteArray) (l : List UInt8) (w : World) (hl : t.data.toList = l) (h0 : l = []) (hN : t.data.toList.length ≤ 140737488355328) (HF : Hid (Fine w)) (R : Ending → World → Prop) (HR : Hid (∀ e w', RefIs w w' e (signForm false 0 l) → R e w')) :
    Calls Tryz.prog 44 #[.string t] w R := by
  have zt : t.size = t.data.toList.length := by simp
  have hdr : t.data.toList.drop 0 = l := hl
  have hs1 : ¬ (0 : Int) < (t.size : Int) := by rw [zt, hl, h0]; simp
  have hs2 : decide ((0 : Int) < (t.size : Int)) = false := decide_eq_false hs1
  have hex := extract_zero t
  clear h0 hl
  obtain ⟨m, hm⟩ : ∃ m, m = 0 + (dgs l).length := ⟨_, rfl⟩
  obtain ⟨z1, z2, z3⟩ := digs_at t 0 l hdr (by omega) m hm
  have xt := extract_digs t 0 l hdr m hm
  have dr8 : t.data.toList.drop m = und l := by
    rw [hm, ← List.drop_drop, hdr]
    have h1 := List.drop_left (l₁ := dgs l) (l₂ := und l)
    rw [dgs_und] at h1
    exact h1
  have hmt : m ≤ t.size := by omega
  have ham : 0 ≤ m := by omega
  have hm47 : m ≤ 140737488355328 := by omega
  have hsl : ∀ W : World, (Instr.slice 9 (.string t) (some (.int .i64 0)) (some (.int .i64 (m : Int))) none).run Tryz.prog W = .ok (.string (t.extract 0 m)) W := fun W => by
    rw [run_slice_string W 9 t .i64 .i64 _ _ Tryz.underlying9 (by omega) (by omega) (by omega)]
    rfl
  have HZ := hide z1
  have HDG := hide z2
  have HND := hide z3
  have XT := hide xt
  have HD8 := hide dr8
  have HM := hide hm
  have HMT := hide hmt
  have HNN := hide hN
  have HB : Hid (But [] w (w.alloc (.cells #[.int .i64 0, .int .i64 0] 62))) := (But.refl _ _).alloc _
  have HX : Hid (Box2 w (w.alloc (.cells #[.int .i64 0, .int .i64 0] 62)) w.heap.size) := ⟨Nat.le_refl _, ⟨0, by rw [World.cell?_alloc_new]; rfl⟩, ⟨0, by rw [World.cell?_alloc_new]; rfl⟩, by simp, by simp⟩
  obtain ⟨W, hW⟩ : ∃ W, W = w.alloc (.cells #[.int .i64 0, .int .i64 0] 62) := ⟨_, rfl⟩
  obtain ⟨gf, hgf⟩ : ∃ gf, gf = w.heap.size := ⟨_, rfl⟩
  rw [← hW, ← hgf] at HX
  rw [← hW] at HB
  have HW := hide hW
  have HGF := hide hgf
  clear z1 z2 z3 xt dr8 hm hdr zt hW hgf
  go_enter Tryz.func44, Tryz.ntmps44
  go_upto_block 0 with fail
  rw [← unhide HW, ← unhide HGF]
  go_upto_block 0 with fail
  go_cut [4] (fun s4 wx => s4 = .int .i64 (m : Int) ∧ wx = W)
  case first =>
    go_wp2_with fail
    go_loopw [4] (fun a wq => ∃ k : Nat, a = .int .i64 (k : Int) ∧ 0 ≤ k ∧ k ≤ m ∧ Hid (wq = W)) (fun a _ => m - (intOf a).toNat)
    case atStart => exact ⟨0, by go_num, Nat.le_refl _, by omega, rfl⟩
    case round =>
      obtain ⟨k, rfl, hk1, hk2, HW⟩ := hrel
      rename World => wq
      have hwr : IntKind.i64.wrap ((k : Int) + 1) = (k : Int) + 1 := by rw [IntKind.wrap_i64]; omega
      have i0 : (0 : Int) ≤ (k : Int) := by omega
      by_cases hkm : k < m
      · obtain ⟨dd, hb, hdd⟩ := unhide HDG k hk1 hkm
        have l1 : (k : Int) < (t.size : Int) := by have := unhide HZ; omega
        have l2 : decide ((k : Int) < (t.size : Int)) = true := decide_eq_true l1
        go_wp2_with fail
        refine (digit_any dd _ true (by show true = _; rw [decide_eq_true hdd.1, decide_eq_true hdd.2]; rfl)).mono ?_
        rintro e w1 ⟨rfl, hw1⟩
        obtain rfl := hw1.symm
        dsimp only
        go_wp2
        exact ⟨⟨k + 1, by go_num, by omega, by omega, unhide HW⟩, by simp [intOf]; omega⟩
      · obtain rfl : k = m := by omega
        rcases unhide HND with hz | ⟨dd, hb, hz, hdd⟩
        · have l1 : ¬ (k : Int) < (t.size : Int) := by omega
          have l2 : decide ((k : Int) < (t.size : Int)) = false := decide_eq_false l1
          go_wp2_with fail
          go_meet
          exact ⟨rfl, unhide HW⟩
        · have l1 : (k : Int) < (t.size : Int) := by omega
          have l2 : decide ((k : Int) < (t.size : Int)) = true := decide_eq_true l1
          go_wp2_with fail
          refine (digit_any dd _ false (by show false = _; rcases hdd with h | h; (rw [decide_eq_false (by omega)]; rfl); (rw [decide_eq_false (p := dd ≤ 57) (by omega), Bool.and_false]))).mono ?_
          rintro e w1 ⟨rfl, hw1⟩
          obtain rfl := hw1.symm
          dsimp only
          go_wp2_with fail
          go_meet
          exact ⟨rfl, unhide HW⟩
  case rest =>
    obtain ⟨rfl, hwc⟩ := hcut
    obtain rfl := hwc.symm
    by_cases hz : m = 0
    · have hz2 : ((m : Int) == 0) = true := by rw [hz]; rfl
      have hz3 : (m : Int) ≤ 0 := by omega
      replace HR : Hid (∀ e w', BadIs w w' e (m : Int) → R e w') := fun e w' h => unhide HR e w' (by
        unfold signForm
        rw [if_pos (by have := unhide HM; omega), ← hz]
        exact h)
      clear hz
      have al := (But.refl [] W).alloc (.cells #[.bool false, .slice none 0 0, .bool false, .slice none 0 0] 80)
      have X3 := (unhide HX).but al
      obtain ⟨n0, c0⟩ := X3.c0
      obtain ⟨n1, c1⟩ := X3.c1
      have f0 := X3.f0
      have f1 := X3.f1
      have RV := hide (put2_cells _ gf _ _ 3 (m : Int) c0 c1)
      have RB := hide (put2_but 3 (m : Int) ((unhide HB).trans' al) X3.old)
      clear al X3
      go_wp2
      obtain ⟨k0, k1⟩ := unhide RV
      refine bodyPost_ret (v := .tuple #[.pointer (some ⟨W.heap.size, 0, none⟩), .agg #[.int .i64 3, .int .i64 (m : Int)]]) (by simp [results, Tryz.results44, go_sem, k0, k1]) rfl ?_
      exact unhide HR _ _ (⟨_, unhide RB, rfl⟩)
    · have hz2 : ((m : Int) == 0) = false := beq_eq_false_iff_ne.2 (by omega)
      go_upto_region 10 with fail
      go_cut [7, 8] (fun s7 s8 wx => s7 = .string (t.extract 0 m) ∧ s8 = .string ⟨#[49]⟩ ∧ wx = W)
      case first =>
        go_wp2_with fail
        go_meet
        exact ⟨rfl, rfl, rfl⟩
      case rest =>
        obtain ⟨rfl, rfl, rfl⟩ := hcut
        rename ∀ a w, Code.wp _ _ _ a w → _ => hK
        refine hK _ _ ?_
        exact parse_t8 w _ gf t _ (dgs l) false m (und l) (unhide HD8) (by have := unhide HMT; simpa using this) (unhide HNN) (unhide XT) (dgs_digits l) (by have := unhide HM; omega) (by have := unhide HM; omega) HB HX HF R (fun e w' h => unhide HR e w' (by
          unfold signForm
          rw [if_neg (by have := unhide HM; omega), ← unhide HM]
          exact ref_mid w w' e false (dgs l) m (und l) h)) _ _ _ _ _ _ _ _ _ _ _ _ _ _ _ _ _ _ _ _ _ _ _ _ _ _ _ _ _ _ _ _ _ _ _ _ _ _ _ _ _ _ _ _ _ _ _ _ _ _ _ _ _ _ _ _ _ _ _ _ _ _ _ _ _ _ _ _ _ _ _ _ _ _ _ _ _ _ _ _ _ _ _ _ _ _ _ _ _ _ _ _ _ _ _ _ _ _ _ _ _ _ _ _ _ _ _ _ _ _ _ _ _ _ _ _ _ _ _ _ _ _ _ _ _ _ _ _ _ _ _ _ _ _ _ _ _ _ _ _ _ _ _ _ _ _ _ _ _ _ _ _ _ _ _ _ _ _ _ _ _ _ _ _ _ _ _ _
set_option maxHeartbeats 32000000 in
set_option maxRecDepth 100000 in
theorem parse_minus (t : ByteArray) (l : List UInt8) (w : World) (c : UInt8) (hl : t.data.toList = c :: l) (h45 : c.toNat = 45) (hN : t.data.toList.length ≤ 140737488355328) (HF : Hid (Fine w)) (R : Ending → World → Prop) (HR : Hid (∀ e w', RefIs w w' e (signForm true 1 l) → R e w')) :
    Calls Tryz.prog 44 #[.string t] w R := by
  have zt : t.size = t.data.toList.length := by simp
  have hdr : t.data.toList.drop 1 = l := by rw [hl]; rfl
  have hl1 : 1 ≤ t.size := by rw [zt, hl]; simp
  have hs1 : (0 : Int) < (t.size : Int) := by omega
  have hs2 : decide ((0 : Int) < (t.size : Int)) = true := decide_eq_true hs1
  have hb : ∀ W : World, (Instr.index 9 (.string t) (.int .i64 0)).run Tryz.prog W = .ok (.int .u8 45) W := fun W => by
    have h := byte_at (t := t) rfl 0 (by omega) 9 Tryz.underlying9 W
    rw [show t.data.toList[0]?.getD 0 = c from by rw [hl]; rfl, h45] at h
    exact h
  have hex := extract_one t c l hl h45
  clear h45 hl
  obtain ⟨m, hm⟩ : ∃ m, m = 1 + (dgs l).length := ⟨_, rfl⟩
  obtain ⟨z1, z2, z3⟩ := digs_at t 1 l hdr (by omega) m hm
  have xt := extract_digs t 1 l hdr m hm
  have dr8 : t.data.toList.drop m = und l := by
    rw [hm, ← List.drop_drop, hdr]
    have h1 := List.drop_left (l₁ := dgs l) (l₂ := und l)
    rw [dgs_und] at h1
    exact h1
  have hmt : m ≤ t.size := by omega
  have ham : 1 ≤ m := by omega
  have hm47 : m ≤ 140737488355328 := by omega
  have hsl : ∀ W : World, (Instr.slice 9 (.string t) (some (.int .i64 1)) (some (.int .i64 (m : Int))) none).run Tryz.prog W = .ok (.string (t.extract 1 m)) W := fun W => by
    rw [run_slice_string W 9 t .i64 .i64 _ _ Tryz.underlying9 (by omega) (by omega) (by omega)]
    rfl
  have HZ := hide z1
  have HDG := hide z2
  have HND := hide z3
  have XT := hide xt
  have HD8 := hide dr8
  have HM := hide hm
  have HMT := hide hmt
  have HNN := hide hN
  have HB : Hid (But [] w (w.alloc (.cells #[.int .i64 0, .int .i64 0] 62))) := (But.refl _ _).alloc _
  have HX : Hid (Box2 w (w.alloc (.cells #[.int .i64 0, .int .i64 0] 62)) w.heap.size) := ⟨Nat.le_refl _, ⟨0, by rw [World.cell?_alloc_new]; rfl⟩, ⟨0, by rw [World.cell?_alloc_new]; rfl⟩, by simp, by simp⟩
  obtain ⟨W, hW⟩ : ∃ W, W = w.alloc (.cells #[.int .i64 0, .int .i64 0] 62) := ⟨_, rfl⟩
  obtain ⟨gf, hgf⟩ : ∃ gf, gf = w.heap.size := ⟨_, rfl⟩
  rw [← hW, ← hgf] at HX
  rw [← hW] at HB
  have HW := hide hW
  have HGF := hide hgf
  clear z1 z2 z3 xt dr8 hm hdr zt hW hgf
  go_enter Tryz.func44, Tryz.ntmps44
  go_upto_block 0 with fail
  rw [← unhide HW, ← unhide HGF]
  go_upto_block 0 with fail
  go_cut [4] (fun s4 wx => s4 = .int .i64 (m : Int) ∧ wx = W)
  case first =>
    go_wp2_with fail
    go_loopw [4] (fun a wq => ∃ k : Nat, a = .int .i64 (k : Int) ∧ 1 ≤ k ∧ k ≤ m ∧ Hid (wq = W)) (fun a _ => m - (intOf a).toNat)
    case atStart => exact ⟨1, by go_num, Nat.le_refl _, by omega, rfl⟩
    case round =>
      obtain ⟨k, rfl, hk1, hk2, HW⟩ := hrel
      rename World => wq
      have hwr : IntKind.i64.wrap ((k : Int) + 1) = (k : Int) + 1 := by rw [IntKind.wrap_i64]; omega
      have i0 : (0 : Int) ≤ (k : Int) := by omega
      by_cases hkm : k < m
      · obtain ⟨dd, hb, hdd⟩ := unhide HDG k hk1 hkm
        have l1 : (k : Int) < (t.size : Int) := by have := unhide HZ; omega
        have l2 : decide ((k : Int) < (t.size : Int)) = true := decide_eq_true l1
        go_wp2_with fail
        refine (digit_any dd _ true (by show true = _; rw [decide_eq_true hdd.1, decide_eq_true hdd.2]; rfl)).mono ?_
        rintro e w1 ⟨rfl, hw1⟩
        obtain rfl := hw1.symm
        dsimp only
        go_wp2
        exact ⟨⟨k + 1, by go_num, by omega, by omega, unhide HW⟩, by simp [intOf]; omega⟩
      · obtain rfl : k = m := by omega
        rcases unhide HND with hz | ⟨dd, hb, hz, hdd⟩
        · have l1 : ¬ (k : Int) < (t.size : Int) := by omega
          have l2 : decide ((k : Int) < (t.size : Int)) = false := decide_eq_false l1
          go_wp2_with fail
          go_meet
          exact ⟨rfl, unhide HW⟩
        · have l1 : (k : Int) < (t.size : Int) := by omega
          have l2 : decide ((k : Int) < (t.size : Int)) = true := decide_eq_true l1
          go_wp2_with fail
          refine (digit_any dd _ false (by show false = _; rcases hdd with h | h; (rw [decide_eq_false (by omega)]; rfl); (rw [decide_eq_false (p := dd ≤ 57) (by omega), Bool.and_false]))).mono ?_
          rintro e w1 ⟨rfl, hw1⟩
          obtain rfl := hw1.symm
          dsimp only
          go_wp2_with fail
          go_meet
          exact ⟨rfl, unhide HW⟩
  case rest =>
    obtain ⟨rfl, hwc⟩ := hcut
    obtain rfl := hwc.symm
    by_cases hz : m = 1
    · have hz2 : ((m : Int) == 1) = true := by rw [hz]; rfl
      have hz3 : (m : Int) ≤ 1 := by omega
      replace HR : Hid (∀ e w', BadIs w w' e (m : Int) → R e w') := fun e w' h => unhide HR e w' (by
        unfold signForm
        rw [if_pos (by have := unhide HM; omega), ← hz]
        exact h)
      clear hz
      have al := (But.refl [] W).alloc (.cells #[.bool false, .slice none 0 0, .bool false, .slice none 0 0] 80)
      have X3 := (unhide HX).but al
      obtain ⟨n0, c0⟩ := X3.c0
      obtain ⟨n1, c1⟩ := X3.c1
      have f0 := X3.f0
      have f1 := X3.f1
      have RV := hide (put2_cells _ gf _ _ 3 (m : Int) c0 c1)
      have RB := hide (put2_but 3 (m : Int) ((unhide HB).trans' al) X3.old)
      clear al X3
      go_wp2
      obtain ⟨k0, k1⟩ := unhide RV
      refine bodyPost_ret (v := .tuple #[.pointer (some ⟨W.heap.size, 0, none⟩), .agg #[.int .i64 3, .int .i64 (m : Int)]]) (by simp [results, Tryz.results44, go_sem, k0, k1]) rfl ?_
      exact unhide HR _ _ (⟨_, unhide RB, rfl⟩)
    · have hz2 : ((m : Int) == 1) = false := beq_eq_false_iff_ne.2 (by omega)
      go_upto_region 10 with fail
      go_cut [7, 8] (fun s7 s8 wx => s7 = .string (t.extract 1 m) ∧ s8 = .string ⟨#[49]⟩ ∧ wx = W)
      case first =>
        go_wp2_with fail
        go_meet
        exact ⟨rfl, rfl, rfl⟩
      case rest =>
        obtain ⟨rfl, rfl, rfl⟩ := hcut
        rename ∀ a w, Code.wp _ _ _ a w → _ => hK
        refine hK _ _ ?_
        exact parse_t8 w _ gf t _ (dgs l) true m (und l) (unhide HD8) (by have := unhide HMT; simpa using this) (unhide HNN) (unhide XT) (dgs_digits l) (by have := unhide HM; omega) (by have := unhide HM; omega) HB HX HF R (fun e w' h => unhide HR e w' (by
          unfold signForm
          rw [if_neg (by have := unhide HM; omega), ← unhide HM]
          exact ref_mid w w' e true (dgs l) m (und l) h)) _ _ _ _ _ _ _ _ _ _ _ _ _ _ _ _ _ _ _ _ _ _ _ _ _ _ _ _ _ _ _ _ _ _ _ _ _ _ _ _ _ _ _ _ _ _ _ _ _ _ _ _ _ _ _ _ _ _ _ _ _ _ _ _ _ _ _ _ _ _ _ _ _ _ _ _ _ _ _ _ _ _ _ _ _ _ _ _ _ _ _ _ _ _ _ _ _ _ _ _ _ _ _ _ _ _ _ _ _ _ _ _ _ _ _ _ _ _ _ _ _ _ _ _ _ _ _ _ _ _ _ _ _ _ _ _ _ _ _ _ _ _ _ _ _ _ _ _ _ _ _ _ _ _ _ _ _ _ _ _ _ _ _ _ _ _ _ _
set_option maxHeartbeats 32000000 in
set_option maxRecDepth 100000 in
theorem parse_plus (t : ByteArray) (l : List UInt8) (w : World) (c : UInt8) (r : List UInt8) (hl : t.data.toList = l) (hc : l = c :: r) (h45 : c.toNat ≠ 45) (hN : t.data.toList.length ≤ 140737488355328) (HF : Hid (Fine w)) (R : Ending → World → Prop) (HR : Hid (∀ e w', RefIs w w' e (signForm false 0 l) → R e w')) :
    Calls Tryz.prog 44 #[.string t] w R := by
  have zt : t.size = t.data.toList.length := by simp
  have hdr : t.data.toList.drop 0 = l := hl
  have hl1 : 1 ≤ t.size := by rw [zt, hl, hc]; simp
  have hs1 : (0 : Int) < (t.size : Int) := by omega
  have hs2 : decide ((0 : Int) < (t.size : Int)) = true := decide_eq_true hs1
  have hb : ∀ W : World, (Instr.index 9 (.string t) (.int .i64 0)).run Tryz.prog W = .ok (.int .u8 ((c.toNat : Nat) : Int)) W := fun W => by
    have h := byte_at (t := t) rfl 0 (by omega) 9 Tryz.underlying9 W
    rw [show t.data.toList[0]?.getD 0 = c from by rw [hl, hc]; rfl] at h
    exact h
  obtain ⟨d, hd⟩ : ∃ d, d = c.toNat := ⟨_, rfl⟩
  rw [← hd] at hb h45
  have h45' : ((d : Int) == 45) = false := beq_eq_false_iff_ne.2 (by omega)
  have hex := extract_zero t
  clear h45 hl hc hd
  obtain ⟨m, hm⟩ : ∃ m, m = 0 + (dgs l).length := ⟨_, rfl⟩
  obtain ⟨z1, z2, z3⟩ := digs_at t 0 l hdr (by omega) m hm
  have xt := extract_digs t 0 l hdr m hm
  have dr8 : t.data.toList.drop m = und l := by
    rw [hm, ← List.drop_drop, hdr]
    have h1 := List.drop_left (l₁ := dgs l) (l₂ := und l)
    rw [dgs_und] at h1
    exact h1
  have hmt : m ≤ t.size := by omega
  have ham : 0 ≤ m := by omega
  have hm47 : m ≤ 140737488355328 := by omega
  have hsl : ∀ W : World, (Instr.slice 9 (.string t) (some (.int .i64 0)) (some (.int .i64 (m : Int))) none).run Tryz.prog W = .ok (.string (t.extract 0 m)) W := fun W => by
    rw [run_slice_string W 9 t .i64 .i64 _ _ Tryz.underlying9 (by omega) (by omega) (by omega)]
    rfl
  have HZ := hide z1
  have HDG := hide z2
  have HND := hide z3
  have XT := hide xt
  have HD8 := hide dr8
  have HM := hide hm
  have HMT := hide hmt
  have HNN := hide hN
  have HB : Hid (But [] w (w.alloc (.cells #[.int .i64 0, .int .i64 0] 62))) := (But.refl _ _).alloc _
  have HX : Hid (Box2 w (w.alloc (.cells #[.int .i64 0, .int .i64 0] 62)) w.heap.size) := ⟨Nat.le_refl _, ⟨0, by rw [World.cell?_alloc_new]; rfl⟩, ⟨0, by rw [World.cell?_alloc_new]; rfl⟩, by simp, by simp⟩
  obtain ⟨W, hW⟩ : ∃ W, W = w.alloc (.cells #[.int .i64 0, .int .i64 0] 62) := ⟨_, rfl⟩
  obtain ⟨gf, hgf⟩ : ∃ gf, gf = w.heap.size := ⟨_, rfl⟩
  rw [← hW, ← hgf] at HX
  rw [← hW] at HB
  have HW := hide hW
  have HGF := hide hgf
  clear z1 z2 z3 xt dr8 hm hdr zt hW hgf
  go_enter Tryz.func44, Tryz.ntmps44
  go_upto_block 0 with fail
  rw [← unhide HW, ← unhide HGF]
  go_upto_block 0 with fail
  go_cut [4] (fun s4 wx => s4 = .int .i64 (m : Int) ∧ wx = W)
  case first =>
    go_wp2_with fail
    go_loopw [4] (fun a wq => ∃ k : Nat, a = .int .i64 (k : Int) ∧ 0 ≤ k ∧ k ≤ m ∧ Hid (wq = W)) (fun a _ => m - (intOf a).toNat)
    case atStart => exact ⟨0, by go_num, Nat.le_refl _, by omega, rfl⟩
    case round =>
      obtain ⟨k, rfl, hk1, hk2, HW⟩ := hrel
      rename World => wq
      have hwr : IntKind.i64.wrap ((k : Int) + 1) = (k : Int) + 1 := by rw [IntKind.wrap_i64]; omega
      have i0 : (0 : Int) ≤ (k : Int) := by omega
      by_cases hkm : k < m
      · obtain ⟨dd, hb, hdd⟩ := unhide HDG k hk1 hkm
        have l1 : (k : Int) < (t.size : Int) := by have := unhide HZ; omega
        have l2 : decide ((k : Int) < (t.size : Int)) = true := decide_eq_true l1
        go_wp2_with fail
        refine (digit_any dd _ true (by show true = _; rw [decide_eq_true hdd.1, decide_eq_true hdd.2]; rfl)).mono ?_
        rintro e w1 ⟨rfl, hw1⟩
        obtain rfl := hw1.symm
        dsimp only
        go_wp2
        exact ⟨⟨k + 1, by go_num, by omega, by omega, unhide HW⟩, by simp [intOf]; omega⟩
      · obtain rfl : k = m := by omega
        rcases unhide HND with hz | ⟨dd, hb, hz, hdd⟩
        · have l1 : ¬ (k : Int) < (t.size : Int) := by omega
          have l2 : decide ((k : Int) < (t.size : Int)) = false := decide_eq_false l1
          go_wp2_with fail
          go_meet
          exact ⟨rfl, unhide HW⟩
        · have l1 : (k : Int) < (t.size : Int) := by omega
          have l2 : decide ((k : Int) < (t.size : Int)) = true := decide_eq_true l1
          go_wp2_with fail
          refine (digit_any dd _ false (by show false = _; rcases hdd with h | h; (rw [decide_eq_false (by omega)]; rfl); (rw [decide_eq_false (p := dd ≤ 57) (by omega), Bool.and_false]))).mono ?_
          rintro e w1 ⟨rfl, hw1⟩
          obtain rfl := hw1.symm
          dsimp only
          go_wp2_with fail
          go_meet
          exact ⟨rfl, unhide HW⟩
  case rest =>
    obtain ⟨rfl, hwc⟩ := hcut
    obtain rfl := hwc.symm
    by_cases hz : m = 0
    · have hz2 : ((m : Int) == 0) = true := by rw [hz]; rfl
      have hz3 : (m : Int) ≤ 0 := by omega
      replace HR : Hid (∀ e w', BadIs w w' e (m : Int) → R e w') := fun e w' h => unhide HR e w' (by
        unfold signForm
        rw [if_pos (by have := unhide HM; omega), ← hz]
        exact h)
      clear hz
      have al := (But.refl [] W).alloc (.cells #[.bool false, .slice none 0 0, .bool false, .slice none 0 0] 80)
      have X3 := (unhide HX).but al
      obtain ⟨n0, c0⟩ := X3.c0
      obtain ⟨n1, c1⟩ := X3.c1
      have f0 := X3.f0
      have f1 := X3.f1
      have RV := hide (put2_cells _ gf _ _ 3 (m : Int) c0 c1)
      have RB := hide (put2_but 3 (m : Int) ((unhide HB).trans' al) X3.old)
      clear al X3
      go_wp2
      obtain ⟨k0, k1⟩ := unhide RV
      refine bodyPost_ret (v := .tuple #[.pointer (some ⟨W.heap.size, 0, none⟩), .agg #[.int .i64 3, .int .i64 (m : Int)]]) (by simp [results, Tryz.results44, go_sem, k0, k1]) rfl ?_
      exact unhide HR _ _ (⟨_, unhide RB, rfl⟩)
    · have hz2 : ((m : Int) == 0) = false := beq_eq_false_iff_ne.2 (by omega)
      go_upto_region 10 with fail
      go_cut [7, 8] (fun s7 s8 wx => s7 = .string (t.extract 0 m) ∧ s8 = .string ⟨#[49]⟩ ∧ wx = W)
      case first =>
        go_wp2_with fail
        go_meet
        exact ⟨rfl, rfl, rfl⟩
      case rest =>
        obtain ⟨rfl, rfl, rfl⟩ := hcut
        rename ∀ a w, Code.wp _ _ _ a w → _ => hK
        refine hK _ _ ?_
        exact parse_t8 w _ gf t _ (dgs l) false m (und l) (unhide HD8) (by have := unhide HMT; simpa using this) (unhide HNN) (unhide XT) (dgs_digits l) (by have := unhide HM; omega) (by have := unhide HM; omega) HB HX HF R (fun e w' h => unhide HR e w' (by
          unfold signForm
          rw [if_neg (by have := unhide HM; omega), ← unhide HM]
          exact ref_mid w w' e false (dgs l) m (und l) h)) _ _ _ _ _ _ _ _ _ _ _ _ _ _ _ _ _ _ _ _ _ _ _ _ _ _ _ _ _ _ _ _ _ _ _ _ _ _ _ _ _ _ _ _ _ _ _ _ _ _ _ _ _ _ _ _ _ _ _ _ _ _ _ _ _ _ _ _ _ _ _ _ _ _ _ _ _ _ _ _ _ _ _ _ _ _ _ _ _ _ _ _ _ _ _ _ _ _ _ _ _ _ _ _ _ _ _ _ _ _ _ _ _ _ _ _ _ _ _ _ _ _ _ _ _ _ _ _ _ _ _ _ _ _ _ _ _ _ _ _ _ _ _ _ _ _ _ _ _ _ _ _ _ _ _ _ _ _ _ _ _ _ _ _ _ _ _ _
/-- Parse of the reference, of every text -/
theorem refParse_any (t : ByteArray) (w : World) (hN : t.data.toList.length ≤ 140737488355328) (hF : Fine w) :
    Calls Tryz.prog 44 #[.string t] w fun e w' => RefIs w w' e (formOf t.data.toList) := by
  cases h : t.data.toList with
  | nil => exact parse_none t [] w h rfl hN hF _ (fun e w' h => h)
  | cons c l =>
    by_cases hc : c.toNat = 45
    · refine parse_minus t l w c h hc hN hF _ (fun e w' h => ?_)
      show RefIs w w' e (if c.toNat = 45 then signForm true 1 l else signForm false 0 (c :: l))
      rw [if_pos hc]; exact h
    · refine parse_plus t (c :: l) w c l h rfl hc hN hF _ (fun e w' h => ?_)
      show RefIs w w' e (if c.toNat = 45 then signForm true 1 l else signForm false 0 (c :: l))
      rw [if_neg hc]; exact h
end Go.Proofs.YtihiafgogbhjkaaGreatDoor

namespace Go.Proofs.YtihiafgogbhjkaaGreatDoor
open Go.RowKit

set_option maxHeartbeats 8000000 in
set_option maxRecDepth 100000 in
theorem parses_err (t : ByteArray) (w : World) (n p : Int) (hn : n ≠ 0) (h1 : Calls Tryz.prog 43 #[.string t] w fun e w' => ∃ ev, e = .returned (.tuple #[zeroF, ev]) ∧ ErrAt w' ev n p ∧ But [] w w') (h2 : ∀ W, But [] w W → Calls Tryz.prog 44 #[.string t] W fun e w' => ∃ zb : Nat, e = .returned (.tuple #[.pointer (some ⟨zb, 0, none⟩), .agg #[.int .i64 n, .int .i64 p]]) ∧ But [] W w') (htab : Lib.TabIs Tryz.prog w "internal/strconv.uint64pow10" .u64 Lib.pow10Tab) (hg : w.cell? ⟨1, 0, none⟩ = some (.iface 212 (.agg #[.pointer (some ⟨8, 32, none⟩)]))) :
    Calls Tryz.prog 4 #[.string t] w fun e w' => e = .returned (.bool true) ∧ But [] w w' := by
  have TZ := hide (fun W h => fracText_len (.agg #[.bool false, .int .u64 0, .int .u64 0, .pointer none]) 0 W (int_at (s := false) (p := 0) (by simp [sgn]) (by omega) (fun e => by simp at e)) len_zero h ⟨#[48]⟩ txt_zero.symm)
  have H1 := hide h1
  have H2 := hide h2
  have HT := hide htab
  have HG := hide hg
  have n1 : (n == 0) = false := beq_eq_false_iff_ne.2 hn
  have n2 : (n != 0) = true := by simp [hn]
  clear h1 h2 htab hg
  go_enter Tryz.func4, Tryz.ntmps4
  go_wp2_with fail
  refine (unhide H1).mono ?_
  rintro e w1 ⟨ev, rfl, hev, hb1⟩
  obtain ⟨W1, hW1⟩ : ∃ W1, W1 = w1.alloc (.cells #[.bool false, .int .u64 0, .int .u64 0, .pointer none] 27) := ⟨_, rfl⟩
  obtain ⟨g1, hg1⟩ : ∃ g1, g1 = w1.heap.size := ⟨_, rfl⟩
  have a1 : But [] w1 W1 := by rw [hW1]; exact (But.refl _ _).alloc _
  have c0 : P4 W1 g1 false 0 0 none := by rw [hW1, hg1]; exact ⟨by simp, by simp, by simp, by simp⟩
  have B1 := hide (hb1.trans' a1)
  have EV := hide (hev.but a1)
  have C0 := hide c0
  have HW1 := hide hW1
  have HG1 := hide hg1
  have R2 := hide (unhide H2 W1 (unhide B1))
  clear hev hb1 a1 c0 hW1 hg1 H1 H2
  unfold zeroF
  go_wp2_with fail
  rw [← unhide HW1]
  refine (unhide R2).mono ?_
  rintro e w2 ⟨zb, rfl, hb2⟩
  obtain ⟨W2, hW2⟩ : ∃ W2, W2 = w2.alloc (.cells #[.int .i64 n, .int .i64 p] 62) := ⟨_, rfl⟩
  obtain ⟨g2, hg2⟩ : ∃ g2, g2 = w2.heap.size := ⟨_, rfl⟩
  have a2 : But [] w2 W2 := by rw [hW2]; exact (But.refl _ _).alloc _
  have k0 : W2.cell? ⟨g2, 0, none⟩ = some (.int .i64 n) := by rw [hW2, hg2]; simp
  have k1 : W2.cell? ⟨g2, 1, none⟩ = some (.int .i64 p) := by rw [hW2, hg2]; simp
  have B2 := hide ((unhide B1).trans' (hb2.trans' a2))
  have EV2 := hide ((unhide EV).but (hb2.trans' a2))
  obtain ⟨d0, d1, d2, d3⟩ := (unhide C0).but (hb2.trans' a2) (by simp)
  have AT := hide (at_any ev n p W2 (unhide EV2) ((unhide B2).cell_some (unhide HG) (by simp)))
  have HW2 := hide hW2
  have HG2 := hide hg2
  have C2 : Hid (P4 W2 g1 false 0 0 none) := ⟨d0, d1, d2, d3⟩
  clear hb2 a2 hW2 hg2 R2 EV C0 d0 d1 d2 d3 k0 k1
  rw [← unhide HG1]
  dsimp only
  go_wp2_with fail
  rw [← unhide HW2]
  refine (unhide AT).mono ?_
  rintro e w3 ⟨rfl, hb3⟩
  dsimp only
  obtain ⟨d0, d1, d2, d3⟩ := (unhide C2).but hb3 (by simp)
  have B3 := hide ((unhide B2).trans' hb3)
  have TX := hide (unhide TZ w3 (TabIs.but (unhide HT) (unhide B3)))
  clear hb3 AT TZ C2
  go_wp2_with fail
  refine (unhide TX).mono ?_
  rintro e w4 ⟨rfl, hb4⟩
  dsimp only
  have B4 := hide ((unhide B3).trans' hb4)
  clear hb4 TX
  go_wp2
  go_ret
  exact ⟨by simp, unhide B4⟩

set_option maxHeartbeats 8000000 in
set_option maxRecDepth 100000 in
theorem parses_fine (t : ByteArray) (w : World) (f : Rat) (lf : LenU f 200) (h1 : Calls Tryz.prog 43 #[.string t] w fun e w' => ∃ v, e = .returned (.tuple #[v, .nilIface]) ∧ FracAt w' v f ∧ But [] w w') (h2 : ∀ W, But [] w W → Calls Tryz.prog 44 #[.string t] W fun e w' => ∃ zb : Nat, e = .returned (.tuple #[.pointer (some ⟨zb, 0, none⟩), .agg #[.int .i64 0, .int .i64 (-1)]]) ∧ RatIs w' zb f ∧ But [] W w') (htab : Lib.TabIs Tryz.prog w "internal/strconv.uint64pow10" .u64 Lib.pow10Tab) :
    Calls Tryz.prog 4 #[.string t] w fun e w' => e = .returned (.bool true) ∧ But [] w w' := by
  have lF : Len f 100 := by
    refine ⟨wd_length_le (by omega) _ 100 ?_, wd_length_le (by omega) _ 100 ?_⟩
    · have h := lt_of_wd_length (B := 4294967296) (by omega) _ 200 lf.1
      rw [show (18446744073709551616 : Nat) = 4294967296 ^ 2 from by decide, ← Nat.pow_mul]; exact h
    · have h := lt_of_wd_length (B := 4294967296) (by omega) _ 200 lf.2
      rw [show (18446744073709551616 : Nat) = 4294967296 ^ 2 from by decide, ← Nat.pow_mul]; exact h
  obtain ⟨tx, htx⟩ : ∃ tx, tx = fracTxt (decide (f.num < 0)) f.num.natAbs f.den := ⟨_, rfl⟩
  have TF := hide (fun W v (h : FracAt W v f) (ht : Lib.TabIs Tryz.prog W "internal/strconv.uint64pow10" .u64 Lib.pow10Tab) => fracText_len v f W h ⟨Nat.le_trans lF.1 (by omega), Nat.le_trans lF.2 (by omega)⟩ ht tx htx)
  have TR := hide (fun W zb (h : RatIs W zb f) => refText_any zb f W h ⟨Nat.le_trans lf.1 (by omega), Nat.le_trans lf.2 (by omega)⟩ tx (Eq.trans htx (txt_same f)))
  have H1 := hide h1
  have H2 := hide h2
  have HT := hide htab
  clear h1 h2 htab htx lF lf
  go_enter Tryz.func4, Tryz.ntmps4
  go_wp2_with fail
  refine (unhide H1).mono ?_
  rintro e w1 ⟨v, rfl, hv, hb1⟩
  obtain ⟨x', y', p', ev, -⟩ := hv.agg
  obtain ⟨s', hs'⟩ : ∃ s', s' = decide (f.num < 0) := ⟨_, rfl⟩
  rw [← hs'] at ev
  subst ev
  obtain ⟨W1, hW1⟩ : ∃ W1, W1 = w1.alloc (.cells #[.bool s', .int .u64 x', .int .u64 y', .pointer p'] 27) := ⟨_, rfl⟩
  obtain ⟨g1, hg1⟩ : ∃ g1, g1 = w1.heap.size := ⟨_, rfl⟩
  have a1 : But [] w1 W1 := by rw [hW1]; exact (But.refl _ _).alloc _
  have c0 : P4 W1 g1 s' x' y' p' := by rw [hW1, hg1]; exact ⟨by simp, by simp, by simp, by simp⟩
  have B1 := hide (hb1.trans' a1)
  have FV := hide (hv.but a1)
  have C0 := hide c0
  have HW1 := hide hW1
  have HG1 := hide hg1
  have R2 := hide (unhide H2 W1 (unhide B1))
  clear hv hb1 a1 c0 hW1 hg1 H1 H2 hs'
  dsimp only
  go_wp2_with fail
  rw [← unhide HW1]
  refine (unhide R2).mono ?_
  rintro e w2 ⟨zb, rfl, hz, hb2⟩
  obtain ⟨W2, hW2⟩ : ∃ W2, W2 = w2.alloc (.cells #[.int .i64 0, .int .i64 (-1)] 62) := ⟨_, rfl⟩
  have a2 : But [] w2 W2 := by rw [hW2]; exact (But.refl _ _).alloc _
  have B2 := hide ((unhide B1).trans' (hb2.trans' a2))
  have FV2 := hide ((unhide FV).but (hb2.trans' a2))
  have RZ := hide (hz.but a2)
  obtain ⟨d0, d1, d2, d3⟩ := (unhide C0).but (hb2.trans' a2) (by simp)
  have lt1 : g1 < w2.heap.size := Nat.lt_of_lt_of_le (lt_of_cell (unhide C0).1) hb2.size
  have HW2 := hide hW2
  rw [hW2] at d0 d1 d2 d3
  have TF1 := hide (unhide TF W2 _ (unhide FV2) (TabIs.but (unhide HT) (unhide B2)))
  clear hb2 a2 hW2 R2 FV C0 hz TF FV2
  rw [← unhide HG1]
  dsimp only
  go_wp2_with fail
  rw [← unhide HW2]
  refine (unhide TF1).mono ?_
  rintro e w3 ⟨rfl, hb3⟩
  dsimp only
  have B3 := hide ((unhide B2).trans' hb3)
  have TR1 := hide (unhide TR w3 zb ((unhide RZ).but hb3))
  clear hb3 TF1 RZ TR
  go_wp2_with fail
  refine (unhide TR1).mono ?_
  rintro e w4 ⟨rfl, hb4⟩
  dsimp only
  have B4 := hide ((unhide B3).trans' hb4)
  clear hb4 TR1
  go_wp2
  go_ret
  exact ⟨by simp, unhide B4⟩

theorem dval_rep : ∀ n, dval (Lib.repeatL [48] n) = 0
  | 0 => rfl
  | n + 1 => by
    rw [Lib.repeatL_add, Lib.repeatL_one, dval_snoc, dval_rep n]; decide
theorem dval_ten (n : Nat) : dval (49 :: Lib.repeatL [48] n) = 10 ^ n := by
  rw [dval_cons, dval_rep, Lib.repeatL_length]
  simp
theorem Fine.but {w w' : World} (h : Fine w) (hb : But [] w w') : Fine w' := ⟨hb.cell_some h.1 (by simp), hb.cell_some h.2 (by simp)⟩

theorem fracParses_any (t : ByteArray) (w : World) (hN : t.data.toList.length ≤ 140737488355328) (htab : Lib.TabIs Tryz.prog w "internal/strconv.uint64pow10" .u64 Lib.pow10Tab) (hg : w.cell? ⟨1, 0, none⟩ = some (.iface 212 (.agg #[.pointer (some ⟨8, 32, none⟩)]))) (hFn : Fine w) :
    Calls Tryz.prog 4 #[.string t] w fun e w' => e = .returned (.bool true) ∧ But [] w w' := by
  have ok := formOf_ok t.data.toList
  have P1 := parse_any t w (by omega)
  have P2 := fun W (hb : But [] w W) => refParse_any t W hN (hFn.but hb)
  cases hF : formOf t.data.toList with
  | bad p =>
    rw [hF] at P1 P2
    refine parses_err t w 3 p (by omega) (P1.mono fun e w' h => ?_) (fun W hb => (P2 W hb).mono fun e w' h => ?_) htab hg
    · obtain ⟨v, ev, e1, ⟨rfl, e3⟩, e4⟩ := h
      exact ⟨ev, e1, e3, e4⟩
    · obtain ⟨zb, h1, h2⟩ := h
      exact ⟨zb, h2, h1⟩
  | good s ds k es pc =>
    rw [hF] at P1 P2 ok
    obtain ⟨dD, dE, l1, -, -, hk⟩ := ok
    obtain ⟨dO, hO⟩ : ∃ dO, dO = if k = 46 then ds ++ es else ds := ⟨_, rfl⟩
    obtain ⟨dU, hU⟩ : ∃ dU, dU = if k = 47 then es else 49 :: Lib.repeatL [48] es.length := ⟨_, rfl⟩
    have P2' : ∀ W, But [] w W → Calls Tryz.prog 44 #[.string t] W fun e w' => FinIs W w' e dO dU s pc := fun W hb => by rw [hO, hU]; exact P2 W hb
    have eO : dO.length = abv ds k es := by
      rw [hO, abv]; split
      · rw [List.length_append]
      · rfl
    have eU : dU.length = udr k es := by
      rw [hU, udr]; split
      · rfl
      · rw [List.length_cons, Lib.repeatL_length]; simp; omega
    have eX : dval dO = numX ds k es := by rw [hO, numX]; split <;> rfl
    have eY : dval dU * (if pc then 100 else 1) = numY k es pc := by
      rw [hU, numY]; congr 1; split
      · rfl
      · exact dval_ten _
    have DO : Digits dO := by
      rw [hO]; split
      · intro d h
        rcases List.mem_append.1 h with h | h
        · exact dD d h
        · exact dE d h
      · exact dD
    have DU : Digits dU := by
      rw [hU]; split
      · exact dE
      · exact digits_ten _
    clear P2
    by_cases hL : 60 < abv ds k es ∨ 60 < udr k es
    · refine parses_err t w 4 (-1) (by omega) (P1.mono fun e w' h => ?_) (fun W hb => (P2' W hb).mono fun e w' h => ?_) htab hg
      · obtain ⟨v, ev, e1, e2, e4⟩ := h
        rcases e2 with ⟨-, rfl, e3⟩ | ⟨h, -⟩ | ⟨h, -⟩
        · exact ⟨ev, e1, e3, e4⟩
        · exact absurd hL h
        · exact absurd hL h
      · rcases h with ⟨-, zb, h1, h2⟩ | ⟨h, -⟩
        · exact ⟨zb, h2, h1⟩
        · rw [eO, eU] at h; exact absurd hL h
    · have hL' : ¬ (60 < dO.length ∨ 60 < dU.length) := by rw [eO, eU]; exact hL
      by_cases hY : numY k es pc = 0
      · have hY' : dval dU = 0 := by
          rw [← eY] at hY
          rcases Nat.mul_eq_zero.1 hY with h | h
          · exact h
          · split at h <;> omega
        refine parses_err t w 11 (-1) (by omega) (P1.mono fun e w' h => ?_) (fun W hb => (P2' W hb).mono fun e w' h => ?_) htab hg
        · obtain ⟨v, ev, e1, e2, e4⟩ := h
          rcases e2 with ⟨h, -⟩ | ⟨-, -, rfl, e3⟩ | ⟨-, h, -⟩
          · exact absurd h hL
          · exact ⟨ev, e1, e3, e4⟩
          · omega
        · rcases h with ⟨h, -⟩ | ⟨-, zb, h1, ⟨-, h2⟩ | ⟨h2, -⟩⟩
          · exact absurd h hL'
          · exact ⟨zb, h2, h1⟩
          · omega
      · obtain ⟨f, hf⟩ := mk_parts (sgn s (numX ds k es)) (numY k es pc) (by omega)
        have hpos : 0 < dval dU := by
          rcases Nat.eq_zero_or_pos (dval dU) with h | h
          · rw [h, Nat.zero_mul] at eY; omega
          · exact h
        have wX : (wd 4294967296 (numX ds k es)).length ≤ 60 := by rw [← eX]; have := dval_len32 DO; omega
        have wY : (wd 4294967296 (numY k es pc)).length ≤ 61 := by
          have h1 := lt_of_wd_length (B := 4294967296) (by omega) (dval dU) 60 (by have := dval_len32 DU; omega)
          rw [← eY]
          refine wd_length_le (B := 4294967296) (by omega) _ 61 ?_
          rw [show (61 : Nat) = 60 + 1 from rfl, Nat.pow_succ]
          have h2 : (if pc = true then 100 else 1) ≤ 4294967296 := by split <;> omega
          have h0 : 0 < (if pc = true then 100 else 1) := by split <;> omega
          exact Nat.lt_of_lt_of_le (Nat.mul_lt_mul_of_pos_right h1 h0) (Nat.mul_le_mul_left _ h2)
        have lf : LenU f 200 := lenU_of f (sgn s (numX ds k es)) (numY k es pc : Nat) 200 (by omega) hf (by
          rw [show (sgn s (numX ds k es)).natAbs = numX ds k es from by unfold sgn; split <;> omega]; omega) (by rw [Int.natAbs_natCast]; omega)
        have uniq : ∀ g : Rat, g.num * ((numY k es pc : Nat) : Int) = sgn s (numX ds k es) * (g.den : Int) → g = f := fun g h => by
          rw [parts_eq g _ _ (by omega) h, parts_eq f _ _ (by omega) hf]
        refine parses_fine t w f lf (P1.mono fun e w' h => ?_) (fun W hb => (P2' W hb).mono fun e w' h => ?_) htab
        · obtain ⟨v, ev, e1, e2, e4⟩ := h
          rcases e2 with ⟨h, -⟩ | ⟨-, h, -⟩ | ⟨-, -, rfl, g, h5, h6⟩
          · exact absurd h hL
          · omega
          · rw [uniq g h5] at h6
            exact ⟨v, e1, h6, e4⟩
        · rcases h with ⟨h, -⟩ | ⟨-, zb, h1, ⟨h2, -⟩ | ⟨-, h2, g, h5, h6⟩⟩
          · exact absurd h hL'
          · omega
          · rw [eY, eX] at h5
            rw [uniq g h5] at h6
            exact ⟨zb, h2, h6, h1⟩
end Go.Proofs.YtihiafgogbhjkaaGreatDoor
