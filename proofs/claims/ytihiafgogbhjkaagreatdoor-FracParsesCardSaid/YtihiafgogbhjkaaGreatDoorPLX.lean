/- Texts of fractions, of both kinds, are the same. -/
import Derived.Deep.CutBlock
import Derived.Deep.DeepCutAuto
import Derived.Test.YtihiafgogbhjkaaGreatDoorPC1
import Derived.Test.YtihiafgogbhjkaaGreatDoorPHN
import Derived.Test.YtihiafgogbhjkaaGreatDoorPHO
import Derived.Test.YtihiafgogbhjkaaGreatDoorPQN
import Derived.Test.YtihiafgogbhjkaaGreatDoorPR2
namespace Go.Proofs.YtihiafgogbhjkaaGreatDoor
open Go.RowKit

theorem nba_ext {a b : ByteArray} (h : a.data.toList = b.data.toList) : a = b := by
  cases a; cases b; simp only [ByteArray.mk.injEq]; exact Array.ext' h
theorem nba_app (a b : ByteArray) : (a ++ b).data.toList = a.data.toList ++ b.data.toList := by simp
theorem txt_same (x : Rat) : fracTxt (decide (x.num < 0)) x.num.natAbs x.den = ratTxt x.num x.den := by
  apply nba_ext
  have e : decI x.num = (if decide (x.num < 0) then [45] else []) ++ Lib.decDigits x.num.natAbs := by
    rw [decI]
    by_cases h : x.num < 0
    · rw [if_pos h, decide_eq_true h]; rfl
    · rw [if_neg h, decide_eq_false h]; rfl
  have e2 : decI (x.den : Int) = Lib.decDigits x.den := by rw [decI, if_neg (by omega), Int.natAbs_natCast]
  generalize decide (x.num < 0) = r at *
  rw [fracTxt, ratTxt, nba_app]
  by_cases hq : x.den = 1
  · rw [if_pos hq, if_pos hq, e]
    cases r <;> simp
  · rw [if_neg hq, if_neg hq, nba_app, nba_app, nba_app, e, e2]
    cases r <;> simp
theorem txt_zero : fracTxt false 0 1 = ⟨#[48]⟩ := by
  rw [fracTxt]
  have : Lib.decDigits 0 = [48] := by rw [Lib.decDigits, dif_pos (by omega)]; rfl
  rw [this]
  apply nba_ext
  rw [nba_app]; rfl

theorem len_zero : Len (0 : Rat) 1000000 := ⟨by show (wd 18446744073709551616 0).length ≤ _; rw [wd_zero]; simp, Nat.le_trans (wd_length_le (B := 18446744073709551616) (by omega) 1 1 (by omega)) (by omega)⟩
end Go.Proofs.YtihiafgogbhjkaaGreatDoor

namespace Go.Proofs.YtihiafgogbhjkaaGreatDoor
open Go.RowKit

/-- a body from a statement on -/
def tailP : Nat → Code → Code
  | 0, c => c
  | n + 1, .seq _ b => tailP n b
  | _ + 1, c => c
noncomputable def parseBody : Code := (Tryz.f44.body).getD .skip
/-- the place of the second answer -/
structure Box2 (w0 w : World) (gf : Nat) : Prop where
  old : w0.heap.size ≤ gf
  c0 : ∃ n : Int, w.cell? ⟨gf, 0, none⟩ = some (.int .i64 n)
  c1 : ∃ n : Int, w.cell? ⟨gf, 1, none⟩ = some (.int .i64 n)
  f0 : w.frozen? ⟨gf, 0, none⟩ = false
  f1 : w.frozen? ⟨gf, 1, none⟩ = false
theorem Box2.but {w0 w w' : World} {gf : Nat} (h : Box2 w0 w gf) (hb : But [] w w') : Box2 w0 w' gf := by
  obtain ⟨n0, h0⟩ := h.c0
  obtain ⟨n1, h1⟩ := h.c1
  exact ⟨h.old, ⟨n0, hb.cell_some h0 (by simp)⟩, ⟨n1, hb.cell_some h1 (by simp)⟩, (hb.frozen (p := ⟨gf, 0, none⟩) (lt_of_cell h0) (by simp)).trans h.f0, (hb.frozen (p := ⟨gf, 1, none⟩) (lt_of_cell h1) (by simp)).trans h.f1⟩
theorem put2_cells (V : World) (gf : Nat) (u0 u1 : Value) (n p : Int) (c0 : V.cell? ⟨gf, 0, none⟩ = some u0) (c1 : V.cell? ⟨gf, 1, none⟩ = some u1) : ((V.setCell ⟨gf, 0, none⟩ (.int .i64 n)).setCell ⟨gf, 1, none⟩ (.int .i64 p)).cell? ⟨gf, 0, none⟩ = some (.int .i64 n) ∧ ((V.setCell ⟨gf, 0, none⟩ (.int .i64 n)).setCell ⟨gf, 1, none⟩ (.int .i64 p)).cell? ⟨gf, 1, none⟩ = some (.int .i64 p) := by
  have h1 : (V.setCell ⟨gf, 0, none⟩ (.int .i64 n)).cell? ⟨gf, 1, none⟩ = some u1 := by
    rw [World.cell?_setCell_other _ _ _ _ (fun h => by have := (Addr.mk.inj h).2.1; omega)]; exact c1
  refine ⟨?_, World.cell?_setCell_same _ _ _ h1⟩
  rw [World.cell?_setCell_other _ _ _ _ (fun h => by have := (Addr.mk.inj h).2.1; omega)]
  exact World.cell?_setCell_same _ _ _ c0
theorem put2_but {w0 V : World} {gf : Nat} (n p : Int) (hb : But [] w0 V) (ho : w0.heap.size ≤ gf) : But [] w0 ((V.setCell ⟨gf, 0, none⟩ (.int .i64 n)).setCell ⟨gf, 1, none⟩ (.int .i64 p)) :=
  (hb.setCell (p := ⟨gf, 0, none⟩) (.inr ho) _).setCell (p := ⟨gf, 1, none⟩) (.inr ho) _
def Fine (w : World) : Prop := w.cell? ⟨0, 0, none⟩ = some (.int .i64 0) ∧ w.cell? ⟨0, 1, none⟩ = some (.int .i64 (-1))
theorem IntAt.over2 {w w' : World} {b o g : Nat} {z n0 : Int} (h : IntAt w b o z) (hb : But [g] w w') (hn : b ≠ g) (hc : w.cell? ⟨g, 0, none⟩ = some (.int .i64 n0)) : IntAt w' b o z := by
  obtain ⟨h0, v, h1, h2⟩ := h
  exact ⟨hb.cell_some h0 (by simpa using hn), v, hb.cell_some h1 (by simpa using hn), h2.over hb hc (fun n e => by simp at e)⟩
theorem RatIs.over2 {w w' : World} {b g : Nat} {f : Rat} {n0 : Int} (h : RatIs w b f) (hb : But [g] w w') (hc : w.cell? ⟨g, 0, none⟩ = some (.int .i64 n0)) : RatIs w' b f := by
  have hn : b ≠ g := fun e => by
    subst e
    have h1 := h.up.1
    rw [hc] at h1
    simp at h1
  exact ⟨h.up.over2 hb hn hc, h.low.over2 hb hn hc, h.sa.but hb (by simpa using hn), h.sb.but hb (by simpa using hn)⟩
theorem lt_of_slot {w : World} {b o : Nat} (h : Slot w b o) : b < w.heap.size := h.lt
theorem parts_eq (f : Rat) (p q : Int) (hq : q ≠ 0) (h : f.num * q = p * (f.den : Int)) : f = ((p : Int) : Rat) / ((q : Int) : Rat) := by
  have hd : ((f.den : Int) : Rat) ≠ 0 := fun e => by
    have h1 := congrArg Rat.num e
    have := f.den_nz
    simp at h1
    omega
  have hq' : ((q : Int) : Rat) ≠ 0 := fun e => by
    have h1 := congrArg Rat.num e
    simp at h1
    omega
  have h2 : ((f.num * q : Int) : Rat) = ((p * (f.den : Int) : Int) : Rat) := by rw [h]
  rw [Rat.intCast_mul, Rat.intCast_mul] at h2
  have h3 : f = ((f.num : Int) : Rat) / ((f.den : Int) : Rat) := (Rat.num_divInt_den f).symm.trans (Rat.divInt_eq_div _ _)
  generalize ((f.den : Int) : Rat) = d at *
  generalize ((f.num : Int) : Rat) = n at *
  generalize ((p : Int) : Rat) = a at *
  generalize ((q : Int) : Rat) = b at *
  rw [h3]
  grind
theorem len100 : LenU ((100 : Int) : Rat) 2000000 := ⟨Nat.le_trans (wd_length_le (B := 4294967296) (by omega) _ 1 (by decide)) (by omega), Nat.le_trans (wd_length_le (B := 4294967296) (by omega) _ 1 (by decide)) (by omega)⟩
/-- what the reference answers of digits above and below the line -/
def ReadIs (w0 w' : World) (e : Ending) (X Y : Nat) (below pc : Bool) : Prop :=
  ∃ zb : Nat, But [] w0 w' ∧ ((Y = 0 ∧ e = .returned (.tuple #[.pointer (some ⟨zb, 0, none⟩), .agg #[.int .i64 11, .int .i64 (-1)]])) ∨ (0 < Y ∧ e = .returned (.tuple #[.pointer (some ⟨zb, 0, none⟩), .agg #[.int .i64 0, .int .i64 (-1)]]) ∧ ∃ f : Rat, f.num * ((Y * (if pc then 100 else 1) : Nat) : Int) = sgn below X * (f.den : Int) ∧ RatIs w' zb f))

set_option maxHeartbeats 32000000 in
set_option maxRecDepth 100000 in
theorem parse_t13 (w0 W : World) (gf : Nat) (tO tU : ByteArray) (dsO dsU : List UInt8) (below pc : Bool) (hO : tO.data.toList = dsO) (hU : tU.data.toList = dsU) (dO : Digits dsO) (dU : Digits dsU) (lO : 0 < dsO.length ∧ dsO.length ≤ 60) (lU : 0 < dsU.length ∧ dsU.length ≤ 60) (HB : Hid (But [] w0 W)) (HX : Hid (Box2 w0 W gf)) (HF : Hid (Fine w0)) (R : Ending → World → Prop) (HR : Hid (∀ e w', ReadIs w0 w' e (dval dsO) (dval dsU) below pc → R e w')) (q0 q1 q2 q4 q6 q9 q11 q12 q13 q14 q15 q16 q17 q18 q19 q20 q21 q22 q23 q24 q25 q26 q27 q28 q29 q30 q31 q32 q33 q34 q35 q36 q37 q38 q39 q40 q41 q42 q43 q44 q45 q46 q47 q48 q49 q50 q51 q52 q53 q54 q55 q56 q57 q58 q59 q60 q61 q62 q63 q64 q65 q66 q67 q68 q69 q70 q71 q72 q73 q74 q75 q76 q77 q78 q79 q80 q81 q82 q83 q84 q85 q86 q87 q88 q89 q90 q91 q92 q93 q94 q95 q96 q97 q98 q99 q100 q101 q102 q103 q104 q105 q106 q107 q108 q109 q110 q111 q112 q113 q114 q115 q116 q117 q118 q119 q120 q121 q122 q123 q124 q125 q126 q127 q128 q129 q130 q131 q132 q133 q134 q135 q136 q137 q138 q139 q140 q141 q142 q143 q144 q145 q146 q147 q148 q149 q150 q151 q152 q153 q154 q155 q156 q157 q158 q159 q160 q161 q162 q163 q164 q165 q166 q167 q168 q169 q170 q171 q172 q173 : Value) :
    Code.wp Tryz.prog (tailP 13 parseBody) (bodyPost Tryz.prog Tryz.f44 R) { tmps := (q0 :: q1 :: q2 :: .pointer (some ⟨gf, 0, none⟩) :: q4 :: .bool below :: q6 :: .string tO :: .string tU :: q9 :: .bool pc :: q11 :: q12 :: q13 :: q14 :: q15 :: q16 :: q17 :: q18 :: q19 :: q20 :: q21 :: q22 :: q23 :: q24 :: q25 :: q26 :: q27 :: q28 :: q29 :: q30 :: q31 :: q32 :: q33 :: q34 :: q35 :: q36 :: q37 :: q38 :: q39 :: q40 :: q41 :: q42 :: q43 :: q44 :: q45 :: q46 :: q47 :: q48 :: q49 :: q50 :: q51 :: q52 :: q53 :: q54 :: q55 :: q56 :: q57 :: q58 :: q59 :: q60 :: q61 :: q62 :: q63 :: q64 :: q65 :: q66 :: q67 :: q68 :: q69 :: q70 :: q71 :: q72 :: q73 :: q74 :: q75 :: q76 :: q77 :: q78 :: q79 :: q80 :: q81 :: q82 :: q83 :: q84 :: q85 :: q86 :: q87 :: q88 :: q89 :: q90 :: q91 :: q92 :: q93 :: q94 :: q95 :: q96 :: q97 :: q98 :: q99 :: q100 :: q101 :: q102 :: q103 :: q104 :: q105 :: q106 :: q107 :: q108 :: q109 :: q110 :: q111 :: q112 :: q113 :: q114 :: q115 :: q116 :: q117 :: q118 :: q119 :: q120 :: q121 :: q122 :: q123 :: q124 :: q125 :: q126 :: q127 :: q128 :: q129 :: q130 :: q131 :: q132 :: q133 :: q134 :: q135 :: q136 :: q137 :: q138 :: q139 :: q140 :: q141 :: q142 :: q143 :: q144 :: q145 :: q146 :: q147 :: q148 :: q149 :: q150 :: q151 :: q152 :: q153 :: q154 :: q155 :: q156 :: q157 :: q158 :: q159 :: q160 :: q161 :: q162 :: q163 :: q164 :: q165 :: q166 :: q167 :: q168 :: q169 :: q170 :: q171 :: q172 :: q173 :: []).toArray, defers := [] } W := by
  conv => arg 2; whnf
  have mixed : Tryz.prog.follows .mixedOrders = true := by kernel_rfl
  have SO := hide (fun b (W : World) (h : Slot W b 0) => setString_any b tO dsO W hO dO lO.1 (by omega) h)
  have SU := hide (fun b (W : World) (h : Slot W b 0) => setString_any b tU dsU W hU dU lU.1 (by omega) h)
  have wX : (wd 4294967296 (dval dsO)).length ≤ 60 := Nat.le_trans (dval_len32 dO) lO.2
  have wY : (wd 4294967296 (dval dsU)).length ≤ 60 := Nat.le_trans (dval_len32 dU) lU.2
  obtain ⟨X, hX⟩ : ∃ X, X = dval dsO := ⟨_, rfl⟩
  obtain ⟨Y, hY⟩ : ∃ Y, Y = dval dsU := ⟨_, rfl⟩
  rw [← hX] at wX SO HR
  rw [← hY] at wY SU HR
  clear hX hY hO hU dO dU lO lU
  have S1 := slot_new W 78
  have A1 := hide ((But.refl [] W).alloc (.cells #[.bool false, .slice none 0 0] 78))
  have SO1 := hide (unhide SO _ _ S1)
  clear S1 SO
  go_wp2_with fail
  refine (unhide SO1).mono ?_
  rintro e w1 ⟨rfl, b1, i1⟩
  dsimp only
  have B1 := hide ((unhide A1).trans b1 (fun x hx => by simp at hx; subst hx; exact .inr (Nat.le_refl _)))
  have I1 := hide i1
  obtain ⟨ga, hga⟩ : ∃ ga, ga = W.heap.size := ⟨_, rfl⟩
  rw [← hga] at I1 ⊢
  have S2 := slot_new w1 78
  have A2 := hide ((But.refl [] w1).alloc (.cells #[.bool false, .slice none 0 0] 78))
  have SU1 := hide (unhide SU _ _ S2)
  clear S2 SU b1 i1 SO1 A1 hga
  go_wp2_with fail
  refine (unhide SU1).mono ?_
  rintro e w2 ⟨rfl, b2, i2⟩
  dsimp only
  have B2' := hide ((unhide A2).trans b2 (fun x hx => by simp at hx; subst hx; exact .inr (Nat.le_refl _)))
  have B2 := hide ((unhide B1).trans' (unhide B2'))
  have I1' := hide ((unhide I1).but (unhide B2'))
  have I2 := hide i2
  obtain ⟨gb, hgb⟩ : ∃ gb, gb = w1.heap.size := ⟨_, rfl⟩
  rw [← hgb] at I2 ⊢
  clear b2 i2 SU1 A2 hgb I1 B2' B1
  have fb := hide (fun (w' : World) (h : But [] w2 w') => ((unhide HX).but ((unhide B2).trans' h)))
  have BW := hide (fun (w' : World) (h : But [] w2 w') => ((unhide HB).trans' ((unhide B2).trans' h)))
  rcases Nat.eq_zero_or_pos Y with hY0 | hY0
  · go_wp2_with fail
    refine (intSign_any gb 0 (Y : Int) w2 (unhide I2) 0 (by show (0 : Int) = _; rw [hY0]; rfl) (by rw [Int.natAbs_natCast]; omega)).mono ?_
    rintro e w3 ⟨rfl, hw3⟩
    obtain rfl := hw3.symm
    dsimp only
    have al := (But.refl [] w2).alloc (.cells #[.bool false, .slice none 0 0, .bool false, .slice none 0 0] 80)
    have X3 := unhide fb _ al
    have B3 := hide (unhide BW _ al)
    obtain ⟨V, hV⟩ : ∃ V, V = w2.alloc (.cells #[.bool false, .slice none 0 0, .bool false, .slice none 0 0] 80) := ⟨_, rfl⟩
    rw [← hV] at X3 B3
    obtain ⟨⟨n0, c0⟩, ⟨n1, c1⟩, f0, f1⟩ : (∃ n : Int, V.cell? ⟨gf, 0, none⟩ = some (.int .i64 n)) ∧ (∃ n : Int, V.cell? ⟨gf, 1, none⟩ = some (.int .i64 n)) ∧ V.frozen? ⟨gf, 0, none⟩ = false ∧ V.frozen? ⟨gf, 1, none⟩ = false := ⟨X3.c0, X3.c1, X3.f0, X3.f1⟩
    have RV := hide (put2_cells V gf _ _ 11 (-1) c0 c1)
    have RB := hide (put2_but 11 (-1) (unhide B3) X3.old)
    rw [hV] at c0 c1 f0 f1 RV RB
    clear al X3 hV fb BW I1' I2
    go_wp2
    obtain ⟨k0, k1⟩ := unhide RV
    refine bodyPost_ret (v := .tuple #[.pointer (some ⟨w2.heap.size, 0, none⟩), .agg #[.int .i64 11, .int .i64 (-1)]]) (by simp [results, Tryz.results44, go_sem, k0, k1]) rfl ?_
    exact unhide HR _ _ ⟨_, unhide RB, .inl ⟨hY0, rfl⟩⟩
  · obtain ⟨f, hf⟩ := mk_parts (X : Int) Y hY0
    obtain ⟨rN, rD⟩ := red_rat (X : Int) (Y : Int) (by omega) f hf
    have lf : LenU f 60 := lenU_of f (X : Int) (Y : Int) 60 (by omega) hf (by rw [Int.natAbs_natCast]; exact wX) (by rw [Int.natAbs_natCast]; exact wY)
    have sY : (1 : Int) = (Y : Int).sign := (Int.sign_eq_one_of_pos (by omega)).symm
    have SG := hide (intSign_any gb 0 (Y : Int) w2 (unhide I2) 1 sY (by rw [Int.natAbs_natCast]; omega))
    have SF := hide (fun zb (W : World) (h0 : Slot W zb 0) (h2 : Slot W zb 2) (hb : But [] w2 W) => setFracU_any zb ga 0 gb 0 (X : Int) (Y : Int) W h0 h2 ((unhide I1').but hb) ((unhide I2).but hb) (by rw [Int.natAbs_natCast]; omega) (by rw [Int.natAbs_natCast]; omega) (by omega) f.num (f.den : Int) rN rD)
    -- the fraction of the text, by the percent sign
    obtain ⟨f1, hf1⟩ := mk_parts (X : Int) (Y * (if pc then 100 else 1)) (by split <;> omega)
    have hpc : if pc = true then f1 * ((100 : Int) : Rat) = f else f1 = f := by
      cases pc
      · simp only [Bool.false_eq_true, if_false, Nat.mul_one] at hf1 ⊢
        rw [parts_eq f (X : Int) (Y : Int) (by omega) hf, parts_eq f1 (X : Int) (Y : Int) (by omega) hf1]
      · simp only [if_true] at hf1 ⊢
        rw [parts_eq f (X : Int) (Y : Int) (by omega) hf, parts_eq f1 (X : Int) ((Y * 100 : Nat) : Int) (by omega) hf1]
        have h1 : ((Y : Int) : Rat) ≠ 0 := fun e => by
          have := congrArg Rat.num e
          simp at this
          omega
        rw [show ((Y * 100 : Nat) : Int) = (Y : Int) * 100 from by omega, Rat.intCast_mul]
        generalize ((X : Int) : Rat) = a at *
        generalize ((Y : Int) : Rat) = b at *
        have h100 : ((100 : Int) : Rat) ≠ 0 := by decide
        generalize ((100 : Int) : Rat) = c at *
        grind
    have HP := hide hpc
    have HF1 := hide hf1
    clear hpc hf1 hf rN rD sY
    go_wp2_with fail
    refine (unhide SG).mono ?_
    rintro e w3 ⟨rfl, hw3⟩
    obtain rfl := hw3.symm
    dsimp only
    clear SG hw3 I1' I2
    have al := (But.refl [] w2).alloc (.cells #[.bool false, .slice none 0 0, .bool false, .slice none 0 0] 80)
    have rs := ratSlots w2 80
    have SF1 := hide (unhide SF _ _ rs.1 rs.2 al)
    have AL := hide al
    clear SF al rs
    go_wp2_with fail
    refine (unhide SF1).mono ?_
    rintro e w3 ⟨rfl, b3, r3⟩
    dsimp only
    have B3 := hide ((unhide AL).trans b3 (fun x hx => by simp at hx; subst hx; exact .inr (Nat.le_refl _)))
    have R3 : Hid (RatIs w3 w2.heap.size f) := r3
    have L3 : Hid (w2.heap.size < w3.heap.size) := lt_of_slot r3.sa
    obtain ⟨zb, hzb⟩ : ∃ zb, zb = w2.heap.size := ⟨_, rfl⟩
    have OL : Hid (w2.heap.size ≤ zb) := by rw [hzb]; exact Nat.le_refl _
    rw [← hzb] at R3 ⊢
    clear b3 r3 SF1 AL hzb
    go_upto_if 164 with fail
    go_cut [15] (fun s15 wx => ∃ zc : Nat, s15 = .pointer (some ⟨zc, 0, none⟩) ∧ Hid (RatIs wx zc f1 ∧ But [] w2 wx ∧ w2.heap.size ≤ zc))
    case first =>
      cases pc
      · go_wp2_with fail
        go_meet
        have h1 := unhide HP
        simp only [Bool.false_eq_true, if_false] at h1
        exact ⟨_, rfl, by rw [h1]; exact unhide R3, unhide B3, unhide OL⟩
      · have h1 := unhide HP
        simp only [if_true] at h1
        have DV := hide (fun yb (W : World) (hx : RatIs W zb f) (hy : RatIs W yb ((100 : Int) : Rat)) => refDivU_any zb yb f ((100 : Int) : Rat) f1 W hx hy ⟨Nat.le_trans lf.1 (by omega), Nat.le_trans lf.2 (by omega)⟩ len100 (by decide) h1)
        clear h1 HP
        go_wp2_with fail
        refine (refInt_any 100 _ (by omega) (by omega)).mono ?_
        rintro e w4 ⟨yb, rfl, b4, r4⟩
        dsimp only
        have R4 : RatIs w4 yb ((100 : Int) : Rat) := r4
        have DV1 := hide (unhide DV yb w4 ((unhide R3).but b4) R4)
        have B4 := hide ((unhide B3).trans' b4)
        clear b4 r4 R4 DV
        go_wp2_with fail
        refine (unhide DV1).mono ?_
        rintro e w5 ⟨zd, rfl, b5, r5, o5⟩
        dsimp only
        have K := hide (And.intro r5 (And.intro ((unhide B4).trans' b5) (Nat.le_trans (unhide B4).size o5)))
        clear b5 r5 o5 DV1
        go_wp2_with fail
        go_meet
        exact ⟨_, rfl, unhide K⟩
    case rest =>
      obtain ⟨zc, rfl, K⟩ := hcut
      rename World => w6
      have lf1 : LenU f1 4000000 := by
        have h := lenU_of f1 (X : Int) ((Y * (if pc then 100 else 1) : Nat) : Int) 100 (by split <;> omega) (unhide HF1) (by rw [Int.natAbs_natCast]; omega) (by
          rw [Int.natAbs_natCast]
          refine Nat.le_trans (wd_length_le (B := 4294967296) (by omega) _ 61 ?_) (by omega)
          have h1 := lt_of_wd_length (B := 4294967296) (by omega) Y 60 wY
          rw [show (61 : Nat) = 60 + 1 from rfl, Nat.pow_succ]
          have h2 : (if pc = true then 100 else 1) ≤ 4294967296 := by split <;> omega
          have h0 : 0 < (if pc = true then 100 else 1) := by split <;> omega
          exact Nat.lt_of_lt_of_le (Nat.mul_lt_mul_of_pos_right h1 h0) (Nat.mul_le_mul_left _ h2))
        exact ⟨Nat.le_trans h.1 (by omega), Nat.le_trans h.2 (by omega)⟩
      obtain ⟨f2, hf2⟩ : ∃ f2 : Rat, f2 = if below then -f1 else f1 := ⟨_, rfl⟩
      have cr : Hid (f2.num * ((Y * (if pc then 100 else 1) : Nat) : Int) = sgn below X * (f2.den : Int)) := by
        show _ = _
        rw [hf2]
        cases below
        · simpa [sgn] using unhide HF1
        · have h1 := unhide HF1
          simp only [if_true, Rat.neg_num, Rat.neg_den, sgn]
          rw [Int.neg_mul, Int.neg_mul, h1]
      have HF2 := hide hf2
      have L1 := hide lf1
      clear hf2 lf1 HP HF1 HX lf
      go_upto_if 168 with fail
      go_cut [] (fun wx => Hid (RatIs wx zc f2 ∧ But [] w2 wx))
      case first =>
        cases below
        · go_wp2_with fail
          go_meet
          have h1 := unhide HF2
          simp only [Bool.false_eq_true, if_false] at h1
          exact ⟨by rw [h1]; exact (unhide K).1, (unhide K).2.1⟩
        · have h1 := unhide HF2
          simp only [if_true] at h1
          have NG := hide (ratNegU_any zc zc f1 f2 w6 (unhide K).1.sa (unhide K).1.sb (unhide K).1 (unhide L1) (by rw [h1, Rat.neg_num]) (by rw [h1, Rat.neg_den]))
          clear h1
          go_wp2_with fail
          refine (unhide NG).mono ?_
          rintro e w7 ⟨rfl, b7, r7⟩
          dsimp only
          have K7 := hide (And.intro r7 ((unhide K).2.1.trans b7 (fun x hx => by simp at hx; subst hx; exact .inr (unhide K).2.2)))
          clear b7 r7 NG
          go_wp2_with fail
          go_meet
          exact unhide K7
      case rest =>
        rename World => w8
        have K8 := hcut
        clear hcut K
        have X8 := unhide fb _ (unhide K8).2
        have B8 := unhide BW _ (unhide K8).2
        obtain ⟨n0, c0⟩ := X8.c0
        obtain ⟨n1, c1⟩ := X8.c1
        have f0 := X8.f0
        have f1 := X8.f1
        have g0 := B8.cell_some (unhide HF).1 (by simp)
        have g1 := B8.cell_some (unhide HF).2 (by simp)
        have RV := hide (put2_cells w8 gf (.int .i64 n0) (.int .i64 n1) 0 (-1) c0 c1)
        have RB := hide (put2_but (w0 := w0) (V := w8) 0 (-1) B8 X8.old)
        have RR : Hid (RatIs ((w8.setCell ⟨gf, 0, none⟩ (.int .i64 0)).setCell ⟨gf, 1, none⟩ (.int .i64 (-1))) zc f2) := (unhide K8).1.over2 (((But.refl [gf] w8).setCell (p := ⟨gf, 0, none⟩) (.inl (by simp)) _).setCell (p := ⟨gf, 1, none⟩) (.inl (by simp)) _) c0
        clear X8 B8 fb BW K8
        go_wp2
        go_region_o
        go_wp2
        obtain ⟨k0, k1⟩ := unhide RV
        refine bodyPost_ret (v := .tuple #[.pointer (some ⟨zc, 0, none⟩), .agg #[.int .i64 0, .int .i64 (-1)]]) (by simp [results, Tryz.results44, go_sem, k0, k1]) rfl ?_
        exact unhide HR _ _ ⟨zc, (unhide RB).drew, .inr ⟨hY0, rfl, f2, unhide cr, RatAt.drew (unhide RR)⟩⟩
end Go.Proofs.YtihiafgogbhjkaaGreatDoor

namespace Go.Proofs.YtihiafgogbhjkaaGreatDoor
open Go.RowKit

def BadIs (w0 w' : World) (e : Ending) (p : Int) : Prop := ∃ zb : Nat, But [] w0 w' ∧ e = .returned (.tuple #[.pointer (some ⟨zb, 0, none⟩), .agg #[.int .i64 3, .int .i64 p]])
def FinIs (w0 w' : World) (e : Ending) (dsO dsU : List UInt8) (below pc : Bool) : Prop :=
  ((60 < dsO.length ∨ 60 < dsU.length) ∧ ∃ zb : Nat, But [] w0 w' ∧ e = .returned (.tuple #[.pointer (some ⟨zb, 0, none⟩), .agg #[.int .i64 4, .int .i64 (-1)]])) ∨ (¬ (60 < dsO.length ∨ 60 < dsU.length) ∧ ReadIs w0 w' e (dval dsO) (dval dsU) below pc)
def EndIs (w0 w' : World) (e : Ending) (dsO dsU : List UInt8) (below : Bool) (i : Nat) : List UInt8 → Prop
  | [] => FinIs w0 w' e dsO dsU below false
  | [c] => if c.toNat = 37 then FinIs w0 w' e dsO dsU below true else BadIs w0 w' e i
  | c :: _ :: _ => if c.toNat = 37 then BadIs w0 w' e ((i : Int) + 1) else BadIs w0 w' e i
set_option maxHeartbeats 32000000 in
set_option maxRecDepth 100000 in
theorem parse_t9 (w0 W : World) (gf : Nat) (t tO tU : ByteArray) (dsO dsU : List UInt8) (below : Bool) (i : Nat) (r : List UInt8) (hr : t.data.toList.drop i = r) (hi : i ≤ t.data.toList.length) (hN : t.data.toList.length < 2305843009213693952) (hO : tO.data.toList = dsO) (hU : tU.data.toList = dsU) (dO : Digits dsO) (dU : Digits dsU) (lO : 0 < dsO.length) (lU : 0 < dsU.length) (HB : Hid (But [] w0 W)) (HX : Hid (Box2 w0 W gf)) (HF : Hid (Fine w0)) (R : Ending → World → Prop) (HR : Hid (∀ e w', EndIs w0 w' e dsO dsU below i r → R e w')) (q1 q2 q6 q9 q10 q11 q12 q13 q14 q15 q16 q17 q18 q19 q20 q21 q22 q23 q24 q25 q26 q27 q28 q29 q30 q31 q32 q33 q34 q35 q36 q37 q38 q39 q40 q41 q42 q43 q44 q45 q46 q47 q48 q49 q50 q51 q52 q53 q54 q55 q56 q57 q58 q59 q60 q61 q62 q63 q64 q65 q66 q67 q68 q69 q70 q71 q72 q73 q74 q75 q76 q77 q78 q79 q80 q81 q82 q83 q84 q85 q86 q87 q88 q89 q90 q91 q92 q93 q94 q95 q96 q97 q98 q99 q100 q101 q102 q103 q104 q105 q106 q107 q108 q109 q110 q111 q112 q113 q114 q115 q116 q117 q118 q119 q120 q121 q122 q123 q124 q125 q126 q127 q128 q129 q130 q131 q132 q133 q134 q135 q136 q137 q138 q139 q140 q141 q142 q143 q144 q145 q146 q147 q148 q149 q150 q151 q152 q153 q154 q155 q156 q157 q158 q159 q160 q161 q162 q163 q164 q165 q166 q167 q168 q169 q170 q171 q172 q173 : Value) :
    Code.wp Tryz.prog (tailP 9 parseBody) (bodyPost Tryz.prog Tryz.f44 R) { tmps := (.string t :: q1 :: q2 :: .pointer (some ⟨gf, 0, none⟩) :: .int .i64 (i : Int) :: .bool below :: q6 :: .string tO :: .string tU :: q9 :: q10 :: q11 :: q12 :: q13 :: q14 :: q15 :: q16 :: q17 :: q18 :: q19 :: q20 :: q21 :: q22 :: q23 :: q24 :: q25 :: q26 :: q27 :: q28 :: q29 :: q30 :: q31 :: q32 :: q33 :: q34 :: q35 :: q36 :: q37 :: q38 :: q39 :: q40 :: q41 :: q42 :: q43 :: q44 :: q45 :: q46 :: q47 :: q48 :: q49 :: q50 :: q51 :: q52 :: q53 :: q54 :: q55 :: q56 :: q57 :: q58 :: q59 :: q60 :: q61 :: q62 :: q63 :: q64 :: q65 :: q66 :: q67 :: q68 :: q69 :: q70 :: q71 :: q72 :: q73 :: q74 :: q75 :: q76 :: q77 :: q78 :: q79 :: q80 :: q81 :: q82 :: q83 :: q84 :: q85 :: q86 :: q87 :: q88 :: q89 :: q90 :: q91 :: q92 :: q93 :: q94 :: q95 :: q96 :: q97 :: q98 :: q99 :: q100 :: q101 :: q102 :: q103 :: q104 :: q105 :: q106 :: q107 :: q108 :: q109 :: q110 :: q111 :: q112 :: q113 :: q114 :: q115 :: q116 :: q117 :: q118 :: q119 :: q120 :: q121 :: q122 :: q123 :: q124 :: q125 :: q126 :: q127 :: q128 :: q129 :: q130 :: q131 :: q132 :: q133 :: q134 :: q135 :: q136 :: q137 :: q138 :: q139 :: q140 :: q141 :: q142 :: q143 :: q144 :: q145 :: q146 :: q147 :: q148 :: q149 :: q150 :: q151 :: q152 :: q153 :: q154 :: q155 :: q156 :: q157 :: q158 :: q159 :: q160 :: q161 :: q162 :: q163 :: q164 :: q165 :: q166 :: q167 :: q168 :: q169 :: q170 :: q171 :: q172 :: q173 :: []).toArray, defers := [] } W := by
  conv => arg 2; whnf
  have zt : t.size = t.data.toList.length := by simp
  have zO : tO.size = dsO.length := by rw [← hO]; simp
  have zU : tU.size = dsU.length := by rw [← hU]; simp
  have zr : r.length = t.size - i := by rw [← hr, List.length_drop, zt]
  have HO := hide hO
  have HU := hide hU
  have DO := hide dO
  have DU := hide dU
  have ZO : Hid (tO.size = dsO.length) := zO
  have ZU : Hid (tU.size = dsU.length) := zU
  match r with
  | [] =>
    have hlt : ¬ (i : Int) < (t.size : Int) := by simp at zr; omega
    have hl2 : decide ((i : Int) < (t.size : Int)) = false := decide_eq_false hlt
    have oO1 : tO.size ≤ dsO.length := by omega
    have oO2 : dsO.length ≤ tO.size := by omega
    have oU1 : tU.size ≤ dsU.length := by omega
    have oU2 : dsU.length ≤ tU.size := by omega
    clear hO hU dO dU zO zU zr zt hr hi hN
    by_cases g1 : 60 < dsO.length
    · have s1 : (60 : Int) < (tO.size : Int) := by omega
      have s2 : decide ((60 : Int) < (tO.size : Int)) = true := decide_eq_true s1
      have al := (But.refl [] W).alloc (.cells #[.bool false, .slice none 0 0, .bool false, .slice none 0 0] 80)
      have X3 := (unhide HX).but al
      obtain ⟨n0, c0⟩ := X3.c0
      obtain ⟨n1, c1⟩ := X3.c1
      have f0 := X3.f0
      have f1 := X3.f1
      have RV := hide (put2_cells _ gf _ _ 4 (-1) c0 c1)
      have RB := hide (put2_but 4 (-1) ((unhide HB).trans' al) X3.old)
      clear al X3
      go_wp2
      obtain ⟨k0, k1⟩ := unhide RV
      refine bodyPost_ret (v := .tuple #[.pointer (some ⟨W.heap.size, 0, none⟩), .agg #[.int .i64 4, .int .i64 (-1)]]) (by simp [results, Tryz.results44, go_sem, k0, k1]) rfl ?_
      exact unhide HR _ _ (.inl ⟨.inl g1, _, unhide RB, rfl⟩)
    · have s1 : ¬ (60 : Int) < (tO.size : Int) := by omega
      have s2 : decide ((60 : Int) < (tO.size : Int)) = false := decide_eq_false s1
      by_cases g2 : 60 < dsU.length
      · have s3 : (60 : Int) < (tU.size : Int) := by omega
        have s4 : decide ((60 : Int) < (tU.size : Int)) = true := decide_eq_true s3
        have al := (But.refl [] W).alloc (.cells #[.bool false, .slice none 0 0, .bool false, .slice none 0 0] 80)
        have X3 := (unhide HX).but al
        obtain ⟨n0, c0⟩ := X3.c0
        obtain ⟨n1, c1⟩ := X3.c1
        have f0 := X3.f0
        have f1 := X3.f1
        have RV := hide (put2_cells _ gf _ _ 4 (-1) c0 c1)
        have RB := hide (put2_but 4 (-1) ((unhide HB).trans' al) X3.old)
        clear al X3
        go_wp2
        obtain ⟨k0, k1⟩ := unhide RV
        refine bodyPost_ret (v := .tuple #[.pointer (some ⟨W.heap.size, 0, none⟩), .agg #[.int .i64 4, .int .i64 (-1)]]) (by simp [results, Tryz.results44, go_sem, k0, k1]) rfl ?_
        exact unhide HR _ _ (.inl ⟨.inr g2, _, unhide RB, rfl⟩)
      · have s3 : ¬ (60 : Int) < (tU.size : Int) := by omega
        have s4 : decide ((60 : Int) < (tU.size : Int)) = false := decide_eq_false s3
        go_upto_if 140 with fail
        go_cut [] (fun wx => wx = W)
        case first =>
          go_wp2_with fail
          go_meet
          rfl
        case rest =>
          obtain rfl := hcut
          rename ∀ a w, Code.wp _ _ _ a w → _ => hK
          refine hK _ _ ?_
          exact parse_t13 w0 _ gf tO tU dsO dsU below false (unhide HO) (unhide HU) (unhide DO) (unhide DU) ⟨lO, by omega⟩ ⟨lU, by omega⟩ HB HX HF R (fun e w' h => unhide HR e w' (.inr ⟨fun h => h.elim g1 g2, h⟩)) _ _ _ _ _ _ _ _ _ _ _ _ _ _ _ _ _ _ _ _ _ _ _ _ _ _ _ _ _ _ _ _ _ _ _ _ _ _ _ _ _ _ _ _ _ _ _ _ _ _ _ _ _ _ _ _ _ _ _ _ _ _ _ _ _ _ _ _ _ _ _ _ _ _ _ _ _ _ _ _ _ _ _ _ _ _ _ _ _ _ _ _ _ _ _ _ _ _ _ _ _ _ _ _ _ _ _ _ _ _ _ _ _ _ _ _ _ _ _ _ _ _ _ _ _ _ _ _ _ _ _ _ _ _ _ _ _ _ _ _ _ _ _ _ _ _ _ _ _ _ _ _ _ _ _ _ _ _ _ _ _ _ _ _ _ _ _ _ _
  | c :: r' =>
    have hlt : (i : Int) < (t.size : Int) := by simp at zr; omega
    have hl2 : decide ((i : Int) < (t.size : Int)) = true := decide_eq_true hlt
    have hb := fun W => byte_at (t := t) rfl i (by omega) 9 Tryz.underlying9 W
    rw [show t.data.toList[i]?.getD 0 = c from by
      have h1 : (t.data.toList.drop i)[0]? = some c := by rw [hr]; rfl
      rw [List.getElem?_drop, Nat.add_zero] at h1
      rw [h1]; rfl] at hb
    have i0 : (0 : Int) ≤ (i : Int) := by omega
    have hw : IntKind.i64.wrap ((i : Int) + 1) = (i : Int) + 1 := by rw [IntKind.wrap_i64]; omega
    have oO1 : tO.size ≤ dsO.length := by omega
    have oO2 : dsO.length ≤ tO.size := by omega
    have oU1 : tU.size ≤ dsU.length := by omega
    have oU2 : dsU.length ≤ tU.size := by omega
    obtain ⟨d, hd⟩ : ∃ d, d = c.toNat := ⟨_, rfl⟩
    rw [← hd] at hb
    by_cases h37 : d = 37
    · match r' with
      | [] =>
        have hnl : ¬ (i : Int) + 1 < (t.size : Int) := by simp at zr; omega
        have hnl2 : decide ((i : Int) + 1 < (t.size : Int)) = false := decide_eq_false hnl
        have HR' : Hid (∀ e w', FinIs w0 w' e dsO dsU below true → R e w') := fun e w' h => unhide HR e w' (by show (if c.toNat = 37 then _ else _); rw [← hd, if_pos h37]; exact h)
        clear HR
        have HR := HR'
        have hc : ((d : Int) == 37) = true := by rw [h37]; rfl
        have hd1 : d ≤ 37 := by omega
        clear hO hU dO dU zO zU zr zt hr hi hN h37 hd HR'
        by_cases g1 : 60 < dsO.length
        · have s1 : (60 : Int) < (tO.size : Int) := by omega
          have s2 : decide ((60 : Int) < (tO.size : Int)) = true := decide_eq_true s1
          have al := (But.refl [] W).alloc (.cells #[.bool false, .slice none 0 0, .bool false, .slice none 0 0] 80)
          have X3 := (unhide HX).but al
          obtain ⟨n0, c0⟩ := X3.c0
          obtain ⟨n1, c1⟩ := X3.c1
          have f0 := X3.f0
          have f1 := X3.f1
          have RV := hide (put2_cells _ gf _ _ 4 (-1) c0 c1)
          have RB := hide (put2_but 4 (-1) ((unhide HB).trans' al) X3.old)
          clear al X3
          go_wp2
          obtain ⟨k0, k1⟩ := unhide RV
          refine bodyPost_ret (v := .tuple #[.pointer (some ⟨W.heap.size, 0, none⟩), .agg #[.int .i64 4, .int .i64 (-1)]]) (by simp [results, Tryz.results44, go_sem, k0, k1]) rfl ?_
          exact unhide HR _ _ (.inl ⟨.inl g1, _, unhide RB, rfl⟩)
        · have s1 : ¬ (60 : Int) < (tO.size : Int) := by omega
          have s2 : decide ((60 : Int) < (tO.size : Int)) = false := decide_eq_false s1
          by_cases g2 : 60 < dsU.length
          · have s3 : (60 : Int) < (tU.size : Int) := by omega
            have s4 : decide ((60 : Int) < (tU.size : Int)) = true := decide_eq_true s3
            have al := (But.refl [] W).alloc (.cells #[.bool false, .slice none 0 0, .bool false, .slice none 0 0] 80)
            have X3 := (unhide HX).but al
            obtain ⟨n0, c0⟩ := X3.c0
            obtain ⟨n1, c1⟩ := X3.c1
            have f0 := X3.f0
            have f1 := X3.f1
            have RV := hide (put2_cells _ gf _ _ 4 (-1) c0 c1)
            have RB := hide (put2_but 4 (-1) ((unhide HB).trans' al) X3.old)
            clear al X3
            go_wp2
            obtain ⟨k0, k1⟩ := unhide RV
            refine bodyPost_ret (v := .tuple #[.pointer (some ⟨W.heap.size, 0, none⟩), .agg #[.int .i64 4, .int .i64 (-1)]]) (by simp [results, Tryz.results44, go_sem, k0, k1]) rfl ?_
            exact unhide HR _ _ (.inl ⟨.inr g2, _, unhide RB, rfl⟩)
          · have s3 : ¬ (60 : Int) < (tU.size : Int) := by omega
            have s4 : decide ((60 : Int) < (tU.size : Int)) = false := decide_eq_false s3
            go_upto_if 140 with fail
            go_cut [] (fun wx => wx = W)
            case first =>
              go_wp2_with fail
              go_meet
              rfl
            case rest =>
              obtain rfl := hcut
              rename ∀ a w, Code.wp _ _ _ a w → _ => hK
              refine hK _ _ ?_
              exact parse_t13 w0 _ gf tO tU dsO dsU below true (unhide HO) (unhide HU) (unhide DO) (unhide DU) ⟨lO, by omega⟩ ⟨lU, by omega⟩ HB HX HF R (fun e w' h => unhide HR e w' (.inr ⟨fun h => h.elim g1 g2, h⟩)) _ _ _ _ _ _ _ _ _ _ _ _ _ _ _ _ _ _ _ _ _ _ _ _ _ _ _ _ _ _ _ _ _ _ _ _ _ _ _ _ _ _ _ _ _ _ _ _ _ _ _ _ _ _ _ _ _ _ _ _ _ _ _ _ _ _ _ _ _ _ _ _ _ _ _ _ _ _ _ _ _ _ _ _ _ _ _ _ _ _ _ _ _ _ _ _ _ _ _ _ _ _ _ _ _ _ _ _ _ _ _ _ _ _ _ _ _ _ _ _ _ _ _ _ _ _ _ _ _ _ _ _ _ _ _ _ _ _ _ _ _ _ _ _ _ _ _ _ _ _ _ _ _ _ _ _ _ _ _ _ _ _ _ _ _ _ _ _ _
      | c' :: r'' =>
        have hnl : (i : Int) + 1 < (t.size : Int) := by simp at zr; omega
        have hnl2 : decide ((i : Int) + 1 < (t.size : Int)) = true := decide_eq_true hnl
        have HR' : Hid (∀ e w', BadIs w0 w' e ((i : Int) + 1) → R e w') := fun e w' h => unhide HR e w' (by show (if c.toNat = 37 then _ else _); rw [← hd, if_pos h37]; exact h)
        clear HR
        have HR := HR'
        have hc : ((d : Int) == 37) = true := by rw [h37]; rfl
        clear hO hU dO dU zO zU zr zt hr hi hN h37 hd HR'
        have al := (But.refl [] W).alloc (.cells #[.bool false, .slice none 0 0, .bool false, .slice none 0 0] 80)
        have X3 := (unhide HX).but al
        obtain ⟨n0, c0⟩ := X3.c0
        obtain ⟨n1, c1⟩ := X3.c1
        have f0 := X3.f0
        have f1 := X3.f1
        have RV := hide (put2_cells _ gf _ _ 3 ((i : Int) + 1) c0 c1)
        have RB := hide (put2_but 3 ((i : Int) + 1) ((unhide HB).trans' al) X3.old)
        clear al X3
        go_wp2
        obtain ⟨k0, k1⟩ := unhide RV
        refine bodyPost_ret (v := .tuple #[.pointer (some ⟨W.heap.size, 0, none⟩), .agg #[.int .i64 3, .int .i64 ((i : Int) + 1)]]) (by simp [results, Tryz.results44, go_sem, k0, k1]) rfl ?_
        exact unhide HR _ _ (⟨_, unhide RB, rfl⟩)
    · have HR' : Hid (∀ e w', BadIs w0 w' e i → R e w') := fun e w' h => unhide HR e w' (by
        match r' with
        | [] => show (if c.toNat = 37 then _ else _); rw [← hd, if_neg h37]; exact h
        | _ :: _ => show (if c.toNat = 37 then _ else _); rw [← hd, if_neg h37]; exact h)
      clear HR
      have HR := HR'
      have hc : ((d : Int) == 37) = false := beq_eq_false_iff_ne.2 (by omega)
      clear hO hU dO dU zO zU zr zt hr hi hN h37 hd HR'
      have al := (But.refl [] W).alloc (.cells #[.bool false, .slice none 0 0, .bool false, .slice none 0 0] 80)
      have X3 := (unhide HX).but al
      obtain ⟨n0, c0⟩ := X3.c0
      obtain ⟨n1, c1⟩ := X3.c1
      have f0 := X3.f0
      have f1 := X3.f1
      have RV := hide (put2_cells _ gf _ _ 3 (i : Int) c0 c1)
      have RB := hide (put2_but 3 (i : Int) ((unhide HB).trans' al) X3.old)
      clear al X3
      go_wp2
      obtain ⟨k0, k1⟩ := unhide RV
      refine bodyPost_ret (v := .tuple #[.pointer (some ⟨W.heap.size, 0, none⟩), .agg #[.int .i64 3, .int .i64 (i : Int)]]) (by simp [results, Tryz.results44, go_sem, k0, k1]) rfl ?_
      exact unhide HR _ _ (⟨_, unhide RB, rfl⟩)
end Go.Proofs.YtihiafgogbhjkaaGreatDoor
