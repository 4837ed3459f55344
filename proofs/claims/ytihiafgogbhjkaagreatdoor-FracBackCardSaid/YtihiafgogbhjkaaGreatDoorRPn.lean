/- The nearest whole number is whole (plain). -/
import Derived.Test.YtihiafgogbhjkaaGreatDoorRQ4
import Derived.Test.YtihiafgogbhjkaaGreatDoorRQ5
namespace Go.Proofs.YtihiafgogbhjkaaGreatDoor
open Go.RowKit

/-- the nearest whole number is whole -/
def nearZ (f : Rat) : Int := if up f then fl f + 1 else fl f
theorem near_whole (f : Rat) : nearR f = ((nearZ f : Int) : Rat) := by
  unfold nearR nearZ
  by_cases h : up f = true
  · rw [if_pos h, if_pos h, Rat.intCast_add]
  · rw [if_neg h, if_neg h]
end Go.Proofs.YtihiafgogbhjkaaGreatDoor

namespace Go.Proofs.YtihiafgogbhjkaaGreatDoor
open Go.RowKit

set_option maxHeartbeats 8000000 in
set_option maxRecDepth 100000 in
theorem parse_gen (t : ByteArray) (s : Bool) (k n1 n2 : Int) (P : ByteArray → ByteArray → Prop) (h1 : n1 ≤ 60) (h2 : n2 ≤ 60) (X Y : Nat) (hY : 0 < Y) (lx : (wd 18446744073709551616 X).length ≤ 1000000) (ly : (wd 18446744073709551616 Y).length ≤ 1000000) (f : Rat) (hf : f.num * (Y : Int) = sgn s X * (f.den : Int)) (w : World)
    (CU : Hid (∀ W, Calls Tryz.prog 98 #[.string t] W fun e w' => ∃ tw tb, e = .returned (.tuple #[.agg #[.bool s, .string tw, .int .u8 k, .string tb, .bool false], .int .i64 (-1)]) ∧ P tw tb ∧ But [] W w'))
    (AB : Hid (∀ tw tb, P tw tb → ∀ W, Calls Tryz.prog 99 #[.agg #[.bool s, .string tw, .int .u8 k, .string tb, .bool false]] W fun e w' => e = .returned (.int .i64 n1) ∧ But [] W w'))
    (UN : Hid (∀ tw tb, P tw tb → ∀ W, Calls Tryz.prog 100 #[.agg #[.bool s, .string tw, .int .u8 k, .string tb, .bool false]] W fun e w' => e = .returned (.int .i64 n2) ∧ But [] W w'))
    (NU : Hid (∀ tw tb, P tw tb → ∀ W, Calls Tryz.prog 101 #[.agg #[.bool s, .string tw, .int .u8 k, .string tb, .bool false]] W fun e w' => ∃ v1 v2, e = .returned (.tuple #[v1, v2]) ∧ Sl .u64 w' v1 (wd 18446744073709551616 X) ∧ Sl .u64 w' v2 (wd 18446744073709551616 Y) ∧ But [] W w')) :
    Calls Tryz.prog 43 #[.string t] w fun e w' => ∃ v, e = .returned (.tuple #[v, .nilIface]) ∧ FracAt w' v f ∧ But [] w w' := by
  have hyl : 0 < (wd 18446744073709551616 Y).length := by rw [Nat.pos_iff_ne_zero]; intro e; rw [wd_len_zero (by omega)] at e; omega
  have ON := hide (fun (W : World) (v1 v2 : Value) (a : Sl .u64 W v1 (wd 18446744073709551616 X)) (b : Sl .u64 W v2 (wd 18446744073709551616 Y)) => ofNumbers_any s v1 v2 X Y W a b hY lx ly f hf)
  have d1 : decide (60 < n1) = false := decide_eq_false (by omega)
  have d2 : decide (60 < n2) = false := decide_eq_false (by omega)
  obtain ⟨W, hW⟩ : ∃ W, W = w.alloc (.cells #[.bool false, .int .u64 0, .int .u64 0, .pointer none] 27) := ⟨_, rfl⟩
  have r0 : W.cell? ⟨w.heap.size, 0, none⟩ = some (.bool false) := by rw [hW]; simp
  have r1 : W.cell? ⟨w.heap.size, 1, none⟩ = some (.int .u64 0) := by rw [hW]; simp
  have r2 : W.cell? ⟨w.heap.size, 2, none⟩ = some (.int .u64 0) := by rw [hW]; simp
  have r3 : W.cell? ⟨w.heap.size, 3, none⟩ = some (.pointer none) := by rw [hW]; simp
  have fz : ∀ j, W.frozen? ⟨w.heap.size, j, none⟩ = false := fun j => by rw [hW]; simp
  have BL : Hid (Blank W w.heap.size) := ⟨r0, r1, r2, r3, fun j hj => by rw [hW, World.cell?_alloc_new]; simp; omega⟩
  have HB : Hid (But [] w W) := by show But _ _ _; rw [hW]; exact (But.refl _ _).alloc _
  have HW := hide hW
  clear hW hf lx ly hY
  go_enter Tryz.func43, Tryz.ntmps43
  go_wp2_with fail
  rw [← unhide HW]
  obtain ⟨gr, hgr⟩ : ∃ gr, gr = w.heap.size := ⟨_, rfl⟩
  rw [← hgr] at r0 r1 r2 r3 fz BL
  rw [← hgr]
  have HGR : Hid (w.heap.size ≤ gr) := by show _ ≤ _; omega
  clear hgr HW
  have grl : gr < W.heap.size := lt_of_cell r0
  refine (unhide CU _).mono ?_
  rintro e w1 ⟨tw, tb, rfl, hP, hb1⟩
  have AB' := hide (unhide AB tw tb hP)
  have UN' := hide (unhide UN tw tb hP)
  have NU' := hide (unhide NU tw tb hP)
  have KW := hide hb1
  clear AB UN NU CU hP hb1
  go_wp2_with fail
  obtain ⟨W1, hW1⟩ : ∃ W1, W1 = w1.alloc (.cells #[.bool s, .string tw, .int .u8 k, .string tb, .bool false] 116) := ⟨_, rfl⟩
  have c0 : W1.cell? ⟨w1.heap.size, 0, none⟩ = some (.bool s) := by rw [hW1]; simp
  have c1 : W1.cell? ⟨w1.heap.size, 1, none⟩ = some (.string tw) := by rw [hW1]; simp
  have c2 : W1.cell? ⟨w1.heap.size, 2, none⟩ = some (.int .u8 k) := by rw [hW1]; simp
  have c3 : W1.cell? ⟨w1.heap.size, 3, none⟩ = some (.string tb) := by rw [hW1]; simp
  have c4 : W1.cell? ⟨w1.heap.size, 4, none⟩ = some (.bool false) := by rw [hW1]; simp
  have KW1 : Hid (But [] W W1) := by show But _ _ _; rw [hW1]; exact (unhide KW).alloc _
  rw [← hW1]
  clear hW1 KW
  generalize w1.heap.size = gw at *
  refine (unhide AB' _).mono ?_
  rintro e w2 ⟨rfl, hb⟩
  replace c0 := hb.cell_some c0 (by simp)
  replace c1 := hb.cell_some c1 (by simp)
  replace c2 := hb.cell_some c2 (by simp)
  replace c3 := hb.cell_some c3 (by simp)
  replace c4 := hb.cell_some c4 (by simp)
  replace KW1 : Hid (But [] W w2) := (unhide KW1).trans' hb
  clear hb
  go_wp2_with fail
  refine (unhide UN' _).mono ?_
  rintro e w3 ⟨rfl, hb⟩
  replace c0 := hb.cell_some c0 (by simp)
  replace c1 := hb.cell_some c1 (by simp)
  replace c2 := hb.cell_some c2 (by simp)
  replace c3 := hb.cell_some c3 (by simp)
  replace c4 := hb.cell_some c4 (by simp)
  replace KW1 : Hid (But [] W w3) := (unhide KW1).trans' hb
  clear hb
  go_wp2_with fail
  refine (unhide NU' _).mono ?_
  rintro e w4 ⟨v1, v2, rfl, hv1, hv2, hb⟩
  replace c0 := hb.cell_some c0 (by simp)
  replace c1 := hb.cell_some c1 (by simp)
  replace c2 := hb.cell_some c2 (by simp)
  replace c3 := hb.cell_some c3 (by simp)
  replace c4 := hb.cell_some c4 (by simp)
  replace KW1 : Hid (But [] W w4) := (unhide KW1).trans' hb
  have H1 := hide hv1
  have H2 := hide hv2
  obtain ⟨a2, e2, rfl, -, -⟩ := hv2
  clear hv1
  clear hb
  generalize (wd 18446744073709551616 Y).length = ny at *
  have n0 : ((ny : Int) == 0) = false := beq_eq_false_iff_ne.2 (by omega)
  go_wp2_with fail
  refine (unhide ON _ v1 _ (unhide H1) (unhide H2)).mono ?_
  rintro e w5 ⟨vr, rfl, hvr, hb⟩
  have K5 : But [] W w5 := (unhide KW1).trans' hb
  have B5 : Hid (But [] w w5) := (unhide HB).trans' K5
  have HVR := hide hvr
  obtain ⟨x8, y8, p8, rfl, -⟩ := hvr.agg
  generalize decide (f.num < 0) = r8 at *
  have u0 := K5.cell_some r0 (by simp)
  have u1 := K5.cell_some r1 (by simp)
  have u2 := K5.cell_some r2 (by simp)
  have u3 := K5.cell_some r3 (by simp)
  have uf : ∀ j, w5.frozen? ⟨gr, j, none⟩ = false := fun j => (K5.frozen (p := ⟨gr, j, none⟩) grl (by simp)).trans (fz j)
  have BL5 : Hid (Blank w5 gr) := (unhide BL).but K5
  clear hvr hb K5 r0 r1 r2 r3 fz grl c0 c1 c2 c3 c4
  go_wp2
  have hBg : But [gr] w5 ((((w5.setCell ⟨gr, 0, none⟩ (.bool r8)).setCell ⟨gr, 1, none⟩ (.int .u64 x8)).setCell ⟨gr, 2, none⟩ (.int .u64 y8)).setCell ⟨gr, 3, none⟩ (.pointer p8)) := (((((But.refl [gr] w5).setCell (.inl (by simp)) _).setCell (.inl (by simp)) _).setCell (.inl (by simp)) _).setCell (.inl (by simp)) _)
  have hBf := ((((unhide B5).setCell (p := ⟨gr, 0, none⟩) (.inr (unhide HGR)) (.bool r8)).setCell (p := ⟨gr, 1, none⟩) (.inr (unhide HGR)) (.int .u64 x8)).setCell (p := ⟨gr, 2, none⟩) (.inr (unhide HGR)) (.int .u64 y8)).setCell (p := ⟨gr, 3, none⟩) (.inr (unhide HGR)) (.pointer p8)
  exact bodyPost_ret (v := .tuple #[.agg #[.bool r8, .int .u64 x8, .int .u64 y8, .pointer p8], .nilIface]) (by simp [results, Tryz.results43, go_sem, u0, u1, u2, u3]) rfl ⟨_, rfl, (unhide BL5).frac (unhide HVR) hBg, hBf⟩

theorem dval_words {ds : List UInt8} (hd : Digits ds) (hl : ds.length ≤ 1000000) : (wd 18446744073709551616 (dval ds)).length ≤ 1000000 :=
  Nat.le_trans (wd_length_le (B := 18446744073709551616) (by omega) _ ds.length (Nat.lt_of_lt_of_le (dval_lt hd) (Nat.pow_le_pow_left (by omega) _))) hl
theorem size_list {t : ByteArray} {ds : List UInt8} (h : t.data.toList = ds) : t.size = ds.length := by rw [← h]; simp
/-- a sign's byte -/
def sg (s : Bool) : List UInt8 := if s then [45] else []

/-- a whole number's text -/
theorem parse_whole (t : ByteArray) (s : Bool) (ds : List UInt8) (w : World) (ht : t.data.toList = sg s ++ ds) (hd : Digits ds) (h0 : 0 < ds.length) (hl : ds.length ≤ 60) (f : Rat) (hf : f.num = sgn s (dval ds) * (f.den : Int)) :
    Calls Tryz.prog 43 #[.string t] w fun e w' => ∃ v, e = .returned (.tuple #[v, .nilIface]) ∧ FracAt w' v f ∧ But [] w w' := by
  refine parse_gen t s 0 (ds.length : Int) 1 (fun tw tb => tw.data.toList = ds ∧ tb = ⟨#[]⟩) (by omega) (by omega) (dval ds) 1 (by omega) (dval_words hd (by omega)) (Nat.le_trans (wd_length_le (by omega) _ 1 (by omega)) (by omega)) f (by simpa using hf) w ?_ ?_ ?_ ?_
  · intro W
    cases s
    · refine (cut_whole t ds W ht hd h0 (by omega)).mono ?_
      rintro e w' ⟨tw, rfl, h1, h2⟩
      exact ⟨tw, ⟨#[]⟩, rfl, ⟨h1, rfl⟩, h2⟩
    · refine (cut_neg_whole t ds W ht hd h0 (by omega)).mono ?_
      rintro e w' ⟨tw, rfl, h1, h2⟩
      exact ⟨tw, ⟨#[]⟩, rfl, ⟨h1, rfl⟩, h2⟩
  · rintro tw tb ⟨h1, rfl⟩ W
    have h := aboveDigits_0 s tw ⟨#[]⟩ W (by rw [size_list h1]; omega) (by decide)
    rw [size_list h1] at h
    exact h
  · rintro tw tb ⟨h1, rfl⟩ W
    exact underDigits_0 s tw ⟨#[]⟩ W (by rw [size_list h1]; omega) (by decide)
  · rintro tw tb ⟨h1, rfl⟩ W
    exact numbers_0 s tw ds W h1 hd (by omega)

/-- a fraction's text, with a line -/
theorem parse_line (t : ByteArray) (s : Bool) (ds es : List UInt8) (w : World) (ht : t.data.toList = sg s ++ ds ++ (47 :: es)) (hd : Digits ds) (h0 : 0 < ds.length) (hl : ds.length ≤ 60) (hde : Digits es) (he0 : 0 < es.length) (hel : es.length ≤ 60) (hpos : 0 < dval es) (f : Rat) (hf : f.num * (dval es : Int) = sgn s (dval ds) * (f.den : Int)) :
    Calls Tryz.prog 43 #[.string t] w fun e w' => ∃ v, e = .returned (.tuple #[v, .nilIface]) ∧ FracAt w' v f ∧ But [] w w' := by
  refine parse_gen t s 47 (ds.length : Int) (es.length : Int) (fun tw tb => tw.data.toList = ds ∧ tb.data.toList = es) (by omega) (by omega) (dval ds) (dval es) hpos (dval_words hd (by omega)) (dval_words hde (by omega)) f hf w ?_ ?_ ?_ ?_
  · intro W
    cases s
    · refine (cut_line t ds es W ht hd h0 (by omega) hde he0 (by omega)).mono ?_
      rintro e w' ⟨tw, tb, rfl, h1, h2, h3⟩
      exact ⟨tw, tb, rfl, ⟨h1, h2⟩, h3⟩
    · refine (cut_neg_line t ds es W ht hd h0 (by omega) hde he0 (by omega)).mono ?_
      rintro e w' ⟨tw, tb, rfl, h1, h2, h3⟩
      exact ⟨tw, tb, rfl, ⟨h1, h2⟩, h3⟩
  · rintro tw tb ⟨h1, h2⟩ W
    have h := aboveDigits_47 s tw tb W (by rw [size_list h1]; omega) (by rw [size_list h2]; omega)
    rw [size_list h1] at h
    exact h
  · rintro tw tb ⟨h1, h2⟩ W
    have h := underDigits_47 s tw tb W (by rw [size_list h1]; omega) (by rw [size_list h2]; omega)
    rw [size_list h2] at h
    exact h
  · rintro tw tb ⟨h1, h2⟩ W
    exact numbers_47 s tw tb ds W h1 hd (by omega) es h2 hde (by omega)

/-- a decimal text, with a point -/
theorem parse_point (t : ByteArray) (s : Bool) (ds es : List UInt8) (w : World) (ht : t.data.toList = sg s ++ ds ++ (46 :: es)) (hd : Digits ds) (h0 : 0 < ds.length) (hde : Digits es) (he0 : 0 < es.length) (hl : ds.length + es.length ≤ 60) (he9 : es.length ≤ 59) (f : Rat) (hf : f.num * ((10 ^ es.length : Nat) : Int) = sgn s (dval (ds ++ es)) * (f.den : Int)) :
    Calls Tryz.prog 43 #[.string t] w fun e w' => ∃ v, e = .returned (.tuple #[v, .nilIface]) ∧ FracAt w' v f ∧ But [] w w' := by
  have hall : Digits (ds ++ es) := fun d h => by rcases List.mem_append.1 h with h | h; exact hd d h; exact hde d h
  refine parse_gen t s 46 ((ds.length : Int) + (es.length : Int)) (1 + (es.length : Int)) (fun tw tb => tw.data.toList = ds ∧ tb.data.toList = es) (by omega) (by omega) (dval (ds ++ es)) (10 ^ es.length) (Nat.pow_pos (by omega)) (dval_words hall (by rw [List.length_append]; omega)) (Nat.le_trans (wd_length_le (B := 18446744073709551616) (by omega) _ (es.length + 1) (Nat.lt_of_lt_of_le (Nat.pow_lt_pow_right (by omega) (Nat.lt_succ_self _)) (Nat.pow_le_pow_left (by omega) _))) (by omega)) f hf w ?_ ?_ ?_ ?_
  · intro W
    cases s
    · refine (cut_point t ds es W ht hd h0 (by omega) hde he0 (by omega)).mono ?_
      rintro e w' ⟨tw, tb, rfl, h1, h2, h3⟩
      exact ⟨tw, tb, rfl, ⟨h1, h2⟩, h3⟩
    · refine (cut_neg_point t ds es W ht hd h0 (by omega) hde he0 (by omega)).mono ?_
      rintro e w' ⟨tw, tb, rfl, h1, h2, h3⟩
      exact ⟨tw, tb, rfl, ⟨h1, h2⟩, h3⟩
  · rintro tw tb ⟨h1, h2⟩ W
    have h := aboveDigits_46 s tw tb W (by rw [size_list h1]; omega) (by rw [size_list h2]; omega)
    rw [size_list h1, size_list h2] at h
    exact h
  · rintro tw tb ⟨h1, h2⟩ W
    have h := underDigits_46 s tw tb W (by rw [size_list h1]; omega) (by rw [size_list h2]; omega)
    rw [size_list h2] at h
    exact h
  · rintro tw tb ⟨h1, h2⟩ W
    exact numbers_46 s tw tb ds W h1 hd (by omega) es h2 hde (by omega)
end Go.Proofs.YtihiafgogbhjkaaGreatDoor

namespace Go.Proofs.YtihiafgogbhjkaaGreatDoor
open Go.RowKit

/-- the digits of n, with noughts ahead where there are no more than k of them -/
def dpad (n k : Nat) : List UInt8 := List.replicate (k + 1 - (Lib.decDigits n).length) 48 ++ Lib.decDigits n
theorem rep_one (m : Nat) : Lib.repeatL [48] m = List.replicate m 48 := by
  induction m with
  | zero => rfl
  | succ m ih => rw [Lib.repeatL, ih, List.replicate_succ]; rfl
theorem digits_noughts (m : Nat) : Digits (List.replicate m 48) := fun d h => by
  have := List.eq_of_mem_replicate h
  subst this
  decide
theorem dval_noughts (m : Nat) : dval (List.replicate m 48) = 0 := by
  induction m with
  | zero => rfl
  | succ m ih => rw [List.replicate_succ, dval_cons, ih]; simp
theorem dpad_digits (n k : Nat) : Digits (dpad n k) := fun d h => by
  rcases List.mem_append.1 h with h | h
  · exact digits_noughts _ d h
  · exact (dec_digits n).1 d h
theorem dpad_val (n k : Nat) : dval (dpad n k) = n := by
  unfold dpad
  rw [dval_append, dval_noughts, (dec_digits n).2.1]
  omega
theorem dpad_length (n k : Nat) : (dpad n k).length = (k + 1 - (Lib.decDigits n).length) + (Lib.decDigits n).length := by
  unfold dpad
  rw [List.length_append, List.length_replicate]
theorem dpad_long (n k : Nat) (h : k < (Lib.decDigits n).length) : dpad n k = Lib.decDigits n := by
  unfold dpad
  rw [show k + 1 - (Lib.decDigits n).length = 0 from by omega]
  rfl
theorem dec_upto (n m : Nat) (hm : 0 < m) (h : n < 10 ^ m) : (Lib.decDigits n).length ≤ m := by
  rcases Nat.eq_zero_or_pos n with rfl | h0
  · rw [Lib.decDigits_length, Lib.nDigits_small (by omega)]; omega
  · rw [← rdig_rev n h0, List.length_reverse]; exact rdig_length n m h
theorem extract_take (t : ByteArray) (j : Nat) (_h : j ≤ t.size) : (t.extract 0 j).data.toList = t.data.toList.take j := by
  rw [ByteArray.data_extract, Array.toList_extract, List.extract_eq_take_drop, List.drop_zero, Nat.sub_zero]
theorem below_pow (n a b : Nat) (h : n < 10 ^ a) (hab : a ≤ b) : n < 10 ^ b := Nat.lt_of_lt_of_le h (Nat.pow_le_pow_right (by omega) hab)
/-- a decimal's text: a sign, digits, and k of them behind a point -/
def DecTxt (n k : Nat) (s : Bool) (t : ByteArray) : Prop := t.data.toList = sg s ++ (dpad n k).take ((dpad n k).length - k) ++ (if k = 0 then [] else 46 :: (dpad n k).drop ((dpad n k).length - k))
theorem dec_point (n k q e : Nat) (s : Bool) (dd : ByteArray) (hd : dd.data.toList = dpad n k) (hs : dd.size = q + k) (he : e = q + k) (hk : 0 < k) (t : ByteArray) (ht : t = (if s then ⟨#[45]⟩ ++ (dd.extract 0 q ++ (⟨#[46]⟩ ++ dd.extract q e)) else dd.extract 0 q ++ (⟨#[46]⟩ ++ dd.extract q e))) : DecTxt n k s t := by
  have hl : (dpad n k).length - k = q := by rw [← size_list hd, hs]; omega
  have h1 := extract_take dd q (by omega)
  have h2 := extract_drop dd q
  rw [hs, ← he] at h2
  rw [hd] at h1 h2
  unfold DecTxt
  rw [hl, if_neg (by omega), ht]
  cases s
  · simp only [Bool.false_eq_true, if_false, sg, ba_list, h1, h2, List.nil_append]
    rfl
  · simp only [if_true, sg, ba_list, h1, h2, List.append_assoc]
    rfl
theorem dec_plain (n q : Nat) (s : Bool) (dd : ByteArray) (hd : dd.data.toList = dpad n 0) (hs : dd.size = q) (t : ByteArray) (ht : t = (if s then ⟨#[45]⟩ ++ dd.extract 0 q else dd.extract 0 q)) : DecTxt n 0 s t := by
  have hl : (dpad n 0).length - 0 = q := by rw [← size_list hd, hs]; omega
  have h1 := extract_take dd q (by omega)
  rw [hd] at h1
  unfold DecTxt
  rw [hl, if_pos rfl, ht, List.append_nil]
  cases s
  · simp only [Bool.false_eq_true, if_false, sg, h1, List.nil_append]
  · simp only [if_true, sg, ba_list, h1]
end Go.Proofs.YtihiafgogbhjkaaGreatDoor

namespace Go.Proofs.YtihiafgogbhjkaaGreatDoor
open Go.RowKit

theorem cross_sub (f g : Rat) : (f - g).num * (f.den * g.den : Nat) = (f.num * g.den - g.num * f.den) * (f - g).den := by
  have h := cross_add f (-g)
  rw [← Rat.sub_eq_add_neg] at h
  simp only [Rat.neg_num, Rat.neg_den] at h
  rw [h]
  grind
/-- the part above the whole, doubled, against its whole -/
theorem tw2_cross (g : Rat) : (tw2 g).num * (g.den : Int) = 2 * (g.num % (g.den : Int)) * ((tw2 g).den : Int) := by
  have hd := den_pos g
  obtain ⟨i1, i2⟩ := int_num (fl g)
  obtain ⟨j1, j2⟩ := int_num 2
  have h1 := cross_sub g ((fl g : Int) : Rat)
  have h2 := cross_mul (g - ((fl g : Int) : Rat)) ((2 : Int) : Rat)
  rw [i1, i2] at h1
  rw [j1, j2] at h2
  have h3 : g.num - fl g * (g.den : Int) = g.num % (g.den : Int) := by
    unfold fl
    have := Int.emod_add_mul_ediv g.num (g.den : Int)
    grind
  have hs := den_pos (g - ((fl g : Int) : Rat))
  have ht := den_pos (tw2 g)
  change (tw2 g).num * _ = _ * ((tw2 g).den : Int) at h2
  generalize (g - ((fl g : Int) : Rat)).num = sn at *
  generalize (g - ((fl g : Int) : Rat)).den = sd at *
  generalize (tw2 g).num = tn at *
  generalize (tw2 g).den = td at *
  simp only [Nat.mul_one, Int.natCast_one, Int.mul_one] at h1 h2
  rw [h3] at h1
  have hs' : (sd : Int) ≠ 0 := by omega
  have h4 : tn * (g.den : Int) * (sd : Int) = 2 * (g.num % (g.den : Int)) * (td : Int) * (sd : Int) := by grind
  exact Int.eq_of_mul_eq_mul_right hs' h4
theorem near_half (g : Rat) : 2 * (nearZ g * (g.den : Int) - g.num) ≤ (g.den : Int) ∧ -(g.den : Int) ≤ 2 * (nearZ g * (g.den : Int) - g.num) := by
  have hd := den_pos g
  have ht := den_pos (tw2 g)
  have hc := tw2_cross g
  obtain ⟨o1, o2⟩ := int_num 1
  have h3 := Int.emod_add_mul_ediv g.num (g.den : Int)
  have h4 := Int.emod_nonneg g.num (show (g.den : Int) ≠ 0 by omega)
  have h5 := Int.emod_lt_of_pos g.num (show (0 : Int) < (g.den : Int) by omega)
  have hfl : fl g * (g.den : Int) = (g.den : Int) * (g.num / (g.den : Int)) := by unfold fl; rw [Int.mul_comm]
  have hup : up g = true → (g.den : Int) ≤ 2 * (g.num % (g.den : Int)) := by
    unfold up cmpZ
    rw [o1, o2]
    intro h
    have h6 : (tw2 g).den ≤ (tw2 g).num := by
      simp only [Int.natCast_one, Int.mul_one, Int.one_mul] at h
      by_cases h7 : (tw2 g).num < ((tw2 g).den : Int)
      · simp [h7] at h
      · omega
    have h7 := Int.mul_le_mul_of_nonneg_right h6 (show (0 : Int) ≤ (g.den : Int) by omega)
    rw [hc, Int.mul_comm] at h7
    exact Int.le_of_mul_le_mul_right h7 (by omega)
  have hdn : up g = false → 2 * (g.num % (g.den : Int)) ≤ (g.den : Int) := by
    unfold up cmpZ
    rw [o1, o2]
    intro h
    have h6 : (tw2 g).num ≤ (tw2 g).den := by
      simp only [Int.natCast_one, Int.mul_one, Int.one_mul] at h
      by_cases h7 : (tw2 g).num < ((tw2 g).den : Int)
      · omega
      · by_cases h8 : (tw2 g).num = ((tw2 g).den : Int)
        · omega
        · simp [h7, h8] at h
    have h7 := Int.mul_le_mul_of_nonneg_right h6 (show (0 : Int) ≤ (g.den : Int) by omega)
    rw [hc, Int.mul_comm ((tw2 g).den : Int)] at h7
    exact Int.le_of_mul_le_mul_right h7 (by omega)
  unfold nearZ
  generalize (g.num % (g.den : Int)) = r at *
  cases hu : up g
  · have := hdn hu
    simp only [Bool.false_eq_true, if_false]
    rw [hfl]
    omega
  · have := hup hu
    simp only [if_true]
    rw [Int.add_mul, hfl]
    omega
/-- a fraction d that is N parts of P; f, of which N is the nearest: their distance, doubled, is at most a part of P -/
theorem dec_near (f d : Rat) (P : Nat) (_hP : 0 < P) (hd : d.num * (P : Int) = nearZ (f * (((P : Nat) : Int) : Rat)) * (d.den : Int)) :
    2 * (d - f).num * (P : Int) ≤ ((d - f).den : Int) ∧ -((d - f).den : Int) ≤ 2 * (d - f).num * (P : Int) := by
  obtain ⟨n1, n2⟩ := near_half (f * (((P : Nat) : Int) : Rat))
  obtain ⟨i1, i2⟩ := int_num ((P : Nat) : Int)
  have hm := cross_mul f (((P : Nat) : Int) : Rat)
  rw [i1, i2] at hm
  have hs := cross_sub d f
  have h1 := den_pos f
  have h2 := den_pos d
  have h3 := den_pos (f * (((P : Nat) : Int) : Rat))
  have h4 := den_pos (d - f)
  generalize nearZ (f * (((P : Nat) : Int) : Rat)) = N at *
  generalize (f * (((P : Nat) : Int) : Rat)).num = gn at *
  generalize (f * (((P : Nat) : Int) : Rat)).den = gd at *
  generalize (d - f).num = on at *
  generalize (d - f).den = od at *
  generalize f.num = fn at *
  generalize f.den = fd at *
  generalize d.num = dn at *
  generalize d.den = dd at *
  simp only [Nat.mul_one, Int.natCast_mul] at hm hs
  have e1 : on * (P : Int) * (fd : Int) = (N * (fd : Int) - fn * (P : Int)) * (od : Int) := by
    refine Int.eq_of_mul_eq_mul_right (show (dd : Int) ≠ 0 by omega) ?_
    grind
  have e2 : (N * (gd : Int) - gn) * (fd : Int) = (N * (fd : Int) - fn * (P : Int)) * (gd : Int) := by grind
  have m1 : 2 * (N * (fd : Int) - fn * (P : Int)) ≤ (fd : Int) := by
    have h5 := Int.mul_le_mul_of_nonneg_right n1 (show (0 : Int) ≤ (fd : Int) by omega)
    refine Int.le_of_mul_le_mul_right (a := (gd : Int)) ?_ (by omega)
    grind
  have m2 : -(fd : Int) ≤ 2 * (N * (fd : Int) - fn * (P : Int)) := by
    have h5 := Int.mul_le_mul_of_nonneg_right n2 (show (0 : Int) ≤ (fd : Int) by omega)
    refine Int.le_of_mul_le_mul_right (a := (gd : Int)) ?_ (by omega)
    grind
  refine ⟨?_, ?_⟩
  · have h5 := Int.mul_le_mul_of_nonneg_right m1 (show (0 : Int) ≤ (od : Int) by omega)
    refine Int.le_of_mul_le_mul_right (a := (fd : Int)) ?_ (by omega)
    grind
  · have h5 := Int.mul_le_mul_of_nonneg_right m2 (show (0 : Int) ≤ (od : Int) by omega)
    refine Int.le_of_mul_le_mul_right (a := (fd : Int)) ?_ (by omega)
    grind
/-- a fraction doubled, against a part of P -/
theorem twice_cmp (o t : Rat) (P : Nat) (h : 2 * o.num * (P : Int) ≤ (o.den : Int)) (t1 : t.num = 1) (t2 : t.den = P) : cmpZ ((o + o).num * (t.den : Int)) (t.num * ((o + o).den : Int)) ≤ 0 := by
  have hc := cross_add o o
  have h1 := den_pos o
  have h2 := den_pos (o + o)
  rw [t1, t2]
  generalize (o + o).num = an at *
  generalize (o + o).den = ad at *
  generalize o.num = on at *
  generalize o.den = od at *
  simp only [Int.natCast_mul] at hc
  have e : an * (od : Int) = 2 * on * (ad : Int) := by
    refine Int.eq_of_mul_eq_mul_right (show (od : Int) ≠ 0 by omega) ?_
    grind
  have h3 : an * (P : Int) ≤ 1 * (ad : Int) := by
    have h5 := Int.mul_le_mul_of_nonneg_right h (show (0 : Int) ≤ (ad : Int) by omega)
    refine Int.le_of_mul_le_mul_right (a := (od : Int)) ?_ (by omega)
    have e3 : an * (P : Int) * (od : Int) = 2 * on * (P : Int) * (ad : Int) := by rw [Int.mul_right_comm, e]; exact Int.mul_right_comm _ _ _
    rw [e3, Int.one_mul, Int.mul_comm (ad : Int)]
    exact h5
  unfold cmpZ
  by_cases h4 : an * (P : Int) < 1 * (ad : Int)
  · rw [if_pos h4]; omega
  · rw [if_neg h4, if_pos (by omega)]; omega
/-- N parts of P -/
theorem parts (N : Int) (P : Nat) (hP : P ≠ 0) : (mkRat N P).num * (P : Int) = N * ((mkRat N P).den : Int) := by
  have h := Rat.mkRat_self (mkRat N P)
  exact (Rat.mkRat_eq_iff (mkRat N P).den_nz hP).1 h
theorem near_bound (g : Rat) (m : Nat) (_hm : 0 < m) (h : g.num.natAbs ≤ m * g.den) : (nearZ g).natAbs ≤ m + 1 := by
  have hd := den_pos g
  obtain ⟨n1, n2⟩ := near_half g
  have h1 : (nearZ g * (g.den : Int)).natAbs ≤ (m + 1) * g.den := by
    rw [Nat.add_mul, Nat.one_mul]
    generalize m * g.den = x at *
    omega
  rw [Int.natAbs_mul, Int.natAbs_natCast] at h1
  exact Nat.le_of_mul_le_mul_right h1 hd
end Go.Proofs.YtihiafgogbhjkaaGreatDoor

namespace Go.Proofs.YtihiafgogbhjkaaGreatDoor
open Go.RowKit

theorem farey (O1 Ob P : Int) (u1 ub Q most : Nat) (hd : O1 * (ub : Int) - Ob * (u1 : Int) = 1 ∨ O1 * (ub : Int) - Ob * (u1 : Int) = -1) (hs : most < u1 + ub) (hQ0 : 0 < Q) (hQ : Q ≤ most) :
    (P * (u1 : Int) ≤ O1 * (Q : Int) ∧ P * (ub : Int) ≤ Ob * (Q : Int)) ∨ (O1 * (Q : Int) ≤ P * (u1 : Int) ∧ Ob * (Q : Int) ≤ P * (ub : Int)) := by
  have key : ∀ (U V : Int), 1 ≤ U → 1 ≤ V → (u1 : Int) + (ub : Int) ≤ U * (ub : Int) + V * (u1 : Int) := fun U V hU hV => by
    have h1 := Int.mul_le_mul_of_nonneg_right hU (show (0 : Int) ≤ (ub : Int) by omega)
    have h2 := Int.mul_le_mul_of_nonneg_right hV (show (0 : Int) ≤ (u1 : Int) by omega)
    omega
  have e : (P * (u1 : Int) - O1 * (Q : Int)) * (ub : Int) + (Ob * (Q : Int) - P * (ub : Int)) * (u1 : Int) = -((O1 * (ub : Int) - Ob * (u1 : Int)) * (Q : Int)) := by grind
  by_cases h1 : P * (u1 : Int) ≤ O1 * (Q : Int)
  · by_cases h2 : P * (ub : Int) ≤ Ob * (Q : Int)
    · exact .inl ⟨h1, h2⟩
    · by_cases h3 : O1 * (Q : Int) ≤ P * (u1 : Int)
      · exact .inr ⟨h3, by omega⟩
      · exfalso
        have h4 := key (-(P * (u1 : Int) - O1 * (Q : Int))) (-(Ob * (Q : Int) - P * (ub : Int))) (by omega) (by omega)
        rcases hd with hd | hd <;> rw [hd] at e <;> grind
  · by_cases h2 : Ob * (Q : Int) ≤ P * (ub : Int)
    · exact .inr ⟨by omega, h2⟩
    · exfalso
      have h4 := key (P * (u1 : Int) - O1 * (Q : Int)) (Ob * (Q : Int) - P * (ub : Int)) (by omega) (by omega)
      rcases hd with hd | hd <;> rw [hd] at e <;> grind
/-- the number beside which the lesser part lies -/
theorem between (f r : Rat) (O0 O1 : Rat) (u0 u1 m : Rat) (hE : f * (u1 + u0 * r) = O1 + O0 * r) (hr : 0 < r) (hm : r * m ≤ 1) :
    (f * u1 ≤ O1 ∧ O0 + m * O1 ≤ f * (u0 + m * u1)) ∨ (O1 ≤ f * u1 ∧ f * (u0 + m * u1) ≤ O0 + m * O1) := by
  have hA : f * u1 - O1 = -((f * u0 - O0) * r) := by grind
  have hB : f * (u0 + m * u1) - (O0 + m * O1) = (f * u0 - O0) * (1 - r * m) := by grind
  have hr' : 0 ≤ r := by grind
  have hm' : 0 ≤ 1 - r * m := by grind
  generalize f * u0 - O0 = L at *
  rcases Rat.le_total (a := 0) (b := L) with h | h
  · have h1 := Rat.mul_nonneg h hr'
    have h2 := Rat.mul_nonneg h hm'
    left
    constructor
    · grind
    · grind
  · have h0 : 0 ≤ -L := by grind
    have h1 := Rat.mul_nonneg h0 hr'
    have h2 := Rat.mul_nonneg h0 hm'
    right
    constructor
    · grind
    · grind
/-- the distance -/
def dist (x f : Rat) : Rat := absR (x - f)
theorem num_neg (x : Rat) : x.num < 0 ↔ x < 0 := by
  rw [Rat.lt_iff]
  simp
theorem dist_cases (x f : Rat) : (x ≤ f ∧ dist x f = f - x) ∨ (f ≤ x ∧ dist x f = x - f) := by
  unfold dist absR
  by_cases h : (x - f).num < 0
  · rw [if_pos h]
    have := (num_neg _).1 h
    left
    constructor <;> grind
  · rw [if_neg h]
    have h2 : ¬ x - f < 0 := fun e => h ((num_neg _).2 e)
    right
    constructor <;> grind
/-- and farther than one of them, unless it is one -/
theorem outside2 (f a b y : Rat) (hf : (f ≤ a ∧ b ≤ f) ∨ (a ≤ f ∧ f ≤ b)) (hy : (y ≤ a ∧ y ≤ b) ∨ (a ≤ y ∧ b ≤ y)) : y = a ∨ y = b ∨ dist a f < dist y f ∨ dist b f < dist y f := by
  have ca := dist_cases a f
  have cb := dist_cases b f
  have cy := dist_cases y f
  generalize dist a f = da at *
  generalize dist b f = db at *
  generalize dist y f = dy at *
  grind
/-- nearer, or as near and with a lesser lower number, or the lesser one of these -/
def Bef (f x y : Rat) : Prop := dist x f < dist y f ∨ (dist x f = dist y f ∧ (x.den < y.den ∨ (x.den = y.den ∧ x ≤ y)))
theorem Bef.refl (f x : Rat) : Bef f x x := .inr ⟨rfl, .inr ⟨rfl, Rat.le_refl⟩⟩
theorem Bef.le {f x y : Rat} (h : Bef f x y) : dist x f ≤ dist y f := by
  rcases h with h | ⟨h, -⟩
  · grind
  · rw [h]; exact Rat.le_refl
theorem Bef.of_lt {f x y z : Rat} (h : Bef f x y) (k : dist y f < dist z f) : Bef f x z := by
  have := h.le
  exact .inl (by grind)
theorem cmp_le (x y : Rat) : cmpZ (x.num * (y.den : Int)) (y.num * (x.den : Int)) ≤ 0 ↔ x ≤ y := by
  rw [Rat.le_iff]
  unfold cmpZ
  constructor
  · intro h
    by_cases h1 : x.num * (y.den : Int) < y.num * (x.den : Int)
    · omega
    · rw [if_neg h1] at h
      by_cases h2 : x.num * (y.den : Int) = y.num * (x.den : Int)
      · omega
      · rw [if_neg h2] at h; omega
  · intro h
    by_cases h1 : x.num * (y.den : Int) < y.num * (x.den : Int)
    · rw [if_pos h1]; omega
    · rw [if_neg h1, if_pos (by omega)]; omega
theorem den_cast (x : Rat) : x * ((x.den : Int) : Rat) = ((x.num : Int) : Rat) := by
  obtain ⟨i1, i2⟩ := int_num (x.den : Int)
  obtain ⟨j1, j2⟩ := int_num x.num
  have h := cross_mul x ((x.den : Int) : Rat)
  rw [i1, i2, Nat.mul_one] at h
  have hd := den_pos x
  obtain ⟨e1, e2⟩ := rat_of_coprime x.num 1 (by omega) (by simp) (x * ((x.den : Int) : Rat)) (by
    refine Int.eq_of_mul_eq_mul_right (show (x.den : Int) ≠ 0 by omega) ?_
    grind)
  exact Rat.ext (by rw [e1, j1]) (by rw [e2, j2])
theorem nat_pos (u : Nat) (hu : 0 < u) : (0 : Rat) < ((u : Int) : Rat) := by
  have : ((0 : Int) : Rat) < ((u : Int) : Rat) := Rat.intCast_lt_intCast.2 (by omega)
  simpa using this
theorem part_mul (O : Int) (u : Nat) (hu : 0 < u) : (O : Rat) * (((u : Int) : Rat))⁻¹ * ((u : Int) : Rat) = (O : Rat) := by
  have h := nat_pos u hu
  rw [Rat.mul_assoc, Rat.inv_mul_cancel _ (by grind), Rat.mul_one]
/-- y against O / u, by its own numbers -/
theorem le_part (y : Rat) (O : Int) (u : Nat) (hu : 0 < u) (h : y.num * (u : Int) ≤ O * (y.den : Int)) : y ≤ (O : Rat) * (((u : Int) : Rat))⁻¹ := by
  have h1 := den_cast y
  have h2 := part_mul O u hu
  have h3 := nat_pos u hu
  have h4 := nat_pos y.den (den_pos y)
  have h5 : ((y.num * (u : Int) : Int) : Rat) ≤ ((O * (y.den : Int) : Int) : Rat) := Rat.intCast_le_intCast.2 h
  rw [Rat.intCast_mul, Rat.intCast_mul, ← h1, ← h2] at h5
  generalize (O : Rat) * (((u : Int) : Rat))⁻¹ = c at *
  generalize ((u : Int) : Rat) = U at *
  generalize ((y.den : Int) : Rat) = D at *
  refine Rat.le_of_mul_le_mul_right (c := D * U) ?_ (Rat.mul_pos h4 h3)
  grind
theorem part_le (y : Rat) (O : Int) (u : Nat) (hu : 0 < u) (h : O * (y.den : Int) ≤ y.num * (u : Int)) : (O : Rat) * (((u : Int) : Rat))⁻¹ ≤ y := by
  have h1 := den_cast y
  have h2 := part_mul O u hu
  have h3 := nat_pos u hu
  have h4 := nat_pos y.den (den_pos y)
  have h5 : ((O * (y.den : Int) : Int) : Rat) ≤ ((y.num * (u : Int) : Int) : Rat) := Rat.intCast_le_intCast.2 h
  rw [Rat.intCast_mul, Rat.intCast_mul, ← h1, ← h2] at h5
  generalize (O : Rat) * (((u : Int) : Rat))⁻¹ = c at *
  generalize ((u : Int) : Rat) = U at *
  generalize ((y.den : Int) : Rat) = D at *
  refine Rat.le_of_mul_le_mul_right (c := D * U) ?_ (Rat.mul_pos h4 h3)
  grind
theorem rat_le_part (f : Rat) (O : Int) (u : Nat) (hu : 0 < u) (h : f * ((u : Int) : Rat) ≤ (O : Rat)) : f ≤ (O : Rat) * (((u : Int) : Rat))⁻¹ := by
  have h2 := part_mul O u hu
  have h3 := nat_pos u hu
  refine Rat.le_of_mul_le_mul_right (c := ((u : Int) : Rat)) ?_ h3
  rw [h2]
  exact h
theorem part_le_rat (f : Rat) (O : Int) (u : Nat) (hu : 0 < u) (h : (O : Rat) ≤ f * ((u : Int) : Rat)) : (O : Rat) * (((u : Int) : Rat))⁻¹ ≤ f := by
  have h2 := part_mul O u hu
  have h3 := nat_pos u hu
  refine Rat.le_of_mul_le_mul_right (c := ((u : Int) : Rat)) ?_ h3
  rw [h2]
  exact h
/-- a fraction of two numbers without a divisor in common has the lower one -/
theorem part_den (O : Int) (u : Nat) (hu : 0 < u) (x y : Int) (h : O * x - y * (u : Int) = 1 ∨ O * x - y * (u : Int) = -1) : ((O : Rat) * (((u : Int) : Rat))⁻¹).den = u := by
  have hm := part_mul O u hu
  generalize (O : Rat) * (((u : Int) : Rat))⁻¹ = q at *
  have hc := den_cast q
  have h1 : ((q.num * (u : Int) : Int) : Rat) = ((O * (q.den : Int) : Int) : Rat) := by
    rw [Rat.intCast_mul, Rat.intCast_mul, ← hc, ← hm]
    grind
  have h2 : q.num * (u : Int) = O * (q.den : Int) := Rat.intCast_inj.1 h1
  have hco : Nat.Coprime q.num.natAbs q.den := q.reduced
  have d1 : q.den ∣ u := by
    have h3 : q.num.natAbs * u = O.natAbs * q.den := by
      have := congrArg Int.natAbs h2
      rw [Int.natAbs_mul, Int.natAbs_mul, Int.natAbs_natCast, Int.natAbs_natCast] at this
      exact this
    exact hco.symm.dvd_of_dvd_mul_left ⟨O.natAbs, by rw [h3, Nat.mul_comm]⟩
  have d2 : u ∣ q.den := by
    have h4 : (u : Int) ∣ (q.den : Int) := by
      rcases h with h | h
      · refine ⟨q.num * x - y * (q.den : Int), ?_⟩
        have : (q.den : Int) = (q.den : Int) * (O * x - y * (u : Int)) := by rw [h, Int.mul_one]
        grind
      · refine ⟨-(q.num * x - y * (q.den : Int)), ?_⟩
        have : (q.den : Int) = -((q.den : Int) * (O * x - y * (u : Int))) := by rw [h]; omega
        grind
    exact Int.natCast_dvd_natCast.1 h4
  exact Nat.dvd_antisymm d1 d2
end Go.Proofs.YtihiafgogbhjkaaGreatDoor

namespace Go.Proofs.YtihiafgogbhjkaaGreatDoor
open Go.RowKit

/-- what is above the whole -/
theorem rest_facts (g : Rat) : (g - ((fl g : Int) : Rat)).num = g.num % (g.den : Int) ∧ (g - ((fl g : Int) : Rat)).den = g.den := by
  have hd := den_pos g
  obtain ⟨i1, i2⟩ := int_num (fl g)
  have h := cross_sub g ((fl g : Int) : Rat)
  rw [i1, i2, Nat.mul_one] at h
  have h3 : g.num - fl g * (g.den : Int) = g.num % (g.den : Int) := by
    unfold fl
    have := Int.emod_add_mul_ediv g.num (g.den : Int)
    grind
  simp only [Int.natCast_one, Int.mul_one] at h
  rw [h3] at h
  refine rat_of_coprime _ _ (by omega) ?_ _ h
  have h5 : Int.gcd (g.num - fl g * (g.den : Int)) (g.den : Int) = Int.gcd g.num (g.den : Int) := Int.gcd_sub_mul_right_left _ _ _
  rw [h3] at h5
  have hr := g.reduced
  unfold Nat.Coprime at hr ⊢
  unfold Int.gcd at h5
  rw [Int.natAbs_natCast] at h5
  rw [h5, hr]
theorem fl_le (g : Rat) : ((fl g : Int) : Rat) ≤ g := by
  obtain ⟨h1, h2⟩ := rest_facts g
  have h3 := Int.emod_nonneg g.num (show (g.den : Int) ≠ 0 by have := den_pos g; omega)
  have h4 : ¬ (g - ((fl g : Int) : Rat)) < 0 := fun e => by
    have := (num_neg _).2 e
    omega
  grind

/-- how far the continued fraction has come -/
structure Nb (f : Rat) (most K : Nat) (O0 O1 : Int) (u0 u1 : Nat) (r : Rat) : Prop where
  eq : f * (((u1 : Int) : Rat) + ((u0 : Int) : Rat) * r) = (O1 : Rat) + (O0 : Rat) * r
  det : O1 * (u0 : Int) - O0 * (u1 : Int) = 1 ∨ O1 * (u0 : Int) - O0 * (u1 : Int) = -1
  u1p : 0 < u1
  u1m : u1 ≤ most
  u0m : u0 ≤ most
  r0 : 0 ≤ r.num
  r1 : r.num < (r.den : Int)
  rd : r.den ≤ f.den
  s1 : O1.natAbs ≤ K * u1
  s0 : (0 < u0 ∧ O0.natAbs ≤ K * u0) ∨ (u0 = 0 ∧ u1 = 1 ∧ O0 = 1 ∧ O1.natAbs + 1 ≤ K)
theorem Nb.start (f : Rat) (most : Nat) (hm : 0 < most) : Nb f most ((fl f).natAbs + 1) 1 (fl f) 0 1 (f - ((fl f : Int) : Rat)) := by
  obtain ⟨h1, h2⟩ := rest_facts f
  have hd := den_pos f
  have h3 := Int.emod_nonneg f.num (show (f.den : Int) ≠ 0 by omega)
  have h5 := Int.emod_lt_of_pos f.num (show (0 : Int) < (f.den : Int) by omega)
  refine ⟨?_, .inr (by omega), by omega, by omega, by omega, by rw [h1]; exact h3, by rw [h1, h2]; exact h5, by rw [h2]; exact Nat.le_refl _, by omega, .inr ⟨rfl, rfl, rfl, Nat.le_refl _⟩⟩
  simp only [Int.natCast_one, Int.natCast_zero, Rat.intCast_one, Rat.intCast_zero]
  grind
/-- an upper number brought on -/
theorem bound_on (K n u0 u1 : Nat) (O0 O1 : Int) (s1 : O1.natAbs ≤ K * u1) (s0 : (0 < u0 ∧ O0.natAbs ≤ K * u0) ∨ (u0 = 0 ∧ u1 = 1 ∧ O0 = 1 ∧ O1.natAbs + 1 ≤ K)) (hn : 0 < n ∨ 0 < u0) : (O0 + (n : Int) * O1).natAbs ≤ K * (u0 + n * u1) := by
  have h1 : (O0 + (n : Int) * O1).natAbs ≤ O0.natAbs + n * O1.natAbs := by
    refine Nat.le_trans (Int.natAbs_add_le _ _) ?_
    rw [Int.natAbs_mul, Int.natAbs_natCast]
    exact Nat.le_refl _
  rcases s0 with ⟨-, s0⟩ | ⟨rfl, rfl, rfl, s0⟩
  · have h2 := Nat.mul_le_mul_left n s1
    have h3 : K * (u0 + n * u1) = K * u0 + n * (K * u1) := by grind
    omega
  · have hn' : 1 ≤ n := by omega
    have h2 := Nat.mul_le_mul_left n s0
    have h3 : n * (O1.natAbs + 1) = n * O1.natAbs + n := by grind
    have h4 : K * (0 + n * 1) = n * K := by grind
    have h5 : (1 : Int).natAbs = 1 := rfl
    omega
/-- the next of it -/
theorem Nb.next {f : Rat} {most K : Nat} {O0 O1 : Int} {u0 u1 : Nat} {r : Rat} (h : Nb f most K O0 O1 u0 u1 r) (hr : r.num ≠ 0) (n : Nat) (hn : fl r⁻¹ = (n : Int)) (hroom : n ≤ (most - u0) / u1) :
    Nb f most K O1 (O0 + (n : Int) * O1) u1 (u0 + n * u1) (r⁻¹ - ((fl r⁻¹ : Int) : Rat)) ∧ (r⁻¹ - ((fl r⁻¹ : Int) : Rat)).den < r.den ∧ 0 < n := by
  obtain ⟨i1, i2, i3⟩ := inv_facts r hr
  obtain ⟨g1, g2⟩ := rest_facts r⁻¹
  have hd := den_pos r⁻¹
  have h3 := Int.emod_nonneg r⁻¹.num (show (r⁻¹.den : Int) ≠ 0 by omega)
  have h5 := Int.emod_lt_of_pos r⁻¹.num (show (0 : Int) < (r⁻¹.den : Int) by omega)
  have hr0 := h.r0
  have hr1 := h.r1
  have hrd := h.rd
  have hn0 : 0 < n := by
    rcases Nat.eq_zero_or_pos n with h0 | h0
    · exfalso
      rw [h0] at hn
      have h6 := Int.emod_add_mul_ediv r⁻¹.num (r⁻¹.den : Int)
      unfold fl at hn
      rw [hn] at h6
      have h7 : r⁻¹.num = (r.den : Int) := by
        have h8 : ¬ r⁻¹.num < 0 := fun e => by
          have := i3
          omega
        omega
      rw [Int.natCast_zero, Int.mul_zero, Int.add_zero] at h6
      omega
    · exact h0
  have hlt : (r⁻¹ - ((fl r⁻¹ : Int) : Rat)).den < r.den := by rw [g2, i2]; omega
  have hmul := Nat.div_mul_le_self (most - u0) u1
  have hm2 := Nat.mul_le_mul_right u1 hroom
  have u1p := h.u1p
  have u0m := h.u0m
  have hpos : 0 < n * u1 := Nat.mul_pos hn0 u1p
  refine ⟨⟨?_, ?_, by omega, by omega, h.u1m, by rw [g1]; exact h3, by rw [g1, g2]; exact h5, by omega, bound_on K n u0 u1 O0 O1 h.s1 h.s0 (.inl hn0), .inl ⟨u1p, h.s1⟩⟩, hlt, hn0⟩
  · have hrne : r ≠ 0 := fun e => hr (by rw [e]; rfl)
    have hc := Rat.mul_inv_cancel r hrne
    have he := h.eq
    rw [hn]
    simp only [Int.natCast_add, Int.natCast_mul, Rat.intCast_add, Rat.intCast_mul]
    generalize r⁻¹ = x at *
    generalize ((n : Int) : Rat) = N at *
    grind
  · have hdet := h.det
    simp only [Int.natCast_add, Int.natCast_mul]
    rcases hdet with hdet | hdet
    · right; grind
    · left; grind
/-- two fractions by which all others with such lower numbers are no nearer -/
def Nearby (f : Rat) (most K : Nat) (Oa Ob : Int) (ua ub : Nat) : Prop := 0 < ua ∧ ua ≤ most ∧ Oa.natAbs ≤ K * ua ∧ 0 < ub ∧ ub ≤ most ∧ Ob.natAbs ≤ K * ub ∧ ((Oa : Rat) * (((ua : Int) : Rat))⁻¹).den = ua ∧ ((Ob : Rat) * (((ub : Int) : Rat))⁻¹).den = ub ∧ ∀ y : Rat, y.den ≤ most → y = (Oa : Rat) * (((ua : Int) : Rat))⁻¹ ∨ y = (Ob : Rat) * (((ub : Int) : Rat))⁻¹ ∨ dist ((Oa : Rat) * (((ua : Int) : Rat))⁻¹) f < dist y f ∨ dist ((Ob : Rat) * (((ub : Int) : Rat))⁻¹) f < dist y f
theorem Nb.exact {f : Rat} {most K : Nat} {O0 O1 : Int} {u0 u1 : Nat} {r : Rat} (h : Nb f most K O0 O1 u0 u1 r) (hr : r.num = 0) : Nearby f most K O1 O1 u1 u1 := by
  have hden := part_den O1 u1 h.u1p (u0 : Int) O0 h.det
  refine ⟨h.u1p, h.u1m, h.s1, h.u1p, h.u1m, h.s1, hden, hden, fun y _ => ?_⟩
  have hr' : r = 0 := Rat.num_eq_zero.1 hr
  have he := h.eq
  rw [hr'] at he
  have hm := part_mul O1 u1 h.u1p
  have hp := nat_pos u1 h.u1p
  have hx : (O1 : Rat) * (((u1 : Int) : Rat))⁻¹ = f := by
    have h2 : f * ((u1 : Int) : Rat) = (O1 : Rat) := by grind
    have a1 := rat_le_part f O1 u1 h.u1p (by rw [h2]; exact Rat.le_refl)
    have a2 := part_le_rat f O1 u1 h.u1p (by rw [h2]; exact Rat.le_refl)
    exact Rat.le_antisymm a2 a1
  rw [hx]
  have c1 := dist_cases f f
  have c2 := dist_cases y f
  generalize dist f f = d0 at *
  generalize dist y f = d1 at *
  grind
theorem Nb.sides {f : Rat} {most K : Nat} {O0 O1 : Int} {u0 u1 : Nat} {r : Rat} (h : Nb f most K O0 O1 u0 u1 r) (hr : r.num ≠ 0) (room : Nat) (hroom : room = (most - u0) / u1) (hn : (room : Int) < fl r⁻¹) (hm : 0 < most) :
    Nearby f most K O1 (O0 + (room : Int) * O1) u1 (u0 + room * u1) := by
  have u1p := h.u1p
  have u0m := h.u0m
  have hmul := Nat.div_mul_le_self (most - u0) u1
  have hlt : most - u0 < (room + 1) * u1 := by rw [hroom]; exact (Nat.div_lt_iff_lt_mul u1p).1 (Nat.lt_succ_self _)
  rw [← hroom] at hmul
  have hsuc : (room + 1) * u1 = room * u1 + u1 := Nat.succ_mul _ _
  have hub : 0 < u0 + room * u1 := by
    rcases h.s0 with ⟨h1, -⟩ | ⟨h1, h2, -⟩
    · omega
    · subst h1 h2; omega
  have hside : 0 < room ∨ 0 < u0 := by
    rcases Nat.eq_zero_or_pos room with h1 | h1
    · right; rw [h1] at hub; omega
    · exact .inl h1
  have hrne : r ≠ 0 := fun e => hr (by rw [e]; rfl)
  have hrp : 0 < r := by
    have h3 : ¬ r < 0 := fun e => by have := (num_neg r).2 e; have := h.r0; omega
    grind
  have hc := Rat.mul_inv_cancel r hrne
  have hfl := fl_le r⁻¹
  have hR : ((room : Int) : Rat) ≤ ((fl r⁻¹ : Int) : Rat) := Rat.intCast_le_intCast.2 (by omega)
  have hrm : r * ((room : Int) : Rat) ≤ 1 := by
    have h4 : ((room : Int) : Rat) ≤ r⁻¹ := Rat.le_trans hR hfl
    have h5 := Rat.mul_le_mul_of_nonneg_left h4 (show 0 ≤ r by grind)
    grind
  have hb := between f r (O0 : Rat) (O1 : Rat) ((u0 : Int) : Rat) ((u1 : Int) : Rat) ((room : Int) : Rat) h.eq hrp hrm
  have hdet : O1 * ((u0 + room * u1 : Nat) : Int) - (O0 + (room : Int) * O1) * (u1 : Int) = 1 ∨ O1 * ((u0 + room * u1 : Nat) : Int) - (O0 + (room : Int) * O1) * (u1 : Int) = -1 := by
    simp only [Int.natCast_add, Int.natCast_mul]
    rcases h.det with hd | hd
    · left; grind
    · right; grind
  have hden1 := part_den O1 u1 u1p ((u0 + room * u1 : Nat) : Int) (O0 + (room : Int) * O1) hdet
  have hden2 := part_den (O0 + (room : Int) * O1) (u0 + room * u1) hub (u1 : Int) O1 (hdet.elim (fun hd => .inr (by first | omega | grind)) (fun hd => .inl (by first | omega | grind)))
  refine ⟨u1p, h.u1m, h.s1, hub, by omega, bound_on K room u0 u1 O0 O1 h.s1 h.s0 hside, hden1, hden2, fun y hy => ?_⟩
  have hfar := farey O1 (O0 + (room : Int) * O1) y.num u1 (u0 + room * u1) y.den most hdet (by omega) (den_pos y) hy
  have e1 : ((O0 + (room : Int) * O1 : Int) : Rat) = (O0 : Rat) + ((room : Int) : Rat) * (O1 : Rat) := by rw [Rat.intCast_add, Rat.intCast_mul]
  have e2 : (((u0 + room * u1 : Nat) : Int) : Rat) = ((u0 : Int) : Rat) + ((room : Int) : Rat) * ((u1 : Int) : Rat) := by rw [Int.natCast_add, Int.natCast_mul, Rat.intCast_add, Rat.intCast_mul]
  rw [← e1, ← e2] at hb
  refine outside2 f _ _ y ?_ ?_
  · rcases hb with ⟨b1, b2⟩ | ⟨b1, b2⟩
    · exact .inl ⟨rat_le_part f _ _ u1p b1, part_le_rat f _ _ hub b2⟩
    · exact .inr ⟨part_le_rat f _ _ u1p b1, rat_le_part f _ _ hub b2⟩
  · rcases hfar with ⟨b1, b2⟩ | ⟨b1, b2⟩
    · exact .inl ⟨le_part y _ _ u1p b1, le_part y _ _ hub b2⟩
    · exact .inr ⟨part_le y _ _ u1p b1, part_le y _ _ hub b2⟩
end Go.Proofs.YtihiafgogbhjkaaGreatDoor
