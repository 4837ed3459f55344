/- Digits with so many behind a point (plain). -/
import Derived.Test.YthhfelijalmgkaaGreatDoorKPn
import Derived.Test.YthhfelijalmgkaaGreatDoorKPv
import Derived.Test.YthhfelijalmgkaaGreatDoorKQ5
import Derived.Test.YthhfelijalmgkaaGreatDoorKSR
namespace Go.Proofs.YthhfelijalmgkaaGreatDoor
open Go.RowKit

/-- the digits of n, with noughts ahead where there are no more than k of them -/
def dpad (n k : Nat) : List UInt8 := List.replicate (k + 1 - (Lib.decDigits n).length) 48 ++ Lib.decDigits n
theorem rep_one (m : Nat) : Lib.repeatL [48] m = List.replicate m 48 := by
  induction m with
  | zero => rfl
  | succ m ih => rw [Lib.repeatL, ih, List.replicate_succ]; rfl
theorem digits_noughts (m : Nat) : Digits (List.replicate m 48) := fun d h => by
  have := List.eq_of_mem_replicate h
  subst this
  decide
theorem dval_noughts (m : Nat) : dval (List.replicate m 48) = 0 := by
  induction m with
  | zero => rfl
  | succ m ih => rw [List.replicate_succ, dval_cons, ih]; simp
theorem dpad_digits (n k : Nat) : Digits (dpad n k) := fun d h => by
  rcases List.mem_append.1 h with h | h
  · exact digits_noughts _ d h
  · exact (dec_digits n).1 d h
theorem dpad_val (n k : Nat) : dval (dpad n k) = n := by
  unfold dpad
  rw [dval_append, dval_noughts, (dec_digits n).2.1]
  omega
theorem dpad_length (n k : Nat) : (dpad n k).length = (k + 1 - (Lib.decDigits n).length) + (Lib.decDigits n).length := by
  unfold dpad
  rw [List.length_append, List.length_replicate]
theorem dpad_long (n k : Nat) (h : k < (Lib.decDigits n).length) : dpad n k = Lib.decDigits n := by
  unfold dpad
  rw [show k + 1 - (Lib.decDigits n).length = 0 from by omega]
  rfl
theorem dec_upto (n m : Nat) (hm : 0 < m) (h : n < 10 ^ m) : (Lib.decDigits n).length ≤ m := by
  rcases Nat.eq_zero_or_pos n with rfl | h0
  · rw [Lib.decDigits_length, Lib.nDigits_small (by omega)]; omega
  · rw [← rdig_rev n h0, List.length_reverse]; exact rdig_length n m h
theorem extract_take (t : ByteArray) (j : Nat) (_h : j ≤ t.size) : (t.extract 0 j).data.toList = t.data.toList.take j := by
  rw [ByteArray.data_extract, Array.toList_extract, List.extract_eq_take_drop, List.drop_zero, Nat.sub_zero]
theorem below_pow (n a b : Nat) (h : n < 10 ^ a) (hab : a ≤ b) : n < 10 ^ b := Nat.lt_of_lt_of_le h (Nat.pow_le_pow_right (by omega) hab)
/-- a decimal's text: a sign, digits, and k of them behind a point -/
def DecTxt (n k : Nat) (s : Bool) (t : ByteArray) : Prop := t.data.toList = sg s ++ (dpad n k).take ((dpad n k).length - k) ++ (if k = 0 then [] else 46 :: (dpad n k).drop ((dpad n k).length - k))
theorem dec_point (n k q e : Nat) (s : Bool) (dd : ByteArray) (hd : dd.data.toList = dpad n k) (hs : dd.size = q + k) (he : e = q + k) (hk : 0 < k) (t : ByteArray) (ht : t = (if s then ⟨#[45]⟩ ++ (dd.extract 0 q ++ (⟨#[46]⟩ ++ dd.extract q e)) else dd.extract 0 q ++ (⟨#[46]⟩ ++ dd.extract q e))) : DecTxt n k s t := by
  have hl : (dpad n k).length - k = q := by rw [← size_list hd, hs]; omega
  have h1 := extract_take dd q (by omega)
  have h2 := extract_drop dd q
  rw [hs, ← he] at h2
  rw [hd] at h1 h2
  unfold DecTxt
  rw [hl, if_neg (by omega), ht]
  cases s
  · simp only [Bool.false_eq_true, if_false, sg, ba_list, h1, h2, List.nil_append]
    rfl
  · simp only [if_true, sg, ba_list, h1, h2, List.append_assoc]
    rfl
theorem dec_plain (n q : Nat) (s : Bool) (dd : ByteArray) (hd : dd.data.toList = dpad n 0) (hs : dd.size = q) (t : ByteArray) (ht : t = (if s then ⟨#[45]⟩ ++ dd.extract 0 q else dd.extract 0 q)) : DecTxt n 0 s t := by
  have hl : (dpad n 0).length - 0 = q := by rw [← size_list hd, hs]; omega
  have h1 := extract_take dd q (by omega)
  rw [hd] at h1
  unfold DecTxt
  rw [hl, if_pos rfl, ht, List.append_nil]
  cases s
  · simp only [Bool.false_eq_true, if_false, sg, h1, List.nil_append]
  · simp only [if_true, sg, ba_list, h1]
end Go.Proofs.YthhfelijalmgkaaGreatDoor

namespace Go.Proofs.YthhfelijalmgkaaGreatDoor
open Go.RowKit

theorem cross_sub (f g : Rat) : (f - g).num * (f.den * g.den : Nat) = (f.num * g.den - g.num * f.den) * (f - g).den := by
  have h := cross_add f (-g)
  rw [← Rat.sub_eq_add_neg] at h
  simp only [Rat.neg_num, Rat.neg_den] at h
  rw [h]
  grind
/-- the part above the whole, doubled, against its whole -/
theorem tw2_cross (g : Rat) : (tw2 g).num * (g.den : Int) = 2 * (g.num % (g.den : Int)) * ((tw2 g).den : Int) := by
  have hd := den_pos g
  obtain ⟨i1, i2⟩ := int_num (fl g)
  obtain ⟨j1, j2⟩ := int_num 2
  have h1 := cross_sub g ((fl g : Int) : Rat)
  have h2 := cross_mul (g - ((fl g : Int) : Rat)) ((2 : Int) : Rat)
  rw [i1, i2] at h1
  rw [j1, j2] at h2
  have h3 : g.num - fl g * (g.den : Int) = g.num % (g.den : Int) := by
    unfold fl
    have := Int.emod_add_mul_ediv g.num (g.den : Int)
    grind
  have hs := den_pos (g - ((fl g : Int) : Rat))
  have ht := den_pos (tw2 g)
  change (tw2 g).num * _ = _ * ((tw2 g).den : Int) at h2
  generalize (g - ((fl g : Int) : Rat)).num = sn at *
  generalize (g - ((fl g : Int) : Rat)).den = sd at *
  generalize (tw2 g).num = tn at *
  generalize (tw2 g).den = td at *
  simp only [Nat.mul_one, Int.natCast_one, Int.mul_one] at h1 h2
  rw [h3] at h1
  have hs' : (sd : Int) ≠ 0 := by omega
  have h4 : tn * (g.den : Int) * (sd : Int) = 2 * (g.num % (g.den : Int)) * (td : Int) * (sd : Int) := by grind
  exact Int.eq_of_mul_eq_mul_right hs' h4
theorem near_half (g : Rat) : 2 * (nearZ g * (g.den : Int) - g.num) ≤ (g.den : Int) ∧ -(g.den : Int) ≤ 2 * (nearZ g * (g.den : Int) - g.num) := by
  have hd := den_pos g
  have ht := den_pos (tw2 g)
  have hc := tw2_cross g
  obtain ⟨o1, o2⟩ := int_num 1
  have h3 := Int.emod_add_mul_ediv g.num (g.den : Int)
  have h4 := Int.emod_nonneg g.num (show (g.den : Int) ≠ 0 by omega)
  have h5 := Int.emod_lt_of_pos g.num (show (0 : Int) < (g.den : Int) by omega)
  have hfl : fl g * (g.den : Int) = (g.den : Int) * (g.num / (g.den : Int)) := by unfold fl; rw [Int.mul_comm]
  have hup : up g = true → (g.den : Int) ≤ 2 * (g.num % (g.den : Int)) := by
    unfold up cmpZ
    rw [o1, o2]
    intro h
    have h6 : (tw2 g).den ≤ (tw2 g).num := by
      simp only [Int.natCast_one, Int.mul_one, Int.one_mul] at h
      by_cases h7 : (tw2 g).num < ((tw2 g).den : Int)
      · simp [h7] at h
      · omega
    have h7 := Int.mul_le_mul_of_nonneg_right h6 (show (0 : Int) ≤ (g.den : Int) by omega)
    rw [hc, Int.mul_comm] at h7
    exact Int.le_of_mul_le_mul_right h7 (by omega)
  have hdn : up g = false → 2 * (g.num % (g.den : Int)) ≤ (g.den : Int) := by
    unfold up cmpZ
    rw [o1, o2]
    intro h
    have h6 : (tw2 g).num ≤ (tw2 g).den := by
      simp only [Int.natCast_one, Int.mul_one, Int.one_mul] at h
      by_cases h7 : (tw2 g).num < ((tw2 g).den : Int)
      · omega
      · by_cases h8 : (tw2 g).num = ((tw2 g).den : Int)
        · omega
        · simp [h7, h8] at h
    have h7 := Int.mul_le_mul_of_nonneg_right h6 (show (0 : Int) ≤ (g.den : Int) by omega)
    rw [hc, Int.mul_comm ((tw2 g).den : Int)] at h7
    exact Int.le_of_mul_le_mul_right h7 (by omega)
  unfold nearZ
  generalize (g.num % (g.den : Int)) = r at *
  cases hu : up g
  · have := hdn hu
    simp only [Bool.false_eq_true, if_false]
    rw [hfl]
    omega
  · have := hup hu
    simp only [if_true]
    rw [Int.add_mul, hfl]
    omega
/-- a fraction d that is N parts of P; f, of which N is the nearest: their distance, doubled, is at most a part of P -/
theorem dec_near (f d : Rat) (P : Nat) (_hP : 0 < P) (hd : d.num * (P : Int) = nearZ (f * (((P : Nat) : Int) : Rat)) * (d.den : Int)) :
    2 * (d - f).num * (P : Int) ≤ ((d - f).den : Int) ∧ -((d - f).den : Int) ≤ 2 * (d - f).num * (P : Int) := by
  obtain ⟨n1, n2⟩ := near_half (f * (((P : Nat) : Int) : Rat))
  obtain ⟨i1, i2⟩ := int_num ((P : Nat) : Int)
  have hm := cross_mul f (((P : Nat) : Int) : Rat)
  rw [i1, i2] at hm
  have hs := cross_sub d f
  have h1 := den_pos f
  have h2 := den_pos d
  have h3 := den_pos (f * (((P : Nat) : Int) : Rat))
  have h4 := den_pos (d - f)
  generalize nearZ (f * (((P : Nat) : Int) : Rat)) = N at *
  generalize (f * (((P : Nat) : Int) : Rat)).num = gn at *
  generalize (f * (((P : Nat) : Int) : Rat)).den = gd at *
  generalize (d - f).num = on at *
  generalize (d - f).den = od at *
  generalize f.num = fn at *
  generalize f.den = fd at *
  generalize d.num = dn at *
  generalize d.den = dd at *
  simp only [Nat.mul_one, Int.natCast_mul] at hm hs
  have e1 : on * (P : Int) * (fd : Int) = (N * (fd : Int) - fn * (P : Int)) * (od : Int) := by
    refine Int.eq_of_mul_eq_mul_right (show (dd : Int) ≠ 0 by omega) ?_
    grind
  have e2 : (N * (gd : Int) - gn) * (fd : Int) = (N * (fd : Int) - fn * (P : Int)) * (gd : Int) := by grind
  have m1 : 2 * (N * (fd : Int) - fn * (P : Int)) ≤ (fd : Int) := by
    have h5 := Int.mul_le_mul_of_nonneg_right n1 (show (0 : Int) ≤ (fd : Int) by omega)
    refine Int.le_of_mul_le_mul_right (a := (gd : Int)) ?_ (by omega)
    grind
  have m2 : -(fd : Int) ≤ 2 * (N * (fd : Int) - fn * (P : Int)) := by
    have h5 := Int.mul_le_mul_of_nonneg_right n2 (show (0 : Int) ≤ (fd : Int) by omega)
    refine Int.le_of_mul_le_mul_right (a := (gd : Int)) ?_ (by omega)
    grind
  refine ⟨?_, ?_⟩
  · have h5 := Int.mul_le_mul_of_nonneg_right m1 (show (0 : Int) ≤ (od : Int) by omega)
    refine Int.le_of_mul_le_mul_right (a := (fd : Int)) ?_ (by omega)
    grind
  · have h5 := Int.mul_le_mul_of_nonneg_right m2 (show (0 : Int) ≤ (od : Int) by omega)
    refine Int.le_of_mul_le_mul_right (a := (fd : Int)) ?_ (by omega)
    grind
/-- a fraction doubled, against a part of P -/
theorem twice_cmp (o t : Rat) (P : Nat) (h : 2 * o.num * (P : Int) ≤ (o.den : Int)) (t1 : t.num = 1) (t2 : t.den = P) : cmpZ ((o + o).num * (t.den : Int)) (t.num * ((o + o).den : Int)) ≤ 0 := by
  have hc := cross_add o o
  have h1 := den_pos o
  have h2 := den_pos (o + o)
  rw [t1, t2]
  generalize (o + o).num = an at *
  generalize (o + o).den = ad at *
  generalize o.num = on at *
  generalize o.den = od at *
  simp only [Int.natCast_mul] at hc
  have e : an * (od : Int) = 2 * on * (ad : Int) := by
    refine Int.eq_of_mul_eq_mul_right (show (od : Int) ≠ 0 by omega) ?_
    grind
  have h3 : an * (P : Int) ≤ 1 * (ad : Int) := by
    have h5 := Int.mul_le_mul_of_nonneg_right h (show (0 : Int) ≤ (ad : Int) by omega)
    refine Int.le_of_mul_le_mul_right (a := (od : Int)) ?_ (by omega)
    have e3 : an * (P : Int) * (od : Int) = 2 * on * (P : Int) * (ad : Int) := by rw [Int.mul_right_comm, e]; exact Int.mul_right_comm _ _ _
    rw [e3, Int.one_mul, Int.mul_comm (ad : Int)]
    exact h5
  unfold cmpZ
  by_cases h4 : an * (P : Int) < 1 * (ad : Int)
  · rw [if_pos h4]; omega
  · rw [if_neg h4, if_pos (by omega)]; omega
/-- N parts of P -/
theorem parts (N : Int) (P : Nat) (hP : P ≠ 0) : (mkRat N P).num * (P : Int) = N * ((mkRat N P).den : Int) := by
  have h := Rat.mkRat_self (mkRat N P)
  exact (Rat.mkRat_eq_iff (mkRat N P).den_nz hP).1 h
theorem near_bound (g : Rat) (m : Nat) (_hm : 0 < m) (h : g.num.natAbs ≤ m * g.den) : (nearZ g).natAbs ≤ m + 1 := by
  have hd := den_pos g
  obtain ⟨n1, n2⟩ := near_half g
  have h1 : (nearZ g * (g.den : Int)).natAbs ≤ (m + 1) * g.den := by
    rw [Nat.add_mul, Nat.one_mul]
    generalize m * g.den = x at *
    omega
  rw [Int.natAbs_mul, Int.natAbs_natCast] at h1
  exact Nat.le_of_mul_le_mul_right h1 hd
end Go.Proofs.YthhfelijalmgkaaGreatDoor
