/- The nearest whole number is whole (plain). -/
import Derived.Test.YtlnacciciafliaaGreatDoorKQ4
namespace Go.Proofs.YtlnacciciafliaaGreatDoor
open Go.RowKit

/-- the nearest whole number is whole -/
def nearZ (f : Rat) : Int := if up f then fl f + 1 else fl f
theorem near_whole (f : Rat) : nearR f = ((nearZ f : Int) : Rat) := by
  unfold nearR nearZ
  by_cases h : up f = true
  · rw [if_pos h, if_pos h, Rat.intCast_add]
  · rw [if_neg h, if_neg h]
end Go.Proofs.YtlnacciciafliaaGreatDoor

namespace Go.Proofs.YtlnacciciafliaaGreatDoor
open Go.RowKit

theorem cross_sub (f g : Rat) : (f - g).num * (f.den * g.den : Nat) = (f.num * g.den - g.num * f.den) * (f - g).den := by
  have h := cross_add f (-g)
  rw [← Rat.sub_eq_add_neg] at h
  simp only [Rat.neg_num, Rat.neg_den] at h
  rw [h]
  grind
/-- the part above the whole, doubled, against its whole -/
theorem tw2_cross (g : Rat) : (tw2 g).num * (g.den : Int) = 2 * (g.num % (g.den : Int)) * ((tw2 g).den : Int) := by
  have hd := den_pos g
  obtain ⟨i1, i2⟩ := int_num (fl g)
  obtain ⟨j1, j2⟩ := int_num 2
  have h1 := cross_sub g ((fl g : Int) : Rat)
  have h2 := cross_mul (g - ((fl g : Int) : Rat)) ((2 : Int) : Rat)
  rw [i1, i2] at h1
  rw [j1, j2] at h2
  have h3 : g.num - fl g * (g.den : Int) = g.num % (g.den : Int) := by
    unfold fl
    have := Int.emod_add_mul_ediv g.num (g.den : Int)
    grind
  have hs := den_pos (g - ((fl g : Int) : Rat))
  have ht := den_pos (tw2 g)
  change (tw2 g).num * _ = _ * ((tw2 g).den : Int) at h2
  generalize (g - ((fl g : Int) : Rat)).num = sn at *
  generalize (g - ((fl g : Int) : Rat)).den = sd at *
  generalize (tw2 g).num = tn at *
  generalize (tw2 g).den = td at *
  simp only [Nat.mul_one, Int.natCast_one, Int.mul_one] at h1 h2
  rw [h3] at h1
  have hs' : (sd : Int) ≠ 0 := by omega
  have h4 : tn * (g.den : Int) * (sd : Int) = 2 * (g.num % (g.den : Int)) * (td : Int) * (sd : Int) := by grind
  exact Int.eq_of_mul_eq_mul_right hs' h4
theorem near_half (g : Rat) : 2 * (nearZ g * (g.den : Int) - g.num) ≤ (g.den : Int) ∧ -(g.den : Int) ≤ 2 * (nearZ g * (g.den : Int) - g.num) := by
  have hd := den_pos g
  have ht := den_pos (tw2 g)
  have hc := tw2_cross g
  obtain ⟨o1, o2⟩ := int_num 1
  have h3 := Int.emod_add_mul_ediv g.num (g.den : Int)
  have h4 := Int.emod_nonneg g.num (show (g.den : Int) ≠ 0 by omega)
  have h5 := Int.emod_lt_of_pos g.num (show (0 : Int) < (g.den : Int) by omega)
  have hfl : fl g * (g.den : Int) = (g.den : Int) * (g.num / (g.den : Int)) := by unfold fl; rw [Int.mul_comm]
  have hup : up g = true → (g.den : Int) ≤ 2 * (g.num % (g.den : Int)) := by
    unfold up cmpZ
    rw [o1, o2]
    intro h
    have h6 : (tw2 g).den ≤ (tw2 g).num := by
      simp only [Int.natCast_one, Int.mul_one, Int.one_mul] at h
      by_cases h7 : (tw2 g).num < ((tw2 g).den : Int)
      · simp [h7] at h
      · omega
    have h7 := Int.mul_le_mul_of_nonneg_right h6 (show (0 : Int) ≤ (g.den : Int) by omega)
    rw [hc, Int.mul_comm] at h7
    exact Int.le_of_mul_le_mul_right h7 (by omega)
  have hdn : up g = false → 2 * (g.num % (g.den : Int)) ≤ (g.den : Int) := by
    unfold up cmpZ
    rw [o1, o2]
    intro h
    have h6 : (tw2 g).num ≤ (tw2 g).den := by
      simp only [Int.natCast_one, Int.mul_one, Int.one_mul] at h
      by_cases h7 : (tw2 g).num < ((tw2 g).den : Int)
      · omega
      · by_cases h8 : (tw2 g).num = ((tw2 g).den : Int)
        · omega
        · simp [h7, h8] at h
    have h7 := Int.mul_le_mul_of_nonneg_right h6 (show (0 : Int) ≤ (g.den : Int) by omega)
    rw [hc, Int.mul_comm ((tw2 g).den : Int)] at h7
    exact Int.le_of_mul_le_mul_right h7 (by omega)
  unfold nearZ
  generalize (g.num % (g.den : Int)) = r at *
  cases hu : up g
  · have := hdn hu
    simp only [Bool.false_eq_true, if_false]
    rw [hfl]
    omega
  · have := hup hu
    simp only [if_true]
    rw [Int.add_mul, hfl]
    omega
/-- a fraction d that is N parts of P; f, of which N is the nearest: their distance, doubled, is at most a part of P -/
theorem dec_near (f d : Rat) (P : Nat) (_hP : 0 < P) (hd : d.num * (P : Int) = nearZ (f * (((P : Nat) : Int) : Rat)) * (d.den : Int)) :
    2 * (d - f).num * (P : Int) ≤ ((d - f).den : Int) ∧ -((d - f).den : Int) ≤ 2 * (d - f).num * (P : Int) := by
  obtain ⟨n1, n2⟩ := near_half (f * (((P : Nat) : Int) : Rat))
  obtain ⟨i1, i2⟩ := int_num ((P : Nat) : Int)
  have hm := cross_mul f (((P : Nat) : Int) : Rat)
  rw [i1, i2] at hm
  have hs := cross_sub d f
  have h1 := den_pos f
  have h2 := den_pos d
  have h3 := den_pos (f * (((P : Nat) : Int) : Rat))
  have h4 := den_pos (d - f)
  generalize nearZ (f * (((P : Nat) : Int) : Rat)) = N at *
  generalize (f * (((P : Nat) : Int) : Rat)).num = gn at *
  generalize (f * (((P : Nat) : Int) : Rat)).den = gd at *
  generalize (d - f).num = on at *
  generalize (d - f).den = od at *
  generalize f.num = fn at *
  generalize f.den = fd at *
  generalize d.num = dn at *
  generalize d.den = dd at *
  simp only [Nat.mul_one, Int.natCast_mul] at hm hs
  have e1 : on * (P : Int) * (fd : Int) = (N * (fd : Int) - fn * (P : Int)) * (od : Int) := by
    refine Int.eq_of_mul_eq_mul_right (show (dd : Int) ≠ 0 by omega) ?_
    grind
  have e2 : (N * (gd : Int) - gn) * (fd : Int) = (N * (fd : Int) - fn * (P : Int)) * (gd : Int) := by grind
  have m1 : 2 * (N * (fd : Int) - fn * (P : Int)) ≤ (fd : Int) := by
    have h5 := Int.mul_le_mul_of_nonneg_right n1 (show (0 : Int) ≤ (fd : Int) by omega)
    refine Int.le_of_mul_le_mul_right (a := (gd : Int)) ?_ (by omega)
    grind
  have m2 : -(fd : Int) ≤ 2 * (N * (fd : Int) - fn * (P : Int)) := by
    have h5 := Int.mul_le_mul_of_nonneg_right n2 (show (0 : Int) ≤ (fd : Int) by omega)
    refine Int.le_of_mul_le_mul_right (a := (gd : Int)) ?_ (by omega)
    grind
  refine ⟨?_, ?_⟩
  · have h5 := Int.mul_le_mul_of_nonneg_right m1 (show (0 : Int) ≤ (od : Int) by omega)
    refine Int.le_of_mul_le_mul_right (a := (fd : Int)) ?_ (by omega)
    grind
  · have h5 := Int.mul_le_mul_of_nonneg_right m2 (show (0 : Int) ≤ (od : Int) by omega)
    refine Int.le_of_mul_le_mul_right (a := (fd : Int)) ?_ (by omega)
    grind
/-- a fraction doubled, against a part of P -/
theorem twice_cmp (o t : Rat) (P : Nat) (h : 2 * o.num * (P : Int) ≤ (o.den : Int)) (t1 : t.num = 1) (t2 : t.den = P) : cmpZ ((o + o).num * (t.den : Int)) (t.num * ((o + o).den : Int)) ≤ 0 := by
  have hc := cross_add o o
  have h1 := den_pos o
  have h2 := den_pos (o + o)
  rw [t1, t2]
  generalize (o + o).num = an at *
  generalize (o + o).den = ad at *
  generalize o.num = on at *
  generalize o.den = od at *
  simp only [Int.natCast_mul] at hc
  have e : an * (od : Int) = 2 * on * (ad : Int) := by
    refine Int.eq_of_mul_eq_mul_right (show (od : Int) ≠ 0 by omega) ?_
    grind
  have h3 : an * (P : Int) ≤ 1 * (ad : Int) := by
    have h5 := Int.mul_le_mul_of_nonneg_right h (show (0 : Int) ≤ (ad : Int) by omega)
    refine Int.le_of_mul_le_mul_right (a := (od : Int)) ?_ (by omega)
    have e3 : an * (P : Int) * (od : Int) = 2 * on * (P : Int) * (ad : Int) := by rw [Int.mul_right_comm, e]; exact Int.mul_right_comm _ _ _
    rw [e3, Int.one_mul, Int.mul_comm (ad : Int)]
    exact h5
  unfold cmpZ
  by_cases h4 : an * (P : Int) < 1 * (ad : Int)
  · rw [if_pos h4]; omega
  · rw [if_neg h4, if_pos (by omega)]; omega
/-- N parts of P -/
theorem parts (N : Int) (P : Nat) (hP : P ≠ 0) : (mkRat N P).num * (P : Int) = N * ((mkRat N P).den : Int) := by
  have h := Rat.mkRat_self (mkRat N P)
  exact (Rat.mkRat_eq_iff (mkRat N P).den_nz hP).1 h
theorem near_bound (g : Rat) (m : Nat) (_hm : 0 < m) (h : g.num.natAbs ≤ m * g.den) : (nearZ g).natAbs ≤ m + 1 := by
  have hd := den_pos g
  obtain ⟨n1, n2⟩ := near_half g
  have h1 : (nearZ g * (g.den : Int)).natAbs ≤ (m + 1) * g.den := by
    rw [Nat.add_mul, Nat.one_mul]
    generalize m * g.den = x at *
    omega
  rw [Int.natAbs_mul, Int.natAbs_natCast] at h1
  exact Nat.le_of_mul_le_mul_right h1 hd
end Go.Proofs.YtlnacciciafliaaGreatDoor

namespace Go.Proofs.YtlnacciciafliaaGreatDoor
open Go.RowKit

theorem farey (O1 Ob P : Int) (u1 ub Q most : Nat) (hd : O1 * (ub : Int) - Ob * (u1 : Int) = 1 ∨ O1 * (ub : Int) - Ob * (u1 : Int) = -1) (hs : most < u1 + ub) (hQ0 : 0 < Q) (hQ : Q ≤ most) :
    (P * (u1 : Int) ≤ O1 * (Q : Int) ∧ P * (ub : Int) ≤ Ob * (Q : Int)) ∨ (O1 * (Q : Int) ≤ P * (u1 : Int) ∧ Ob * (Q : Int) ≤ P * (ub : Int)) := by
  have key : ∀ (U V : Int), 1 ≤ U → 1 ≤ V → (u1 : Int) + (ub : Int) ≤ U * (ub : Int) + V * (u1 : Int) := fun U V hU hV => by
    have h1 := Int.mul_le_mul_of_nonneg_right hU (show (0 : Int) ≤ (ub : Int) by omega)
    have h2 := Int.mul_le_mul_of_nonneg_right hV (show (0 : Int) ≤ (u1 : Int) by omega)
    omega
  have e : (P * (u1 : Int) - O1 * (Q : Int)) * (ub : Int) + (Ob * (Q : Int) - P * (ub : Int)) * (u1 : Int) = -((O1 * (ub : Int) - Ob * (u1 : Int)) * (Q : Int)) := by grind
  by_cases h1 : P * (u1 : Int) ≤ O1 * (Q : Int)
  · by_cases h2 : P * (ub : Int) ≤ Ob * (Q : Int)
    · exact .inl ⟨h1, h2⟩
    · by_cases h3 : O1 * (Q : Int) ≤ P * (u1 : Int)
      · exact .inr ⟨h3, by omega⟩
      · exfalso
        have h4 := key (-(P * (u1 : Int) - O1 * (Q : Int))) (-(Ob * (Q : Int) - P * (ub : Int))) (by omega) (by omega)
        rcases hd with hd | hd <;> rw [hd] at e <;> grind
  · by_cases h2 : Ob * (Q : Int) ≤ P * (ub : Int)
    · exact .inr ⟨by omega, h2⟩
    · exfalso
      have h4 := key (P * (u1 : Int) - O1 * (Q : Int)) (Ob * (Q : Int) - P * (ub : Int)) (by omega) (by omega)
      rcases hd with hd | hd <;> rw [hd] at e <;> grind
/-- the number beside which the lesser part lies -/
theorem between (f r : Rat) (O0 O1 : Rat) (u0 u1 m : Rat) (hE : f * (u1 + u0 * r) = O1 + O0 * r) (hr : 0 < r) (hm : r * m ≤ 1) :
    (f * u1 ≤ O1 ∧ O0 + m * O1 ≤ f * (u0 + m * u1)) ∨ (O1 ≤ f * u1 ∧ f * (u0 + m * u1) ≤ O0 + m * O1) := by
  have hA : f * u1 - O1 = -((f * u0 - O0) * r) := by grind
  have hB : f * (u0 + m * u1) - (O0 + m * O1) = (f * u0 - O0) * (1 - r * m) := by grind
  have hr' : 0 ≤ r := by grind
  have hm' : 0 ≤ 1 - r * m := by grind
  generalize f * u0 - O0 = L at *
  rcases Rat.le_total (a := 0) (b := L) with h | h
  · have h1 := Rat.mul_nonneg h hr'
    have h2 := Rat.mul_nonneg h hm'
    left
    constructor
    · grind
    · grind
  · have h0 : 0 ≤ -L := by grind
    have h1 := Rat.mul_nonneg h0 hr'
    have h2 := Rat.mul_nonneg h0 hm'
    right
    constructor
    · grind
    · grind
/-- the distance -/
def dist (x f : Rat) : Rat := absR (x - f)
theorem num_neg (x : Rat) : x.num < 0 ↔ x < 0 := by
  rw [Rat.lt_iff]
  simp
theorem dist_cases (x f : Rat) : (x ≤ f ∧ dist x f = f - x) ∨ (f ≤ x ∧ dist x f = x - f) := by
  unfold dist absR
  by_cases h : (x - f).num < 0
  · rw [if_pos h]
    have := (num_neg _).1 h
    left
    constructor <;> grind
  · rw [if_neg h]
    have h2 : ¬ x - f < 0 := fun e => h ((num_neg _).2 e)
    right
    constructor <;> grind
/-- what is not between two is no nearer than the nearer one -/
theorem outside (f a b v y : Rat) (hf : (f ≤ a ∧ b ≤ f) ∨ (a ≤ f ∧ f ≤ b)) (hy : (y ≤ a ∧ y ≤ b) ∨ (a ≤ y ∧ b ≤ y)) (h1 : dist v f ≤ dist a f) (h2 : dist v f ≤ dist b f) : dist v f ≤ dist y f := by
  have ca := dist_cases a f
  have cb := dist_cases b f
  have cy := dist_cases y f
  generalize dist v f = dv at *
  generalize dist a f = da at *
  generalize dist b f = db at *
  generalize dist y f = dy at *
  grind
theorem cmp_le (x y : Rat) : cmpZ (x.num * (y.den : Int)) (y.num * (x.den : Int)) ≤ 0 ↔ x ≤ y := by
  rw [Rat.le_iff]
  unfold cmpZ
  constructor
  · intro h
    by_cases h1 : x.num * (y.den : Int) < y.num * (x.den : Int)
    · omega
    · rw [if_neg h1] at h
      by_cases h2 : x.num * (y.den : Int) = y.num * (x.den : Int)
      · omega
      · rw [if_neg h2] at h; omega
  · intro h
    by_cases h1 : x.num * (y.den : Int) < y.num * (x.den : Int)
    · rw [if_pos h1]; omega
    · rw [if_neg h1, if_pos (by omega)]; omega
theorem den_cast (x : Rat) : x * ((x.den : Int) : Rat) = ((x.num : Int) : Rat) := by
  obtain ⟨i1, i2⟩ := int_num (x.den : Int)
  obtain ⟨j1, j2⟩ := int_num x.num
  have h := cross_mul x ((x.den : Int) : Rat)
  rw [i1, i2, Nat.mul_one] at h
  have hd := den_pos x
  obtain ⟨e1, e2⟩ := rat_of_coprime x.num 1 (by omega) (by simp) (x * ((x.den : Int) : Rat)) (by
    refine Int.eq_of_mul_eq_mul_right (show (x.den : Int) ≠ 0 by omega) ?_
    grind)
  exact Rat.ext (by rw [e1, j1]) (by rw [e2, j2])
theorem nat_pos (u : Nat) (hu : 0 < u) : (0 : Rat) < ((u : Int) : Rat) := by
  have : ((0 : Int) : Rat) < ((u : Int) : Rat) := Rat.intCast_lt_intCast.2 (by omega)
  simpa using this
theorem part_mul (O : Int) (u : Nat) (hu : 0 < u) : (O : Rat) * (((u : Int) : Rat))⁻¹ * ((u : Int) : Rat) = (O : Rat) := by
  have h := nat_pos u hu
  rw [Rat.mul_assoc, Rat.inv_mul_cancel _ (by grind), Rat.mul_one]
/-- y against O / u, by its own numbers -/
theorem le_part (y : Rat) (O : Int) (u : Nat) (hu : 0 < u) (h : y.num * (u : Int) ≤ O * (y.den : Int)) : y ≤ (O : Rat) * (((u : Int) : Rat))⁻¹ := by
  have h1 := den_cast y
  have h2 := part_mul O u hu
  have h3 := nat_pos u hu
  have h4 := nat_pos y.den (den_pos y)
  have h5 : ((y.num * (u : Int) : Int) : Rat) ≤ ((O * (y.den : Int) : Int) : Rat) := Rat.intCast_le_intCast.2 h
  rw [Rat.intCast_mul, Rat.intCast_mul, ← h1, ← h2] at h5
  generalize (O : Rat) * (((u : Int) : Rat))⁻¹ = c at *
  generalize ((u : Int) : Rat) = U at *
  generalize ((y.den : Int) : Rat) = D at *
  refine Rat.le_of_mul_le_mul_right (c := D * U) ?_ (Rat.mul_pos h4 h3)
  grind
theorem part_le (y : Rat) (O : Int) (u : Nat) (hu : 0 < u) (h : O * (y.den : Int) ≤ y.num * (u : Int)) : (O : Rat) * (((u : Int) : Rat))⁻¹ ≤ y := by
  have h1 := den_cast y
  have h2 := part_mul O u hu
  have h3 := nat_pos u hu
  have h4 := nat_pos y.den (den_pos y)
  have h5 : ((O * (y.den : Int) : Int) : Rat) ≤ ((y.num * (u : Int) : Int) : Rat) := Rat.intCast_le_intCast.2 h
  rw [Rat.intCast_mul, Rat.intCast_mul, ← h1, ← h2] at h5
  generalize (O : Rat) * (((u : Int) : Rat))⁻¹ = c at *
  generalize ((u : Int) : Rat) = U at *
  generalize ((y.den : Int) : Rat) = D at *
  refine Rat.le_of_mul_le_mul_right (c := D * U) ?_ (Rat.mul_pos h4 h3)
  grind
theorem rat_le_part (f : Rat) (O : Int) (u : Nat) (hu : 0 < u) (h : f * ((u : Int) : Rat) ≤ (O : Rat)) : f ≤ (O : Rat) * (((u : Int) : Rat))⁻¹ := by
  have h2 := part_mul O u hu
  have h3 := nat_pos u hu
  refine Rat.le_of_mul_le_mul_right (c := ((u : Int) : Rat)) ?_ h3
  rw [h2]
  exact h
theorem part_le_rat (f : Rat) (O : Int) (u : Nat) (hu : 0 < u) (h : (O : Rat) ≤ f * ((u : Int) : Rat)) : (O : Rat) * (((u : Int) : Rat))⁻¹ ≤ f := by
  have h2 := part_mul O u hu
  have h3 := nat_pos u hu
  refine Rat.le_of_mul_le_mul_right (c := ((u : Int) : Rat)) ?_ h3
  rw [h2]
  exact h
end Go.Proofs.YtlnacciciafliaaGreatDoor

namespace Go.Proofs.YtlnacciciafliaaGreatDoor
open Go.RowKit

/-- what is above the whole -/
theorem rest_facts (g : Rat) : (g - ((fl g : Int) : Rat)).num = g.num % (g.den : Int) ∧ (g - ((fl g : Int) : Rat)).den = g.den := by
  have hd := den_pos g
  obtain ⟨i1, i2⟩ := int_num (fl g)
  have h := cross_sub g ((fl g : Int) : Rat)
  rw [i1, i2, Nat.mul_one] at h
  have h3 : g.num - fl g * (g.den : Int) = g.num % (g.den : Int) := by
    unfold fl
    have := Int.emod_add_mul_ediv g.num (g.den : Int)
    grind
  simp only [Int.natCast_one, Int.mul_one] at h
  rw [h3] at h
  refine rat_of_coprime _ _ (by omega) ?_ _ h
  have h5 : Int.gcd (g.num - fl g * (g.den : Int)) (g.den : Int) = Int.gcd g.num (g.den : Int) := Int.gcd_sub_mul_right_left _ _ _
  rw [h3] at h5
  have hr := g.reduced
  unfold Nat.Coprime at hr ⊢
  unfold Int.gcd at h5
  rw [Int.natAbs_natCast] at h5
  rw [h5, hr]
theorem fl_le (g : Rat) : ((fl g : Int) : Rat) ≤ g := by
  obtain ⟨h1, h2⟩ := rest_facts g
  have h3 := Int.emod_nonneg g.num (show (g.den : Int) ≠ 0 by have := den_pos g; omega)
  have h4 : ¬ (g - ((fl g : Int) : Rat)) < 0 := fun e => by
    have := (num_neg _).2 e
    omega
  grind

/-- how far the continued fraction has come -/
structure Nb (f : Rat) (most K : Nat) (O0 O1 : Int) (u0 u1 : Nat) (r : Rat) : Prop where
  eq : f * (((u1 : Int) : Rat) + ((u0 : Int) : Rat) * r) = (O1 : Rat) + (O0 : Rat) * r
  det : O1 * (u0 : Int) - O0 * (u1 : Int) = 1 ∨ O1 * (u0 : Int) - O0 * (u1 : Int) = -1
  u1p : 0 < u1
  u1m : u1 ≤ most
  u0m : u0 ≤ most
  r0 : 0 ≤ r.num
  r1 : r.num < (r.den : Int)
  rd : r.den ≤ f.den
  s1 : O1.natAbs ≤ K * u1
  s0 : (0 < u0 ∧ O0.natAbs ≤ K * u0) ∨ (u0 = 0 ∧ u1 = 1 ∧ O0 = 1 ∧ O1.natAbs + 1 ≤ K)
theorem Nb.start (f : Rat) (most : Nat) (hm : 0 < most) : Nb f most ((fl f).natAbs + 1) 1 (fl f) 0 1 (f - ((fl f : Int) : Rat)) := by
  obtain ⟨h1, h2⟩ := rest_facts f
  have hd := den_pos f
  have h3 := Int.emod_nonneg f.num (show (f.den : Int) ≠ 0 by omega)
  have h5 := Int.emod_lt_of_pos f.num (show (0 : Int) < (f.den : Int) by omega)
  refine ⟨?_, .inr (by omega), by omega, by omega, by omega, by rw [h1]; exact h3, by rw [h1, h2]; exact h5, by rw [h2]; exact Nat.le_refl _, by omega, .inr ⟨rfl, rfl, rfl, Nat.le_refl _⟩⟩
  simp only [Int.natCast_one, Int.natCast_zero, Rat.intCast_one, Rat.intCast_zero]
  grind
/-- an upper number brought on -/
theorem bound_on (K n u0 u1 : Nat) (O0 O1 : Int) (s1 : O1.natAbs ≤ K * u1) (s0 : (0 < u0 ∧ O0.natAbs ≤ K * u0) ∨ (u0 = 0 ∧ u1 = 1 ∧ O0 = 1 ∧ O1.natAbs + 1 ≤ K)) (hn : 0 < n ∨ 0 < u0) : (O0 + (n : Int) * O1).natAbs ≤ K * (u0 + n * u1) := by
  have h1 : (O0 + (n : Int) * O1).natAbs ≤ O0.natAbs + n * O1.natAbs := by
    refine Nat.le_trans (Int.natAbs_add_le _ _) ?_
    rw [Int.natAbs_mul, Int.natAbs_natCast]
    exact Nat.le_refl _
  rcases s0 with ⟨-, s0⟩ | ⟨rfl, rfl, rfl, s0⟩
  · have h2 := Nat.mul_le_mul_left n s1
    have h3 : K * (u0 + n * u1) = K * u0 + n * (K * u1) := by grind
    omega
  · have hn' : 1 ≤ n := by omega
    have h2 := Nat.mul_le_mul_left n s0
    have h3 : n * (O1.natAbs + 1) = n * O1.natAbs + n := by grind
    have h4 : K * (0 + n * 1) = n * K := by grind
    have h5 : (1 : Int).natAbs = 1 := rfl
    omega
/-- the next of it -/
theorem Nb.next {f : Rat} {most K : Nat} {O0 O1 : Int} {u0 u1 : Nat} {r : Rat} (h : Nb f most K O0 O1 u0 u1 r) (hr : r.num ≠ 0) (n : Nat) (hn : fl r⁻¹ = (n : Int)) (hroom : n ≤ (most - u0) / u1) :
    Nb f most K O1 (O0 + (n : Int) * O1) u1 (u0 + n * u1) (r⁻¹ - ((fl r⁻¹ : Int) : Rat)) ∧ (r⁻¹ - ((fl r⁻¹ : Int) : Rat)).den < r.den ∧ 0 < n := by
  obtain ⟨i1, i2, i3⟩ := inv_facts r hr
  obtain ⟨g1, g2⟩ := rest_facts r⁻¹
  have hd := den_pos r⁻¹
  have h3 := Int.emod_nonneg r⁻¹.num (show (r⁻¹.den : Int) ≠ 0 by omega)
  have h5 := Int.emod_lt_of_pos r⁻¹.num (show (0 : Int) < (r⁻¹.den : Int) by omega)
  have hr0 := h.r0
  have hr1 := h.r1
  have hrd := h.rd
  have hn0 : 0 < n := by
    rcases Nat.eq_zero_or_pos n with h0 | h0
    · exfalso
      rw [h0] at hn
      have h6 := Int.emod_add_mul_ediv r⁻¹.num (r⁻¹.den : Int)
      unfold fl at hn
      rw [hn] at h6
      have h7 : r⁻¹.num = (r.den : Int) := by
        have h8 : ¬ r⁻¹.num < 0 := fun e => by
          have := i3
          omega
        omega
      rw [Int.natCast_zero, Int.mul_zero, Int.add_zero] at h6
      omega
    · exact h0
  have hlt : (r⁻¹ - ((fl r⁻¹ : Int) : Rat)).den < r.den := by rw [g2, i2]; omega
  have hmul := Nat.div_mul_le_self (most - u0) u1
  have hm2 := Nat.mul_le_mul_right u1 hroom
  have u1p := h.u1p
  have u0m := h.u0m
  have hpos : 0 < n * u1 := Nat.mul_pos hn0 u1p
  refine ⟨⟨?_, ?_, by omega, by omega, h.u1m, by rw [g1]; exact h3, by rw [g1, g2]; exact h5, by omega, bound_on K n u0 u1 O0 O1 h.s1 h.s0 (.inl hn0), .inl ⟨u1p, h.s1⟩⟩, hlt, hn0⟩
  · have hrne : r ≠ 0 := fun e => hr (by rw [e]; rfl)
    have hc := Rat.mul_inv_cancel r hrne
    have he := h.eq
    rw [hn]
    simp only [Int.natCast_add, Int.natCast_mul, Rat.intCast_add, Rat.intCast_mul]
    generalize r⁻¹ = x at *
    generalize ((n : Int) : Rat) = N at *
    grind
  · have hdet := h.det
    simp only [Int.natCast_add, Int.natCast_mul]
    rcases hdet with hdet | hdet
    · right; grind
    · left; grind
/-- two fractions by which all others with such lower numbers are no nearer -/
def Nearby (f : Rat) (most K : Nat) (Oa Ob : Int) (ua ub : Nat) : Prop := 0 < ua ∧ ua ≤ most ∧ Oa.natAbs ≤ K * ua ∧ 0 < ub ∧ ub ≤ most ∧ Ob.natAbs ≤ K * ub ∧ ∀ v y : Rat, y.den ≤ most → dist v f ≤ dist ((Oa : Rat) * (((ua : Int) : Rat))⁻¹) f → dist v f ≤ dist ((Ob : Rat) * (((ub : Int) : Rat))⁻¹) f → dist v f ≤ dist y f
theorem dist_nonneg (x f : Rat) : 0 ≤ dist x f := by
  have := dist_cases x f
  grind
theorem Nb.exact {f : Rat} {most K : Nat} {O0 O1 : Int} {u0 u1 : Nat} {r : Rat} (h : Nb f most K O0 O1 u0 u1 r) (hr : r.num = 0) : Nearby f most K O1 O1 u1 u1 := by
  refine ⟨h.u1p, h.u1m, h.s1, h.u1p, h.u1m, h.s1, fun v y _ h1 _ => ?_⟩
  have hr' : r = 0 := Rat.num_eq_zero.1 hr
  have he := h.eq
  rw [hr'] at he
  have hm := part_mul O1 u1 h.u1p
  have hp := nat_pos u1 h.u1p
  have hx : (O1 : Rat) * (((u1 : Int) : Rat))⁻¹ = f := by
    have h2 : f * ((u1 : Int) : Rat) = (O1 : Rat) := by grind
    have a1 := rat_le_part f O1 u1 h.u1p (by rw [h2]; exact Rat.le_refl)
    have a2 := part_le_rat f O1 u1 h.u1p (by rw [h2]; exact Rat.le_refl)
    exact Rat.le_antisymm a2 a1
  rw [hx] at h1
  have c1 := dist_cases f f
  have c2 := dist_nonneg y f
  grind
theorem Nb.sides {f : Rat} {most K : Nat} {O0 O1 : Int} {u0 u1 : Nat} {r : Rat} (h : Nb f most K O0 O1 u0 u1 r) (hr : r.num ≠ 0) (room : Nat) (hroom : room = (most - u0) / u1) (hn : (room : Int) < fl r⁻¹) (hm : 0 < most) :
    Nearby f most K O1 (O0 + (room : Int) * O1) u1 (u0 + room * u1) := by
  have u1p := h.u1p
  have u0m := h.u0m
  have hmul := Nat.div_mul_le_self (most - u0) u1
  have hlt : most - u0 < (room + 1) * u1 := by rw [hroom]; exact (Nat.div_lt_iff_lt_mul u1p).1 (Nat.lt_succ_self _)
  rw [← hroom] at hmul
  have hsuc : (room + 1) * u1 = room * u1 + u1 := Nat.succ_mul _ _
  have hub : 0 < u0 + room * u1 := by
    rcases h.s0 with ⟨h1, -⟩ | ⟨h1, h2, -⟩
    · omega
    · subst h1 h2; omega
  have hside : 0 < room ∨ 0 < u0 := by
    rcases Nat.eq_zero_or_pos room with h1 | h1
    · right; rw [h1] at hub; omega
    · exact .inl h1
  refine ⟨u1p, h.u1m, h.s1, hub, by omega, bound_on K room u0 u1 O0 O1 h.s1 h.s0 hside, fun v y hy h1 h2 => ?_⟩
  have hrne : r ≠ 0 := fun e => hr (by rw [e]; rfl)
  have hrp : 0 < r := by
    have h3 : ¬ r < 0 := fun e => by have := (num_neg r).2 e; have := h.r0; omega
    grind
  have hc := Rat.mul_inv_cancel r hrne
  have hfl := fl_le r⁻¹
  have hR : ((room : Int) : Rat) ≤ ((fl r⁻¹ : Int) : Rat) := Rat.intCast_le_intCast.2 (by omega)
  have hrm : r * ((room : Int) : Rat) ≤ 1 := by
    have h4 : ((room : Int) : Rat) ≤ r⁻¹ := Rat.le_trans hR hfl
    have h5 := Rat.mul_le_mul_of_nonneg_left h4 (show 0 ≤ r by grind)
    grind
  have hb := between f r (O0 : Rat) (O1 : Rat) ((u0 : Int) : Rat) ((u1 : Int) : Rat) ((room : Int) : Rat) h.eq hrp hrm
  have hdet : O1 * ((u0 + room * u1 : Nat) : Int) - (O0 + (room : Int) * O1) * (u1 : Int) = 1 ∨ O1 * ((u0 + room * u1 : Nat) : Int) - (O0 + (room : Int) * O1) * (u1 : Int) = -1 := by
    simp only [Int.natCast_add, Int.natCast_mul]
    rcases h.det with hd | hd
    · left; grind
    · right; grind
  have hfar := farey O1 (O0 + (room : Int) * O1) y.num u1 (u0 + room * u1) y.den most hdet (by omega) (den_pos y) hy
  have e1 : ((O0 + (room : Int) * O1 : Int) : Rat) = (O0 : Rat) + ((room : Int) : Rat) * (O1 : Rat) := by rw [Rat.intCast_add, Rat.intCast_mul]
  have e2 : (((u0 + room * u1 : Nat) : Int) : Rat) = ((u0 : Int) : Rat) + ((room : Int) : Rat) * ((u1 : Int) : Rat) := by rw [Int.natCast_add, Int.natCast_mul, Rat.intCast_add, Rat.intCast_mul]
  rw [← e1, ← e2] at hb
  refine outside f _ _ v y ?_ ?_ h1 h2
  · rcases hb with ⟨b1, b2⟩ | ⟨b1, b2⟩
    · exact .inl ⟨rat_le_part f _ _ u1p b1, part_le_rat f _ _ hub b2⟩
    · exact .inr ⟨part_le_rat f _ _ u1p b1, rat_le_part f _ _ hub b2⟩
  · rcases hfar with ⟨b1, b2⟩ | ⟨b1, b2⟩
    · exact .inl ⟨le_part y _ _ u1p b1, le_part y _ _ hub b2⟩
    · exact .inr ⟨part_le y _ _ u1p b1, part_le y _ _ hub b2⟩
end Go.Proofs.YtlnacciciafliaaGreatDoor
