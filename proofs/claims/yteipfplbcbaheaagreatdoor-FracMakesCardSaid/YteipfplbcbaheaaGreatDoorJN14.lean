/- Division word by word: what holds ahead of each round. -/
import Derived.Deep.RegionHeld
import Derived.Test.YteipfplbcbaheaaGreatDoorJN13
namespace Go.Proofs.YteipfplbcbaheaaGreatDoor
open Go.RowKit

structure DivInv (X Y nx n : Nat) (rs qs : List Nat) (k : Nat) : Prop where
  lr : rs.length = nx + 1
  lq : qs.length = nx + 1 - n
  mr : ∀ x ∈ rs, x < 18446744073709551616
  mq : ∀ x ∈ qs, x < 18446744073709551616
  lt : vl 18446744073709551616 rs < Y * 18446744073709551616 ^ k
  val : X = vl 18446744073709551616 rs + Y * vl 18446744073709551616 qs
  zero : ∀ j, j < k → qs[j]?.getD 0 = 0
theorem vl_drop_div (rs : List Nat) (i : Nat) (h : i ≤ rs.length) : vl 18446744073709551616 rs = vl 18446744073709551616 (rs.take i) + 18446744073709551616 ^ i * vl 18446744073709551616 (rs.drop i) := by
  have := congrArg (vl 18446744073709551616) (List.take_append_drop i rs)
  rw [vl_append, List.length_take, Nat.min_eq_left h] at this
  exact this.symm
theorem vl_take_lt (rs : List Nat) (i : Nat) (h : i ≤ rs.length) (hm : ∀ x ∈ rs, x < 18446744073709551616) : vl 18446744073709551616 (rs.take i) < 18446744073709551616 ^ i := by
  have := vl_lt (by omega : 0 < 18446744073709551616) (rs.take i) (fun x hx => hm x (List.mem_of_mem_take hx))
  rw [List.length_take, Nat.min_eq_left h] at this
  exact this
theorem vl_small_drop (rs : List Nat) (i : Nat) (h : i ≤ rs.length) (hs : vl 18446744073709551616 rs < 18446744073709551616 ^ i) : vl 18446744073709551616 (rs.drop i) = 0 := by
  rw [vl_drop_div rs i h] at hs
  rcases Nat.eq_zero_or_pos (vl 18446744073709551616 (rs.drop i)) with h0 | h0
  · exact h0
  · have := Nat.le_mul_of_pos_right (18446744073709551616 ^ i) h0
    omega
/-- the words of a round: what stands in them, and nothing above -/
theorem DivInv.win {X Y nx n : Nat} {rs qs : List Nat} {i : Nat} (h : DivInv X Y nx n rs qs (i + 1)) (hY : Y < 18446744073709551616 ^ n) (hi : i + n < rs.length) :
    vl 18446744073709551616 ((rs.drop i).take (n + 1)) = vl 18446744073709551616 (rs.drop i) ∧ vl 18446744073709551616 (rs.drop i) < 18446744073709551616 * Y ∧ vl 18446744073709551616 (rs.drop i) = vl 18446744073709551616 ((rs.drop i).take n) + rs[i + n]?.getD 0 * 18446744073709551616 ^ n := by
  have hD := vl_drop_div rs i (by omega)
  have hlt := h.lt
  have h1 : vl 18446744073709551616 (rs.drop i) < 18446744073709551616 * Y := by
    have : 18446744073709551616 ^ i * vl 18446744073709551616 (rs.drop i) < 18446744073709551616 ^ i * (18446744073709551616 * Y) := by
      have e : Y * 18446744073709551616 ^ (i + 1) = 18446744073709551616 ^ i * (18446744073709551616 * Y) := by rw [Nat.pow_succ, Nat.mul_comm Y, Nat.mul_assoc]
      rw [← e]; omega
    exact Nat.lt_of_mul_lt_mul_left this
  have h2 : vl 18446744073709551616 (rs.drop i) < 18446744073709551616 ^ (n + 1) := by
    rw [Nat.pow_succ, Nat.mul_comm]
    exact Nat.lt_of_lt_of_le h1 (Nat.mul_le_mul_left _ (Nat.le_of_lt hY))
  have hl : (rs.drop i).length = rs.length - i := List.length_drop
  have h3 : vl 18446744073709551616 ((rs.drop i).drop (n + 1)) = 0 := vl_small_drop _ _ (by omega) h2
  have h4 := vl_drop_div (rs.drop i) (n + 1) (by omega)
  rw [h3, Nat.mul_zero, Nat.add_zero] at h4
  refine ⟨h4.symm, h1, ?_⟩
  have h5 := vl_take_succ 18446744073709551616 (rs.drop i) n (by omega)
  rw [List.getElem?_drop] at h5
  rw [h4, h5]
theorem DivInv.step {X Y nx n : Nat} {rs qs : List Nat} {i : Nat} (h : DivInv X Y nx n rs qs (i + 1)) (hY : Y < 18446744073709551616 ^ n) (hi : i + n < rs.length) (hiq : i < qs.length) (vs : List Nat) (q : Nat) (hl : vs.length = n) (hm : ∀ x ∈ vs, x < 18446744073709551616) (hq : q < 18446744073709551616) (hv : vl 18446744073709551616 vs + q * Y = vl 18446744073709551616 (rs.drop i)) (hvY : vl 18446744073709551616 vs < Y) :
    DivInv X Y nx n ((rs.take i ++ vs ++ rs.drop (i + n)).set (i + n) 0) (qs.set i q) i := by
  obtain ⟨h1, h2, h3⟩ := h.win hY hi
  have lt : (rs.take i).length = i := by rw [List.length_take]; omega
  have lw : (rs.take i ++ vs).length = i + n := by rw [List.length_append, lt, hl]
  have ll : (rs.take i ++ vs ++ rs.drop (i + n)).length = rs.length := by rw [List.length_append, lw, List.length_drop]; omega
  have hd : vl 18446744073709551616 (rs.drop (i + n)) = rs[i + n]?.getD 0 := by
    have e1 := vl_drop_div (rs.drop i) n (by rw [List.length_drop]; omega)
    rw [List.drop_drop] at e1
    rw [e1] at h3
    have : 18446744073709551616 ^ n * vl 18446744073709551616 (rs.drop (i + n)) = rs[i + n]?.getD 0 * 18446744073709551616 ^ n := by omega
    rw [Nat.mul_comm] at this
    exact Nat.eq_of_mul_eq_mul_right (Nat.pow_pos (by omega)) this
  have hg : (rs.take i ++ vs ++ rs.drop (i + n))[i + n]?.getD 0 = rs[i + n]?.getD 0 := by
    rw [List.getElem?_append_right (by omega), lw, List.getElem?_drop, show i + n + (i + n - (i + n)) = i + n from by omega]
  have hset := vl_set 18446744073709551616 (rs.take i ++ vs ++ rs.drop (i + n)) (i + n) 0 (by omega)
  rw [hg, Nat.zero_mul, Nat.add_zero, vl_append, lw, hd, vl_append, lt] at hset
  have hval : vl 18446744073709551616 ((rs.take i ++ vs ++ rs.drop (i + n)).set (i + n) 0) = vl 18446744073709551616 (rs.take i) + 18446744073709551616 ^ i * vl 18446744073709551616 vs := by
    rw [Nat.mul_comm (18446744073709551616 ^ (i + n))] at hset
    omega
  have hq0 := h.zero i (by omega)
  have hqs := vl_set 18446744073709551616 qs i q hiq
  rw [hq0, Nat.zero_mul, Nat.add_zero] at hqs
  have hD := vl_drop_div rs i (by omega)
  have htl := vl_take_lt rs i (by omega) h.mr
  refine ⟨by rw [List.length_set, ll]; exact h.lr, by rw [List.length_set]; exact h.lq, mem_set ?_ _ _ (by omega), mem_set h.mq _ _ hq, ?_, ?_, ?_⟩
  · intro x hx
    simp only [List.mem_append] at hx
    rcases hx with (hx | hx) | hx
    · exact h.mr x (List.mem_of_mem_take hx)
    · exact hm x hx
    · exact h.mr x (List.mem_of_mem_drop hx)
  · rw [hval]
    have : 18446744073709551616 ^ i * (vl 18446744073709551616 vs + 1) ≤ 18446744073709551616 ^ i * Y := Nat.mul_le_mul_left _ hvY
    rw [Nat.mul_add, Nat.mul_one] at this
    rw [Nat.mul_comm Y]
    omega
  · rw [hval, hqs, h.val, hD, ← hv]
    generalize vl 18446744073709551616 (rs.take i) = a
    generalize vl 18446744073709551616 vs = b
    generalize vl 18446744073709551616 qs = c
    generalize 18446744073709551616 ^ i = P
    grind
  · intro j hj
    rw [List.getElem?_set_ne (by omega)]; exact h.zero j (by omega)
theorem DivInv.fin {X Y nx n : Nat} {rs qs : List Nat} (h : DivInv X Y nx n rs qs 0) : vl 18446744073709551616 qs = X / Y ∧ vl 18446744073709551616 rs = X % Y := by
  have h1 := h.lt
  rw [Nat.pow_zero, Nat.mul_one] at h1
  have hY : 0 < Y := by omega
  rw [h.val]
  exact ⟨by rw [Nat.add_comm, Nat.mul_add_div hY, Nat.div_eq_of_lt h1, Nat.add_zero], by rw [Nat.add_comm, Nat.mul_add_mod, Nat.mod_eq_of_lt h1]⟩
/-- what holds ahead of a round that mends -/
structure Mend (D Y n : Nat) (vs : List Nat) (q M : Nat) : Prop where
  len : vs.length = n
  mem : ∀ x ∈ vs, x < 18446744073709551616
  qb : q < 18446744073709551616
  mb : M < 18446744073709551616
  val : vl 18446744073709551616 vs + q * Y = D + M * 18446744073709551616 ^ n
  hi : D < (q + 1) * Y
theorem Mend.start (D Y n t : Nat) (vs0 vs : List Nat) (q c : Nat) (hY : Y < 18446744073709551616 ^ n) (h0 : D = vl 18446744073709551616 vs0 + t * 18446744073709551616 ^ n) (hl : vs.length = n) (hm : ∀ x ∈ vs, x < 18446744073709551616) (hq : q < 18446744073709551616) (hc : c < 18446744073709551616) (hv : vl 18446744073709551616 vs + q * Y = vl 18446744073709551616 vs0 + c * 18446744073709551616 ^ n) (hh : D < (q + 1) * Y) : t ≤ c ∧ Mend D Y n vs q (c - t) := by
  have htc : t ≤ c := by
    rcases Nat.lt_or_ge c t with h | h
    · exfalso
      have h1 : (c + 1) * 18446744073709551616 ^ n ≤ t * 18446744073709551616 ^ n := Nat.mul_le_mul_right _ h
      rw [Nat.add_mul, Nat.one_mul] at h1 hh
      omega
    · exact h
  refine ⟨htc, hl, hm, hq, by omega, ?_, hh⟩
  rw [h0, Nat.sub_mul]
  have : t * 18446744073709551616 ^ n ≤ c * 18446744073709551616 ^ n := Nat.mul_le_mul_right _ htc
  omega
theorem Mend.pos {D Y n : Nat} {vs : List Nat} {q M : Nat} (h : Mend D Y n vs q M) (hM : 0 < M) : 0 < q ∧ D < q * Y := by
  have h1 := vl_lt (by omega : 0 < 18446744073709551616) vs h.mem
  rw [h.len] at h1
  have h2 := h.val
  have h3 : 18446744073709551616 ^ n ≤ M * 18446744073709551616 ^ n := Nat.le_mul_of_pos_left _ hM
  refine ⟨?_, by omega⟩
  rcases Nat.eq_zero_or_pos q with h0 | h0
  · subst h0; rw [Nat.zero_mul] at h2; omega
  · exact h0
theorem Mend.step {D Y n : Nat} {vs : List Nat} {q M : Nat} (h : Mend D Y n vs (q + 1) (M + 1)) (vs' : List Nat) (k : Nat) (hk : k ≤ 1) (hl : vs'.length = n) (hm : ∀ x ∈ vs', x < 18446744073709551616) (hv : vl 18446744073709551616 vs' + k * 18446744073709551616 ^ n = vl 18446744073709551616 vs + Y) : Mend D Y n vs' q (M + 1 - k) := by
  have hp := h.pos (by omega)
  have h1 := h.qb
  have h2 := h.mb
  have h3 := h.val
  refine ⟨hl, hm, by omega, by omega, ?_, hp.2⟩
  rw [Nat.sub_mul]
  have : k * 18446744073709551616 ^ n ≤ (M + 1) * 18446744073709551616 ^ n := Nat.mul_le_mul_right _ (by omega)
  rw [Nat.add_mul q 1, Nat.one_mul] at h3
  omega
theorem Mend.fin {D Y n : Nat} {vs : List Nat} {q : Nat} (h : Mend D Y n vs q 0) : vl 18446744073709551616 vs + q * Y = D ∧ vl 18446744073709551616 vs < Y := by
  have h1 := h.val
  have h2 := h.hi
  rw [Nat.zero_mul, Nat.add_zero] at h1
  rw [Nat.add_mul, Nat.one_mul] at h2
  exact ⟨h1, by omega⟩
end Go.Proofs.YteipfplbcbaheaaGreatDoor
