/- A whole number is shifted to the left and to the right, and divided by a word, as the Go text of package nat does it. -/
import Derived.Test.YtjbboicccddhbaaGreatDoorProg
import Derived.WalkKit
import Derived.Deep.QuietTactic
import Derived.BigQuiet
import Derived.Deep.RegionHeld
import Derived.Deep.RegionWith
import Derived.Test.YtjbboicccddhbaaGreatDoorKBN6
namespace Go.Proofs.YtjbboicccddhbaaGreatDoor
open Go.RowKit

/-- a row of a call's own: from block lo on, and to be written into -/
def Own (lo : Nat) (w : World) (v : Value) : Prop := ∀ b off n c, v = .slice (some ⟨b, off, none⟩) n c → lo ≤ b ∧ ∀ i, i < n → w.frozen? ⟨b, off + i, none⟩ = false
theorem own_of {w : World} {g lo n c : Nat} {rs ys : List Nat} {v : Value} (hs : Seg w g 0 rs) (hb : SameBase (.slice (some ⟨g, 0, none⟩) n c) v) (hv : Sl .u64 w v ys) (hl : ys.length ≤ rs.length) (hg : lo ≤ g) : Own lo w v := fun b off m c' e => by
  obtain ⟨n', c'', e'⟩ := hb b off m c' e
  simp only [Value.slice.injEq, Option.some.injEq, Addr.mk.injEq] at e'
  obtain ⟨⟨rfl, rfl, -⟩, -, -⟩ := e'
  obtain ⟨a, cap, e2, -, -⟩ := hv
  rw [e] at e2
  simp only [Value.slice.injEq] at e2
  obtain ⟨-, rfl, -⟩ := e2
  exact ⟨hg, fun i hi => (hs i (by omega)).2⟩
theorem Own.mono {lo lo' : Nat} {w : World} {v : Value} (h : Own lo w v) (hl : lo' ≤ lo) : Own lo' w v := fun b off n c e => ⟨Nat.le_trans hl (h b off n c e).1, (h b off n c e).2⟩
theorem own_nil (lo : Nat) (w : World) (c : Nat) : Own lo w (.slice none 0 c) := fun b off n c e => by simp at e

theorem set_drop (rs : List Nat) (i s : Nat) (h : i < rs.length) : (rs.set i s).drop i = s :: rs.drop (i + 1) := by
  rw [List.drop_eq_getElem_cons (by rw [List.length_set]; exact h), List.getElem_set_self, List.drop_set]
  simp
theorem shl_word (x c n : Nat) (hx : x < 18446744073709551616) (hn0 : 0 < n) (hn : n ≤ 63) (hc : c < 2 ^ n) : (x * 2 ^ n % 18446744073709551616) ||| c = x * 2 ^ n % 18446744073709551616 + c ∧ x * 2 ^ n % 18446744073709551616 + c < 18446744073709551616 ∧ x * 2 ^ n % 18446744073709551616 + c + 18446744073709551616 * (x / 2 ^ (64 - n)) = x * 2 ^ n + c ∧ x / 2 ^ (64 - n) < 2 ^ n := by
  have hp : 18446744073709551616 = 2 ^ (64 - n) * 2 ^ n := by rw [← Nat.pow_add, show (64 - n) + n = 64 from by omega]
  have e0 : x * 2 ^ n % 18446744073709551616 = x % 2 ^ (64 - n) * 2 ^ n := by rw [hp, Nat.mul_mod_mul_right]
  have e1 : x * 2 ^ n / 18446744073709551616 = x / 2 ^ (64 - n) := by rw [hp, Nat.mul_div_mul_right _ _ (Nat.pow_pos (by omega))]
  have h1 : x % 2 ^ (64 - n) + 1 ≤ 2 ^ (64 - n) := Nat.mod_lt _ (Nat.pow_pos (by omega))
  have h2 := Nat.mul_le_mul_right (2 ^ n) h1
  rw [← hp, Nat.add_mul, Nat.one_mul] at h2
  have h3 := Nat.div_add_mod (x * 2 ^ n) 18446744073709551616
  rw [e1] at h3
  refine ⟨?_, ?_, ?_, ?_⟩
  · rw [e0, Nat.mul_comm, Nat.two_pow_add_eq_or_of_lt hc]
  · rw [e0]
    generalize x % 2 ^ (64 - n) * 2 ^ n = m at *
    generalize 2 ^ n = P at *
    omega
  · generalize x * 2 ^ n = z at *
    generalize x / 2 ^ (64 - n) = y at *
    omega
  · rw [Nat.div_lt_iff_lt_mul (Nat.pow_pos (by omega)), Nat.mul_comm, ← hp]; exact hx
theorem shr_word (x r n : Nat) (hx : x < 18446744073709551616) (hn0 : 0 < n) (hn : n ≤ 63) (hr : r < 2 ^ n) : (x / 2 ^ n) ||| (r * 2 ^ (64 - n)) = x / 2 ^ n + r * 2 ^ (64 - n) ∧ x / 2 ^ n + r * 2 ^ (64 - n) < 18446744073709551616 ∧ (x + 18446744073709551616 * r) / 2 ^ n = x / 2 ^ n + r * 2 ^ (64 - n) ∧ x * 2 ^ (64 - n) % 18446744073709551616 = (x % 2 ^ n) * 2 ^ (64 - n) ∧ r * 2 ^ (64 - n) < 18446744073709551616 := by
  have hp : 18446744073709551616 = 2 ^ (64 - n) * 2 ^ n := by rw [← Nat.pow_add, show (64 - n) + n = 64 from by omega]
  have hb : x / 2 ^ n < 2 ^ (64 - n) := by rw [Nat.div_lt_iff_lt_mul (Nat.pow_pos (by omega)), ← hp]; exact hx
  have h1 : (r + 1) * 2 ^ (64 - n) ≤ 2 ^ n * 2 ^ (64 - n) := Nat.mul_le_mul_right _ hr
  rw [Nat.mul_comm (2 ^ n), ← hp, Nat.add_mul, Nat.one_mul] at h1
  refine ⟨?_, ?_, ?_, ?_, ?_⟩
  rotate_left
  · generalize r * 2 ^ (64 - n) = m at *
    generalize 2 ^ (64 - n) = P at *
    omega
  rotate_left
  rotate_left
  · have hz : 0 < 2 ^ (64 - n) := Nat.pow_pos (by omega)
    generalize r * 2 ^ (64 - n) = m at *
    generalize 2 ^ (64 - n) = P at *
    omega
  · rw [Nat.or_comm, Nat.mul_comm r, ← Nat.two_pow_add_eq_or_of_lt hb, Nat.add_comm]
  · rw [hp, Nat.mul_assoc, Nat.mul_left_comm, Nat.add_mul_div_left _ _ (Nat.pow_pos (by omega)), Nat.mul_comm r]
  · rw [hp, Nat.mul_comm (2 ^ (64 - n)) (2 ^ n), Nat.mul_mod_mul_right]

structure LeftInv (xs rs : List Nat) (n k c : Nat) : Prop where
  len : rs.length = xs.length + 1
  mem : ∀ x ∈ rs, x < 18446744073709551616
  val : vl 18446744073709551616 rs + c * 18446744073709551616 ^ k = 2 ^ n * vl 18446744073709551616 (xs.take k)
  zero : ∀ j, k ≤ j → rs[j]?.getD 0 = 0
theorem LeftInv.start (xs : List Nat) (n : Nat) : LeftInv xs (List.replicate (xs.length + 1) 0) n 0 0 :=
  ⟨by simp, fun x hx => by rw [List.mem_replicate] at hx; omega, by simp [vl_replicate, vl], fun j _ => by rw [List.getElem?_replicate]; split <;> rfl⟩
theorem LeftInv.step {xs rs : List Nat} {n k c : Nat} (h : LeftInv xs rs n k c) (hk : k < xs.length) (s c' : Nat) (hs : s < 18446744073709551616) (e : s + 18446744073709551616 * c' = xs[k]?.getD 0 * 2 ^ n + c) : LeftInv xs (rs.set k s) n (k + 1) c' := by
  have hl := h.len
  refine ⟨by rw [List.length_set]; exact hl, mem_set h.mem _ _ hs, ?_, fun j hj => by rw [List.getElem?_set_ne (by omega)]; exact h.zero j (by omega)⟩
  have h1 := add_step 18446744073709551616 rs k c s c' (xs[k]?.getD 0 * 2 ^ n) 0 (2 ^ n * vl 18446744073709551616 (xs.take k)) (by omega) (by rw [h.val, Nat.zero_add]) (by rw [h.zero k (Nat.le_refl _), e, Nat.zero_add])
  rw [h1, Nat.zero_add, vl_take_succ 18446744073709551616 xs k hk, Nat.mul_add]
  congr 1
  rw [Nat.mul_comm (xs[k]?.getD 0), Nat.mul_assoc]
theorem LeftInv.fin {xs rs : List Nat} {n c : Nat} (h : LeftInv xs rs n xs.length c) : vl 18446744073709551616 (rs.set xs.length c) = vl 18446744073709551616 xs * 2 ^ n := by
  have h1 := vl_set 18446744073709551616 rs xs.length c (by have := h.len; omega)
  have h2 := h.val
  rw [h.zero _ (Nat.le_refl _), Nat.zero_mul, Nat.add_zero] at h1
  rw [List.take_length] at h2
  rw [h1, h2, Nat.mul_comm]

set_option maxHeartbeats 2000000 in
set_option maxRecDepth 100000 in
theorem natLeft_any (v : Value) (X n : Nat) (w : World) (hv : Sl .u64 w v (wd 18446744073709551616 X)) (hl : (wd 18446744073709551616 X).length < 1073741824) (hn : n ≤ 63) :
    Calls Tryz.prog 154 #[v, .int .i64 (n : Int)] w fun e w' => ∃ v', e = .returned v' ∧ Sl .u64 w' v' (wd 18446744073709551616 (X * 2 ^ n)) ∧ But [] w w' ∧ (v' = v ∨ Own w.heap.size w' v') := by
  rcases Nat.eq_zero_or_pos n with h0 | h0
  · subst h0
    rw [Nat.pow_zero, Nat.mul_one]
    have HV := hide hv
    obtain ⟨a, c, rfl, -, -⟩ := hv
    generalize (wd 18446744073709551616 X).length = l at *
    go_enter Tryz.func154, Tryz.ntmps154
    go_wp2
    go_ret
    exact ⟨_, rfl, unhide HV, But.refl _ _, .inl rfl⟩
  · have nz : ((n : Int) == 0) = false := beq_eq_false_iff_ne.2 (by omega)
    have mm := wd_mem (B := 18446744073709551616) (by omega) X
    have em := vl_wd (B := 18446744073709551616) (by omega) X
    rcases hv.open with ⟨e, a, c, rfl⟩ | ⟨hp, b, off, c, rfl, hc, hbl, hcell⟩
    · have hX : X = 0 := (wd_nil_iff (by omega) X).1 e
      subst hX
      rw [Nat.zero_mul, wd_zero]
      clear mm em e hv
      go_enter Tryz.func154, Tryz.ntmps154
      go_wp2
      go_ret
      exact ⟨_, rfl, ⟨a, c, rfl, Nat.zero_le _, fun i hi => by simp at hi, fun _ _ _ h0 => by simp at h0⟩, But.refl _ _, .inl rfl⟩
    · generalize wd 18446744073709551616 X = xs at *
      subst em
      have lz0 : ((xs.length : Int) == 0) = false := beq_eq_false_iff_ne.2 (by omega)
      have hmk := fun wx => run_make64s wx xs.length hl
      have HC := hide hcell
      have MM := hide mm
      clear hcell mm hv
      go_enter Tryz.func154, Tryz.ntmps154
      go_wp2
      go_loopw [6, 23] (fun c i wr => ∃ (k cN : Nat) (rs : List Nat), k ≤ xs.length ∧ i = .int .i64 k ∧ c = .int .u64 cN ∧ cN < 18446744073709551616 ∧ rs.length = xs.length + 1 ∧ Hid (LeftInv xs rs n k cN ∧ cN < 2 ^ n ∧ But [] w wr ∧ Seg wr w.heap.size 0 rs)) (fun _ i _ => xs.length - (intOf i).toNat)
      case atStart => exact ⟨0, 0, List.replicate (xs.length + 1) 0, Nat.zero_le _, rfl, rfl, by omega, by simp, LeftInv.start xs n, Nat.pow_pos (by omega), (But.refl _ _).alloc _, Seg.made _ _ _⟩
      case round =>
        obtain ⟨k, cN, rs, hk, rfl, rfl, hcN, hrl, HI⟩ := hrel
        rename World => wr
        by_cases hlt : k < xs.length
        · have cx := (unhide HI).2.2.1.cell_some (unhide HC k hlt) (by simp)
          have hxB : xs[k]?.getD 0 < 18446744073709551616 := mem_getD (unhide MM) (by omega) k
          obtain ⟨cr, fr⟩ := (unhide HI).2.2.2 k (by omega)
          rw [Nat.zero_add] at cr fr
          obtain ⟨s1, s2, s3, s4⟩ := shl_word _ cN n hxB h0 hn (unhide HI).2.1
          have ST := hide ((unhide HI).1.step hlt _ _ s2 s3)
          have S4 := hide s4
          have hsl : xs[k]?.getD 0 / 2 ^ (64 - n) < 18446744073709551616 := Nat.lt_of_le_of_lt (Nat.div_le_self _ _) hxB
          have E1 : bits .or .u64 (IntKind.u64.wrap ((xs[k]?.getD 0 : Nat) * 2 ^ n)) (cN : Int) = ((xs[k]?.getD 0 * 2 ^ n % 18446744073709551616 + cN : Nat) : Int) := by
            have e1 : IntKind.u64.wrap (((xs[k]?.getD 0 : Nat) : Int) * 2 ^ n) = ((xs[k]?.getD 0 * 2 ^ n % 18446744073709551616 : Nat) : Int) := by
              have e : ((xs[k]?.getD 0 : Nat) : Int) * 2 ^ n = ((xs[k]?.getD 0 * 2 ^ n : Nat) : Int) := by simp
              rw [e, IntKind.wrap_u64]; omega
            rw [e1, bits_or_u64_nat _ _ (by omega) hcN, s1]
          have E2 : ((xs[k]?.getD 0 : Nat) : Int) / 2 ^ (64 - n) = ((xs[k]?.getD 0 / 2 ^ (64 - n) : Nat) : Int) := by simp
          clear s1 s3 s4
          generalize xs[k]?.getD 0 * 2 ^ n % 18446744073709551616 + cN = s at *
          generalize xs[k]?.getD 0 / 2 ^ (64 - n) = c' at *
          generalize xs[k]?.getD 0 = x at *
          generalize rs[k]?.getD 0 = r at cr
          have hset := (unhide HI).2.2.2.set k (by omega) s
          rw [Nat.zero_add] at hset
          have HSET := hide hset
          clear hset
          go_wp2
          refine ⟨⟨k + 1, c', rs.set k s, by omega, by go_num, rfl, hsl, by rw [List.length_set]; exact hrl, unhide ST, unhide S4, (unhide HI).2.2.1.setCell (.inr (Nat.le_refl _)) _, unhide HSET⟩, ?_⟩
          simp [intOf]; omega
        · have hke : k = xs.length := by omega
          subst hke
          have hset := (unhide HI).2.2.2.set xs.length (by omega) cN
          obtain ⟨cr, fr⟩ := (unhide HI).2.2.2 xs.length (by omega)
          rw [Nat.zero_add] at cr fr hset
          have hsl := hset.sl (xs.length + 1) (by rw [List.length_set]; omega)
          rw [List.length_set, hrl] at hsl
          have HSL := hide hsl
          have HSG := hide hset
          have HMM := hide (mem_set (unhide HI).1.mem xs.length cN hcN)
          have HF := hide (unhide HI).1.fin
          have hln : (rs.set xs.length cN).length < 2147483648 := by rw [List.length_set]; omega
          have HB := hide ((unhide HI).2.2.1.setCell (p := ⟨w.heap.size, xs.length, none⟩) (.inr (Nat.le_refl _)) (.int .u64 (cN : Int)))
          clear hset hsl HC HI
          generalize rs[xs.length]?.getD 0 = r at cr
          go_wp2_with fail
          refine (trimmed_any _ (rs.set xs.length cN) _ (unhide HSL) (unhide HMM) hln).mono ?_
          rintro e w1 ⟨v1, rfl, hv1, hw, hsb⟩
          obtain rfl := hw.symm
          clear hw
          have OW := hide (own_of (unhide HSG) hsb hv1 (wd_length_le (by omega) _ _ (vl_lt (by omega) _ (unhide HMM))) (Nat.le_refl _))
          rw [unhide HF] at hv1
          have HV1 := hide hv1
          clear hv1 hsb
          go_wp2
          go_ret
          exact ⟨v1, rfl, unhide HV1, unhide HB, .inr (unhide OW)⟩

structure RightInv (xs rs : List Nat) (n k c : Nat) : Prop where
  len : rs.length = xs.length
  mem : ∀ x ∈ rs, x < 18446744073709551616
  val : vl 18446744073709551616 (rs.drop k) = vl 18446744073709551616 (xs.drop k) / 2 ^ n
  car : c = vl 18446744073709551616 (xs.drop k) % 2 ^ n * 2 ^ (64 - n)
theorem RightInv.start (xs : List Nat) (n : Nat) : RightInv xs (List.replicate xs.length 0) n xs.length 0 :=
  ⟨by simp, fun x hx => by rw [List.mem_replicate] at hx; omega, by simp [vl], by simp [vl]⟩
theorem RightInv.step {xs rs : List Nat} {n i c : Nat} (h : RightInv xs rs n (i + 1) c) (hi : i < xs.length) (hn : n ≤ 63) (s c' : Nat) (hs : s < 18446744073709551616) (e : (xs[i]?.getD 0 + 18446744073709551616 * (vl 18446744073709551616 (xs.drop (i + 1)) % 2 ^ n)) / 2 ^ n = s) (ec : xs[i]?.getD 0 % 2 ^ n * 2 ^ (64 - n) = c') : RightInv xs (rs.set i s) n i c' := by
  have hp : 18446744073709551616 = 2 ^ n * 2 ^ (64 - n) := by rw [← Nat.pow_add, show n + (64 - n) = 64 from by omega]
  have hz : 0 < 2 ^ n := Nat.pow_pos (by omega)
  refine ⟨by rw [List.length_set]; exact h.len, mem_set h.mem _ _ hs, ?_, ?_⟩
  · rw [set_drop rs i s (by rw [h.len]; exact hi), vl, h.val, vl_drop 18446744073709551616 xs i hi, ← e]
    have hd := Nat.mod_add_div (vl 18446744073709551616 (xs.drop (i + 1))) (2 ^ n)
    generalize vl 18446744073709551616 (xs.drop (i + 1)) = V at *
    have e1 : xs[i]?.getD 0 + 18446744073709551616 * V = xs[i]?.getD 0 + 18446744073709551616 * (V % 2 ^ n) + 2 ^ n * (18446744073709551616 * (V / 2 ^ n)) := by
      conv => lhs; rw [← hd]
      rw [Nat.mul_add, ← Nat.add_assoc, Nat.mul_left_comm]
    rw [e1, Nat.add_mul_div_left _ _ hz]
  · rw [vl_drop 18446744073709551616 xs i hi, hp, Nat.mul_assoc, Nat.add_mul_mod_self_left, ← ec]
theorem RightInv.fin {xs rs : List Nat} {n c : Nat} (h : RightInv xs rs n 0 c) : vl 18446744073709551616 rs = vl 18446744073709551616 xs / 2 ^ n := h.val

set_option maxHeartbeats 2000000 in
set_option maxRecDepth 100000 in
theorem natRight_any (v : Value) (X n : Nat) (w : World) (hv : Sl .u64 w v (wd 18446744073709551616 X)) (hl : (wd 18446744073709551616 X).length < 1073741824) (hn : n ≤ 63) :
    Calls Tryz.prog 155 #[v, .int .i64 (n : Int)] w fun e w' => ∃ v', e = .returned v' ∧ Sl .u64 w' v' (wd 18446744073709551616 (X / 2 ^ n)) ∧ But [] w w' ∧ (v' = v ∨ Own w.heap.size w' v') := by
  rcases Nat.eq_zero_or_pos n with h0 | h0
  · subst h0
    rw [Nat.pow_zero, Nat.div_one]
    have HV := hide hv
    obtain ⟨a, c, rfl, -, -⟩ := hv
    generalize (wd 18446744073709551616 X).length = l at *
    go_enter Tryz.func155, Tryz.ntmps155
    go_wp2
    go_ret
    exact ⟨_, rfl, unhide HV, But.refl _ _, .inl rfl⟩
  · have nz : ((n : Int) == 0) = false := beq_eq_false_iff_ne.2 (by omega)
    have mm := wd_mem (B := 18446744073709551616) (by omega) X
    have em := vl_wd (B := 18446744073709551616) (by omega) X
    rcases hv.open with ⟨e, a, c, rfl⟩ | ⟨hp, b, off, c, rfl, hc, hbl, hcell⟩
    · have hX : X = 0 := (wd_nil_iff (by omega) X).1 e
      subst hX
      rw [Nat.zero_div, wd_zero]
      clear mm em e hv
      go_enter Tryz.func155, Tryz.ntmps155
      go_wp2
      go_ret
      exact ⟨_, rfl, ⟨a, c, rfl, Nat.zero_le _, fun i hi => by simp at hi, fun _ _ _ h0 => by simp at h0⟩, But.refl _ _, .inl rfl⟩
    · generalize wd 18446744073709551616 X = xs at *
      subst em
      have lz0 : ((xs.length : Int) == 0) = false := beq_eq_false_iff_ne.2 (by omega)
      have hmk := fun wx => run_make64 wx xs.length (by omega)
      have HC := hide hcell
      have MM := hide mm
      clear hcell mm hv
      go_enter Tryz.func155, Tryz.ntmps155
      go_wp2
      go_loopw [6, 7] (fun c i wr => ∃ (k cN : Nat) (rs : List Nat), k ≤ xs.length ∧ i = .int .i64 ((k : Int) - 1) ∧ c = .int .u64 cN ∧ cN < 18446744073709551616 ∧ rs.length = xs.length ∧ Hid (RightInv xs rs n k cN ∧ But [] w wr ∧ Seg wr w.heap.size 0 rs)) (fun _ i _ => (intOf i + 1).toNat)
      case atStart => exact ⟨xs.length, 0, List.replicate xs.length 0, Nat.le_refl _, rfl, rfl, by omega, by simp, RightInv.start xs n, (But.refl _ _).alloc _, Seg.made _ _ _⟩
      case round =>
        obtain ⟨k, cN, rs, hk, rfl, rfl, hcN, hrl, HI⟩ := hrel
        rename World => wr
        by_cases hk0 : k = 0
        · subst hk0
          have hsl := (unhide HI).2.2.sl xs.length (by omega)
          rw [hrl] at hsl
          have HSL := hide hsl
          have HF := hide (unhide HI).1.fin
          have hln : rs.length < 2147483648 := by omega
          clear hsl HC
          go_wp2_with fail
          refine (trimmed_any _ rs _ (unhide HSL) (unhide HI).1.mem hln).mono ?_
          rintro e w1 ⟨v1, rfl, hv1, hw, hsb⟩
          obtain rfl := hw.symm
          clear hw
          have hown := own_of (lo := w.heap.size) (unhide HI).2.2 hsb hv1 (by have := wd_length_le (B := 18446744073709551616) (by omega) (vl 18446744073709551616 rs) rs.length (vl_lt (by omega) rs (unhide HI).1.mem); exact this) (Nat.le_refl _)
          rw [unhide HF] at hv1
          have HV1 := hide hv1
          have HOW := hide hown
          clear hv1 hown hsb
          go_wp2
          go_ret
          exact ⟨v1, rfl, unhide HV1, (unhide HI).2.1, .inr (unhide HOW)⟩
        · obtain ⟨i, rfl⟩ : ∃ i, k = i + 1 := ⟨k - 1, by omega⟩
          have cx := (unhide HI).2.1.cell_some (unhide HC i (by omega)) (by simp)
          have hxB : xs[i]?.getD 0 < 18446744073709551616 := mem_getD (unhide MM) (by omega) i
          obtain ⟨cr, fr⟩ := (unhide HI).2.2 i (by omega)
          rw [Nat.zero_add] at cr fr
          have hc := (unhide HI).1.car
          obtain ⟨s1, s2, s3, s4, s5⟩ := shr_word _ (vl 18446744073709551616 (xs.drop (i + 1)) % 2 ^ n) n hxB h0 hn (Nat.mod_lt _ (Nat.pow_pos (by omega)))
          have ST := hide ((unhide HI).1.step (by omega) hn _ _ s2 s3 rfl)
          rw [← hc] at s1 s2 ST
          have E1 : bits .or .u64 ((xs[i]?.getD 0 : Nat) / 2 ^ n) (cN : Int) = ((xs[i]?.getD 0 / 2 ^ n + cN : Nat) : Int) := by
            have e : ((xs[i]?.getD 0 : Nat) : Int) / 2 ^ n = ((xs[i]?.getD 0 / 2 ^ n : Nat) : Int) := by simp
            rw [e, bits_or_u64_nat _ _ (Nat.lt_of_le_of_lt (Nat.div_le_self _ _) hxB) hcN, s1]
          have E2 : IntKind.u64.wrap (((xs[i]?.getD 0 : Nat) : Int) * 2 ^ (64 - n)) = ((xs[i]?.getD 0 % 2 ^ n * 2 ^ (64 - n) : Nat) : Int) := by
            have e : ((xs[i]?.getD 0 : Nat) : Int) * 2 ^ (64 - n) = ((xs[i]?.getD 0 * 2 ^ (64 - n) : Nat) : Int) := by simp
            rw [e, IntKind.wrap_u64, ← s4]; omega
          have hc'B : xs[i]?.getD 0 % 2 ^ n * 2 ^ (64 - n) < 18446744073709551616 := by rw [← s4]; omega
          clear s1 s3 s4 s5 hc
          generalize xs[i]?.getD 0 % 2 ^ n * 2 ^ (64 - n) = c' at *
          generalize xs[i]?.getD 0 / 2 ^ n + cN = s at *
          generalize xs[i]?.getD 0 = x at *
          generalize rs[i]?.getD 0 = r at cr
          have hset := (unhide HI).2.2.set i (by omega) s
          rw [Nat.zero_add] at hset
          have HSET := hide hset
          clear hset
          rw [show (((i + 1 : Nat) : Int) - 1) = (i : Int) from by omega]
          go_wp2
          refine ⟨⟨i, c', rs.set i s, by omega, rfl, rfl, hc'B, by rw [List.length_set]; exact hrl, unhide ST, (unhide HI).2.1.setCell (.inr (Nat.le_refl _)) _, unhide HSET⟩, ?_⟩
          simp [intOf]
end Go.Proofs.YtjbboicccddhbaaGreatDoor

namespace Go.Proofs.YtjbboicccddhbaaGreatDoor
open Go.RowKit

theorem wd_word (u : Nat) (h0 : 0 < u) (hu : u < 18446744073709551616) : wd 18446744073709551616 u = [u] := by rw [wd_pos (by omega) h0, Nat.mod_eq_of_lt hu, Nat.div_eq_of_lt hu, wd_zero]
set_option maxHeartbeats 1000000 in
theorem natOf_any (u : Nat) (hu : u < 18446744073709551616) (w : World) :
    Calls Tryz.prog 92 #[.int .u64 u] w fun e w' => ∃ v, e = .returned v ∧ Sl .u64 w' v (wd 18446744073709551616 u) ∧ But [] w w' ∧ Own w.heap.size w' v := by
  by_cases h0 : u = 0
  · subst h0
    go_enter Tryz.func92, Tryz.ntmps92
    go_wp2
    go_ret
    exact ⟨_, rfl, by rw [wd_zero]; exact Sl.nil _ _, But.refl _ _, own_nil _ _ _⟩
  · have n0 : ((u : Int) == 0) = false := by simp; exact h0
    go_enter Tryz.func92, Tryz.ntmps92
    go_wp2
    go_ret
    refine ⟨_, rfl, ?_, (But.refl _ _).alloc _, ?_⟩
    · rw [wd_word u (by omega) hu]
      exact Sl.mk (xs := [u]) w.heap.size 0 1 (by simp) (fun i hi => by
        have : i = 0 := by simpa using hi
        subst this; simp) (fun _ i v hv => by
        rw [World.cell?_alloc_new] at hv
        rcases i with _ | i
        · exact ⟨u, by simpa using hv.symm⟩
        · simp at hv)
    · intro b off n c e
      simp at e
      obtain ⟨⟨rfl, rfl, -⟩, -, -⟩ := e
      exact ⟨Nat.le_refl _, fun i _ => by simp⟩

/-- a word as a number of words: none for 0 -/
theorem word_open {w : World} {v : Value} {u : Nat} (h : Sl .u64 w v (wd 18446744073709551616 u)) (hu : u < 18446744073709551616) : (u = 0 ∧ ∃ a c, v = .slice a 0 c) ∨ (0 < u ∧ ∃ b off c, v = .slice (some ⟨b, off, none⟩) 1 c ∧ w.cell? ⟨b, off, none⟩ = some (.int .u64 u)) := by
  rcases Nat.eq_zero_or_pos u with h0 | h0
  · subst h0
    rw [wd_zero] at h
    obtain ⟨a, c, e, -⟩ := h
    exact .inl ⟨rfl, a, c, e⟩
  · rw [wd_word u h0 hu] at h
    rcases h.open with ⟨e, -⟩ | ⟨-, b, off, c, e, -, -, hc⟩
    · simp at e
    · exact .inr ⟨h0, b, off, c, e, hc 0 (by simp)⟩
theorem wd_len_two (u : Nat) (hu : 18446744073709551616 ≤ u) : 2 ≤ (wd 18446744073709551616 u).length := by
  rcases Nat.lt_or_ge (wd 18446744073709551616 u).length 2 with h | h
  · have := lt_of_wd_length (B := 18446744073709551616) (by omega) u 1 (by omega)
    omega
  · exact h

set_option maxHeartbeats 1000000 in
theorem natWord_any (v : Value) (u : Nat) (hu : u < 18446744073709551616) (w : World) (hv : Sl .u64 w v (wd 18446744073709551616 u)) :
    Calls Tryz.prog 94 #[v] w fun e w' => e = .returned (.tuple #[.int .u64 u, .bool true]) ∧ w' = w := by
  rcases word_open hv hu with ⟨rfl, a, c, rfl⟩ | ⟨h0, b, off, c, rfl, hc⟩
  · go_enter Tryz.func94, Tryz.ntmps94
    go_wp2
    go_ret2
    exact ⟨rfl, rfl⟩
  · go_enter Tryz.func94, Tryz.ntmps94
    go_wp2
    go_ret2
    exact ⟨rfl, rfl⟩
set_option maxHeartbeats 1000000 in
theorem natWord_long (v : Value) (u : Nat) (hu : 18446744073709551616 ≤ u) (w : World) (hv : Sl .u64 w v (wd 18446744073709551616 u)) (hl : (wd 18446744073709551616 u).length < 2147483648) :
    Calls Tryz.prog 94 #[v] w fun e w' => e = .returned (.tuple #[.int .u64 0, .bool false]) ∧ w' = w := by
  have h2 := wd_len_two u hu
  obtain ⟨a, c, rfl, -, -⟩ := hv
  generalize (wd 18446744073709551616 u).length = l at *
  have n0 : ((l : Int) == 0) = false := beq_eq_false_iff_ne.2 (by omega)
  have n1 : ((l : Int) == 1) = false := beq_eq_false_iff_ne.2 (by omega)
  clear hu
  go_enter Tryz.func94, Tryz.ntmps94
  go_wp2
  go_ret2
  exact ⟨rfl, rfl⟩

set_option maxHeartbeats 1000000 in
theorem natOne_any (v : Value) (u : Nat) (w : World) (hv : Sl .u64 w v (wd 18446744073709551616 u)) (hl : (wd 18446744073709551616 u).length < 2147483648) (r : Bool) (hr : Hid (r = decide (u = 1))) :
    Calls Tryz.prog 48 #[v] w fun e w' => e = .returned (.bool r) ∧ w' = w := by
  rcases Nat.lt_or_ge u 18446744073709551616 with hu | hu
  · rcases word_open hv hu with ⟨rfl, a, c, rfl⟩ | ⟨h0, b, off, c, rfl, hc⟩
    · have e : Hid (r = false) := by show _ = _; rw [unhide hr]; rfl
      clear hr
      go_enter Tryz.func48, Tryz.ntmps48
      go_wp2
      go_ret
      exact ⟨by rw [unhide e]; rfl, rfl⟩
    · have e : ((u : Int) == 1) = r := by rw [unhide hr, Bool.eq_iff_iff]; simp; omega
      clear hr
      go_enter Tryz.func48, Tryz.ntmps48
      go_wp2
      go_ret
      exact ⟨rfl, rfl⟩
  · have e : Hid (r = false) := by show _ = _; rw [unhide hr]; simp; omega
    have h2 := wd_len_two u hu
    clear hr hu
    obtain ⟨a, c, rfl, -, -⟩ := hv
    generalize (wd 18446744073709551616 u).length = l at *
    have n1 : ((l : Int) == 1) = false := beq_eq_false_iff_ne.2 (by omega)
    go_enter Tryz.func48, Tryz.ntmps48
    go_wp2
    go_ret
    exact ⟨by rw [unhide e]; rfl, rfl⟩
end Go.Proofs.YtjbboicccddhbaaGreatDoor

namespace Go.Proofs.YtjbboicccddhbaaGreatDoor
open Go.RowKit

set_option maxHeartbeats 400000 in
theorem gcdWords_any (x y : Nat) (w : World) (hx : x < 18446744073709551616) (hy : y < 18446744073709551616) :
    Calls Tryz.prog 66 #[.int .u64 x, .int .u64 y] w fun e w' => e = .returned (.int .u64 (Nat.gcd x y : Nat)) ∧ ∃ n, w' = w.drewN n := by
  go_enter Tryz.func66, Tryz.ntmps66
  go_wp2
  go_loopw [0, 1] (fun a b w' => ∃ p q : Nat, a = .int .u64 p ∧ b = .int .u64 q ∧ p < 18446744073709551616 ∧ q < 18446744073709551616 ∧ Hid (Nat.gcd p q = Nat.gcd x y) ∧ ∃ n, w' = w.drewN n) (fun _ b _ => (intOf b).toNat)
  case atStart => exact ⟨x, y, rfl, rfl, hx, hy, (rfl : Nat.gcd x y = Nat.gcd x y), 0, rfl⟩
  case round =>
    obtain ⟨p, q, rfl, rfl, hp, hq, hg, n, rfl⟩ := hrel
    by_cases h0 : q = 0
    · subst h0
      go_wp2
      go_ret
      exact ⟨by rw [← hg.out]; simp, n, rfl⟩
    · have hb : ((q : Int) == 0) = false := by simp; exact h0
      have hn : ((q : Int) != 0) = true := by simp; exact h0
      go_wp2
      go_quiet (fail)
      go_roundw
      case rel =>
        refine ⟨_, _, _, _, _, _, _, _, ⟨q, p % q, rfl, ?_, hq, ?_, ?_, n + nq, ?_⟩, rfl⟩
        · rw [Int.natCast_emod]
        · exact Nat.lt_trans (Nat.mod_lt _ (Nat.pos_of_ne_zero h0)) hq
        · show Nat.gcd q (p % q) = Nat.gcd x y
          rw [← hg.out, Nat.gcd_comm p q, Nat.gcd_rec q p, Nat.gcd_comm]
        · exact World.drewN_drewN _ _ _
      case measure =>
        simp [intOf]
        have := Nat.mod_lt p (Nat.pos_of_ne_zero h0)
        omega
end Go.Proofs.YtjbboicccddhbaaGreatDoor

namespace Go.Proofs.YtjbboicccddhbaaGreatDoor
open Go.RowKit

set_option maxHeartbeats 1000000 in
theorem under_any (s : Bool) (p q : Nat) (hq : q < 18446744073709551616) (hq0 : 0 < q) (w : World) :
    Calls Tryz.prog 93 #[.agg #[.bool s, .int .u64 (p : Int), .int .u64 ((q : Int) - 1), .pointer none]] w fun e w' => e = .returned (.int .u64 (q : Int)) ∧ But [] w w' := by
  go_enter Tryz.func93, Tryz.ntmps93
  go_wp2
  go_ret
  exact ⟨rfl, (But.refl _ _).alloc _⟩

set_option maxHeartbeats 1000000 in
theorem size_any (x : Int) (h1 : -9223372036854775808 ≤ x) (h2 : x < 9223372036854775808) (w : World) :
    Calls Tryz.prog 52 #[.int .i64 x] w fun e w' => e = .returned (.int .u64 (x.natAbs : Nat)) ∧ w' = w := by
  by_cases hx : x < 0
  · have e1 : IntKind.u64.wrap (-IntKind.u64.wrap x) = ((x.natAbs : Nat) : Int) := by rw [IntKind.wrap_u64, IntKind.wrap_u64]; omega
    obtain ⟨n, hn⟩ : ∃ n : Nat, n = x.natAbs := ⟨_, rfl⟩
    rw [← hn] at e1 ⊢
    clear hn
    go_enter Tryz.func52, Tryz.ntmps52
    go_wp2
    go_ret
    exact ⟨rfl, rfl⟩
  · obtain ⟨n, rfl⟩ := Int.eq_ofNat_of_zero_le (Int.not_lt.1 hx)
    rw [Int.natAbs_natCast]
    go_enter Tryz.func52, Tryz.ntmps52
    go_wp2
    go_ret
    exact ⟨rfl, rfl⟩

set_option maxHeartbeats 1000000 in
theorem ofWords_any (s : Bool) (p q : Nat) (hp : p < 18446744073709551616) (hq : q < 18446744073709551616) (hq0 : 0 < q) (r : Bool) (hr : Hid (r = (s && decide (p ≠ 0)))) (w : World) :
    Calls Tryz.prog 67 #[.bool s, .int .u64 (p : Int), .int .u64 (q : Int)] w fun e w' => e = .returned (.agg #[.bool r, .int .u64 (p : Int), .int .u64 ((q : Int) - 1), .pointer none]) ∧ But [] w w' := by
  have e : ((p : Int) != 0) = decide (p ≠ 0) := by rw [Bool.eq_iff_iff]; simp
  by_cases h0 : p = 0
  · subst h0
    have er : Hid (r = false) := by show _ = _; rw [unhide hr]; simp
    clear hr e
    cases s
    all_goals
      go_enter Tryz.func67, Tryz.ntmps67
      go_wp2
      rw [unhide er]
      exact bodyPost_ret (v := .agg #[.bool false, .int .u64 ((0 : Nat) : Int), .int .u64 ((q : Int) - 1), .pointer none]) (by simp [results, Tryz.results67, go_sem]) rfl ⟨rfl, (But.refl _ _).alloc _⟩
  · have e1 : ((p : Int) != 0) = true := by rw [e]; simp [h0]
    cases s
    · have er : Hid (r = false) := by show _ = _; rw [unhide hr]; simp
      clear hr e
      go_enter Tryz.func67, Tryz.ntmps67
      go_wp2
      rw [unhide er]
      exact bodyPost_ret (v := .agg #[.bool false, .int .u64 (p : Int), .int .u64 ((q : Int) - 1), .pointer none]) (by simp [results, Tryz.results67, go_sem]) rfl ⟨rfl, (But.refl _ _).alloc _⟩
    · have er : Hid (r = true) := by show _ = _; rw [unhide hr]; simp [h0]
      clear hr e
      go_enter Tryz.func67, Tryz.ntmps67
      go_wp2
      rw [unhide er]
      exact bodyPost_ret (v := .agg #[.bool true, .int .u64 (p : Int), .int .u64 ((q : Int) - 1), .pointer none]) (by simp [results, Tryz.results67, go_sem]) rfl ⟨rfl, (But.refl _ _).alloc _⟩

set_option maxHeartbeats 1000000 in
theorem fracOf_zero (x : Int) (w : World) :
    Calls Tryz.prog 24 #[.int .i64 x, .int .i64 0] w fun e w' => e = .returned (.tuple #[.agg #[.bool false, .int .u64 0, .int .u64 0, .pointer none], .iface 92 (.int .i64 11)]) ∧ But [] w w' := by
  go_enter Tryz.func24, Tryz.ntmps24
  go_wp2
  exact bodyPost_ret (v := .tuple #[.agg #[.bool false, .int .u64 0, .int .u64 0, .pointer none], .iface 92 (.int .i64 11)]) (by simp [results, Tryz.results24, go_sem]) rfl ⟨rfl, (But.refl _ _).alloc _⟩

set_option maxHeartbeats 4000000 in
theorem fracOf_any (x y : Int) (hx1 : -9223372036854775808 ≤ x) (hx2 : x < 9223372036854775808) (hy1 : -9223372036854775808 ≤ y) (hy2 : y < 9223372036854775808) (hy0 : y ≠ 0) (w : World) (r : Bool) (p q : Nat) (hr : Hid (r = ((decide (x < 0) != decide (y < 0)) && decide (p ≠ 0)))) (hp : Hid (p = x.natAbs / Nat.gcd x.natAbs y.natAbs)) (hq : Hid (q = y.natAbs / Nat.gcd x.natAbs y.natAbs)) :
    Calls Tryz.prog 24 #[.int .i64 x, .int .i64 y] w fun e w' => e = .returned (.tuple #[.agg #[.bool r, .int .u64 (p : Int), .int .u64 ((q : Int) - 1), .pointer none], .nilIface]) ∧ But [] w w' := by
  have n0 : (y == 0) = false := by simp; exact hy0
  obtain ⟨g, hg⟩ : ∃ g, g = Nat.gcd x.natAbs y.natAbs := ⟨_, rfl⟩
  have hg0 : 0 < g := by rw [hg]; exact Nat.gcd_pos_of_pos_right _ (by omega)
  have hgl : g ≤ y.natAbs := by rw [hg]; exact Nat.gcd_le_right _ (by omega)
  have hp' : p = x.natAbs / g := by rw [hg]; exact unhide hp
  have hq' : q = y.natAbs / g := by rw [hg]; exact unhide hq
  have hp64 : p < 18446744073709551616 := by rw [hp']; exact Nat.lt_of_le_of_lt (Nat.div_le_self _ _) (by omega)
  have hq64 : q < 18446744073709551616 := by rw [hq']; exact Nat.lt_of_le_of_lt (Nat.div_le_self _ _) (by omega)
  have hq0 : 0 < q := by rw [hq']; exact Nat.div_pos hgl hg0
  have hgz : ((g : Int) == 0) = false := by simp; omega
  have hg64 : g < 18446744073709551616 := by omega
  obtain ⟨a, ha⟩ : ∃ a, a = x.natAbs := ⟨_, rfl⟩
  obtain ⟨b, hb⟩ : ∃ b, b = y.natAbs := ⟨_, rfl⟩
  have ha64 : a < 18446744073709551616 := by omega
  have hb64 : b < 18446744073709551616 := by omega
  have d1 : (a : Int) / (g : Int) = (p : Int) := by rw [hp', ← ha, Int.natCast_ediv]
  have d2 : (b : Int) / (g : Int) = (q : Int) := by rw [hq', ← hb, Int.natCast_ediv]
  have d3 : (a : Int).tdiv (g : Int) = (p : Int) := by rw [Int.tdiv_eq_ediv_of_nonneg (by omega)]; exact d1
  have d4 : (b : Int).tdiv (g : Int) = (q : Int) := by rw [Int.tdiv_eq_ediv_of_nonneg (by omega)]; exact d2
  have d5 : IntKind.u64.wrap (p : Int) = (p : Int) := by rw [IntKind.wrap_u64]; omega
  have d6 : IntKind.u64.wrap (q : Int) = (q : Int) := by rw [IntKind.wrap_u64]; omega
  have HA := hide ha
  have HB := hide hb
  have HG := hide hg
  clear hp' hq' ha hb hg hgl
  obtain ⟨s1, hs1⟩ : ∃ s1, s1 = decide (x < 0) := ⟨_, rfl⟩
  go_enter Tryz.func24, Tryz.ntmps24
  go_wp2_with fail
  refine (size_any x hx1 hx2 _).mono ?_
  rintro e w1 ⟨rfl, hw⟩
  obtain rfl := hw.symm
  clear hw
  rw [← unhide HA]
  go_wp2_with fail
  refine (size_any y hy1 hy2 _).mono ?_
  rintro e w1 ⟨rfl, hw⟩
  obtain rfl := hw.symm
  clear hw
  rw [← unhide HB]
  go_wp2_with fail
  refine (gcdWords_any a b _ ha64 hb64).mono ?_
  rintro e w1 ⟨rfl, k, rfl⟩
  rw [show Nat.gcd a b = g from by rw [unhide HA, unhide HB, unhide HG]]
  go_wp2
  have hb0 : But [] w ((w.alloc (.cells #[.bool false, .int .u64 0, .int .u64 0, .pointer none] 27)).drewN k) := ((But.refl _ _).alloc _).drewN k
  have c0 : ((w.alloc (.cells #[.bool false, .int .u64 0, .int .u64 0, .pointer none] 27)).drewN k).cell? ⟨w.heap.size, 0, none⟩ = some (.bool false) := by simp
  have c1 : ((w.alloc (.cells #[.bool false, .int .u64 0, .int .u64 0, .pointer none] 27)).drewN k).cell? ⟨w.heap.size, 1, none⟩ = some (.int .u64 0) := by simp
  have c2 : ((w.alloc (.cells #[.bool false, .int .u64 0, .int .u64 0, .pointer none] 27)).drewN k).cell? ⟨w.heap.size, 2, none⟩ = some (.int .u64 0) := by simp
  have c3 : ((w.alloc (.cells #[.bool false, .int .u64 0, .int .u64 0, .pointer none] 27)).drewN k).cell? ⟨w.heap.size, 3, none⟩ = some (.pointer none) := by simp
  have hf : ∀ j, ((w.alloc (.cells #[.bool false, .int .u64 0, .int .u64 0, .pointer none] 27)).drewN k).frozen? ⟨w.heap.size, j, none⟩ = false := by intro j; simp
  have hsz : w.heap.size < ((w.alloc (.cells #[.bool false, .int .u64 0, .int .u64 0, .pointer none] 27)).drewN k).heap.size := by simp
  generalize (w.alloc (.cells #[.bool false, .int .u64 0, .int .u64 0, .pointer none] 27)).drewN k = W at *
  obtain ⟨gb, hgb⟩ : ∃ gb, gb = w.heap.size := ⟨_, rfl⟩
  rw [← hgb] at c0 c1 c2 c3 hf hsz
  rw [← hgb]
  have HGB := hide hgb
  clear hgb
  go_region_with (go_at_call 67; refine (ofWords_any (decide (x < 0) != decide (y < 0)) p q hp64 hq64 hq0 r hr _).mono ?_; rintro e w1 ⟨rfl, hb1⟩; have B1 : But [] W w1 := (by first | exact hb1 | exact (But.refl _ _).drew.trans' hb1); have k0 := B1.cell_some c0 (by simp); have k1 := B1.cell_some c1 (by simp); have k2 := B1.cell_some c2 (by simp); have k3 := B1.cell_some c3 (by simp); have f0 := (B1.frozen (p := ⟨gb, 0, none⟩) hsz (by simp)).trans (hf 0); have f1 := (B1.frozen (p := ⟨gb, 1, none⟩) hsz (by simp)).trans (hf 1); have f2 := (B1.frozen (p := ⟨gb, 2, none⟩) hsz (by simp)).trans (hf 2); have f3 := (B1.frozen (p := ⟨gb, 3, none⟩) hsz (by simp)).trans (hf 3))
  all_goals go_wp2
  all_goals
    have hge : w.heap.size ≤ gb := Nat.le_of_eq (unhide HGB).symm
    exact bodyPost_ret (v := .tuple #[.agg #[.bool r, .int .u64 (p : Int), .int .u64 ((q : Int) - 1), .pointer none], .nilIface]) (by simp [results, Tryz.results24, go_sem, k0, k1, k2, k3]) rfl ⟨rfl, (((((hb0.trans' B1).setCell (.inr hge) _).setCell (.inr hge) _).setCell (.inr hge) _).setCell (.inr hge) _)⟩
end Go.Proofs.YtjbboicccddhbaaGreatDoor

namespace Go.Proofs.YtjbboicccddhbaaGreatDoor
open Go.RowKit

set_option maxHeartbeats 1000000 in
theorem whole_any (x : Int) (h1 : -9223372036854775808 ≤ x) (h2 : x < 9223372036854775808) (w : World) :
    Calls Tryz.prog 16 #[.int .i64 x] w fun e w' => e = .returned (.agg #[.bool (decide (x < 0)), .int .u64 ((x.natAbs : Nat) : Int), .int .u64 (((1 : Nat) : Int) - 1), .pointer none]) ∧ But [] w w' := by
  obtain ⟨s, hs⟩ : ∃ s, s = decide (x < 0) := ⟨_, rfl⟩
  obtain ⟨n, hn⟩ : ∃ n, n = x.natAbs := ⟨_, rfl⟩
  rw [← hs, ← hn]
  have HS := hide hs
  have HN := hide hn
  go_enter Tryz.func16, Tryz.ntmps16
  go_wp2_with fail
  refine (size_any x h1 h2 _).mono ?_
  rintro e w1 ⟨rfl, hw⟩
  obtain rfl := hw.symm
  go_wp2
  exact bodyPost_ret (v := .agg #[.bool (decide (x < 0)), .int .u64 ((x.natAbs : Nat) : Int), .int .u64 0, .pointer none]) (by simp [results, Tryz.results16, go_sem]) rfl ⟨by rw [unhide HS, unhide HN]; rfl, (But.refl _ _).alloc _⟩
end Go.Proofs.YtjbboicccddhbaaGreatDoor
