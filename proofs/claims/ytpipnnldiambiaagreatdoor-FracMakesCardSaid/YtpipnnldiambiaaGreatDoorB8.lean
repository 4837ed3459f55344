/- The quotient and the common divisor of numbers of two words at most, as the Go text of package tontinebig reckons them. -/
import Derived.Test.YtpipnnldiambiaaGreatDoorB7
import Derived.Deep.RegionWith
namespace Go.Proofs.YtpipnnldiambiaaGreatDoor
open Go.RowKit

theorem len_le_two (m : Nat) (h : m < 18446744073709551616) : (wd 4294967296 m).length ≤ 2 := wd_length_le (by omega) m 2 (by omega)

set_option maxHeartbeats 2000000 in
theorem common_short (va vb : Value) (m n : Nat) (w : World) (ha : Sl .u32 w va (wd 4294967296 m)) (hb : Sl .u32 w vb (wd 4294967296 n)) (hm : m < 18446744073709551616) (hn : n < 18446744073709551616) (hn0 : 0 < n) :
    Calls Tryz.prog 76 #[va, vb] w fun e w' => ∃ v', e = .returned v' ∧ Sl .u32 w' v' (wd 4294967296 (Nat.gcd m n)) ∧ But [] w w' := by
  have hla := len_le_two m hm
  have hlb := len_le_two n hn
  have hl0 : 0 < (wd 4294967296 n).length := by
    have := wd_len_zero (B := 4294967296) (by omega) n
    omega
  have ha' := ha
  have hb' := hb
  obtain ⟨a, cap, rfl, -, -⟩ := ha
  obtain ⟨b, cap', rfl, -, -⟩ := hb
  have n0 : (((wd 4294967296 n).length : Int) == 0) = false := by simp; intro h; simp [h] at hl0
  generalize (wd 4294967296 m).length = la at *
  generalize (wd 4294967296 n).length = lb at *
  have HA := hide ha'
  have HB := hide hb'
  clear ha' hb'
  go_enter Tryz.func76, Tryz.ntmps76
  go_wp2
  refine wp_loop_rounds 1 ?_
  rw [rounds_succ]
  go_wp2_with fail
  refine (plain_any _ m _ (unhide HA) hm).mono ?_
  rintro e w1 ⟨rfl, hw1⟩
  obtain rfl := hw1.symm
  go_wp2_with fail
  refine (plain_any _ n _ (unhide HB) hn).mono ?_
  rintro e w1 ⟨rfl, hw1⟩
  obtain rfl := hw1.symm
  go_wp2
  clear HA HB n0 hl0 hla hlb hw1
  go_loopw [9, 10] (fun x y w' => ∃ p q : Nat, x = .int .u64 p ∧ y = .int .u64 q ∧ p < 18446744073709551616 ∧ q < 18446744073709551616 ∧ Hid (Nat.gcd p q = Nat.gcd m n) ∧ ∃ n, w' = w.drewN n) (fun _ y _ => (intOf y).toNat)
  case atStart => exact ⟨m, n, rfl, rfl, hm, hn, (rfl : Nat.gcd m n = Nat.gcd m n), 0, rfl⟩
  case round =>
    obtain ⟨p, q, rfl, rfl, hp, hq, hg, k, rfl⟩ := hrel
    by_cases h0 : q = 0
    · subst h0
      go_wp2_with fail
      refine (words_any p _ hp).mono ?_
      rintro e w' ⟨v', rfl, hs, hb1⟩
      go_wp2
      go_ret
      have hgg := unhide hg
      rw [Nat.gcd_zero_right] at hgg
      rw [hgg] at hs
      exact ⟨v', rfl, hs, ((But.refl _ _).drewN k).trans' hb1⟩
    · have hbq : ((q : Int) == 0) = false := by simp; exact h0
      have hlt : 0 < q := Nat.pos_of_ne_zero h0
      go_wp2
      go_quiet (fail)
      go_roundw
      case rel =>
        refine ⟨_, _, _, _, _, _, _, _, ⟨q, p % q, rfl, ?_, hq, ?_, ?_, dr1 _ _ _⟩, rfl⟩
        · rw [Int.natCast_emod]
        · exact Nat.lt_trans (Nat.mod_lt _ (Nat.pos_of_ne_zero h0)) hq
        · show Nat.gcd q (p % q) = Nat.gcd m n
          rw [← hg.out, Nat.gcd_comm p q, Nat.gcd_rec q p, Nat.gcd_comm]
      case measure =>
        simp [intOf]
        have := Nat.mod_lt p (Nat.pos_of_ne_zero h0)
        omega

set_option maxHeartbeats 2000000 in
set_option maxRecDepth 100000 in
theorem div_short (va vb : Value) (m n : Nat) (w : World) (ha : Sl .u32 w va (wd 4294967296 m)) (hb : Sl .u32 w vb (wd 4294967296 n)) (hm : m < 18446744073709551616) (hn : n < 18446744073709551616) (hn0 : 0 < n) :
    Calls Tryz.prog 77 #[va, vb] w fun e w' => ∃ v1 v2, e = .returned (.tuple #[v1, v2]) ∧ Sl .u32 w' v1 (wd 4294967296 (m / n)) ∧ Sl .u32 w' v2 (wd 4294967296 (m % n)) ∧ But [] w w' := by
  have hla := len_le_two m hm
  have hlb := len_le_two n hn
  have hl0 : 0 < (wd 4294967296 n).length := by
    have := wd_len_zero (B := 4294967296) (by omega) n
    omega
  have HC := hide (cmp_any va vb m n w ha hb (by omega) (by omega))
  have HT := hide (fun k => twin_any va (wd 4294967296 m) (w.drewN k) ha (by omega))
  have PA := hide (fun k => plain_any va m (w.drewN k) ha hm)
  have PB := hide (fun k => plain_any vb n (w.drewN k) hb hn)
  obtain ⟨a, cap, rfl, -, -⟩ := ha
  obtain ⟨b, cap', rfl, -, -⟩ := hb
  have n0 : (((wd 4294967296 n).length : Int) == 0) = false := by simp; intro h; simp [h] at hl0
  generalize (wd 4294967296 m).length = la at *
  generalize (wd 4294967296 n).length = lb at *
  by_cases hlt : m < n
  · have hc : Hid (cmpN m n = -1) := by show _ = _; simp [cmpN, hlt]
    go_enter Tryz.func77, Tryz.ntmps77
    go_wp2_with fail
    refine (unhide HC).mono ?_
    rintro e w1 ⟨rfl, k, rfl⟩
    rw [unhide hc]
    go_wp2_with fail
    refine (unhide HT k).mono ?_
    rintro e w1 ⟨v', rfl, hs, hb1⟩
    go_wp2
    go_ret2
    refine ⟨_, v', rfl, ?_, ?_, ((But.refl _ _).drewN k).trans' hb1⟩
    · rw [Nat.div_eq_of_lt hlt, wd_zero]; exact Sl.nil _ _
    · rw [Nat.mod_eq_of_lt hlt]; exact hs
  · have hc : Hid (0 ≤ cmpN m n) := by show _ ≤ _; simp only [cmpN]; rw [if_neg hlt]; split <;> omega
    go_enter Tryz.func77, Tryz.ntmps77
    go_wp2_with fail
    refine (unhide HC).mono ?_
    rintro e w1 ⟨rfl, k, rfl⟩
    have hc0 := unhide hc
    generalize cmpN m n = c at *
    go_wp2_with fail
    refine (unhide PA k).mono ?_
    rintro e w1 ⟨rfl, hw1⟩
    obtain rfl := hw1.symm
    go_wp2_with fail
    refine (unhide PB k).mono ?_
    rintro e w1 ⟨rfl, hw1⟩
    obtain rfl := hw1.symm
    clear hw1 HC HT PA PB hc
    obtain ⟨W, hW⟩ : ∃ W, W = w.drewN k := ⟨_, rfl⟩
    rw [← hW]
    have HW := hide hW
    clear hW
    have hq0 : ((n : Int) == 0) = false := by simp; omega
    obtain ⟨q, hq⟩ : ∃ q : Nat, q = m / n := ⟨_, rfl⟩
    obtain ⟨r, hr⟩ : ∃ r : Nat, r = m % n := ⟨_, rfl⟩
    have hq64 : q < 18446744073709551616 := by rw [hq]; exact Nat.lt_of_le_of_lt (Nat.div_le_self _ _) hm
    have hr64 : r < 18446744073709551616 := by rw [hr]; exact Nat.lt_trans (Nat.mod_lt _ hn0) hn
    have e1 : (m : Int) / (n : Int) = (q : Int) := by rw [hq, Int.natCast_ediv]
    have e2 : (m : Int) % (n : Int) = (r : Int) := by rw [hr, Int.natCast_emod]
    have e3 : (m : Int).tdiv (n : Int) = (q : Int) := by rw [Int.tdiv_eq_ediv_of_nonneg (by omega)]; exact e1
    have e4 : (m : Int).tmod (n : Int) = (r : Int) := by rw [Int.tmod_eq_emod_of_nonneg (by omega)]; exact e2
    have e5 : IntKind.u64.wrap (q : Int) = (q : Int) := by rw [IntKind.wrap_u64]; omega
    have HQ := hide hq
    have HR := hide hr
    clear hq hr
    go_wp2
    go_region_with (first
      | (go_at_call_of 79 (Value.int IntKind.u64 (q : Int)); refine (words_any q _ hq64).mono ?_; rintro e wq ⟨vq, rfl, hvq, hbq⟩)
      | (go_at_call_of 79 (Value.int IntKind.u64 (r : Int)); refine (words_any r _ hr64).mono ?_; rintro e wr ⟨vr, rfl, hvr, hbr⟩))
    all_goals go_wp2
    all_goals go_ret2
    all_goals rw [← unhide HQ, ← unhide HR]
    all_goals have h1 : But [] w W := by rw [unhide HW]; exact (But.refl _ _).drewN k
    all_goals first
      | exact ⟨vq, vr, rfl, hvq.but_nil hbr, hvr, (h1.drew.trans' hbq).trans' hbr⟩
      | exact ⟨vq, vr, rfl, hvq, hvr.but_nil hbq, (h1.drew.trans' hbr).trans' hbq⟩
end Go.Proofs.YtpipnnldiambiaaGreatDoor
