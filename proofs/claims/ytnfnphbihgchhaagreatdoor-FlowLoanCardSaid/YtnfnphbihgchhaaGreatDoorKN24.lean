/- A power of a whole number, as the Go text of package nat makes it. -/
import Derived.Laws.Bits64b
import Derived.Lib.ItoaNum
import Derived.Test.YtnfnphbihgchhaaGreatDoorKN8
import Derived.Test.YtnfnphbihgchhaaGreatDoorKNA
import Derived.Test.YtnfnphbihgchhaaGreatDoorKShelf
namespace Go.Proofs.YtnfnphbihgchhaaGreatDoor
open Go.RowKit

theorem i64_and1 (a : Nat) (ha : a < 9223372036854775808) : bits .and .i64 (a : Int) 1 = ((a % 2 : Nat) : Int) := by
  have h1 : (BitVec.ofInt 64 (a : Int)).toNat = a := by
    rw [BitVec.ofInt_natCast, BitVec.toNat_ofNat]; exact Nat.mod_eq_of_lt (by omega)
  have h2 : (BitVec.ofInt 64 (1 : Int)).toNat = 1 := rfl
  show IntKind.i64.wrap ((BitVec.ofInt 64 (a : Int) &&& BitVec.ofInt 64 (1 : Int)).toNat : Int) = _
  rw [BitVec.toNat_and, h1, h2, Nat.and_one_is_mod, IntKind.wrap_i64]
  omega
theorem half_step (n i : Nat) : n / 2 ^ i = 2 * (n / 2 ^ (i + 1)) + n / 2 ^ i % 2 := by
  rw [Nat.pow_succ, ← Nat.div_div_eq_div_mul]; omega
theorem pow_even (X n i : Nat) (h : n / 2 ^ i % 2 = 0) : X ^ (n / 2 ^ (i + 1)) * X ^ (n / 2 ^ (i + 1)) = X ^ (n / 2 ^ i) := by
  rw [half_step n i, h, ← Nat.pow_add]; congr 1; omega
theorem pow_odd (X n i : Nat) (h : n / 2 ^ i % 2 = 1) : X ^ (n / 2 ^ (i + 1)) * X ^ (n / 2 ^ (i + 1)) * X = X ^ (n / 2 ^ i) := by
  rw [half_step n i, h, ← Nat.pow_add, ← Nat.pow_succ]; congr 1; omega
theorem lt_bitLen (n : Nat) (h : n < 18446744073709551616) : n < 2 ^ Lib.bitLen n ∧ Lib.bitLen n ≤ 64 := by
  by_cases h0 : n = 0
  · subst h0; exact ⟨by decide, by decide⟩
  · exact ⟨(Lib.bitLenAux_bounds 64 n h h0).2.2, Lib.bitLen_le n 64 (by omega) h⟩

set_option maxHeartbeats 4000000 in
set_option maxRecDepth 100000 in
theorem natPow_any (v : Value) (X n : Nat) (w : World) (hv : Sl .u64 w v (wd 18446744073709551616 X)) (hX : 0 < X) (hn : n < 2147483648) (hl : (wd 18446744073709551616 X).length + (wd 18446744073709551616 (X ^ n)).length < 67108864) :
    Calls Tryz.prog 84 #[v, .int .i64 (n : Int)] w fun e w' => ∃ v', e = .returned v' ∧ Sl .u64 w' v' (wd 18446744073709551616 (X ^ n)) ∧ But [] w w' := by
  obtain ⟨L, hL⟩ : ∃ L, L = Lib.bitLen n := ⟨_, rfl⟩
  have hb := lt_bitLen n (by omega)
  have BL := hide (fun W => Tryz.bits_Len (n : Int) W (by omega) (by omega))
  rw [Int.toNat_natCast, ← hL] at BL
  rw [← hL] at hb
  obtain ⟨hb1, hb2⟩ := hb
  have hlen : Hid (∀ i, (wd 18446744073709551616 (X ^ (n / 2 ^ i))).length < 67108864 ∧ (wd 18446744073709551616 X).length + (wd 18446744073709551616 (X ^ (n / 2 ^ i))).length < 67108864) := fun i => by
    have := wd_len_mono (Nat.pow_le_pow_right hX (Nat.div_le_self n (2 ^ i)))
    omega
  have hlen2 : Hid (∀ i, (wd 18446744073709551616 (X ^ (n / 2 ^ (i + 1)) * X ^ (n / 2 ^ (i + 1)))).length + (wd 18446744073709551616 X).length < 67108864) := fun i => by
    rw [← Nat.pow_add]
    have h3 := half_step n i
    have h4 := Nat.div_le_self n (2 ^ i)
    have := wd_len_mono (Nat.pow_le_pow_right hX (show n / 2 ^ (i + 1) + n / 2 ^ (i + 1) ≤ n from by omega))
    omega
  have HV := hide hv
  have hdiv : n / 2 ^ L = 0 := Nat.div_eq_of_lt hb1
  have hst : Hid ((1 : Nat) = X ^ (n / 2 ^ L)) := by show _ = _; rw [hdiv, Nat.pow_zero]
  clear hv hl hdiv hb1 hL
  obtain ⟨xa, xc, rfl, -, -⟩ := unhide HV
  generalize hnx : (wd 18446744073709551616 X).length = nx at *
  have HNX := hide hnx
  clear hnx
  go_enter Tryz.func84, Tryz.ntmps84
  go_wp2_with fail
  refine (natOf_any 1 (by omega) _).mono ?_
  rintro e w1 ⟨v1, rfl, hv1, hb1, -⟩
  have H1 := hide hv1
  have B1 := hide hb1
  clear hv1 hb1
  go_wp2_with fail
  refine (unhide BL _).mono ?_
  rintro e w2 ⟨rfl, hw⟩
  obtain rfl := hw.symm
  clear hw
  go_wp2
  go_loopw [5, 6] (fun o i wr => ∃ k : Nat, k ≤ L ∧ i = .int .i64 ((k : Int) - 1) ∧ Hid (Sl .u64 wr o (wd 18446744073709551616 (X ^ (n / 2 ^ k))) ∧ But [] w wr)) (fun _ i _ => (intOf i + 1).toNat)
  case atStart => exact ⟨L, Nat.le_refl _, rfl, by rw [← unhide hst]; exact unhide H1, unhide B1⟩
  case round =>
    obtain ⟨k, hk, rfl, HI⟩ := hrel
    rename World => wr
    by_cases hk0 : k = 0
    · subst hk0
      go_wp2
      go_ret
      have h := (unhide HI).1
      rw [Nat.pow_zero, Nat.div_one] at h
      exact ⟨_, rfl, h, (unhide HI).2⟩
    · obtain ⟨i, rfl⟩ : ∃ i, k = i + 1 := ⟨k - 1, by omega⟩
      rw [show (((i + 1 : Nat) : Int) - 1) = (i : Int) from by omega]
      have hq : n / 2 ^ i < 9223372036854775808 := by have := Nat.div_le_self n (2 ^ i); omega
      have E1 : bits .and .i64 ((n : Int) / 2 ^ i) 1 = ((n / 2 ^ i % 2 : Nat) : Int) := by
        have e : (n : Int) / 2 ^ i = ((n / 2 ^ i : Nat) : Int) := by simp
        rw [e, i64_and1 _ hq]
      obtain ⟨a, c, ho⟩ : ∃ a c, u5 = .slice a (wd 18446744073709551616 (X ^ (n / 2 ^ (i + 1)))).length c := by obtain ⟨a, c, e, -, -⟩ := (unhide HI).1; exact ⟨a, c, e⟩
      have MU := hide (natMul_any u5 u5 _ _ wr (unhide HI).1 (unhide HI).1 (by have := (unhide hlen (i + 1)).1; omega))
      have L2 := hide (unhide hlen2 i)
      subst ho
      generalize hm : (wd 18446744073709551616 (X ^ (n / 2 ^ (i + 1)))).length = m at *
      clear hm
      rcases Nat.mod_two_eq_zero_or_one (n / 2 ^ i) with hpar | hpar
      · have e1 : (((n / 2 ^ i % 2 : Nat) : Int) == 1) = false := by rw [hpar]; rfl
        have EV := hide (pow_even X n i hpar)
        generalize n / 2 ^ i % 2 = b at *
        go_wp2_with fail
        refine (unhide MU).mono ?_
        rintro e w3 ⟨v3, rfl, hv3, hb3, -⟩
        rw [unhide EV] at hv3
        have H3 := hide hv3
        have B3 : Hid (But [] w w3) := (unhide HI).2.trans' hb3
        clear hv3 hb3
        go_wp2
        refine ⟨⟨i, by omega, rfl, unhide H3, unhide B3⟩, ?_⟩
        simp [intOf]
      · have e1 : (((n / 2 ^ i % 2 : Nat) : Int) == 1) = true := by rw [hpar]; rfl
        have EV := hide (pow_odd X n i hpar)
        generalize n / 2 ^ i % 2 = b at *
        go_wp2_with fail
        refine (unhide MU).mono ?_
        rintro e w3 ⟨v3, rfl, hv3, hb3, -⟩
        have B3 : Hid (But [] w w3) := (unhide HI).2.trans' hb3
        have MX := hide (natMul_any v3 (.slice xa nx xc) _ X w3 hv3 ((unhide HV).but_nil (unhide B3)) (by rw [unhide HNX]; have := unhide L2; omega))
        obtain ⟨a3, c3, e3, -, -⟩ := hv3
        subst e3
        clear hb3
        rw [unhide EV] at MX
        generalize (wd 18446744073709551616 (X ^ (n / 2 ^ (i + 1)) * X ^ (n / 2 ^ (i + 1)))).length = m3 at *
        go_wp2_with fail
        refine (unhide MX).mono ?_
        rintro e w4 ⟨v4, rfl, hv4, hb4, -⟩
        have H4 := hide hv4
        have B4 : Hid (But [] w w4) := (unhide B3).trans' hb4
        clear hv4 hb4
        go_wp2
        refine ⟨⟨i, by omega, rfl, unhide H4, unhide B4⟩, ?_⟩
        simp [intOf]
end Go.Proofs.YtnfnphbihgchhaaGreatDoor
