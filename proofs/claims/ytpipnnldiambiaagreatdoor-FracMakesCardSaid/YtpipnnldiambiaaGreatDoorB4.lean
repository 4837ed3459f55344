/- Two numbers in words are compared, as the Go text of package tontinebig does it. -/
import Derived.Test.YtpipnnldiambiaaGreatDoorB2
namespace Go.Proofs.YtpipnnldiambiaaGreatDoor
open Go.RowKit

def cmpN (m n : Nat) : Int := if m < n then -1 else if m = n then 0 else 1

theorem len_lt {B : Nat} (hB : 1 < B) (m n : Nat) (h : (wd B m).length < (wd B n).length) : m < n := by
  rcases Nat.lt_or_ge m n with h1 | h1
  · exact h1
  · have h2 := lt_of_wd_length hB m _ (Nat.le_refl _)
    have h3 := wd_length_le hB n _ (Nat.lt_of_le_of_lt h1 h2)
    omega
theorem vl_split (B : Nat) (xs : List Nat) (i : Nat) (h : i < xs.length) : vl B xs = vl B (xs.take i) + B ^ i * (xs[i]?.getD 0 + B * vl B (xs.drop (i + 1))) := by
  have e : xs = xs.take i ++ (xs[i]?.getD 0 :: xs.drop (i + 1)) := by
    rw [List.getElem?_eq_getElem h, Option.getD_some, ← List.drop_eq_getElem_cons h, List.take_append_drop]
  have h2 := congrArg (vl B) e
  rw [vl_append, List.length_take, Nat.min_eq_left (by omega)] at h2
  exact h2
theorem vl_top {B : Nat} (hB : 1 < B) (xs ys : List Nat) (i : Nat) (hx : i < xs.length) (hy : i < ys.length) (mx : ∀ x ∈ xs, x < B) (hd : xs.drop (i + 1) = ys.drop (i + 1)) (hlt : xs[i]?.getD 0 < ys[i]?.getD 0) : vl B xs < vl B ys := by
  rw [vl_split B xs i hx, vl_split B ys i hy, hd]
  have h1 := vl_lt (by omega : 0 < B) (xs.take i) (fun x hx => mx x (List.mem_of_mem_take hx))
  rw [List.length_take, Nat.min_eq_left (by omega)] at h1
  have h2 : B ^ i * (xs[i]?.getD 0 + B * vl B (ys.drop (i + 1)) + 1) ≤ B ^ i * (ys[i]?.getD 0 + B * vl B (ys.drop (i + 1))) := Nat.mul_le_mul_left _ (by omega)
  rw [Nat.mul_add, Nat.mul_one] at h2
  omega
theorem drop_step (xs ys : List Nat) (i : Nat) (hx : i < xs.length) (hy : i < ys.length) (hd : xs.drop (i + 1) = ys.drop (i + 1)) (he : xs[i]?.getD 0 = ys[i]?.getD 0) : xs.drop i = ys.drop i := by
  rw [List.drop_eq_getElem_cons hx, List.drop_eq_getElem_cons hy, hd]
  rw [List.getElem?_eq_getElem hx, List.getElem?_eq_getElem hy] at he
  simp only [Option.getD_some] at he
  rw [he]

set_option maxHeartbeats 1000000 in
theorem cmp_any (va vb : Value) (m n : Nat) (w : World) (ha : Sl .u32 w va (wd 4294967296 m)) (hb : Sl .u32 w vb (wd 4294967296 n)) (hla : (wd 4294967296 m).length < 2147483648) (hlb : (wd 4294967296 n).length < 2147483648) :
    Calls Tryz.prog 72 #[va, vb] w fun e w' => e = .returned (.int .i64 (cmpN m n)) ∧ ∃ q, w' = w.drewN q := by
  have mm := wd_mem (B := 4294967296) (by omega) m
  have mn := wd_mem (B := 4294967296) (by omega) n
  have em := vl_wd (B := 4294967296) (by omega) m
  have en := vl_wd (B := 4294967296) (by omega) n
  have lt1 := len_lt (B := 4294967296) (by omega) m n
  have lt2 := len_lt (B := 4294967296) (by omega) n m
  generalize wd 4294967296 m = xs at *
  generalize wd 4294967296 n = ys at *
  have A := hide em
  have B := hide en
  have C := hide mm
  have D := hide mn
  clear em en mm mn
  by_cases hne : xs.length = ys.length
  · rcases ha.open with ⟨rfl, a, cap, rfl⟩ | ⟨h0, b, off, cap, rfl, hc, hbl, hcell⟩
    · have : ys = [] := List.length_eq_zero_iff.1 (by simpa using hne.symm)
      subst this
      obtain ⟨b', cap', rfl, -, -⟩ := hb
      have e0 : cmpN m n = 0 := by
        have := unhide A; have := unhide B
        simp only [vl] at *
        simp [cmpN, ← unhide A, ← unhide B]
      have E := hide e0
      clear e0 lt1 lt2
      go_enter Tryz.func72, Tryz.ntmps72
      go_wp2
      refine wp_loop_rounds 1 ?_
      rw [rounds_succ]
      go_wp2
      go_ret
      exact ⟨by rw [unhide E]; rfl, 0, rfl⟩
    · rcases hb.open with ⟨rfl, a, cap', rfl⟩ | ⟨h0', b', off', cap', rfl, hc', hbl', hcell'⟩
      · simp at hne; simp [hne] at h0
      · clear ha hb lt1 lt2
        have hne' : ((xs.length : Int) != (ys.length : Int)) = false := by simp [hne]
        have N := hide hne
        clear hne
        go_enter Tryz.func72, Tryz.ntmps72
        go_wp2
        go_loopw [5] (fun i w' => ∃ k : Nat, k ≤ xs.length ∧ i = .int .i64 ((k : Int) - 1) ∧ Hid (xs.drop k = ys.drop k) ∧ ∃ q, w' = w.drewN q) (fun i _ => (intOf i + 1).toNat)
        case atStart => exact ⟨xs.length, Nat.le_refl _, rfl, by show _ = _; rw [List.drop_length, unhide N, List.drop_length], 0, rfl⟩
        case round =>
          obtain ⟨k, hk, rfl, hd, q, rfl⟩ := hrel
          by_cases hk0 : k = 0
          · subst hk0
            have e0 : cmpN m n = 0 := by
              have h1 := unhide hd
              simp only [List.drop_zero] at h1
              have : m = n := by rw [← unhide A, ← unhide B, h1]
              simp [cmpN, this]
            have E := hide e0
            clear e0
            go_wp2
            go_ret
            exact ⟨by rw [unhide E]; rfl, q, rfl⟩
          · obtain ⟨i, rfl⟩ : ∃ i, k = i + 1 := ⟨k - 1, by omega⟩
            have hil : i < ys.length := by rw [← unhide N]; omega
            have c1 := hcell i (by omega)
            have c2 := hcell' i hil
            rw [show (((i + 1 : Nat) : Int) - 1) = (i : Int) from by omega]
            clear hcell hcell'
            have P1 := hide (fun h : xs[i]?.getD 0 < ys[i]?.getD 0 => vl_top (B := 4294967296) (by omega) xs ys i (by omega) hil (unhide C) (unhide hd) h)
            have P2 := hide (fun h : ys[i]?.getD 0 < xs[i]?.getD 0 => vl_top (B := 4294967296) (by omega) ys xs i hil (by omega) (unhide D) (unhide hd).symm h)
            have P3 := hide (fun h : xs[i]?.getD 0 = ys[i]?.getD 0 => drop_step xs ys i (by omega) hil (unhide hd) h)
            generalize xs[i]?.getD 0 = x at *
            generalize ys[i]?.getD 0 = y at *
            by_cases hxy : x = y
            · have n1 : ((x : Int) != (y : Int)) = false := by simp [hxy]
              have G := hide hxy
              clear hxy
              go_wp2
              go_quiet (fail)
              go_wp2
              go_roundw
              case rel => exact ⟨i, by omega, rfl, unhide P3 (unhide G), _, rfl⟩
              case measure => simp [intOf]
            · have n1 : ((x : Int) != (y : Int)) = true := by simp; omega
              by_cases hlt : x < y
              · have e0 : cmpN m n = -1 := by
                  have := unhide P1 hlt
                  rw [unhide A, unhide B] at this
                  simp [cmpN, this]
                have E := hide e0
                clear e0
                go_wp2
                go_quiet (fail)
                go_wp2
                go_quiet (fail)
                go_wp2
                go_ret
                exact ⟨by rw [unhide E]; rfl, dr2 _ _ _ _⟩
              · have e0 : cmpN m n = 1 := by
                  have := unhide P2 (by omega)
                  rw [unhide A, unhide B] at this
                  simp only [cmpN]
                  rw [if_neg (by omega), if_neg (by omega)]
                have E := hide e0
                clear e0
                go_wp2
                go_quiet (fail)
                go_wp2
                go_quiet (fail)
                go_wp2
                go_ret
                exact ⟨by rw [unhide E]; rfl, dr2 _ _ _ _⟩
  · obtain ⟨a, cap, rfl, -, -⟩ := ha
    obtain ⟨b', cap', rfl, -, -⟩ := hb
    have n1 : ((xs.length : Int) != (ys.length : Int)) = true := by simp; omega
    by_cases hlt : xs.length < ys.length
    · have e0 : cmpN m n = -1 := by simp [cmpN, lt1 hlt]
      have E := hide e0
      clear e0 lt1 lt2
      go_enter Tryz.func72, Tryz.ntmps72
      go_wp2
      go_ret
      exact ⟨by rw [unhide E]; rfl, 0, rfl⟩
    · have e0 : cmpN m n = 1 := by
        have := lt2 (by omega)
        simp only [cmpN]
        rw [if_neg (by omega), if_neg (by omega)]
      have E := hide e0
      clear e0 lt1 lt2
      go_enter Tryz.func72, Tryz.ntmps72
      go_wp2
      go_ret
      exact ⟨by rw [unhide E]; rfl, 0, rfl⟩

set_option maxHeartbeats 1000000 in
theorem intCmp_nat (b o b' o' : Nat) (m n : Nat) (w : World) (hx : IntAt w b o m) (hy : IntAt w b' o' n) (hlx : (wd 4294967296 m).length < 2147483648) (hly : (wd 4294967296 n).length < 2147483648) :
    Calls Tryz.prog 49 #[.pointer (some ⟨b, o, none⟩), .pointer (some ⟨b', o', none⟩)] w fun e w' => e = .returned (.int .i64 (cmpN m n)) ∧ ∃ q, w' = w.drewN q := by
  obtain ⟨h0, v0, h1, hv⟩ := hx
  obtain ⟨g0, v1, g1, hv'⟩ := hy
  rw [show decide ((m : Int) < 0) = false from decide_eq_false (by omega)] at h0
  rw [show decide ((n : Int) < 0) = false from decide_eq_false (by omega)] at g0
  go_enter Tryz.func49, Tryz.ntmps49
  go_wp2
  go_quiet (fail)
  go_wp2
  obtain ⟨W, hW⟩ : ∃ W, W = w.drewN nq := ⟨_, rfl⟩
  have k0 : W.cell? ⟨b, o, none⟩ = some (.bool false) := by rw [hW]; exact h0
  have k1 : W.cell? ⟨b, o + 1, none⟩ = some v0 := by rw [hW]; exact h1
  have l1 : W.cell? ⟨b', o' + 1, none⟩ = some v1 := by rw [hW]; exact g1
  have hva : Sl .u32 W v0 (wd 4294967296 m) := by rw [hW]; exact hv
  have hvb : Sl .u32 W v1 (wd 4294967296 n) := by rw [hW]; exact hv'
  rw [← hW]
  have HW := hide hW
  clear hW
  go_quiet ((go_at_call 72; refine Calls.quiet_of (cmp_any v0 v1 m n _ ?_ ?_ hlx hly); exact hva; exact hvb))
  go_wp2
  go_ret
  exact ⟨rfl, by rw [unhide HW]; exact dr1 _ _ _⟩
end Go.Proofs.YtpipnnldiambiaaGreatDoor
