/- Powers and first roots of complex numbers, as the Go texts of packages wave and tontineref have them. -/
import Derived.Test.YtinhoigcajddpaaDoorKW1
namespace Go.Proofs.YtinhoigcajddpaaDoor
open Go.RowKit

/-- p times the power of x, by squares -/
def cpow (p x : CV) (n : Nat) : CV := if _h : n = 0 then p else cpow (if n % 2 = 1 then cprod p x else p) (cprod x x) (n / 2)
  termination_by n
  decreasing_by exact Nat.div_lt_self (by omega) (by omega)
theorem cpow_zero (p x : CV) : cpow p x 0 = p := by rw [cpow]; simp
theorem cpow_odd (p x : CV) (n : Nat) (h : n % 2 = 1) : cpow p x n = cpow (cprod p x) (cprod x x) (n / 2) := by rw [cpow, dif_neg (by omega), if_pos h]
theorem cpow_even (p x : CV) (n : Nat) (h : n % 2 = 0) (h0 : n ≠ 0) : cpow p x n = cpow p (cprod x x) (n / 2) := by rw [cpow, dif_neg h0, if_neg (by omega)]
theorem tmod_nat (k : Nat) : (k : Int).tmod 2 = ((k % 2 : Nat) : Int) := rfl
theorem tdiv_nat (k : Nat) : (k : Int).tdiv 2 = ((k / 2 : Nat) : Int) := rfl
theorem drewN_ex {w wr : World} (h : ∃ q, wr = w.drewN q) (n : Nat) : ∃ m, wr.drewN n = w.drewN m := by
  obtain ⟨q, h⟩ := h
  exact ⟨q + n, by rw [h, World.drewN_drewN]⟩
def c1 : CV := cx 4607182418800017408 0

set_option maxHeartbeats 4000000 in
set_option maxRecDepth 100000 in
theorem power_any (a b n : Nat) (hn : n ≤ 200) (w : World) : Calls Tryd.prog 10 #[.complex .f64 a b, .int .i64 (n : Int)] w fun e w' => ∃ x y q, e = .returned (.complex .f64 x y) ∧ w' = w.drewN q ∧ cx x y = cpow c1 (cx a b) n := by
  obtain ⟨R, hR⟩ : ∃ R, R = cpow c1 (cx a b) n := ⟨_, rfl⟩
  rw [← hR]
  have HR := hide hR
  clear hR
  go_enter Tryd.func10, Tryd.ntmps10
  go_wp2
  go_loopw [0, 1, 5] (fun x m p wr => ∃ a b c d k : Nat, x = .complex .f64 a b ∧ m = .int .i64 (k : Int) ∧ p = .complex .f64 c d ∧ k ≤ 200 ∧ Hid ((∃ q, wr = w.drewN q) ∧ R = cpow (cx c d) (cx a b) k)) (fun _ m _ _ => (intOf m).toNat)
  case atStart => exact ⟨a, b, _, _, n, rfl, rfl, rfl, hn, ⟨0, rfl⟩, unhide HR⟩
  case round =>
    obtain ⟨a, b, c, d, k, rfl, rfl, rfl, hk, HI⟩ := hrel
    rename World => wr
    clear HR
    by_cases h0 : k = 0
    · subst h0
      go_wp2
      go_ret
      obtain ⟨⟨q, hq⟩, hR⟩ := unhide HI
      exact ⟨_, _, q, rfl, hq, by rw [hR, cpow_zero]⟩
    · rcases Nat.mod_two_eq_zero_or_one k with hm | hm
      · have hm' : (k : Int).tmod 2 = 0 := by rw [tmod_nat, hm]; rfl
        go_wp2_with fail
        refine (product_any a b a b _).mono ?_
        rintro e w1 ⟨x, y, q1, rfl, rfl, h1⟩
        have H1 := hide h1
        clear h1
        go_wp2
        obtain ⟨⟨q, hq⟩, hR⟩ := unhide HI
        refine ⟨⟨x, y, c, d, k / 2, rfl, by go_num, rfl, by omega, ⟨q + q1, by rw [hq, World.drewN_drewN]⟩, by rw [hR, cpow_even _ _ _ hm h0, unhide H1]⟩, by simp [intOf]; omega⟩
      · have hm' : (k : Int).tmod 2 = 1 := by rw [tmod_nat, hm]; rfl
        go_wp2_with fail
        refine (product_any c d a b _).mono ?_
        rintro e w1 ⟨x, y, q1, rfl, rfl, h1⟩
        have H1 := hide h1
        clear h1
        go_wp2_with fail
        refine (product_any a b a b _).mono ?_
        rintro e w1 ⟨x2, y2, q2, rfl, rfl, h2⟩
        have H2 := hide h2
        clear h2
        go_wp2
        obtain ⟨⟨q, hq⟩, hR⟩ := unhide HI
        refine ⟨⟨x2, y2, x, y, k / 2, rfl, by go_num, rfl, by omega, ⟨q + q1 + q2, by rw [hq]; simp only [World.drewN_drewN, Nat.add_assoc]⟩, by rw [hR, cpow_odd _ _ _ hm, unhide H1, unhide H2]⟩, by simp [intOf]; omega⟩

/-- the first roots of 4, 8, 16 and so on -/
def zstep (z : CV) : CV :=
  (fsqrt (fop .quo (fop .add (can 4607182418800017408) z.1) (can 4611686018427387904)), fop .quo z.2 (fop .mul (can 4611686018427387904) (fsqrt (fop .quo (fop .add (can 4607182418800017408) z.1) (can 4611686018427387904)))))
def zr : Nat → CV
  | 0 => cx 0 4607182418800017408
  | j + 1 => zstep (zr j)
/-- the first root of 2 to the power of e -/
def rt : Nat → CV
  | 0 => cx 0 0
  | 1 => cx 13830554455654793216 0
  | j + 2 => zr j

set_option maxHeartbeats 4000000 in
set_option maxRecDepth 100000 in
theorem firstRoot_any (e : Nat) (h0 : 1 ≤ e) (h8 : e ≤ 8) (w : World) : Calls Tryd.prog 28 #[.int .i64 ((2 ^ e : Nat) : Int)] w fun r w' => ∃ x y q, r = .returned (.complex .f64 x y) ∧ w' = w.drewN q ∧ cx x y = rt e := by
  have hm := fun t x y w => run_fl (P := Tryd.prog) w .mul (by simp) t x y
  have hq := fun t x y w => run_fl (P := Tryd.prog) w .quo (by simp) t x y
  have ha := fun t x y w => run_fl (P := Tryd.prog) w .add (by simp) t x y
  by_cases h1 : e = 1
  · subst h1
    go_enter Tryd.func28, Tryd.ntmps28
    go_wp2
    go_ret
    exact ⟨_, _, 0, rfl, rfl, rfl⟩
  · obtain ⟨n, hn⟩ : ∃ n, n = 2 ^ e := ⟨_, rfl⟩
    rw [← hn]
    have HN := hide hn
    have hn4 : 4 ≤ n := by rw [hn]; exact (show 2 ^ 2 ≤ 2 ^ e from Nat.pow_le_pow_right (by omega) (by omega))
    have hn256 : n ≤ 256 := by rw [hn]; exact (show 2 ^ e ≤ 2 ^ 8 from Nat.pow_le_pow_right (by omega) h8)
    have hn2 : ((n : Int) == 2) = false := by
      rw [beq_eq_false_iff_ne]
      omega
    clear hn
    go_enter Tryd.func28, Tryd.ntmps28
    go_wp2
    go_loopw [3, 4, 5] (fun u v m wr => ∃ x y k : Nat, u = .float .f64 x ∧ v = .float .f64 y ∧ m = .int .i64 (k : Int) ∧ 4 ≤ k ∧ k ≤ n ∧ Hid (∃ j, j + 2 ≤ e ∧ k = 2 ^ (j + 2) ∧ (∃ q, wr = w.drewN q) ∧ cx x y = zr j)) (fun _ _ m _ => n - (intOf m).toNat)
    case atStart => exact ⟨_, _, 4, rfl, rfl, rfl, by omega, by omega, 0, by omega, rfl, ⟨0, rfl⟩, rfl⟩
    case round =>
      obtain ⟨x, y, k, rfl, rfl, rfl, hk4, hkn, HI⟩ := hrel
      rename World => wr
      by_cases hlt : k < n
      · go_wp2_with fail
        refine (sqrt_any _ _).mono ?_
        rintro e1 w1 ⟨u, q1, rfl, rfl, h1⟩
        have H1 := hide h1
        clear h1
        go_wp2
        obtain ⟨j, hj, hk, hw, hz⟩ := unhide HI
        have hje : j + 2 < e := by
          rcases Nat.lt_or_ge (j + 2) e with h | h
          · exact h
          · have : j + 2 = e := by omega
            rw [this, ← unhide HN] at hk
            omega
        have hk2 : 2 * k = 2 ^ (j + 1 + 2) := by rw [hk, show j + 1 + 2 = (j + 2) + 1 from by omega, Nat.pow_succ 2 (j + 2), Nat.mul_comm]
        have hle : 2 * k ≤ n := by
          rw [hk2, unhide HN]
          exact Nat.pow_le_pow_right (by omega) (by omega)
        refine ⟨⟨u, _, 2 * k, rfl, rfl, by go_num, by omega, hle, j + 1, by omega, hk2, drewN_ex hw _, ?_⟩, by simp [intOf]; omega⟩
        have hu := unhide H1
        simp only [can_flB] at hu
        have hz1 : can x = (zr j).1 := congrArg Prod.fst hz
        have hz2 : can y = (zr j).2 := congrArg Prod.snd hz
        show (can u, can _) = zstep (zr j)
        simp only [can_flB, hu, zstep, hz1, hz2]
      · obtain rfl : k = n := by omega
        go_wp2
        go_ret
        obtain ⟨j, hj, hk, hw, hz⟩ := unhide HI
        obtain ⟨q, hw⟩ := hw
        refine ⟨_, _, q, rfl, hw, ?_⟩
        have hje : e = j + 2 := by
          have h2 := unhide HN
          rw [hk] at h2
          exact ((Nat.pow_right_inj (by omega)).1 h2).symm
        rw [hje]
        exact hz

set_option maxHeartbeats 4000000 in
set_option maxRecDepth 100000 in
theorem refRoot_any : ∀ (e : Nat), 1 ≤ e → e ≤ 8 → ∀ w : World, Calls Tryd.prog 24 #[.int .i64 ((2 ^ e : Nat) : Int)] w fun r w' => ∃ x y q, r = .returned (.complex .f64 x y) ∧ w' = w.drewN q ∧ cx x y = rt e
  | 0, h, _, _ => absurd h (by omega)
  | 1, _, _, w => by
    go_enter Tryd.func24, Tryd.ntmps24
    go_wp2
    go_ret
    exact ⟨_, _, 0, rfl, rfl, rfl⟩
  | 2, _, _, w => by
    go_enter Tryd.func24, Tryd.ntmps24
    go_wp2
    go_ret
    exact ⟨_, _, 0, rfl, rfl, rfl⟩
  | j + 3, _, h8, w => by
    have hm := fun t x y w => run_fl (P := Tryd.prog) w .mul (by simp) t x y
    have hq := fun t x y w => run_fl (P := Tryd.prog) w .quo (by simp) t x y
    have ha := fun t x y w => run_fl (P := Tryd.prog) w .add (by simp) t x y
    have ih := refRoot_any (j + 2) (by omega) (by omega)
    obtain ⟨m, hm'⟩ : ∃ m, m = 2 ^ (j + 2) := ⟨_, rfl⟩
    have e1 : 2 ^ (j + 3) = m * 2 := by rw [hm', show j + 3 = j + 2 + 1 from rfl, Nat.pow_succ]
    have hm4 : 4 ≤ m := by rw [hm']; exact (show 2 ^ 2 ≤ 2 ^ (j + 2) from Nat.pow_le_pow_right (by omega) (by omega))
    have hm256 : m ≤ 256 := by rw [hm']; exact (show 2 ^ (j + 2) ≤ 2 ^ 8 from Nat.pow_le_pow_right (by omega) (by omega))
    rw [← hm'] at ih
    rw [e1]
    obtain ⟨n, hn⟩ : ∃ n, n = m * 2 := ⟨_, rfl⟩
    rw [← hn]
    have hn8 : 8 ≤ n := by omega
    have hn512 : n ≤ 512 := by omega
    have hdiv : (n : Int) / 2 = (m : Int) := by omega
    have hdiv' : (n : Int).tdiv 2 = (m : Int) := by rw [tdiv_nat]; omega
    have IH := hide ih
    clear ih hm' e1 hn
    go_enter Tryd.func24, Tryd.ntmps24
    go_wp2_with fail
    refine (unhide IH _).mono ?_
    rintro e1 w1 ⟨x, y, q1, rfl, rfl, h1⟩
    have H1 := hide h1
    clear h1
    go_wp2_with fail
    refine (sqrt_any _ _).mono ?_
    rintro e1 w1 ⟨u, q2, rfl, rfl, h2⟩
    have H2 := hide h2
    clear h2
    go_wp2
    go_ret
    refine ⟨_, _, _, rfl, rfl, ?_⟩
    have hu := unhide H2
    simp only [can_flB] at hu
    have hz := unhide H1
    have hz1 : can x = (rt (j + 2)).1 := congrArg Prod.fst hz
    have hz2 : can y = (rt (j + 2)).2 := congrArg Prod.snd hz
    show (can u, can _) = zstep (zr j)
    simp only [can_flB, hu, zstep, hz1, hz2, rt]
end Go.Proofs.YtinhoigcajddpaaDoor
