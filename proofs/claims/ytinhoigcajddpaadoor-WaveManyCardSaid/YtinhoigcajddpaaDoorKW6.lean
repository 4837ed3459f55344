/- How many numbers can be halved down to one; Turn, as the Go text of package wave has it. -/
import Derived.Test.YtinhoigcajddpaaDoorKW5
namespace Go.Proofs.YtinhoigcajddpaaDoor
open Go.RowKit

set_option maxHeartbeats 4000000 in
set_option maxRecDepth 100000 in
theorem check_ok (e : Nat) (h : e ≤ 8) (w : World) : Calls Tryd.prog 8 #[.int .i64 ((2 ^ e : Nat) : Int)] w fun r w' => r = .returned .nilIface ∧ w' = w := by
  have : e = 0 ∨ e = 1 ∨ e = 2 ∨ e = 3 ∨ e = 4 ∨ e = 5 ∨ e = 6 ∨ e = 7 ∨ e = 8 := by omega
  rcases this with rfl | rfl | rfl | rfl | rfl | rfl | rfl | rfl | rfl
  all_goals
    go_enter Tryd.func8, Tryd.ntmps8
    go_wp2
    go_ret
    exact ⟨rfl, rfl⟩
theorem and_all : ((List.range 257).all fun n => (bits .and .i64 (n : Int) ((n : Int) - 1) != 0) || n == 0 || (List.range 9).any fun e => n == 2 ^ e) = true := by kernel_rfl
theorem and_bad (n : Nat) (h : n ≤ 256) (h0 : 1 ≤ n) (hb : ∀ e, e ≤ 8 → n ≠ 2 ^ e) : (bits .and .i64 (n : Int) ((n : Int) - 1) != 0) = true := by
  have h1 := List.all_eq_true.1 and_all n (List.mem_range.2 (by omega))
  rw [Bool.or_eq_true, Bool.or_eq_true] at h1
  rcases h1 with (h1 | h1) | h1
  · exact h1
  · have := beq_iff_eq.1 h1
    omega
  · obtain ⟨e, he, h2⟩ := List.any_eq_true.1 h1
    exact absurd (beq_iff_eq.1 h2) (hb e (by have := List.mem_range.1 he; omega))
set_option maxHeartbeats 4000000 in
set_option maxRecDepth 100000 in
theorem check_bad (n : Nat) (h : n ≤ 300) (hb : ∀ e, e ≤ 8 → n ≠ 2 ^ e) (w : World) : Calls Tryd.prog 8 #[.int .i64 (n : Int)] w fun r w' => r = .returned (.iface 27 (.int .i64 4)) ∧ w' = w := by
  by_cases h0 : n = 0
  · subst h0
    go_enter Tryd.func8, Tryd.ntmps8
    go_wp2
    go_ret
    exact ⟨rfl, rfl⟩
  · by_cases h1 : 256 < n
    · clear hb
      go_enter Tryd.func8, Tryd.ntmps8
      go_wp2
      go_ret
      exact ⟨rfl, rfl⟩
    · have h2 : 1 ≤ n := by omega
      have h3 : n ≤ 256 := by omega
      have hand := and_bad n h3 h2 hb
      clear hb
      go_enter Tryd.func8, Tryd.ntmps8
      go_wp2
      go_ret
      exact ⟨rfl, rfl⟩

/-- each part divided by the number of all -/
def cdiv (c : Nat) (z : CV) : CV := (fop .quo z.1 (can c), fop .quo z.2 (can c))
def tb (back : Bool) (e : Nat) (f : Nat → CV) (i : Nat) : CV := if back then cdiv (floatOfInt .f64 ((2 ^ e : Nat) : Int)) (tn true e f i) else tn false e f i
theorem conv_f (n : Int) (w : World) : (convert 3 32 (.int .i64 n)).run Tryd.prog w = .ok (.float .f64 (floatOfInt .f64 n)) w :=
  run_convert_int_float w 3 32 .i64 .f64 n (by rw [Tryd.underlying3]; rfl) Tryd.underlying32

set_option maxHeartbeats 8000000 in
set_option maxRecDepth 100000 in
theorem turn_false (e : Nat) (h : e ≤ 8) (v : Value) (f : Nat → CV) (w : World) (hv : CAt w v (2 ^ e) f) : Calls Tryd.prog 9 #[v, .bool false] w fun r w' => ∃ g, r = .returned (.tuple #[.slice (some ⟨g, 0, none⟩) (2 ^ e) (2 ^ e), .nilIface]) ∧ w.heap.size ≤ g ∧ CRow w' g (2 ^ e) (tb false e f) ∧ But [] w w' := by
  have ht := turned_any false e h v f w hv
  have hck := check_ok e h w
  obtain ⟨F, hF⟩ : ∃ F, F = tn false e f := ⟨_, rfl⟩
  have hFb : tb false e f = F := by rw [hF]; rfl
  rw [hFb]
  rw [← hF] at ht
  obtain ⟨a, cap, rfl, -, -⟩ := hv
  have h256 : 2 ^ e ≤ 256 := (show 2 ^ e ≤ 2 ^ 8 from Nat.pow_le_pow_right (by omega) h)
  obtain ⟨n, hn⟩ : ∃ n, n = 2 ^ e := ⟨_, rfl⟩
  rw [← hn] at ht hck h256 ⊢
  have HT := hide ht
  have HC := hide hck
  clear ht hck hF hFb hn
  go_enter Tryd.func9, Tryd.ntmps9
  go_wp2_with fail
  refine (unhide HC).mono ?_
  rintro r w1 ⟨rfl, hw⟩
  obtain rfl := hw.symm
  go_wp2_with fail
  refine (unhide HT).mono ?_
  rintro r w1 ⟨g, rfl, hg, hr, hb⟩
  have HR := hide (And.intro hg (And.intro hr hb))
  clear hg hr hb
  go_wp2
  refine bodyPost_ret (v := .tuple #[.slice (some ⟨g, 0, none⟩) n n, .nilIface]) (by simp [results, Tryd.results9, go_sem]) rfl ?_
  exact ⟨g, rfl, unhide HR⟩

set_option maxHeartbeats 8000000 in
set_option maxRecDepth 100000 in
theorem turn_true (e : Nat) (h : e ≤ 8) (v : Value) (f : Nat → CV) (w : World) (hv : CAt w v (2 ^ e) f) : Calls Tryd.prog 9 #[v, .bool true] w fun r w' => ∃ g, r = .returned (.tuple #[.slice (some ⟨g, 0, none⟩) (2 ^ e) (2 ^ e), .nilIface]) ∧ w.heap.size ≤ g ∧ CRow w' g (2 ^ e) (tb true e f) ∧ But [] w w' := by
  have ht := turned_any true e h v f w hv
  have hck := check_ok e h w
  obtain ⟨F, hF⟩ : ∃ F, F = tn true e f := ⟨_, rfl⟩
  obtain ⟨C, hC⟩ : ∃ C, C = floatOfInt .f64 ((2 ^ e : Nat) : Int) := ⟨_, rfl⟩
  have hFb : tb true e f = fun i => cdiv C (F i) := by rw [hF, hC]; rfl
  have hcv := fun (w : World) => conv_f ((2 ^ e : Nat) : Int) w
  rw [hFb]
  rw [← hF] at ht
  rw [← hC] at hcv
  obtain ⟨a, cap, rfl, -, -⟩ := hv
  have h256 : 2 ^ e ≤ 256 := (show 2 ^ e ≤ 2 ^ 8 from Nat.pow_le_pow_right (by omega) h)
  obtain ⟨n, hn⟩ : ∃ n, n = 2 ^ e := ⟨_, rfl⟩
  rw [← hn] at ht hck h256 hcv ⊢
  have HT := hide ht
  have HC := hide hck
  have hst := store_c
  have hq := fun t x y w => run_fl (P := Tryd.prog) w .quo (by simp) t x y
  clear ht hck hF hFb hn hC
  go_enter Tryd.func9, Tryd.ntmps9
  go_wp2_with fail
  refine (unhide HC).mono ?_
  rintro r w1 ⟨rfl, hw⟩
  obtain rfl := hw.symm
  go_wp2_with fail
  refine (unhide HT).mono ?_
  rintro r w1 ⟨g, rfl, hg, hr, hb⟩
  have HR := hide (And.intro hg (And.intro hr hb))
  clear hg hr hb
  go_wp2
  go_loopw [26] (fun i wq => ∃ k : Nat, i = .int .i64 (k : Int) ∧ k ≤ n ∧ Hid (CRow wq g n (fun i => if i < k then cdiv C (F i) else F i) ∧ But [g] w1 wq)) (fun i _ => n - (intOf i).toNat)
  case atStart => exact ⟨0, rfl, by omega, (unhide HR).2.1.ext fun i hi => by rw [if_neg (by omega)], But.refl _ _⟩
  case round =>
    obtain ⟨k, rfl, hkn, HI⟩ := hrel
    rename World => wq
    by_cases hlt : k < n
    · obtain ⟨x, y, c0, e0, f0⟩ := (unhide HI).1 k hlt
      have E0 : Hid (cx x y = F k) := e0.trans (if_neg (by omega))
      clear e0
      go_wp2
      refine ⟨⟨k + 1, by go_num, by omega, ?_, ?_⟩, by simp [intOf]; omega⟩
      · refine (((unhide HI).1.but ((But.refl [] _).drewN _) (by simp)).set k _ _).ext fun i hi => ?_
        by_cases h1 : i = k
        · rw [if_pos h1, if_pos (by omega), h1, ← unhide E0]
          simp only [cx, cdiv, can_flB]
        · rw [if_neg h1]
          by_cases h2 : i < k
          · rw [if_pos h2, if_pos (by omega)]
          · rw [if_neg h2, if_neg (by omega)]
      · exact ((unhide HI).2.drewN _).setCell (p := ⟨g, k, none⟩) (.inl (by simp)) _
    · obtain rfl : k = n := by omega
      go_wp2
      refine bodyPost_ret (v := .tuple #[.slice (some ⟨g, 0, none⟩) k k, .nilIface]) (by simp [results, Tryd.results9, go_sem]) rfl ?_
      exact ⟨g, rfl, (unhide HR).1, (unhide HI).1.ext fun i hi => by rw [if_pos hi], (unhide HR).2.2.trans (unhide HI).2 (fun x hx => by simp at hx; subst hx; exact .inr (unhide HR).1)⟩
end Go.Proofs.YtinhoigcajddpaaDoor
