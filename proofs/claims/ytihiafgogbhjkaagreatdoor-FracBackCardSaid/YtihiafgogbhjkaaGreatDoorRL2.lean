/- A pair's fraction, as the Go text of package plain makes it; how long sums and products are. -/
import Derived.Test.YtihiafgogbhjkaaGreatDoorRC1
import Derived.Test.YtihiafgogbhjkaaGreatDoorRF13
namespace Go.Proofs.YtihiafgogbhjkaaGreatDoor
open Go.RowKit

theorem len_small {f : Rat} {n : Nat} (h : Len f n) (hn : n ≤ 31) : f.num.natAbs < 10 ^ 608 ∧ f.den < 10 ^ 608 := by
  have e : 18446744073709551616 ^ 31 < 10 ^ 608 := by decide +kernel
  have e2 : 18446744073709551616 ^ n ≤ 18446744073709551616 ^ 31 := Nat.pow_le_pow_right (by omega) hn
  exact ⟨Nat.lt_of_lt_of_le (lt_of_wd_length (by omega) _ _ h.1) (Nat.le_trans e2 (Nat.le_of_lt e)), Nat.lt_of_lt_of_le (lt_of_wd_length (by omega) _ _ h.2) (Nat.le_trans e2 (Nat.le_of_lt e))⟩

theorem rat_ex (s : Bool) (p q : Nat) (hq : 0 < q) (hc : Nat.Coprime p q) : ∃ f : Rat, f.num = sgn s p ∧ f.den = q :=
  ⟨⟨sgn s p, q, by omega, by rw [sgn_abs]; exact hc⟩, rfl, rfl⟩
theorem gcd_cop (x y : Nat) (hy : 0 < y) : Nat.Coprime (x / Nat.gcd x y) (y / Nat.gcd x y) := Nat.coprime_div_gcd_div_gcd (Nat.gcd_pos_of_pos_right _ hy)

theorem len_of {f : Rat} {m n : Nat} (h1 : f.num.natAbs < 18446744073709551616 ^ m) (h2 : f.den < 18446744073709551616 ^ n) (k : Nat) (hm : m ≤ k) (hn : n ≤ k) : Len f k :=
  ⟨Nat.le_trans (wd_length_le (by omega) _ _ h1) hm, Nat.le_trans (wd_length_le (by omega) _ _ h2) hn⟩
theorem Len.mono {f : Rat} {m n : Nat} (h : Len f m) (hn : m ≤ n) : Len f n := ⟨Nat.le_trans h.1 hn, Nat.le_trans h.2 hn⟩
theorem Len.lt {f : Rat} {m : Nat} (h : Len f m) : f.num.natAbs < 18446744073709551616 ^ m ∧ f.den < 18446744073709551616 ^ m := ⟨lt_of_wd_length (by omega) _ _ h.1, lt_of_wd_length (by omega) _ _ h.2⟩
theorem len_mul {f g : Rat} {m n : Nat} (h1 : Len f m) (h2 : Len g n) (k : Nat) (hk : m + n ≤ k) : Len (f * g) k := by
  obtain ⟨a1, a2⟩ := h1.lt
  obtain ⟨c1, c2⟩ := h2.lt
  obtain ⟨e1, e2⟩ := mul_low f g _ _ rfl rfl
  refine len_of (m := m + n) (n := m + n) ?_ ?_ k hk hk
  · rw [e1, sgn_abs, Nat.pow_add]
    exact Nat.mul_lt_mul'' (Nat.lt_of_le_of_lt (Nat.div_le_self _ _) a1) (Nat.lt_of_le_of_lt (Nat.div_le_self _ _) c1)
  · rw [e2, Nat.pow_add]
    exact Nat.mul_lt_mul'' (Nat.lt_of_le_of_lt (Nat.div_le_self _ _) a2) (Nat.lt_of_le_of_lt (Nat.div_le_self _ _) c2)
theorem len_add {f g : Rat} {m n : Nat} (h1 : Len f m) (h2 : Len g n) (k : Nat) (hk : m + n + 1 ≤ k) : Len (f + g) k := by
  obtain ⟨a1, a2⟩ := h1.lt
  obtain ⟨c1, c2⟩ := h2.lt
  obtain ⟨M, s, hM⟩ : ∃ (M : Nat) (s : Bool), f.num * (g.den / Nat.gcd f.den g.den : Nat) + g.num * (f.den / Nat.gcd f.den g.den : Nat) = sgn s M := by
    generalize f.num * (g.den / Nat.gcd f.den g.den : Nat) + g.num * (f.den / Nat.gcd f.den g.den : Nat) = z
    by_cases hz : z < 0
    · exact ⟨z.natAbs, true, by simp [sgn]; omega⟩
    · exact ⟨z.natAbs, false, by simp [sgn]; omega⟩
  obtain ⟨e1, e2⟩ := add_low f g s M _ _ rfl rfl hM
  have hMl : M < 18446744073709551616 ^ (m + n + 1) := by
    have h3 : M ≤ f.num.natAbs * (g.den / Nat.gcd f.den g.den) + g.num.natAbs * (f.den / Nat.gcd f.den g.den) := by
      rw [← sgn_abs s M, ← hM]
      refine Nat.le_trans (Int.natAbs_add_le _ _) ?_
      rw [Int.natAbs_mul, Int.natAbs_mul, Int.natAbs_natCast, Int.natAbs_natCast]
      exact Nat.le_refl _
    have h4 : f.num.natAbs * (g.den / Nat.gcd f.den g.den) < 18446744073709551616 ^ m * 18446744073709551616 ^ n := Nat.mul_lt_mul'' a1 (Nat.lt_of_le_of_lt (Nat.div_le_self _ _) c2)
    have h5 : g.num.natAbs * (f.den / Nat.gcd f.den g.den) < 18446744073709551616 ^ n * 18446744073709551616 ^ m := Nat.mul_lt_mul'' c1 (Nat.lt_of_le_of_lt (Nat.div_le_self _ _) a2)
    rw [Nat.mul_comm (18446744073709551616 ^ n)] at h5
    rw [Nat.pow_succ, Nat.pow_add]
    generalize 18446744073709551616 ^ m * 18446744073709551616 ^ n = P at *
    omega
  refine len_of (m := m + n + 1) (n := m + n) ?_ ?_ k hk (by omega)
  · rw [e1, sgn_abs]; exact Nat.lt_of_le_of_lt (Nat.div_le_self _ _) hMl
  · rw [e2, Nat.pow_add]
    exact Nat.mul_lt_mul'' (Nat.lt_of_le_of_lt (Nat.div_le_self _ _) a2) (Nat.lt_of_le_of_lt (Nat.div_le_self _ _) c2)
theorem len_neg {f : Rat} {m : Nat} (h : Len f m) : Len (-f) m := by
  unfold Len
  rw [Rat.neg_num, Rat.neg_den, Int.natAbs_neg]
  exact h
theorem len_sub {f g : Rat} {m n : Nat} (h1 : Len f m) (h2 : Len g n) (k : Nat) (hk : m + n + 1 ≤ k) : Len (f - g) k := by
  rw [Rat.sub_eq_add_neg]; exact len_add h1 (len_neg h2) k hk
theorem len_inv {f : Rat} {m : Nat} (h : Len f m) (h0 : f.num ≠ 0) : Len f⁻¹ m := by
  obtain ⟨i1, i2, -⟩ := inv_facts f h0
  unfold Len
  rw [i1, i2]
  exact ⟨h.2, h.1⟩
theorem len_div {f g : Rat} {m n : Nat} (h1 : Len f m) (h2 : Len g n) (h0 : g.num ≠ 0) (k : Nat) (hk : m + n ≤ k) : Len (f / g) k := by
  rw [Rat.div_def]; exact len_mul h1 (len_inv h2 h0) k hk

theorem of_rel (x y : Int) (p q k : Nat) (hx : x.natAbs = p * k) (hy : y.natAbs = q * k) : sgn (decide (x < 0) != decide (y < 0)) p * y = x * q := by
  have ex : x = sgn (decide (x < 0)) (p * k) := by
    by_cases h : x < 0
    · simp [sgn, h]; omega
    · simp [sgn, h]; omega
  have ey : y = sgn (decide (y < 0)) (q * k) := by
    by_cases h : y < 0
    · simp [sgn, h]; omega
    · simp [sgn, h]; omega
  generalize decide (x < 0) = a at *
  generalize decide (y < 0) = b at *
  rw [ex, ey]
  cases a <;> cases b <;> simp [sgn, Int.natCast_mul] <;> grind
theorem fracOf_at (x y : Int) (hx1 : -9223372036854775808 ≤ x) (hx2 : x < 9223372036854775808) (hy1 : -9223372036854775808 ≤ y) (hy2 : y < 9223372036854775808) (hy0 : y ≠ 0) :
    ∃ (f : Rat) (r : Bool) (p q : Int), Len f 1 ∧ f.num * y = x * f.den ∧ (∀ W, FracAt W (.agg #[.bool r, .int .u64 p, .int .u64 q, .pointer none]) f) ∧ ∀ W, Calls Tryz.prog 52 #[.int .i64 x, .int .i64 y] W fun e w' => e = .returned (.tuple #[.agg #[.bool r, .int .u64 p, .int .u64 q, .pointer none], .nilIface]) ∧ But [] W w' := by
  have hyp : 0 < y.natAbs := by omega
  have hg : 0 < Nat.gcd x.natAbs y.natAbs := Nat.gcd_pos_of_pos_right _ hyp
  have hd1 := Nat.div_mul_cancel (Nat.gcd_dvd_left x.natAbs y.natAbs)
  have hd2 := Nat.div_mul_cancel (Nat.gcd_dvd_right x.natAbs y.natAbs)
  have hq0 : 0 < y.natAbs / Nat.gcd x.natAbs y.natAbs := Nat.div_pos (Nat.le_of_dvd hyp (Nat.gcd_dvd_right _ _)) hg
  have hpB : x.natAbs / Nat.gcd x.natAbs y.natAbs < 18446744073709551616 := Nat.lt_of_le_of_lt (Nat.div_le_self _ _) (by omega)
  have hqB : y.natAbs / Nat.gcd x.natAbs y.natAbs < 18446744073709551616 := Nat.lt_of_le_of_lt (Nat.div_le_self _ _) (by omega)
  obtain ⟨f, hn, hd⟩ := rat_ex (decide (x < 0) != decide (y < 0)) _ _ hq0 (gcd_cop x.natAbs y.natAbs hyp)
  have habs : f.num.natAbs = x.natAbs / Nat.gcd x.natAbs y.natAbs := by rw [hn, sgn_abs]
  refine ⟨f, decide (f.num < 0), (f.num.natAbs : Int), (f.den : Int) - 1, ?_, ?_, fun W => .inl ⟨by rw [habs]; exact hpB, by rw [hd]; exact hqB, rfl⟩, fun W => ?_⟩
  · exact len_of (m := 1) (n := 1) (by rw [habs, Nat.pow_one]; exact hpB) (by rw [hd, Nat.pow_one]; exact hqB) 1 (Nat.le_refl _) (Nat.le_refl _)
  · rw [hn, hd]
    exact of_rel x y _ _ _ hd1.symm hd2.symm
  · rw [habs, hd]
    exact fracOf_any x y hx1 hx2 hy1 hy2 hy0 W _ _ _ (by show _ = _; rw [hn, sgn_neg]) rfl rfl

set_option maxHeartbeats 8000000 in
set_option maxRecDepth 100000 in
theorem plainF_any (x y : Int) (hx1 : -9223372036854775808 ≤ x) (hx2 : x < 9223372036854775808) (hy1 : -9223372036854775808 ≤ y) (hy2 : y < 9223372036854775808) :
    ∃ (f : Rat) (r : Bool) (p q : Int), Len f 1 ∧ f.num * (if y = 0 then 1 else y) = x * f.den ∧ (∀ W, FracAt W (.agg #[.bool r, .int .u64 p, .int .u64 q, .pointer none]) f) ∧ ∀ W, Calls Tryz.prog 9 #[.agg #[.int .i64 x, .int .i64 y]] W fun e w' => e = .returned (.agg #[.bool r, .int .u64 p, .int .u64 q, .pointer none]) ∧ But [] W w' := by
  by_cases hy0 : y = 0
  · subst hy0
    obtain ⟨f, r, p, q, h1, h2, h3, h4⟩ := fracOf_at x 1 hx1 hx2 (by omega) (by omega) (by omega)
    refine ⟨f, r, p, q, h1, by rw [if_pos rfl]; exact h2, h3, fun w => ?_⟩
    have OF := hide h4
    clear h1 h2 h3 h4
    go_enter Tryz.func9, Tryz.ntmps9
    go_wp2_with fail
    obtain ⟨W, hW⟩ : ∃ W, W = (w.alloc (.cells #[.int .i64 x, .int .i64 1] 23)).alloc (.cells #[.bool false, .int .u64 0, .int .u64 0, .pointer none] 27) := ⟨_, rfl⟩
    have r0 : W.cell? ⟨w.heap.size + 1, 0, none⟩ = some (.bool false) := by rw [hW]; simp
    have r1 : W.cell? ⟨w.heap.size + 1, 1, none⟩ = some (.int .u64 0) := by rw [hW]; simp
    have r2 : W.cell? ⟨w.heap.size + 1, 2, none⟩ = some (.int .u64 0) := by rw [hW]; simp
    have r3 : W.cell? ⟨w.heap.size + 1, 3, none⟩ = some (.pointer none) := by rw [hW]; simp
    have fz : ∀ j, W.frozen? ⟨w.heap.size + 1, j, none⟩ = false := fun j => by rw [hW]; simp
    have hB : But [] w W := by rw [hW]; exact ((But.refl _ _).alloc _).alloc _
    rw [← hW]
    clear hW
    obtain ⟨gr, hgr⟩ : ∃ gr, gr = w.heap.size + 1 := ⟨_, rfl⟩
    rw [← hgr] at r0 r1 r2 r3 fz
    rw [← hgr]
    have HGR : Hid (w.heap.size ≤ gr) := by show _ ≤ _; omega
    clear hgr
    have grl : gr < W.heap.size := lt_of_cell r0
    refine (unhide OF _).mono ?_
    rintro e w1 ⟨rfl, hb1⟩
    have u0 := hb1.cell_some r0 (by simp)
    have u1 := hb1.cell_some r1 (by simp)
    have u2 := hb1.cell_some r2 (by simp)
    have u3 := hb1.cell_some r3 (by simp)
    have uf : ∀ j, w1.frozen? ⟨gr, j, none⟩ = false := fun j => (hb1.frozen (p := ⟨gr, j, none⟩) grl (by simp)).trans (fz j)
    have HB1 : Hid (But [] w w1) := hB.trans' hb1
    have gl1 : gr < w1.heap.size := lt_of_cell u0
    clear hb1 hB r0 r1 r2 r3 fz grl
    go_wp2
    have hBf := (((((unhide HB1).setCell (p := ⟨gr, 0, none⟩) (.inr (unhide HGR)) (.bool r)).setCell (p := ⟨gr, 1, none⟩) (.inr (unhide HGR)) (.int .u64 p)).setCell (p := ⟨gr, 2, none⟩) (.inr (unhide HGR)) (.int .u64 q)).setCell (p := ⟨gr, 3, none⟩) (.inr (unhide HGR)) (.pointer none)).alloc (.cells #[.bool r, .int .u64 p, .int .u64 q, .pointer none] 27)
    exact bodyPost_ret (v := .agg #[.bool r, .int .u64 p, .int .u64 q, .pointer none]) (by simp [results, Tryz.results9, go_sem, u0, u1, u2, u3, gl1]) rfl ⟨rfl, hBf⟩
  · obtain ⟨f, r, p, q, h1, h2, h3, h4⟩ := fracOf_at x y hx1 hx2 hy1 hy2 hy0
    refine ⟨f, r, p, q, h1, by rw [if_neg hy0]; exact h2, h3, fun w => ?_⟩
    have n0 : (y == 0) = false := by simp [hy0]
    have OF := hide h4
    clear h1 h2 h3 h4
    go_enter Tryz.func9, Tryz.ntmps9
    go_wp2_with fail
    obtain ⟨W, hW⟩ : ∃ W, W = (w.alloc (.cells #[.int .i64 x, .int .i64 y] 23)).alloc (.cells #[.bool false, .int .u64 0, .int .u64 0, .pointer none] 27) := ⟨_, rfl⟩
    have r0 : W.cell? ⟨w.heap.size + 1, 0, none⟩ = some (.bool false) := by rw [hW]; simp
    have r1 : W.cell? ⟨w.heap.size + 1, 1, none⟩ = some (.int .u64 0) := by rw [hW]; simp
    have r2 : W.cell? ⟨w.heap.size + 1, 2, none⟩ = some (.int .u64 0) := by rw [hW]; simp
    have r3 : W.cell? ⟨w.heap.size + 1, 3, none⟩ = some (.pointer none) := by rw [hW]; simp
    have fz : ∀ j, W.frozen? ⟨w.heap.size + 1, j, none⟩ = false := fun j => by rw [hW]; simp
    have hB : But [] w W := by rw [hW]; exact ((But.refl _ _).alloc _).alloc _
    rw [← hW]
    clear hW
    obtain ⟨gr, hgr⟩ : ∃ gr, gr = w.heap.size + 1 := ⟨_, rfl⟩
    rw [← hgr] at r0 r1 r2 r3 fz
    rw [← hgr]
    have HGR : Hid (w.heap.size ≤ gr) := by show _ ≤ _; omega
    clear hgr
    have grl : gr < W.heap.size := lt_of_cell r0
    refine (unhide OF _).mono ?_
    rintro e w1 ⟨rfl, hb1⟩
    have u0 := hb1.cell_some r0 (by simp)
    have u1 := hb1.cell_some r1 (by simp)
    have u2 := hb1.cell_some r2 (by simp)
    have u3 := hb1.cell_some r3 (by simp)
    have uf : ∀ j, w1.frozen? ⟨gr, j, none⟩ = false := fun j => (hb1.frozen (p := ⟨gr, j, none⟩) grl (by simp)).trans (fz j)
    have HB1 : Hid (But [] w w1) := hB.trans' hb1
    have gl1 : gr < w1.heap.size := lt_of_cell u0
    clear hb1 hB r0 r1 r2 r3 fz grl
    go_wp2
    have hBf := (((((unhide HB1).setCell (p := ⟨gr, 0, none⟩) (.inr (unhide HGR)) (.bool r)).setCell (p := ⟨gr, 1, none⟩) (.inr (unhide HGR)) (.int .u64 p)).setCell (p := ⟨gr, 2, none⟩) (.inr (unhide HGR)) (.int .u64 q)).setCell (p := ⟨gr, 3, none⟩) (.inr (unhide HGR)) (.pointer none)).alloc (.cells #[.bool r, .int .u64 p, .int .u64 q, .pointer none] 27)
    exact bodyPost_ret (v := .agg #[.bool r, .int .u64 p, .int .u64 q, .pointer none]) (by simp [results, Tryz.results9, go_sem, u0, u1, u2, u3, gl1]) rfl ⟨rfl, hBf⟩
end Go.Proofs.YtihiafgogbhjkaaGreatDoor

namespace Go.Proofs.YtihiafgogbhjkaaGreatDoor
open Go.RowKit

theorem half_facts (f : Rat) (h : f.num * 4 = 2 * f.den) : f.num = 1 ∧ f.den = 2 := rat_of_coprime 1 2 (by omega) (by decide) f (by omega)
theorem two_halves (f : Rat) (h1 : f.num = 1) (h2 : f.den = 2) : (f + f).num = 1 ∧ (f + f).den = 1 := by
  have h := cross_add f f
  rw [h1, h2] at h
  exact rat_of_coprime 1 1 (by omega) (by decide) (f + f) (by omega)
theorem dec1 : Lib.decDigits 1 = [49] := by rw [Lib.decDigits]; simp
theorem dec2 : Lib.decDigits 2 = [50] := by rw [Lib.decDigits]; simp
theorem txt_half : fracTxt false 1 2 = ⟨#[49, 47, 50]⟩ := by unfold fracTxt; rw [dec1, dec2]; rfl
theorem txt_one : fracTxt false 1 1 = ⟨#[49]⟩ := by unfold fracTxt; rw [dec1]; rfl

set_option maxHeartbeats 8000000 in
set_option maxRecDepth 100000 in
theorem half_any (w : World) (htab : Lib.TabIs Tryz.prog w "internal/strconv.uint64pow10" .u64 Lib.pow10Tab) :
    Calls Tryz.prog 48 #[] w fun e w' => e = .returned (.bool true) ∧ But [] w w' := by
  obtain ⟨f, r, p, q, h1, h2, h3, h4⟩ := fracOf_at 2 4 (by omega) (by omega) (by omega) (by omega) (by omega)
  obtain ⟨e1, e2⟩ := half_facts f h2
  obtain ⟨e3, e4⟩ := two_halves f e1 e2
  have OF := hide h4
  have hl := len_add h1 h1 3 (by omega)
  obtain ⟨n1, n2⟩ := len_small h1 (by omega)
  obtain ⟨n3, n4⟩ := len_small hl (by omega)
  have TF : Hid (∀ W, But [] w W → Calls Tryz.prog 13 #[.agg #[.bool r, .int .u64 p, .int .u64 q, .pointer none]] W fun e w' => e = .returned (.string ⟨#[49, 47, 50]⟩) ∧ But [] W w') := fun W h => fracText_at _ f W (h3 W) n1 n2 (TabIs.but htab h) _ (by show _ = _; rw [e1, e2]; exact txt_half.symm)
  have AD : Hid (∀ W, But [] w W → Calls Tryz.prog 15 #[.agg #[.bool r, .int .u64 p, .int .u64 q, .pointer none], .agg #[.bool r, .int .u64 p, .int .u64 q, .pointer none]] W fun e w' => ∃ v, e = .returned v ∧ FracAt w' v (f + f) ∧ But [] W w') := fun W _ => fracAdd_any _ _ f f W (h3 W) (h3 W) (h1.mono (by omega)) (h1.mono (by omega))
  have T2 : Hid (∀ W v, But [] w W → FracAt W v (f + f) → Calls Tryz.prog 13 #[v] W fun e w' => e = .returned (.string ⟨#[49]⟩) ∧ But [] W w') := fun W v h hv => fracText_at _ (f + f) W hv n3 n4 (TabIs.but htab h) _ (by show _ = _; rw [e3, e4]; exact txt_one.symm)
  clear h1 h2 h3 h4 e1 e2 e3 e4 hl n1 n2 n3 n4 htab
  go_enter Tryz.func48, Tryz.ntmps48
  go_wp2_with fail
  refine (unhide OF _).mono ?_
  rintro e w0 ⟨rfl, hb0⟩
  have HB0 := hide hb0
  clear hb0
  go_wp2_with fail
  obtain ⟨W, hW⟩ : ∃ W, W = w0.alloc (.cells #[.bool r, .int .u64 p, .int .u64 q, .pointer none] 27) := ⟨_, rfl⟩
  have a0 : W.cell? ⟨w0.heap.size, 0, none⟩ = some (.bool r) := by rw [hW]; simp
  have a1 : W.cell? ⟨w0.heap.size, 1, none⟩ = some (.int .u64 p) := by rw [hW]; simp
  have a2 : W.cell? ⟨w0.heap.size, 2, none⟩ = some (.int .u64 q) := by rw [hW]; simp
  have a3 : W.cell? ⟨w0.heap.size, 3, none⟩ = some (.pointer none) := by rw [hW]; simp
  have HB : Hid (But [] w W) := by show But _ _ _; rw [hW]; exact (unhide HB0).alloc _
  rw [← hW]
  clear hW HB0
  generalize w0.heap.size = gf at *
  refine (unhide TF _ (unhide HB)).mono ?_
  rintro e w1 ⟨rfl, hc1⟩
  have B1 : But [] W w1 := hc1
  have k0 := B1.cell_some a0 (by simp)
  have k1 := B1.cell_some a1 (by simp)
  have k2 := B1.cell_some a2 (by simp)
  have k3 := B1.cell_some a3 (by simp)
  have HB1 : Hid (But [] w w1) := (unhide HB).trans' B1
  clear hc1 B1
  go_wp2_with fail
  refine (unhide AD _ (unhide HB1)).mono ?_
  rintro e w2 ⟨v2, rfl, hn2, hc2⟩
  have HB2 : Hid (But [] w w2) := (unhide HB1).trans' hc2
  have HN2 := hide hn2
  clear hc2 hn2
  go_wp2_with fail
  refine (unhide T2 _ v2 (unhide HB2) (unhide HN2)).mono ?_
  rintro e w3 ⟨rfl, hc3⟩
  have HB3 : Hid (But [] w w3) := (unhide HB2).trans' hc3
  clear hc3
  go_wp2
  go_ret
  exact ⟨rfl, unhide HB3⟩
end Go.Proofs.YtihiafgogbhjkaaGreatDoor
