/- A fraction of numbers that may have divisors in common, as the Go text of package frac makes it. -/
import Derived.Test.YtlkpkgajfakdpaaGreatKF4
namespace Go.Proofs.YtlkpkgajfakdpaaGreat
open Go.RowKit

theorem sgn_div (s : Bool) (X Y g : Nat) (hg : 0 < g) (hx : g ∣ X) (hy : g ∣ Y) (f : Rat) (hY : 0 < Y) (h : f.num * (Y : Int) = sgn s X * (f.den : Int)) (hc : Nat.Coprime (X / g) (Y / g)) : f.num = sgn s (X / g) ∧ f.den = Y / g := by
  have hyq : 0 < Y / g := Nat.div_pos (Nat.le_of_dvd hY hy) hg
  refine rat_of_coprime (sgn s (X / g)) (Y / g) (by omega) (by rw [sgn_abs]; exact hc) f ?_
  have e1 : (Y : Int) = ((Y / g : Nat) : Int) * (g : Int) := by rw [← Int.natCast_mul, Nat.div_mul_cancel hy]
  have e2 : sgn s X = sgn s (X / g) * (g : Int) := by rw [← sgn_mul, Nat.div_mul_cancel hx]
  rw [e1, e2] at h
  have hg' : (g : Int) ≠ 0 := by omega
  apply Int.eq_of_mul_eq_mul_right hg'
  rw [Int.mul_assoc, h, Int.mul_right_comm]

set_option maxHeartbeats 4000000 in
set_option maxRecDepth 100000 in
theorem ofNumbers_any (s : Bool) (vx vy : Value) (X Y : Nat) (w : World) (hx : Sl .u64 w vx (wd 18446744073709551616 X)) (hy : Sl .u64 w vy (wd 18446744073709551616 Y)) (hY : 0 < Y) (lx : (wd 18446744073709551616 X).length ≤ 158) (ly : (wd 18446744073709551616 Y).length ≤ 158) (f : Rat) (hf : f.num * (Y : Int) = sgn s X * (f.den : Int)) :
    Calls Tryz.prog 58 #[.bool s, vx, vy] w fun e w' => ∃ v, e = .returned v ∧ FracAt w' v f ∧ But [] w w' := by
  obtain ⟨g, hg⟩ : ∃ g, g = Nat.gcd X Y := ⟨_, rfl⟩
  have hg0 : 0 < g := by rw [hg]; exact Nat.gcd_pos_of_pos_right _ hY
  have hgl : (wd 18446744073709551616 g).length ≤ 158 := Nat.le_trans (wd_len_mono (by rw [hg]; exact Nat.gcd_le_right _ hY)) ly
  obtain ⟨f1, f2⟩ := sgn_div s X Y g hg0 (by rw [hg]; exact Nat.gcd_dvd_left _ _) (by rw [hg]; exact Nat.gcd_dvd_right _ _) f hY hf (by rw [hg]; exact Nat.coprime_div_gcd_div_gcd (by omega))
  have GC : Hid (∀ W, But [] w W → Calls Tryz.prog 22 #[vx, vy] W fun e w' => ∃ v, e = .returned v ∧ Sl .u64 w' v (wd 18446744073709551616 g) ∧ But [] W w') := fun W hb => by
    rw [hg]
    exact natGcd_any vx vy X Y W (hx.but_nil hb) (hy.but_nil hb) lx ly
  have Q1 : Hid (∀ W v, But [] w W → Sl .u64 W v (wd 18446744073709551616 g) → Calls Tryz.prog 24 #[vx, v] W fun e w' => ∃ v1, e = .returned v1 ∧ Sl .u64 w' v1 (wd 18446744073709551616 (X / g)) ∧ But [] W w') := fun W v hb h => natQuo_any vx v _ _ W (hx.but_nil hb) h hg0 (by omega) (by omega) (Short.of _ _ lx)
  have Q2 : Hid (∀ W v, But [] w W → Sl .u64 W v (wd 18446744073709551616 g) → Calls Tryz.prog 24 #[vy, v] W fun e w' => ∃ v1, e = .returned v1 ∧ Sl .u64 w' v1 (wd 18446744073709551616 (Y / g)) ∧ But [] W w') := fun W v hb h => natQuo_any vy v _ _ W (hy.but_nil hb) h hg0 (by omega) (by omega) (Short.of _ _ ly)
  have habs : f.num.natAbs = X / g := by rw [f1, sgn_abs]
  have OL : Hid (∀ W v1 v2, Sl .u64 W v1 (wd 18446744073709551616 (X / g)) → Sl .u64 W v2 (wd 18446744073709551616 (Y / g)) → Calls Tryz.prog 23 #[.bool s, v1, v2] W fun e w' => ∃ v, e = .returned v ∧ FracAt w' v f ∧ But [] W w') := fun W v1 v2 h1 h2 => ofLowered_any s v1 v2 f W (by rw [habs]; exact h1) (by rw [f2]; exact h2) (by rw [habs]; exact f1) (by rw [habs]; have := len_quo X g 158 lx; omega) (by rw [f2]; have := len_quo Y g 158 ly; omega)
  obtain ⟨a1, d1, rfl, -, -⟩ := hx
  obtain ⟨a2, d2, rfl, -, -⟩ := hy
  clear hg hg0 hgl f1 f2 habs lx ly hf
  generalize (wd 18446744073709551616 X).length = n1 at *
  generalize (wd 18446744073709551616 Y).length = n2 at *
  obtain ⟨W, hW⟩ : ∃ W, W = w.alloc (.cells #[.bool false, .int .u64 0, .int .u64 0, .pointer none] 33) := ⟨_, rfl⟩
  have r0 : W.cell? ⟨w.heap.size, 0, none⟩ = some (.bool false) := by rw [hW]; simp
  have r1 : W.cell? ⟨w.heap.size, 1, none⟩ = some (.int .u64 0) := by rw [hW]; simp
  have r2 : W.cell? ⟨w.heap.size, 2, none⟩ = some (.int .u64 0) := by rw [hW]; simp
  have r3 : W.cell? ⟨w.heap.size, 3, none⟩ = some (.pointer none) := by rw [hW]; simp
  have fz : ∀ j, W.frozen? ⟨w.heap.size, j, none⟩ = false := fun j => by rw [hW]; simp
  have BL : Hid (Blank W w.heap.size) := ⟨r0, r1, r2, r3, fun j hj => by rw [hW, World.cell?_alloc_new]; simp; omega⟩
  have HB : Hid (But [] w W) := by show But _ _ _; rw [hW]; exact (But.refl _ _).alloc _
  have HW := hide hW
  clear hW
  go_enter Tryz.func58, Tryz.ntmps58
  go_wp2_with fail
  rw [← unhide HW]
  obtain ⟨gr, hgr⟩ : ∃ gr, gr = w.heap.size := ⟨_, rfl⟩
  rw [← hgr] at r0 r1 r2 r3 fz BL
  rw [← hgr]
  have HGR : Hid (w.heap.size ≤ gr) := by show _ ≤ _; omega
  clear hgr HW
  have grl : gr < W.heap.size := lt_of_cell r0
  refine (unhide GC _ (unhide HB)).mono ?_
  rintro e w1 ⟨vg, rfl, hvg, hb1⟩
  have HVG := hide hvg
  have K1 := hide hb1
  have B1 : Hid (But [] w w1) := (unhide HB).trans' hb1
  clear hvg hb1
  go_wp2_with fail
  refine (unhide Q1 _ vg (unhide B1) (unhide HVG)).mono ?_
  rintro e w2 ⟨v1, rfl, hv1, hb2⟩
  have HV1 := hide hv1
  have HVG2 := hide ((unhide HVG).but_nil hb2)
  have K2 : Hid (But [] W w2) := (unhide K1).trans' hb2
  have B2 : Hid (But [] w w2) := (unhide B1).trans' hb2
  clear hv1 hb2
  go_wp2_with fail
  refine (unhide Q2 _ vg (unhide B2) (unhide HVG2)).mono ?_
  rintro e w3 ⟨v2, rfl, hv2, hb3⟩
  have HV2 := hide hv2
  have HV13 := hide ((unhide HV1).but_nil hb3)
  have K3 : Hid (But [] W w3) := (unhide K2).trans' hb3
  have B3 : Hid (But [] w w3) := (unhide B2).trans' hb3
  clear hv2 hb3
  go_wp2_with fail
  refine (unhide OL _ v1 v2 (unhide HV13) (unhide HV2)).mono ?_
  rintro e w4 ⟨vr, rfl, hvr, hb4⟩
  have K4 : But [] W w4 := (unhide K3).trans' hb4
  have B4 : Hid (But [] w w4) := (unhide B3).trans' hb4
  have HVR := hide hvr
  obtain ⟨x8, y8, p8, rfl, -⟩ := hvr.agg
  generalize decide (f.num < 0) = r8 at *
  have u0 := K4.cell_some r0 (by simp)
  have u1 := K4.cell_some r1 (by simp)
  have u2 := K4.cell_some r2 (by simp)
  have u3 := K4.cell_some r3 (by simp)
  have uf : ∀ j, w4.frozen? ⟨gr, j, none⟩ = false := fun j => (K4.frozen (p := ⟨gr, j, none⟩) grl (by simp)).trans (fz j)
  have BL4 : Hid (Blank w4 gr) := (unhide BL).but K4
  clear hvr hb4 K4 r0 r1 r2 r3 fz grl
  go_wp2
  have hBg : But [gr] w4 ((((w4.setCell ⟨gr, 0, none⟩ (.bool r8)).setCell ⟨gr, 1, none⟩ (.int .u64 x8)).setCell ⟨gr, 2, none⟩ (.int .u64 y8)).setCell ⟨gr, 3, none⟩ (.pointer p8)) := (((((But.refl [gr] w4).setCell (.inl (by simp)) _).setCell (.inl (by simp)) _).setCell (.inl (by simp)) _).setCell (.inl (by simp)) _)
  have hBf := ((((unhide B4).setCell (p := ⟨gr, 0, none⟩) (.inr (unhide HGR)) (.bool r8)).setCell (p := ⟨gr, 1, none⟩) (.inr (unhide HGR)) (.int .u64 x8)).setCell (p := ⟨gr, 2, none⟩) (.inr (unhide HGR)) (.int .u64 y8)).setCell (p := ⟨gr, 3, none⟩) (.inr (unhide HGR)) (.pointer p8)
  exact bodyPost_ret (v := .agg #[.bool r8, .int .u64 x8, .int .u64 y8, .pointer p8]) (by simp [results, Tryz.results58, go_sem, u0, u1, u2, u3]) rfl ⟨_, rfl, (unhide BL4).frac (unhide HVR) hBg, hBf⟩
end Go.Proofs.YtlkpkgajfakdpaaGreat
