/- A fraction rounded to whole units, as the Go text of package frac does it. -/
import Derived.Test.YtihiafgogbhjkaaGreatDoorRM1
namespace Go.Proofs.YtihiafgogbhjkaaGreatDoor
open Go.RowKit

theorem near_len {g : Rat} {n : Nat} (h : Len g n) (hn : 0 < n) : Len (nearR g) (n + 3) := by
  have h1 := fl_len h hn
  have h2 := int_len 1 (by omega) (by omega)
  unfold nearR
  split
  · exact len_add h1 h2 (n + 3) (by omega)
  · exact h1.mono (by omega)

set_option maxHeartbeats 16000000 in
set_option maxRecDepth 100000 in
theorem round_any (vf vz : Value) (f z : Rat) (w : World) (hf : FracAt w vf f) (hz : FracAt w vz z) (lf : Len f 1) (lz : Len z 1) (hz0 : 0 < z.num) :
    Calls Tryz.prog 33 #[vf, vz] w fun e w' => ∃ v', e = .returned (.tuple #[v', .nilIface]) ∧ FracAt w' v' (nearR (f * z⁻¹) * z) ∧ But [] w w' := by
  have hzn : z.num ≠ 0 := by omega
  have lzi := len_inv lz hzn
  have lq := len_mul lf lzi 2 (by omega)
  have ln := near_len lq (by omega)
  have SG : Hid (∀ W, But [] w W → Calls Tryz.prog 26 #[vz] W fun e w' => e = .returned (.int .i64 1) ∧ But [] W w') := fun W h => by
    have := fracSign_any vz z W (hz.but h)
    rw [Int.sign_eq_one_of_pos hz0] at this
    exact this
  have TU := hide (fun W (h : But [] w W) => fracTurned_any vz z W (hz.but h) hzn)
  have M1 := hide (fun W v (h : But [] w W) (hv : FracAt W v z⁻¹) => fracMul_any vf v f z⁻¹ W (hf.but h) hv (lf.mono (by omega)) (lzi.mono (by omega)))
  have NR := hide (fun W v (hv : FracAt W v (f * z⁻¹)) => nearest_any v (f * z⁻¹) W hv (lq.mono (by omega)))
  have M2 := hide (fun W v (h : But [] w W) (hv : FracAt W v (nearR (f * z⁻¹))) => fracMul_any v vz _ z W hv (hz.but h) (ln.mono (by omega)) (lz.mono (by omega)))
  obtain ⟨d, hd⟩ : ∃ d, d = nearR (f * z⁻¹) * z := ⟨_, rfl⟩
  rw [← hd] at M2 ⊢
  obtain ⟨x1, y1, p1, rfl, -⟩ := hf.agg
  obtain ⟨x2, y2, p2, rfl, -⟩ := hz.agg
  generalize decide (f.num < 0) = s1 at *
  generalize decide (z.num < 0) = s2 at *
  clear hf hz lf lz hz0 hzn lzi lq ln hd
  obtain ⟨W, hW⟩ : ∃ W, W = (((w.alloc (.cells #[.bool s1, .int .u64 x1, .int .u64 y1, .pointer p1] 27)).alloc (.cells #[.bool s2, .int .u64 x2, .int .u64 y2, .pointer p2] 27)).alloc (.cells #[.bool false, .int .u64 0, .int .u64 0, .pointer none] 27)) := ⟨_, rfl⟩
  obtain ⟨tA, tB, tC, fz, hB⟩ := three_new w W _ _ _ _ hW
  have a0 := tA 0
  have a1 := tA 1
  have a2 := tA 2
  have a3 := tA 3
  have b0 := tB 0
  have b1 := tB 1
  have b2 := tB 2
  have b3 := tB 3
  have r0 := tC 0
  have r1 := tC 1
  have r2 := tC 2
  have r3 := tC 3
  simp only [List.getElem?_toArray, List.getElem?_cons_zero, List.getElem?_cons_succ] at a0 a1 a2 a3 b0 b1 b2 b3 r0 r1 r2 r3
  clear tA tB tC
  have HW := hide hW
  have HB := hide hB
  clear hW hB
  go_enter Tryz.func33, Tryz.ntmps33
  go_wp2_with fail
  rw [← unhide HW]
  obtain ⟨ga, hga⟩ : ∃ ga, ga = w.heap.size := ⟨_, rfl⟩
  obtain ⟨gb, hgb⟩ : ∃ gb, gb = w.heap.size + 1 := ⟨_, rfl⟩
  obtain ⟨gr, hgr⟩ : ∃ gr, gr = w.heap.size + 2 := ⟨_, rfl⟩
  rw [← hga] at a0 a1 a2 a3
  rw [← hgb] at b0 b1 b2 b3
  rw [← hgr] at r0 r1 r2 r3 fz
  rw [show w.heap.size + 1 + 1 = w.heap.size + 2 from rfl, ← hgr, ← hgb, ← hga]
  have HGR : Hid (w.heap.size ≤ gr) := by show _ ≤ _; omega
  have nga : ga ≠ gr := by omega
  have ngb : gb ≠ gr := by omega
  clear hga hgb hgr HW
  refine (unhide SG _ (unhide HB)).mono ?_
  rintro e W0 ⟨rfl, hc0⟩
  have gl0 : gr < W.heap.size := lt_of_cell r0
  replace fz : ∀ j, W0.frozen? ⟨gr, j, none⟩ = false := fun j => (hc0.frozen (p := ⟨gr, j, none⟩) gl0 (by simp)).trans (fz j)
  clear gl0
  replace a0 := hc0.cell_some a0 (by simp)
  replace a1 := hc0.cell_some a1 (by simp)
  replace a2 := hc0.cell_some a2 (by simp)
  replace a3 := hc0.cell_some a3 (by simp)
  replace b0 := hc0.cell_some b0 (by simp)
  replace b1 := hc0.cell_some b1 (by simp)
  replace b2 := hc0.cell_some b2 (by simp)
  replace b3 := hc0.cell_some b3 (by simp)
  replace r0 := hc0.cell_some r0 (by simp)
  replace r1 := hc0.cell_some r1 (by simp)
  replace r2 := hc0.cell_some r2 (by simp)
  replace r3 := hc0.cell_some r3 (by simp)
  replace HB : Hid (But [] w W0) := (unhide HB).trans' hc0
  clear hc0
  go_wp2_with fail
  have grl : gr < W0.heap.size := lt_of_cell r0
  go_region_held (fun w' => w'.cell? ⟨ga, 0, none⟩ = some (.bool s1) ∧ w'.cell? ⟨ga, 1, none⟩ = some (.int .u64 x1) ∧ w'.cell? ⟨ga, 2, none⟩ = some (.int .u64 y1) ∧ w'.cell? ⟨ga, 3, none⟩ = some (.pointer p1) ∧ w'.cell? ⟨gb, 0, none⟩ = some (.bool s2) ∧ w'.cell? ⟨gb, 1, none⟩ = some (.int .u64 x2) ∧ w'.cell? ⟨gb, 2, none⟩ = some (.int .u64 y2) ∧ w'.cell? ⟨gb, 3, none⟩ = some (.pointer p2)) (first | (go_keep; done) | exact ⟨set4_cell _ _ _ _ _ _ _ _ _ nga a0_4, set4_cell _ _ _ _ _ _ _ _ _ nga a1_4, set4_cell _ _ _ _ _ _ _ _ _ nga a2_4, set4_cell _ _ _ _ _ _ _ _ _ nga a3_4, set4_cell _ _ _ _ _ _ _ _ _ ngb b0_4, set4_cell _ _ _ _ _ _ _ _ _ ngb b1_4, set4_cell _ _ _ _ _ _ _ _ _ ngb b2_4, set4_cell _ _ _ _ _ _ _ _ _ ngb b3_4⟩) (first
    | (go_at_call 19; have hchk := B3; clear hchk; refine (unhide M2 _ v3 (by first | exact (unhide HB).trans' B3 | exact ((unhide HB).trans' B3).drew) (by first | exact unhide HN3 | exact (unhide HN3).but (But.refl _ _).drew)).mono ?_; rintro e w4 ⟨v4, rfl, hn4, hc4⟩; have B4 : But [] W0 w4 := (by first | exact B3.trans' hc4 | exact (B3.drew).trans' hc4); have HN4 := hide hn4; obtain ⟨x8, y8, p8, rfl, -⟩ := hn4.agg; clear hn4; clear HN3; generalize decide (d.num < 0) = r8 at *; have u0 := B4.cell_some r0 (by simp); have u1 := B4.cell_some r1 (by simp); have u2 := B4.cell_some r2 (by simp); have u3 := B4.cell_some r3 (by simp); have uf : ∀ j, w4.frozen? ⟨gr, j, none⟩ = false := fun j => (B4.frozen (p := ⟨gr, j, none⟩) grl (by simp)).trans (fz j); clear hc4; have a0_4 := B4.cell_some a0 (by simp); have a1_4 := B4.cell_some a1 (by simp); have a2_4 := B4.cell_some a2 (by simp); have a3_4 := B4.cell_some a3 (by simp); have b0_4 := B4.cell_some b0 (by simp); have b1_4 := B4.cell_some b1 (by simp); have b2_4 := B4.cell_some b2 (by simp); have b3_4 := B4.cell_some b3 (by simp); clear a0_3 a1_3 a2_3 a3_3 b0_3 b1_3 b2_3 b3_3)
    | (go_at_call 87; have hchk := B2; clear hchk; refine (unhide NR _ v2 (by first | exact unhide HN2 | exact (unhide HN2).but (But.refl _ _).drew)).mono ?_; rintro e w3 ⟨v3, rfl, hn3, hc3⟩; have B3 : But [] W0 w3 := (by first | exact B2.trans' hc3 | exact (B2.drew).trans' hc3); have HN3 := hide hn3; clear hn3; clear HN2; clear hc3; have a0_3 := B3.cell_some a0 (by simp); have a1_3 := B3.cell_some a1 (by simp); have a2_3 := B3.cell_some a2 (by simp); have a3_3 := B3.cell_some a3 (by simp); have b0_3 := B3.cell_some b0 (by simp); have b1_3 := B3.cell_some b1 (by simp); have b2_3 := B3.cell_some b2 (by simp); have b3_3 := B3.cell_some b3 (by simp); clear a0_2 a1_2 a2_2 a3_2 b0_2 b1_2 b2_2 b3_2)
    | (go_at_call 19; have hchk := B1; clear hchk; refine (unhide M1 _ v1 (by first | exact (unhide HB).trans' B1 | exact ((unhide HB).trans' B1).drew) (by first | exact unhide HN1 | exact (unhide HN1).but (But.refl _ _).drew)).mono ?_; rintro e w2 ⟨v2, rfl, hn2, hc2⟩; have B2 : But [] W0 w2 := (by first | exact B1.trans' hc2 | exact (B1.drew).trans' hc2); have HN2 := hide hn2; clear hn2; clear HN1; clear hc2; have a0_2 := B2.cell_some a0 (by simp); have a1_2 := B2.cell_some a1 (by simp); have a2_2 := B2.cell_some a2 (by simp); have a3_2 := B2.cell_some a3 (by simp); have b0_2 := B2.cell_some b0 (by simp); have b1_2 := B2.cell_some b1 (by simp); have b2_2 := B2.cell_some b2 (by simp); have b3_2 := B2.cell_some b3 (by simp); clear a0_1 a1_1 a2_1 a3_1 b0_1 b1_1 b2_1 b3_1)
    | (go_at_call 55; refine (unhide TU _ (by first | exact unhide HB | exact (unhide HB).drew)).mono ?_; rintro e w1 ⟨v1, rfl, hn1, hc1⟩; have B1 : But [] W0 w1 := (by first | exact hc1 | exact (But.refl _ _).drew.trans' hc1); have HN1 := hide hn1; clear hn1; clear hc1; have a0_1 := B1.cell_some a0 (by simp); have a1_1 := B1.cell_some a1 (by simp); have a2_1 := B1.cell_some a2 (by simp); have a3_1 := B1.cell_some a3 (by simp); have b0_1 := B1.cell_some b0 (by simp); have b1_1 := B1.cell_some b1 (by simp); have b2_1 := B1.cell_some b2 (by simp); have b3_1 := B1.cell_some b3 (by simp)))
  all_goals (
    have hB4 := (unhide HB).trans' B4
    go_wp2
    have hBg := but_set4 w4 gr (.bool r8) (.int .u64 x8) (.int .u64 y8) (.pointer p8)
    exact bodyPost_ret (v := .tuple #[.agg #[.bool r8, .int .u64 x8, .int .u64 y8, .pointer p8], .nilIface]) (by simp [results, Tryz.results33, go_sem, u0, u1, u2, u3]) rfl ⟨_, rfl, (unhide HN4).over u0 hBg, hB4.trans hBg (fun x hx => by simp at hx; subst hx; exact .inr (unhide HGR))⟩)
end Go.Proofs.YtihiafgogbhjkaaGreatDoor
