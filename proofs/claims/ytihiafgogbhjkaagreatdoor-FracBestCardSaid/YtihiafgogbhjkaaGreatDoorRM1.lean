/- A mark's value, and a mark with another one added so many times, as the Go text of package frac makes them. -/
import Derived.Test.YtihiafgogbhjkaaGreatDoorRPn
namespace Go.Proofs.YtihiafgogbhjkaaGreatDoor
open Go.RowKit

/-- the value v is a mark: a whole number over a lower number -/
def MarkAt (w : World) (v : Value) (O : Int) (u : Nat) : Prop := ∃ r x y p, v = .agg #[.bool r, .int .u64 x, .int .u64 y, .pointer p, .int .i64 (u : Int)] ∧ FracAt w (.agg #[.bool r, .int .u64 x, .int .u64 y, .pointer p]) ((O : Int) : Rat)
theorem MarkAt.but {w w' : World} {v : Value} {O : Int} {u : Nat} (h : MarkAt w v O u) (hb : But [] w w') : MarkAt w' v O u := by
  obtain ⟨r, x, y, p, e, h⟩ := h
  exact ⟨r, x, y, p, e, h.but hb⟩
theorem MarkAt.over {w w' : World} {v : Value} {O : Int} {u : Nat} (h : MarkAt w v O u) {g : Nat} {s : Bool} (c0 : w.cell? ⟨g, 0, none⟩ = some (.bool s)) (hb : But [g] w w') : MarkAt w' v O u := by
  obtain ⟨r, x, y, p, e, h⟩ := h
  exact ⟨r, x, y, p, e, h.over c0 hb⟩
theorem set5_cell (w : World) (g b j : Nat) (v0 v1 v2 v3 v4 u : Value) (hne : b ≠ g) (hc : w.cell? ⟨b, j, none⟩ = some u) : (((((w.setCell ⟨g, 0, none⟩ v0).setCell ⟨g, 1, none⟩ v1).setCell ⟨g, 2, none⟩ v2).setCell ⟨g, 3, none⟩ v3).setCell ⟨g, 4, none⟩ v4).cell? ⟨b, j, none⟩ = some u := by
  rw [World.cell?_setCell_other _ _ _ _ (fun e => hne (Addr.mk.inj e).1.symm)]
  exact set4_cell w g b j v0 v1 v2 v3 u hne hc
theorem but_set4 (w : World) (g : Nat) (v0 v1 v2 v3 : Value) : But [g] w ((((w.setCell ⟨g, 0, none⟩ v0).setCell ⟨g, 1, none⟩ v1).setCell ⟨g, 2, none⟩ v2).setCell ⟨g, 3, none⟩ v3) :=
  (((((But.refl [g] w).setCell (.inl (by simp)) _).setCell (.inl (by simp)) _).setCell (.inl (by simp)) _).setCell (.inl (by simp)) _)
theorem but_set5 (w : World) (g : Nat) (v0 v1 v2 v3 v4 : Value) : But [g] w (((((w.setCell ⟨g, 0, none⟩ v0).setCell ⟨g, 1, none⟩ v1).setCell ⟨g, 2, none⟩ v2).setCell ⟨g, 3, none⟩ v3).setCell ⟨g, 4, none⟩ v4) :=
  (but_set4 w g v0 v1 v2 v3).setCell (.inl (by simp)) _
/-- two new blocks, of any types -/
theorem two_news (w W : World) (A B : Array Value) (s t : TypeId) (hW : W = (w.alloc (.cells A s)).alloc (.cells B t)) :
    (∀ j, W.cell? ⟨w.heap.size, j, none⟩ = A[j]?) ∧ (∀ j, W.cell? ⟨w.heap.size + 1, j, none⟩ = B[j]?) ∧ (∀ j, W.frozen? ⟨w.heap.size, j, none⟩ = false) ∧ (∀ j, W.frozen? ⟨w.heap.size + 1, j, none⟩ = false) ∧ But [] w W := by
  subst hW
  refine ⟨fun j => ?_, fun j => ?_, fun j => ?_, fun j => ?_, ((But.refl _ _).alloc _).alloc _⟩
  · have h := ((But.refl [] (w.alloc (.cells A s))).alloc (.cells B t)).cell (p := ⟨w.heap.size, j, none⟩) (by simp) (by simp)
    rw [h, World.cell?_alloc_new]
  · simp
  · have h := ((But.refl [] (w.alloc (.cells A s))).alloc (.cells B t)).frozen (p := ⟨w.heap.size, j, none⟩) (by simp) (by simp)
    rw [h]; simp
  · simp
theorem inv_num_one (u : Nat) (hu : 0 < u) : ((((u : Nat) : Int) : Rat)).num ≠ 0 := by
  rw [(int_num _).1]; omega

set_option maxHeartbeats 8000000 in
set_option maxRecDepth 100000 in
theorem markValue_any (v : Value) (O : Int) (u : Nat) (w : World) (hm : MarkAt w v O u) (hu0 : 0 < u) (hu : u ≤ 1000000) (lO : Len ((O : Int) : Rat) 77) :
    Calls Tryz.prog 109 #[v] w fun e w' => ∃ v', e = .returned v' ∧ FracAt w' v' ((O : Rat) * (((u : Int) : Rat))⁻¹) ∧ But [] w w' := by
  obtain ⟨s1, x1, y1, p1, rfl, hf⟩ := hm
  obtain ⟨rb, rp, FU, CU⟩ := whole_at (u : Int) (by omega) (by omega) w
  have hn0 := inv_num_one u hu0
  have lu := int_len (u : Int) (by omega) (by omega)
  have lu' := len_inv lu hn0
  have WH := hide CU
  have NG : Hid (∀ W, Calls Tryz.prog 55 #[.agg #[.bool rb, .int .u64 rp, .int .u64 0, .pointer none]] W fun e w' => ∃ v, e = .returned v ∧ FracAt w' v (((u : Int) : Rat))⁻¹ ∧ But [] W w') := fun W => fracTurned_any _ _ W (FU W) hn0
  have AD : Hid (∀ (W : World) (v2 : Value), But [] w W → FracAt W v2 (((u : Int) : Rat))⁻¹ → Calls Tryz.prog 19 #[.agg #[.bool s1, .int .u64 x1, .int .u64 y1, .pointer p1], v2] W fun e w' => ∃ v, e = .returned v ∧ FracAt w' v ((O : Rat) * (((u : Int) : Rat))⁻¹) ∧ But [] W w') := fun W v2 h1 h2 => fracMul_any _ v2 _ _ W (hf.but h1) h2 (lO.mono (by omega)) (lu'.mono (by omega))
  obtain ⟨d, hd⟩ : ∃ d, d = (O : Rat) * (((u : Int) : Rat))⁻¹ := ⟨_, rfl⟩
  rw [← hd] at AD ⊢
  clear lO lu lu' hn0 FU CU hf hd
  obtain ⟨W, hW⟩ : ∃ W, W = (w.alloc (.cells #[.bool s1, .int .u64 x1, .int .u64 y1, .pointer p1, .int .i64 (u : Int)] 129)).alloc (.cells #[.bool false, .int .u64 0, .int .u64 0, .pointer none] 27) := ⟨_, rfl⟩
  obtain ⟨tA, tC, -, fz, hB⟩ := two_news w W _ _ _ _ hW
  have a0 := tA 0
  have a1 := tA 1
  have a2 := tA 2
  have a3 := tA 3
  have a4 := tA 4
  have r0 := tC 0
  have r1 := tC 1
  have r2 := tC 2
  have r3 := tC 3
  simp only [List.getElem?_toArray, List.getElem?_cons_zero, List.getElem?_cons_succ] at a0 a1 a2 a3 a4 r0 r1 r2 r3
  clear tA tC
  have HW := hide hW
  have HB := hide hB
  clear hW hB
  go_enter Tryz.func109, Tryz.ntmps109
  go_wp2_with fail
  rw [← unhide HW]
  obtain ⟨ga, hga⟩ : ∃ ga, ga = w.heap.size := ⟨_, rfl⟩
  obtain ⟨gr, hgr⟩ : ∃ gr, gr = w.heap.size + 1 := ⟨_, rfl⟩
  rw [← hga] at a0 a1 a2 a3 a4
  rw [← hgr] at r0 r1 r2 r3 fz
  rw [← hgr, ← hga]
  have HGR : Hid (w.heap.size ≤ gr) := by show _ ≤ _; omega
  have nga : ga ≠ gr := by omega
  clear hga hgr HW
  refine (unhide WH _).mono ?_
  rintro e w1 ⟨rfl, hb1⟩
  have gl0 : gr < W.heap.size := lt_of_cell r0
  replace fz : ∀ j, w1.frozen? ⟨gr, j, none⟩ = false := fun j => (hb1.frozen (p := ⟨gr, j, none⟩) gl0 (by simp)).trans (fz j)
  clear gl0
  replace a0 := hb1.cell_some a0 (by simp)
  replace a1 := hb1.cell_some a1 (by simp)
  replace a2 := hb1.cell_some a2 (by simp)
  replace a3 := hb1.cell_some a3 (by simp)
  replace r0 := hb1.cell_some r0 (by simp)
  replace r1 := hb1.cell_some r1 (by simp)
  replace r2 := hb1.cell_some r2 (by simp)
  replace r3 := hb1.cell_some r3 (by simp)
  replace HB : Hid (But [] w w1) := (unhide HB).trans' hb1
  clear hb1 a4
  obtain ⟨V1, hV1⟩ : ∃ V1, V1 = w1.alloc (.cells #[.bool rb, .int .u64 rp, .int .u64 0, .pointer none] 27) := ⟨_, rfl⟩
  have l0 : V1.cell? ⟨w1.heap.size, 0, none⟩ = some (.bool rb) := by rw [hV1]; simp
  have l1 : V1.cell? ⟨w1.heap.size, 1, none⟩ = some (.int .u64 rp) := by rw [hV1]; simp
  have l2 : V1.cell? ⟨w1.heap.size, 2, none⟩ = some (.int .u64 0) := by rw [hV1]; simp
  have l3 : V1.cell? ⟨w1.heap.size, 3, none⟩ = some (.pointer none) := by rw [hV1]; simp
  have bV : But [] w1 V1 := by rw [hV1]; exact (But.refl _ _).alloc _
  have hgr1 : gr < w1.heap.size := lt_of_cell r0
  have fV : ∀ j, V1.frozen? ⟨gr, j, none⟩ = false := fun j => (bV.frozen (p := ⟨gr, j, none⟩) hgr1 (by simp)).trans (fz j)
  have A0 := bV.cell_some a0 (by simp)
  have A1 := bV.cell_some a1 (by simp)
  have A2 := bV.cell_some a2 (by simp)
  have A3 := bV.cell_some a3 (by simp)
  have R0 := bV.cell_some r0 (by simp)
  have R1 := bV.cell_some r1 (by simp)
  have R2 := bV.cell_some r2 (by simp)
  have R3 := bV.cell_some r3 (by simp)
  replace HB : Hid (But [] w V1) := (unhide HB).trans' bV
  clear bV fz
  go_wp2_with fail
  rw [← hV1]
  have ngl : w1.heap.size ≠ gr := by omega
  clear hV1 a0 a1 a2 a3 r0 r1 r2 r3 hgr1
  generalize w1.heap.size = gl at *
  have grl : gr < V1.heap.size := lt_of_cell R0
  go_region_held (fun w' => w'.cell? ⟨ga, 0, none⟩ = some (.bool s1) ∧ w'.cell? ⟨ga, 1, none⟩ = some (.int .u64 x1) ∧ w'.cell? ⟨ga, 2, none⟩ = some (.int .u64 y1) ∧ w'.cell? ⟨ga, 3, none⟩ = some (.pointer p1) ∧ w'.cell? ⟨gl, 0, none⟩ = some (.bool rb) ∧ w'.cell? ⟨gl, 1, none⟩ = some (.int .u64 rp) ∧ w'.cell? ⟨gl, 2, none⟩ = some (.int .u64 0) ∧ w'.cell? ⟨gl, 3, none⟩ = some (.pointer none)) (first | (go_keep; done) | exact ⟨set4_cell _ _ _ _ _ _ _ _ _ nga m0, set4_cell _ _ _ _ _ _ _ _ _ nga m1, set4_cell _ _ _ _ _ _ _ _ _ nga m2, set4_cell _ _ _ _ _ _ _ _ _ nga m3, set4_cell _ _ _ _ _ _ _ _ _ ngl n0, set4_cell _ _ _ _ _ _ _ _ _ ngl n1, set4_cell _ _ _ _ _ _ _ _ _ ngl n2, set4_cell _ _ _ _ _ _ _ _ _ ngl n3⟩) (first
    | (go_at_call 55; refine (unhide NG _).mono ?_; rintro e w2 ⟨v1, rfl, hn1, hc1⟩; have B1 : But [] V1 w2 := (by first | exact hc1 | exact (But.refl _ _).drew.trans' hc1); have HN1 := hide hn1; clear hn1 hc1; have k0 := B1.cell_some A0 (by simp); have k1 := B1.cell_some A1 (by simp); have k2 := B1.cell_some A2 (by simp); have k3 := B1.cell_some A3 (by simp); have q0 := B1.cell_some l0 (by simp); have q1 := B1.cell_some l1 (by simp); have q2 := B1.cell_some l2 (by simp); have q3 := B1.cell_some l3 (by simp))
    | (go_at_call 19; refine (unhide AD _ _ (by first | exact (unhide HB).trans' B1 | exact ((unhide HB).trans' B1).trans' (But.refl _ _).drew) (by first | exact unhide HN1 | exact (unhide HN1).but (But.refl _ _).drew)).mono ?_; rintro e w3 ⟨v2, rfl, hn2, hc2⟩; have B2 : But [] V1 w3 := (by first | exact B1.trans' hc2 | exact B1.trans' ((But.refl _ _).drew.trans' hc2)); have HN2 := hide hn2; obtain ⟨x8, y8, p8, rfl, -⟩ := hn2.agg; clear hc2; clear hn2; generalize decide (d.num < 0) = r8 at *; have m0 := B2.cell_some A0 (by simp); have m1 := B2.cell_some A1 (by simp); have m2 := B2.cell_some A2 (by simp); have m3 := B2.cell_some A3 (by simp); have n0 := B2.cell_some l0 (by simp); have n1 := B2.cell_some l1 (by simp); have n2 := B2.cell_some l2 (by simp); have n3 := B2.cell_some l3 (by simp); have u0 := B2.cell_some R0 (by simp); have u1 := B2.cell_some R1 (by simp); have u2 := B2.cell_some R2 (by simp); have u3 := B2.cell_some R3 (by simp); have uf : ∀ j, w3.frozen? ⟨gr, j, none⟩ = false := fun j => (B2.frozen (p := ⟨gr, j, none⟩) grl (by simp)).trans (fV j)))
  go_wp2
  have hBg := but_set4 w3 gr (.bool r8) (.int .u64 x8) (.int .u64 y8) (.pointer p8)
  exact bodyPost_ret (v := .agg #[.bool r8, .int .u64 x8, .int .u64 y8, .pointer p8]) (by simp [results, Tryz.results109, go_sem, u0, u1, u2, u3]) rfl ⟨_, rfl, (unhide HN2).over u0 hBg, ((unhide HB).trans' B2).trans hBg (fun x hx => by simp at hx; subst hx; exact .inr (unhide HGR))⟩
end Go.Proofs.YtihiafgogbhjkaaGreatDoor

namespace Go.Proofs.YtihiafgogbhjkaaGreatDoor
open Go.RowKit

set_option maxHeartbeats 8000000 in
set_option maxRecDepth 100000 in
theorem markPlus_any (v0 v1 : Value) (O0 O1 : Int) (u0 u1 n : Nat) (w : World) (h0 : MarkAt w v0 O0 u0) (h1 : MarkAt w v1 O1 u1) (hu0 : u0 ≤ 1000000) (hu1 : u1 ≤ 1000000) (hn : n ≤ 1000000) (l0 : Len ((O0 : Int) : Rat) 20) (l1 : Len ((O1 : Int) : Rat) 20) :
    Calls Tryz.prog 167 #[v0, .int .i64 (n : Int), v1] w fun e w' => ∃ v', e = .returned v' ∧ MarkAt w' v' (O0 + (n : Int) * O1) (u0 + n * u1) ∧ But [] w w' := by
  obtain ⟨s1, x1, y1, p1, rfl, hf⟩ := h0
  obtain ⟨s2, x2, y2, p2, rfl, hg⟩ := h1
  obtain ⟨rb, rp, FU, CU⟩ := whole_at (n : Int) (by omega) (by omega) w
  have ln := int_len (n : Int) (by omega) (by omega)
  have lm := len_mul l1 ln 21 (by omega)
  have WH := hide CU
  have MU : Hid (∀ W, But [] w W → Calls Tryz.prog 19 #[.agg #[.bool s2, .int .u64 x2, .int .u64 y2, .pointer p2], .agg #[.bool rb, .int .u64 rp, .int .u64 0, .pointer none]] W fun e w' => ∃ v, e = .returned v ∧ FracAt w' v ((O1 : Rat) * ((n : Int) : Rat)) ∧ But [] W w') := fun W hb => fracMul_any _ _ _ _ W (hg.but hb) (FU W) (l1.mono (by omega)) (ln.mono (by omega))
  have es : (O0 : Rat) + (O1 : Rat) * ((n : Int) : Rat) = ((O0 + (n : Int) * O1 : Int) : Rat) := by rw [Rat.intCast_add, Rat.intCast_mul, Rat.mul_comm]
  have AD : Hid (∀ (W : World) (v2 : Value), But [] w W → FracAt W v2 ((O1 : Rat) * ((n : Int) : Rat)) → Calls Tryz.prog 15 #[.agg #[.bool s1, .int .u64 x1, .int .u64 y1, .pointer p1], v2] W fun e w' => ∃ v, e = .returned v ∧ FracAt w' v ((O0 + (n : Int) * O1 : Int) : Rat) ∧ But [] W w') := fun W v2 hb h2 => by
    rw [← es]
    exact fracAdd_any _ v2 _ _ W (hf.but hb) h2 (l0.mono (by omega)) (lm.mono (by omega))
  have hnu : n * u1 ≤ 1000000 * 1000000 := Nat.mul_le_mul hn hu1
  obtain ⟨z1, hz1⟩ : ∃ z1 : Int, z1 = ((n * u1 : Nat) : Int) := ⟨_, rfl⟩
  obtain ⟨z2, hz2⟩ : ∃ z2 : Int, z2 = ((u0 + n * u1 : Nat) : Int) := ⟨_, rfl⟩
  have wr1 : IntKind.i64.wrap ((n : Int) * (u1 : Int)) = z1 := by rw [hz1, IntKind.wrap_i64, ← Int.natCast_mul]; omega
  have wr2 : IntKind.i64.wrap ((u0 : Int) + z1) = z2 := by rw [hz1, hz2, IntKind.wrap_i64, Int.natCast_add]; omega
  have PO : Hid (∀ W r x y p, FracAt W (.agg #[.bool r, .int .u64 x, .int .u64 y, .pointer p]) ((O0 + (n : Int) * O1 : Int) : Rat) → MarkAt W (.agg #[.bool r, .int .u64 x, .int .u64 y, .pointer p, .int .i64 z2]) (O0 + (n : Int) * O1) (u0 + n * u1)) := fun W r x y p h => ⟨r, x, y, p, by rw [hz2], h⟩
  obtain ⟨d, hd⟩ : ∃ d : Rat, d = ((O0 + (n : Int) * O1 : Int) : Rat) := ⟨_, rfl⟩
  obtain ⟨R, hR⟩ : ∃ R : World → Value → Prop, R = fun W v => MarkAt W v (O0 + (n : Int) * O1) (u0 + n * u1) := ⟨_, rfl⟩
  have hR' : ∀ W v, MarkAt W v (O0 + (n : Int) * O1) (u0 + n * u1) = R W v := fun W v => by rw [hR]
  simp only [hR'] at PO ⊢
  rw [← hd] at AD PO
  clear l0 l1 ln lm FU CU hf hg hd es hz1 hz2 hnu hu0 hu1 hn hR hR'
  generalize (O1 : Rat) * ((n : Int) : Rat) = dm at *
  obtain ⟨W, hW⟩ : ∃ W, W = (((w.alloc (.cells #[.bool s1, .int .u64 x1, .int .u64 y1, .pointer p1, .int .i64 (u0 : Int)] 129)).alloc (.cells #[.bool s2, .int .u64 x2, .int .u64 y2, .pointer p2, .int .i64 (u1 : Int)] 129)).alloc (.cells #[.bool false, .int .u64 0, .int .u64 0, .pointer none, .int .i64 0] 129)) := ⟨_, rfl⟩
  obtain ⟨tA, tB, tC, fz, hB⟩ := three_new w W _ _ _ _ hW
  have a0 := tA 0
  have a1 := tA 1
  have a2 := tA 2
  have a3 := tA 3
  have a4 := tA 4
  have b0 := tB 0
  have b1 := tB 1
  have b2 := tB 2
  have b3 := tB 3
  have b4 := tB 4
  have r0 := tC 0
  have r1 := tC 1
  have r2 := tC 2
  have r3 := tC 3
  have r4 := tC 4
  simp only [List.getElem?_toArray, List.getElem?_cons_zero, List.getElem?_cons_succ] at a0 a1 a2 a3 a4 b0 b1 b2 b3 b4 r0 r1 r2 r3 r4
  clear tA tB tC
  have HW := hide hW
  have HB := hide hB
  clear hW hB
  go_enter Tryz.func167, Tryz.ntmps167
  go_wp2_with fail
  rw [← unhide HW]
  obtain ⟨ga, hga⟩ : ∃ ga, ga = w.heap.size := ⟨_, rfl⟩
  obtain ⟨gb, hgb⟩ : ∃ gb, gb = w.heap.size + 1 := ⟨_, rfl⟩
  obtain ⟨gr, hgr⟩ : ∃ gr, gr = w.heap.size + 2 := ⟨_, rfl⟩
  rw [← hga] at a0 a1 a2 a3 a4
  rw [← hgb] at b0 b1 b2 b3 b4
  rw [← hgr] at r0 r1 r2 r3 r4 fz
  rw [show w.heap.size + 1 + 1 = w.heap.size + 2 from rfl, ← hgr, ← hgb, ← hga]
  have HGR : Hid (w.heap.size ≤ gr) := by show _ ≤ _; omega
  have nga : ga ≠ gr := by omega
  have ngb : gb ≠ gr := by omega
  clear hga hgb hgr HW
  have grl : gr < W.heap.size := lt_of_cell r0
  go_region_held (fun w' => w'.cell? ⟨ga, 0, none⟩ = some (.bool s1) ∧ w'.cell? ⟨ga, 1, none⟩ = some (.int .u64 x1) ∧ w'.cell? ⟨ga, 2, none⟩ = some (.int .u64 y1) ∧ w'.cell? ⟨ga, 3, none⟩ = some (.pointer p1) ∧ w'.cell? ⟨ga, 4, none⟩ = some (.int .i64 (u0 : Int)) ∧ w'.cell? ⟨gb, 0, none⟩ = some (.bool s2) ∧ w'.cell? ⟨gb, 1, none⟩ = some (.int .u64 x2) ∧ w'.cell? ⟨gb, 2, none⟩ = some (.int .u64 y2) ∧ w'.cell? ⟨gb, 3, none⟩ = some (.pointer p2) ∧ w'.cell? ⟨gb, 4, none⟩ = some (.int .i64 (u1 : Int))) (first | (go_keep; done) | exact ⟨set5_cell _ _ _ _ _ _ _ _ _ _ nga m0, set5_cell _ _ _ _ _ _ _ _ _ _ nga m1, set5_cell _ _ _ _ _ _ _ _ _ _ nga m2, set5_cell _ _ _ _ _ _ _ _ _ _ nga m3, set5_cell _ _ _ _ _ _ _ _ _ _ nga m4, set5_cell _ _ _ _ _ _ _ _ _ _ ngb N0, set5_cell _ _ _ _ _ _ _ _ _ _ ngb N1, set5_cell _ _ _ _ _ _ _ _ _ _ ngb N2, set5_cell _ _ _ _ _ _ _ _ _ _ ngb N3, set5_cell _ _ _ _ _ _ _ _ _ _ ngb N4⟩) (first
    | (go_at_call 51; refine (unhide WH _).mono ?_; rintro e w1 ⟨rfl, hc1⟩; have B1 : But [] W w1 := (by first | exact hc1 | exact (But.refl _ _).drew.trans' hc1); clear hc1; have k0 := B1.cell_some a0 (by simp); have k1 := B1.cell_some a1 (by simp); have k2 := B1.cell_some a2 (by simp); have k3 := B1.cell_some a3 (by simp); have k4 := B1.cell_some a4 (by simp); have q0 := B1.cell_some b0 (by simp); have q1 := B1.cell_some b1 (by simp); have q2 := B1.cell_some b2 (by simp); have q3 := B1.cell_some b3 (by simp); have q4 := B1.cell_some b4 (by simp))
    | (go_at_call 19; refine (unhide MU _ (by first | exact (unhide HB).trans' B1 | exact ((unhide HB).trans' B1).trans' (But.refl _ _).drew)).mono ?_; rintro e w2 ⟨v1, rfl, hn1, hc2⟩; have B2 : But [] W w2 := (by first | exact B1.trans' hc2 | exact B1.trans' ((But.refl _ _).drew.trans' hc2)); have HN1 := hide hn1; clear hn1 hc2; have c0 := B2.cell_some a0 (by simp); have c1 := B2.cell_some a1 (by simp); have c2 := B2.cell_some a2 (by simp); have c3 := B2.cell_some a3 (by simp); have c4 := B2.cell_some a4 (by simp); have e0 := B2.cell_some b0 (by simp); have e1 := B2.cell_some b1 (by simp); have e2 := B2.cell_some b2 (by simp); have e3 := B2.cell_some b3 (by simp); have e4 := B2.cell_some b4 (by simp))
    | (go_at_call 15; refine (unhide AD _ _ (by first | exact (unhide HB).trans' B2 | exact ((unhide HB).trans' B2).trans' (But.refl _ _).drew) (by first | exact unhide HN1 | exact (unhide HN1).but (But.refl _ _).drew)).mono ?_; rintro e w3 ⟨v2, rfl, hn2, hc3⟩; have B3 : But [] W w3 := (by first | exact B2.trans' hc3 | exact B2.trans' ((But.refl _ _).drew.trans' hc3)); have HN2 := hide hn2; obtain ⟨x8, y8, p8, rfl, -⟩ := hn2.agg; clear hc3; clear hn2; generalize decide (d.num < 0) = r8 at *; have m0 := B3.cell_some a0 (by simp); have m1 := B3.cell_some a1 (by simp); have m2 := B3.cell_some a2 (by simp); have m3 := B3.cell_some a3 (by simp); have m4 := B3.cell_some a4 (by simp); have N0 := B3.cell_some b0 (by simp); have N1 := B3.cell_some b1 (by simp); have N2 := B3.cell_some b2 (by simp); have N3 := B3.cell_some b3 (by simp); have N4 := B3.cell_some b4 (by simp); have U0 := B3.cell_some r0 (by simp); have U1 := B3.cell_some r1 (by simp); have U2 := B3.cell_some r2 (by simp); have U3 := B3.cell_some r3 (by simp); have U4 := B3.cell_some r4 (by simp); have uf : ∀ j, w3.frozen? ⟨gr, j, none⟩ = false := fun j => (B3.frozen (p := ⟨gr, j, none⟩) grl (by simp)).trans (fz j)))
  go_wp2
  have hBg := but_set5 w3 gr (.bool r8) (.int .u64 x8) (.int .u64 y8) (.pointer p8) (.int .i64 z2)
  exact bodyPost_ret (v := .agg #[.bool r8, .int .u64 x8, .int .u64 y8, .pointer p8, .int .i64 z2]) (by simp [results, Tryz.results167, go_sem, U0, U1, U2, U3, U4]) rfl ⟨_, rfl, unhide PO _ _ _ _ _ ((unhide HN2).over U0 hBg), ((unhide HB).trans' B3).trans hBg (fun x hx => by simp at hx; subst hx; exact .inr (unhide HGR))⟩
end Go.Proofs.YtihiafgogbhjkaaGreatDoor
