/- frac.Parse's errors behind the cut: too many digits, nought below the line. -/
import Derived.Test.YtihiafgogbhjkaaGreatDoorPD3
namespace Go.Proofs.YtihiafgogbhjkaaGreatDoor
open Go.RowKit

set_option maxHeartbeats 8000000 in
set_option maxRecDepth 100000 in
theorem parse_limitA (t : ByteArray) (s pc : Bool) (k n1 : Int) (P : ByteArray → ByteArray → Prop) (h1 : 60 < n1) (w : World)
    (CU : Hid (∀ W, Calls Tryz.prog 98 #[.string t] W fun e w' => ∃ tw tb, e = .returned (.tuple #[.agg #[.bool s, .string tw, .int .u8 k, .string tb, .bool pc], .int .i64 (-1)]) ∧ P tw tb ∧ But [] W w'))
    (AB : Hid (∀ tw tb, P tw tb → ∀ W, Calls Tryz.prog 99 #[.agg #[.bool s, .string tw, .int .u8 k, .string tb, .bool pc]] W fun e w' => e = .returned (.int .i64 n1) ∧ But [] W w')) :
    Calls Tryz.prog 43 #[.string t] w fun e w' => e = .returned (.tuple #[.agg #[.bool false, .int .u64 0, .int .u64 0, .pointer none], .iface 35 (.int .i64 4)]) ∧ But [] w w' := by
  have d1 : decide (60 < n1) = true := decide_eq_true h1
  obtain ⟨W, hW⟩ : ∃ W, W = w.alloc (.cells #[.bool false, .int .u64 0, .int .u64 0, .pointer none] 27) := ⟨_, rfl⟩
  have r0 : W.cell? ⟨w.heap.size, 0, none⟩ = some (.bool false) := by rw [hW]; simp
  have r1 : W.cell? ⟨w.heap.size, 1, none⟩ = some (.int .u64 0) := by rw [hW]; simp
  have r2 : W.cell? ⟨w.heap.size, 2, none⟩ = some (.int .u64 0) := by rw [hW]; simp
  have r3 : W.cell? ⟨w.heap.size, 3, none⟩ = some (.pointer none) := by rw [hW]; simp
  have fz : ∀ j, W.frozen? ⟨w.heap.size, j, none⟩ = false := fun j => by rw [hW]; simp
  have HB : Hid (But [] w W) := by show But _ _ _; rw [hW]; exact (But.refl _ _).alloc _
  have HW := hide hW
  clear hW
  go_enter Tryz.func43, Tryz.ntmps43
  go_wp2_with fail
  rw [← unhide HW]
  obtain ⟨gr, hgr⟩ : ∃ gr, gr = w.heap.size := ⟨_, rfl⟩
  rw [← hgr] at r0 r1 r2 r3 fz
  rw [← hgr]
  have HGR : Hid (w.heap.size ≤ gr) := by show _ ≤ _; omega
  clear hgr HW
  have grl : gr < W.heap.size := lt_of_cell r0
  refine (unhide CU _).mono ?_
  rintro e w1 ⟨tw, tb, rfl, hP, hb1⟩
  have AB' := hide (unhide AB tw tb hP)
  have KW := hide hb1
  clear AB CU hP hb1
  go_wp2_with fail
  obtain ⟨W1, hW1⟩ : ∃ W1, W1 = w1.alloc (.cells #[.bool s, .string tw, .int .u8 k, .string tb, .bool pc] 116) := ⟨_, rfl⟩
  have c0 : W1.cell? ⟨w1.heap.size, 0, none⟩ = some (.bool s) := by rw [hW1]; simp
  have c1 : W1.cell? ⟨w1.heap.size, 1, none⟩ = some (.string tw) := by rw [hW1]; simp
  have c2 : W1.cell? ⟨w1.heap.size, 2, none⟩ = some (.int .u8 k) := by rw [hW1]; simp
  have c3 : W1.cell? ⟨w1.heap.size, 3, none⟩ = some (.string tb) := by rw [hW1]; simp
  have c4 : W1.cell? ⟨w1.heap.size, 4, none⟩ = some (.bool pc) := by rw [hW1]; simp
  have KW1 : Hid (But [] W W1) := by show But _ _ _; rw [hW1]; exact (unhide KW).alloc _
  rw [← hW1]
  clear hW1 KW
  generalize w1.heap.size = gw at *
  refine (unhide AB' _).mono ?_
  rintro e w2 ⟨rfl, hb⟩
  replace c0 := hb.cell_some c0 (by simp)
  replace c1 := hb.cell_some c1 (by simp)
  replace c2 := hb.cell_some c2 (by simp)
  replace c3 := hb.cell_some c3 (by simp)
  replace c4 := hb.cell_some c4 (by simp)
  replace KW1 : Hid (But [] W w2) := (unhide KW1).trans' hb
  clear hb
  have K5 := unhide KW1
  have B5 : Hid (But [] w w2) := (unhide HB).trans' K5
  have u0 := K5.cell_some r0 (by simp)
  have u1 := K5.cell_some r1 (by simp)
  have u2 := K5.cell_some r2 (by simp)
  have u3 := K5.cell_some r3 (by simp)
  have uf : ∀ j, w2.frozen? ⟨gr, j, none⟩ = false := fun j => (K5.frozen (p := ⟨gr, j, none⟩) grl (by simp)).trans (fz j)
  clear K5 r0 r1 r2 r3 fz grl c0 c1 c2 c3 c4
  go_wp2
  obtain ⟨S, hS⟩ : ∃ S, S = ((((w2.setCell ⟨gr, 0, none⟩ (.bool false)).setCell ⟨gr, 1, none⟩ (.int .u64 0)).setCell ⟨gr, 2, none⟩ (.int .u64 0)).setCell ⟨gr, 3, none⟩ (.pointer none)) := ⟨_, rfl⟩
  have hBf : But [] w S := by
    rw [hS]
    exact ((((unhide B5).setCell (p := ⟨gr, 0, none⟩) (.inr (unhide HGR)) (.bool false)).setCell (p := ⟨gr, 1, none⟩) (.inr (unhide HGR)) (.int .u64 0)).setCell (p := ⟨gr, 2, none⟩) (.inr (unhide HGR)) (.int .u64 0)).setCell (p := ⟨gr, 3, none⟩) (.inr (unhide HGR)) (.pointer none)
  have k0 : S.cell? ⟨gr, 0, none⟩ = some (.bool false) := by rw [hS, World.cell?_setCell_other _ _ _ _ (by simp), World.cell?_setCell_other _ _ _ _ (by simp), World.cell?_setCell_other _ _ _ _ (by simp)]; exact World.cell?_setCell_same _ _ _ (by exact u0)
  have k1 : S.cell? ⟨gr, 1, none⟩ = some (.int .u64 0) := by rw [hS, World.cell?_setCell_other _ _ _ _ (by simp), World.cell?_setCell_other _ _ _ _ (by simp)]; exact World.cell?_setCell_same _ _ _ (by rw [World.cell?_setCell_other _ _ _ _ (by simp)]; exact u1)
  have k2 : S.cell? ⟨gr, 2, none⟩ = some (.int .u64 0) := by rw [hS, World.cell?_setCell_other _ _ _ _ (by simp)]; exact World.cell?_setCell_same _ _ _ (by rw [World.cell?_setCell_other _ _ _ _ (by simp), World.cell?_setCell_other _ _ _ _ (by simp)]; exact u2)
  have k3 : S.cell? ⟨gr, 3, none⟩ = some (.pointer none) := by rw [hS]; exact World.cell?_setCell_same _ _ _ (by rw [World.cell?_setCell_other _ _ _ _ (by simp), World.cell?_setCell_other _ _ _ _ (by simp), World.cell?_setCell_other _ _ _ _ (by simp)]; exact u3)
  rw [← hS]
  clear hS u0 u1 u2 u3 uf
  exact bodyPost_ret (v := .tuple #[.agg #[.bool false, .int .u64 0, .int .u64 0, .pointer none], .iface 35 (.int .i64 4)]) (by simp [results, Tryz.results43, go_sem, k0, k1, k2, k3]) rfl ⟨rfl, hBf⟩

set_option maxHeartbeats 8000000 in
set_option maxRecDepth 100000 in
theorem parse_limitU (t : ByteArray) (s pc : Bool) (k n1 n2 : Int) (P : ByteArray → ByteArray → Prop) (h1 : n1 ≤ 60) (h2 : 60 < n2) (w : World)
    (CU : Hid (∀ W, Calls Tryz.prog 98 #[.string t] W fun e w' => ∃ tw tb, e = .returned (.tuple #[.agg #[.bool s, .string tw, .int .u8 k, .string tb, .bool pc], .int .i64 (-1)]) ∧ P tw tb ∧ But [] W w'))
    (AB : Hid (∀ tw tb, P tw tb → ∀ W, Calls Tryz.prog 99 #[.agg #[.bool s, .string tw, .int .u8 k, .string tb, .bool pc]] W fun e w' => e = .returned (.int .i64 n1) ∧ But [] W w'))
    (UN : Hid (∀ tw tb, P tw tb → ∀ W, Calls Tryz.prog 100 #[.agg #[.bool s, .string tw, .int .u8 k, .string tb, .bool pc]] W fun e w' => e = .returned (.int .i64 n2) ∧ But [] W w')) :
    Calls Tryz.prog 43 #[.string t] w fun e w' => e = .returned (.tuple #[.agg #[.bool false, .int .u64 0, .int .u64 0, .pointer none], .iface 35 (.int .i64 4)]) ∧ But [] w w' := by
  have d1 : decide (60 < n1) = false := decide_eq_false (by omega)
  have d2 : decide (60 < n2) = true := decide_eq_true h2
  obtain ⟨W, hW⟩ : ∃ W, W = w.alloc (.cells #[.bool false, .int .u64 0, .int .u64 0, .pointer none] 27) := ⟨_, rfl⟩
  have r0 : W.cell? ⟨w.heap.size, 0, none⟩ = some (.bool false) := by rw [hW]; simp
  have r1 : W.cell? ⟨w.heap.size, 1, none⟩ = some (.int .u64 0) := by rw [hW]; simp
  have r2 : W.cell? ⟨w.heap.size, 2, none⟩ = some (.int .u64 0) := by rw [hW]; simp
  have r3 : W.cell? ⟨w.heap.size, 3, none⟩ = some (.pointer none) := by rw [hW]; simp
  have fz : ∀ j, W.frozen? ⟨w.heap.size, j, none⟩ = false := fun j => by rw [hW]; simp
  have HB : Hid (But [] w W) := by show But _ _ _; rw [hW]; exact (But.refl _ _).alloc _
  have HW := hide hW
  clear hW
  go_enter Tryz.func43, Tryz.ntmps43
  go_wp2_with fail
  rw [← unhide HW]
  obtain ⟨gr, hgr⟩ : ∃ gr, gr = w.heap.size := ⟨_, rfl⟩
  rw [← hgr] at r0 r1 r2 r3 fz
  rw [← hgr]
  have HGR : Hid (w.heap.size ≤ gr) := by show _ ≤ _; omega
  clear hgr HW
  have grl : gr < W.heap.size := lt_of_cell r0
  refine (unhide CU _).mono ?_
  rintro e w1 ⟨tw, tb, rfl, hP, hb1⟩
  have AB' := hide (unhide AB tw tb hP)
  have UN' := hide (unhide UN tw tb hP)
  have KW := hide hb1
  clear AB UN CU hP hb1
  go_wp2_with fail
  obtain ⟨W1, hW1⟩ : ∃ W1, W1 = w1.alloc (.cells #[.bool s, .string tw, .int .u8 k, .string tb, .bool pc] 116) := ⟨_, rfl⟩
  have c0 : W1.cell? ⟨w1.heap.size, 0, none⟩ = some (.bool s) := by rw [hW1]; simp
  have c1 : W1.cell? ⟨w1.heap.size, 1, none⟩ = some (.string tw) := by rw [hW1]; simp
  have c2 : W1.cell? ⟨w1.heap.size, 2, none⟩ = some (.int .u8 k) := by rw [hW1]; simp
  have c3 : W1.cell? ⟨w1.heap.size, 3, none⟩ = some (.string tb) := by rw [hW1]; simp
  have c4 : W1.cell? ⟨w1.heap.size, 4, none⟩ = some (.bool pc) := by rw [hW1]; simp
  have KW1 : Hid (But [] W W1) := by show But _ _ _; rw [hW1]; exact (unhide KW).alloc _
  rw [← hW1]
  clear hW1 KW
  generalize w1.heap.size = gw at *
  refine (unhide AB' _).mono ?_
  rintro e w2 ⟨rfl, hb⟩
  replace c0 := hb.cell_some c0 (by simp)
  replace c1 := hb.cell_some c1 (by simp)
  replace c2 := hb.cell_some c2 (by simp)
  replace c3 := hb.cell_some c3 (by simp)
  replace c4 := hb.cell_some c4 (by simp)
  replace KW1 : Hid (But [] W w2) := (unhide KW1).trans' hb
  clear hb
  go_wp2_with fail
  refine (unhide UN' _).mono ?_
  rintro e w3 ⟨rfl, hb⟩
  replace c0 := hb.cell_some c0 (by simp)
  replace c1 := hb.cell_some c1 (by simp)
  replace c2 := hb.cell_some c2 (by simp)
  replace c3 := hb.cell_some c3 (by simp)
  replace c4 := hb.cell_some c4 (by simp)
  replace KW1 : Hid (But [] W w3) := (unhide KW1).trans' hb
  clear hb
  have K5 := unhide KW1
  have B5 : Hid (But [] w w3) := (unhide HB).trans' K5
  have u0 := K5.cell_some r0 (by simp)
  have u1 := K5.cell_some r1 (by simp)
  have u2 := K5.cell_some r2 (by simp)
  have u3 := K5.cell_some r3 (by simp)
  have uf : ∀ j, w3.frozen? ⟨gr, j, none⟩ = false := fun j => (K5.frozen (p := ⟨gr, j, none⟩) grl (by simp)).trans (fz j)
  clear K5 r0 r1 r2 r3 fz grl c0 c1 c2 c3 c4
  go_wp2
  obtain ⟨S, hS⟩ : ∃ S, S = ((((w3.setCell ⟨gr, 0, none⟩ (.bool false)).setCell ⟨gr, 1, none⟩ (.int .u64 0)).setCell ⟨gr, 2, none⟩ (.int .u64 0)).setCell ⟨gr, 3, none⟩ (.pointer none)) := ⟨_, rfl⟩
  have hBf : But [] w S := by
    rw [hS]
    exact ((((unhide B5).setCell (p := ⟨gr, 0, none⟩) (.inr (unhide HGR)) (.bool false)).setCell (p := ⟨gr, 1, none⟩) (.inr (unhide HGR)) (.int .u64 0)).setCell (p := ⟨gr, 2, none⟩) (.inr (unhide HGR)) (.int .u64 0)).setCell (p := ⟨gr, 3, none⟩) (.inr (unhide HGR)) (.pointer none)
  have k0 : S.cell? ⟨gr, 0, none⟩ = some (.bool false) := by rw [hS, World.cell?_setCell_other _ _ _ _ (by simp), World.cell?_setCell_other _ _ _ _ (by simp), World.cell?_setCell_other _ _ _ _ (by simp)]; exact World.cell?_setCell_same _ _ _ (by exact u0)
  have k1 : S.cell? ⟨gr, 1, none⟩ = some (.int .u64 0) := by rw [hS, World.cell?_setCell_other _ _ _ _ (by simp), World.cell?_setCell_other _ _ _ _ (by simp)]; exact World.cell?_setCell_same _ _ _ (by rw [World.cell?_setCell_other _ _ _ _ (by simp)]; exact u1)
  have k2 : S.cell? ⟨gr, 2, none⟩ = some (.int .u64 0) := by rw [hS, World.cell?_setCell_other _ _ _ _ (by simp)]; exact World.cell?_setCell_same _ _ _ (by rw [World.cell?_setCell_other _ _ _ _ (by simp), World.cell?_setCell_other _ _ _ _ (by simp)]; exact u2)
  have k3 : S.cell? ⟨gr, 3, none⟩ = some (.pointer none) := by rw [hS]; exact World.cell?_setCell_same _ _ _ (by rw [World.cell?_setCell_other _ _ _ _ (by simp), World.cell?_setCell_other _ _ _ _ (by simp), World.cell?_setCell_other _ _ _ _ (by simp)]; exact u3)
  rw [← hS]
  clear hS u0 u1 u2 u3 uf
  exact bodyPost_ret (v := .tuple #[.agg #[.bool false, .int .u64 0, .int .u64 0, .pointer none], .iface 35 (.int .i64 4)]) (by simp [results, Tryz.results43, go_sem, k0, k1, k2, k3]) rfl ⟨rfl, hBf⟩

set_option maxHeartbeats 8000000 in
set_option maxRecDepth 100000 in
theorem parse_zero (t : ByteArray) (s pc : Bool) (k n1 n2 : Int) (P : ByteArray → ByteArray → Prop) (h1 : n1 ≤ 60) (h2 : n2 ≤ 60) (X : Nat) (w : World)
    (CU : Hid (∀ W, Calls Tryz.prog 98 #[.string t] W fun e w' => ∃ tw tb, e = .returned (.tuple #[.agg #[.bool s, .string tw, .int .u8 k, .string tb, .bool pc], .int .i64 (-1)]) ∧ P tw tb ∧ But [] W w'))
    (AB : Hid (∀ tw tb, P tw tb → ∀ W, Calls Tryz.prog 99 #[.agg #[.bool s, .string tw, .int .u8 k, .string tb, .bool pc]] W fun e w' => e = .returned (.int .i64 n1) ∧ But [] W w'))
    (UN : Hid (∀ tw tb, P tw tb → ∀ W, Calls Tryz.prog 100 #[.agg #[.bool s, .string tw, .int .u8 k, .string tb, .bool pc]] W fun e w' => e = .returned (.int .i64 n2) ∧ But [] W w'))
    (NU : Hid (∀ tw tb, P tw tb → ∀ W, Calls Tryz.prog 101 #[.agg #[.bool s, .string tw, .int .u8 k, .string tb, .bool pc]] W fun e w' => ∃ v1 v2, e = .returned (.tuple #[v1, v2]) ∧ Sl .u64 w' v1 (wd 18446744073709551616 X) ∧ Sl .u64 w' v2 (wd 18446744073709551616 0) ∧ But [] W w')) :
    Calls Tryz.prog 43 #[.string t] w fun e w' => e = .returned (.tuple #[.agg #[.bool false, .int .u64 0, .int .u64 0, .pointer none], .iface 35 (.int .i64 11)]) ∧ But [] w w' := by
  have d1 : decide (60 < n1) = false := decide_eq_false (by omega)
  have d2 : decide (60 < n2) = false := decide_eq_false (by omega)
  obtain ⟨W, hW⟩ : ∃ W, W = w.alloc (.cells #[.bool false, .int .u64 0, .int .u64 0, .pointer none] 27) := ⟨_, rfl⟩
  have r0 : W.cell? ⟨w.heap.size, 0, none⟩ = some (.bool false) := by rw [hW]; simp
  have r1 : W.cell? ⟨w.heap.size, 1, none⟩ = some (.int .u64 0) := by rw [hW]; simp
  have r2 : W.cell? ⟨w.heap.size, 2, none⟩ = some (.int .u64 0) := by rw [hW]; simp
  have r3 : W.cell? ⟨w.heap.size, 3, none⟩ = some (.pointer none) := by rw [hW]; simp
  have fz : ∀ j, W.frozen? ⟨w.heap.size, j, none⟩ = false := fun j => by rw [hW]; simp
  have HB : Hid (But [] w W) := by show But _ _ _; rw [hW]; exact (But.refl _ _).alloc _
  have HW := hide hW
  clear hW
  go_enter Tryz.func43, Tryz.ntmps43
  go_wp2_with fail
  rw [← unhide HW]
  obtain ⟨gr, hgr⟩ : ∃ gr, gr = w.heap.size := ⟨_, rfl⟩
  rw [← hgr] at r0 r1 r2 r3 fz
  rw [← hgr]
  have HGR : Hid (w.heap.size ≤ gr) := by show _ ≤ _; omega
  clear hgr HW
  have grl : gr < W.heap.size := lt_of_cell r0
  refine (unhide CU _).mono ?_
  rintro e w1 ⟨tw, tb, rfl, hP, hb1⟩
  have AB' := hide (unhide AB tw tb hP)
  have UN' := hide (unhide UN tw tb hP)
  have NU' := hide (unhide NU tw tb hP)
  have KW := hide hb1
  clear AB UN NU CU hP hb1
  go_wp2_with fail
  obtain ⟨W1, hW1⟩ : ∃ W1, W1 = w1.alloc (.cells #[.bool s, .string tw, .int .u8 k, .string tb, .bool pc] 116) := ⟨_, rfl⟩
  have c0 : W1.cell? ⟨w1.heap.size, 0, none⟩ = some (.bool s) := by rw [hW1]; simp
  have c1 : W1.cell? ⟨w1.heap.size, 1, none⟩ = some (.string tw) := by rw [hW1]; simp
  have c2 : W1.cell? ⟨w1.heap.size, 2, none⟩ = some (.int .u8 k) := by rw [hW1]; simp
  have c3 : W1.cell? ⟨w1.heap.size, 3, none⟩ = some (.string tb) := by rw [hW1]; simp
  have c4 : W1.cell? ⟨w1.heap.size, 4, none⟩ = some (.bool pc) := by rw [hW1]; simp
  have KW1 : Hid (But [] W W1) := by show But _ _ _; rw [hW1]; exact (unhide KW).alloc _
  rw [← hW1]
  clear hW1 KW
  generalize w1.heap.size = gw at *
  refine (unhide AB' _).mono ?_
  rintro e w2 ⟨rfl, hb⟩
  replace c0 := hb.cell_some c0 (by simp)
  replace c1 := hb.cell_some c1 (by simp)
  replace c2 := hb.cell_some c2 (by simp)
  replace c3 := hb.cell_some c3 (by simp)
  replace c4 := hb.cell_some c4 (by simp)
  replace KW1 : Hid (But [] W w2) := (unhide KW1).trans' hb
  clear hb
  go_wp2_with fail
  refine (unhide UN' _).mono ?_
  rintro e w3 ⟨rfl, hb⟩
  replace c0 := hb.cell_some c0 (by simp)
  replace c1 := hb.cell_some c1 (by simp)
  replace c2 := hb.cell_some c2 (by simp)
  replace c3 := hb.cell_some c3 (by simp)
  replace c4 := hb.cell_some c4 (by simp)
  replace KW1 : Hid (But [] W w3) := (unhide KW1).trans' hb
  clear hb
  go_wp2_with fail
  refine (unhide NU' _).mono ?_
  rintro e w4 ⟨v1, v2, rfl, hv1, hv2, hb⟩
  replace c0 := hb.cell_some c0 (by simp)
  replace c1 := hb.cell_some c1 (by simp)
  replace c2 := hb.cell_some c2 (by simp)
  replace c3 := hb.cell_some c3 (by simp)
  replace c4 := hb.cell_some c4 (by simp)
  replace KW1 : Hid (But [] W w4) := (unhide KW1).trans' hb
  rw [wd_zero] at hv2
  obtain ⟨a2, e2, rfl, -, -⟩ := hv2
  clear hv1
  clear hb
  have K5 := unhide KW1
  have B5 : Hid (But [] w w4) := (unhide HB).trans' K5
  have u0 := K5.cell_some r0 (by simp)
  have u1 := K5.cell_some r1 (by simp)
  have u2 := K5.cell_some r2 (by simp)
  have u3 := K5.cell_some r3 (by simp)
  have uf : ∀ j, w4.frozen? ⟨gr, j, none⟩ = false := fun j => (K5.frozen (p := ⟨gr, j, none⟩) grl (by simp)).trans (fz j)
  clear K5 r0 r1 r2 r3 fz grl c0 c1 c2 c3 c4
  go_wp2
  obtain ⟨S, hS⟩ : ∃ S, S = ((((w4.setCell ⟨gr, 0, none⟩ (.bool false)).setCell ⟨gr, 1, none⟩ (.int .u64 0)).setCell ⟨gr, 2, none⟩ (.int .u64 0)).setCell ⟨gr, 3, none⟩ (.pointer none)) := ⟨_, rfl⟩
  have hBf : But [] w S := by
    rw [hS]
    exact ((((unhide B5).setCell (p := ⟨gr, 0, none⟩) (.inr (unhide HGR)) (.bool false)).setCell (p := ⟨gr, 1, none⟩) (.inr (unhide HGR)) (.int .u64 0)).setCell (p := ⟨gr, 2, none⟩) (.inr (unhide HGR)) (.int .u64 0)).setCell (p := ⟨gr, 3, none⟩) (.inr (unhide HGR)) (.pointer none)
  have k0 : S.cell? ⟨gr, 0, none⟩ = some (.bool false) := by rw [hS, World.cell?_setCell_other _ _ _ _ (by simp), World.cell?_setCell_other _ _ _ _ (by simp), World.cell?_setCell_other _ _ _ _ (by simp)]; exact World.cell?_setCell_same _ _ _ (by exact u0)
  have k1 : S.cell? ⟨gr, 1, none⟩ = some (.int .u64 0) := by rw [hS, World.cell?_setCell_other _ _ _ _ (by simp), World.cell?_setCell_other _ _ _ _ (by simp)]; exact World.cell?_setCell_same _ _ _ (by rw [World.cell?_setCell_other _ _ _ _ (by simp)]; exact u1)
  have k2 : S.cell? ⟨gr, 2, none⟩ = some (.int .u64 0) := by rw [hS, World.cell?_setCell_other _ _ _ _ (by simp)]; exact World.cell?_setCell_same _ _ _ (by rw [World.cell?_setCell_other _ _ _ _ (by simp), World.cell?_setCell_other _ _ _ _ (by simp)]; exact u2)
  have k3 : S.cell? ⟨gr, 3, none⟩ = some (.pointer none) := by rw [hS]; exact World.cell?_setCell_same _ _ _ (by rw [World.cell?_setCell_other _ _ _ _ (by simp), World.cell?_setCell_other _ _ _ _ (by simp), World.cell?_setCell_other _ _ _ _ (by simp)]; exact u3)
  rw [← hS]
  clear hS u0 u1 u2 u3 uf
  exact bodyPost_ret (v := .tuple #[.agg #[.bool false, .int .u64 0, .int .u64 0, .pointer none], .iface 35 (.int .i64 11)]) (by simp [results, Tryz.results43, go_sem, k0, k1, k2, k3]) rfl ⟨rfl, hBf⟩
end Go.Proofs.YtihiafgogbhjkaaGreatDoor

namespace Go.Proofs.YtihiafgogbhjkaaGreatDoor
open Go.RowKit

/-- digits above and below the line, and the numbers that they tell -/
def abv (ds : List UInt8) (k : Nat) (es : List UInt8) : Nat := if k = 46 then ds.length + es.length else ds.length
def udr (k : Nat) (es : List UInt8) : Nat := if k = 47 then es.length else 1 + es.length
def numX (ds : List UInt8) (k : Nat) (es : List UInt8) : Nat := if k = 46 then dval (ds ++ es) else dval ds
def numY (k : Nat) (es : List UInt8) (pc : Bool) : Nat := (if k = 47 then dval es else 10 ^ es.length) * (if pc then 100 else 1)
def FormOk (n : Nat) : Form → Prop
  | .bad p => p ≤ n
  | .good _ ds k es _ => Digits ds ∧ Digits es ∧ 0 < ds.length ∧ ds.length ≤ n ∧ es.length ≤ n ∧ ((k = 0 ∧ es = []) ∨ k = 47 ∨ k = 46)
theorem endForm_ok (n : Nat) (s : Bool) (ds : List UInt8) (k : Nat) (es : List UInt8) (q : Nat) (r : List UInt8) (h1 : Digits ds) (h2 : Digits es) (h3 : 0 < ds.length) (h4 : ds.length ≤ n) (h5 : es.length ≤ n) (h6 : (k = 0 ∧ es = []) ∨ k = 47 ∨ k = 46) (h7 : q + r.length ≤ n) : FormOk n (endForm s ds k es q r) := by
  match r with
  | [] => exact ⟨h1, h2, h3, h4, h5, h6⟩
  | [c] =>
    dsimp only [endForm]
    split
    · exact ⟨h1, h2, h3, h4, h5, h6⟩
    · exact Nat.le_trans (Nat.le_add_right _ _) h7
  | c :: c2 :: r =>
    have h8 : q + (r.length + 1 + 1) ≤ n := h7
    dsimp only [endForm]
    split
    · show q + 1 ≤ n; omega
    · show q ≤ n; omega
theorem signForm_ok (n : Nat) (s : Bool) (a : Nat) (l : List UInt8) (hl : a + l.length ≤ n) : FormOk n (signForm s a l) := by
  have hu := und_length l
  unfold signForm
  split
  · show a ≤ n; omega
  · rename_i h0
    cases hr : und l with
    | nil => exact ⟨dgs_digits l, (fun d h => by cases h), by omega, by omega, by simp, .inl ⟨rfl, rfl⟩⟩
    | cons c r =>
      have hu2 := und_length r
      rw [hr, List.length_cons] at hu
      dsimp only [midForm]
      split
      · rename_i hc
        split
        · show a + (dgs l).length + 1 ≤ n; omega
        · exact endForm_ok n s _ _ _ _ _ (dgs_digits l) (dgs_digits r) (by omega) (by omega) (by omega) (.inr hc) (by omega)
      · exact endForm_ok n s _ _ _ _ _ (dgs_digits l) (fun d h => by cases h) (by omega) (by omega) (by simp) (.inl ⟨rfl, rfl⟩) (by rw [List.length_cons]; omega)
theorem formOf_ok (bs : List UInt8) : FormOk bs.length (formOf bs) := by
  match bs with
  | [] => exact Nat.le_refl 0
  | c :: l =>
    dsimp only [formOf]
    split
    · exact signForm_ok _ true 1 l (by rw [List.length_cons]; omega)
    · exact signForm_ok _ false 0 (c :: l) (by omega)

def zeroF : Value := .agg #[.bool false, .int .u64 0, .int .u64 0, .pointer none]
def ParseGood (s : Bool) (ds : List UInt8) (k : Nat) (es : List UInt8) (pc : Bool) (w : World) (v ev : Value) : Prop :=
  ((60 < abv ds k es ∨ 60 < udr k es) ∧ v = zeroF ∧ ErrAt w ev 4 (-1)) ∨ (¬ (60 < abv ds k es ∨ 60 < udr k es) ∧ numY k es pc = 0 ∧ v = zeroF ∧ ErrAt w ev 11 (-1)) ∨ (¬ (60 < abv ds k es ∨ 60 < udr k es) ∧ 0 < numY k es pc ∧ ev = .nilIface ∧ ∃ f : Rat, f.num * (numY k es pc : Int) = sgn s (numX ds k es) * (f.den : Int) ∧ FracAt w v f)
theorem ba_nilQ {b : ByteArray} (h : b.data.toList = []) : b = ⟨#[]⟩ := by
  cases b; simp only [ByteArray.mk.injEq]; exact Array.ext' h
theorem mk_parts (n : Int) (d : Nat) (hd : 0 < d) : ∃ f : Rat, f.num * (d : Int) = n * (f.den : Int) := by
  refine ⟨mkRat n d, ?_⟩
  have h := Rat.mkRat_self (mkRat n d)
  exact (Rat.mkRat_eq_iff (mkRat n d).den_nz (by omega)).1 h

theorem parse_good0 (t : ByteArray) (s pc : Bool) (ds es : List UInt8) (w : World) (hN : t.data.toList.length < 2305843009213693952) (hF : formOf t.data.toList = .good s ds 0 es pc) (hes : es = []) :
    Calls Tryz.prog 43 #[.string t] w fun e w' => ∃ v ev, e = .returned (.tuple #[v, ev]) ∧ ParseGood s ds 0 es pc w' v ev ∧ But [] w w' := by
  have ok := formOf_ok t.data.toList
  rw [hF] at ok
  obtain ⟨hd, hde, h0, hl, hel, -⟩ := ok
  have CU : Hid (∀ W, Calls Tryz.prog 98 #[.string t] W fun e w' => ∃ tw tb, e = .returned (.tuple #[.agg #[.bool s, .string tw, .int .u8 0, .string tb, .bool pc], .int .i64 (-1)]) ∧ (fun tw tb : ByteArray => tw.data.toList = ds ∧ tb.data.toList = es) tw tb ∧ But [] W w') := fun W => (cut_any t W hN).mono (fun e w' h => by
    obtain ⟨v, h1, h2, h3⟩ := h
    rw [hF] at h2
    obtain ⟨tw, tb, rfl, h4, h5⟩ := h2
    exact ⟨tw, tb, h1, ⟨h4, h5⟩, h3⟩)
  have AB : Hid (∀ tw tb, (fun tw tb : ByteArray => tw.data.toList = ds ∧ tb.data.toList = es) tw tb → ∀ W, Calls Tryz.prog 99 #[.agg #[.bool s, .string tw, .int .u8 0, .string tb, .bool pc]] W fun e w' => e = .returned (.int .i64 ((abv ds 0 es : Nat) : Int)) ∧ But [] W w') := fun tw tb hP W => by
    have s1 := size_list hP.1
    have s2 := size_list hP.2
    have h := aboveDigitsG_0 s pc tw tb W (by omega) (by omega)
    rw [s1] at h
    exact h
  have UN : Hid (∀ tw tb, (fun tw tb : ByteArray => tw.data.toList = ds ∧ tb.data.toList = es) tw tb → ∀ W, Calls Tryz.prog 100 #[.agg #[.bool s, .string tw, .int .u8 0, .string tb, .bool pc]] W fun e w' => e = .returned (.int .i64 ((udr 0 es : Nat) : Int)) ∧ But [] W w') := fun tw tb hP W => by
    have s1 := size_list hP.1
    have s2 := size_list hP.2
    have h := underDigitsG_0 s pc tw tb W (by omega) (by omega)
    rw [s2] at h
    rw [show ((udr 0 es : Nat) : Int) = 1 + (es.length : Int) from by show ((1 + es.length : Nat) : Int) = _; omega]; exact h
  have zr : ∀ W ev, ErrAt W ev 4 (-1) → (60 < abv ds 0 es ∨ 60 < udr 0 es) → ParseGood s ds 0 es pc W zeroF ev := fun W ev h1 h2 => .inl ⟨h2, rfl, h1⟩
  by_cases g1 : 60 < abv ds 0 es
  · exact (parse_limitA t s pc 0 _ _ (by omega) w CU AB).mono (fun e w' h => ⟨_, _, h.1, zr _ _ (.inl ⟨rfl, rfl⟩) (.inl g1), h.2⟩)
  · by_cases g2 : 60 < udr 0 es
    · exact (parse_limitU t s pc 0 _ _ _ (by omega) (by omega) w CU AB UN).mono (fun e w' h => ⟨_, _, h.1, zr _ _ (.inl ⟨rfl, rfl⟩) (.inr g2), h.2⟩)
    · have b1 : ds.length ≤ 60 := by have : abv ds 0 es = ds.length := rfl; omega
      have b2 : es.length ≤ 60 := by have : udr 0 es = 1 + es.length := rfl; omega
      have NU : Hid (∀ tw tb, (fun tw tb : ByteArray => tw.data.toList = ds ∧ tb.data.toList = es) tw tb → ∀ W, Calls Tryz.prog 101 #[.agg #[.bool s, .string tw, .int .u8 0, .string tb, .bool pc]] W fun e w' => ∃ v1 v2, e = .returned (.tuple #[v1, v2]) ∧ Sl .u64 w' v1 (wd 18446744073709551616 (numX ds 0 es)) ∧ Sl .u64 w' v2 (wd 18446744073709551616 (numY 0 es pc)) ∧ But [] W w') := fun tw tb hP W => by
        cases pc
        · obtain ⟨p1, p2⟩ := hP
          have e : tb = ⟨#[]⟩ := ba_nilQ (p2.trans hes)
          subst e hes
          exact numbers_0 s tw ds W p1 hd (by omega)
        · obtain ⟨p1, p2⟩ := hP
          have e : tb = ⟨#[]⟩ := ba_nilQ (p2.trans hes)
          subst e hes
          exact numbersP_0 s tw ds W p1 hd (by omega)
      have dxe : Digits (ds ++ es) := fun d h => (List.mem_append.1 h).elim (hd d) (hde d)
      have lx : (wd 18446744073709551616 (numX ds 0 es)).length ≤ 1000000 := dval_words hd (by omega)
      have y0 : 10 ^ es.length ≤ 10 ^ 60 := Nat.pow_le_pow_right (by omega) b2
      have y1 : numY 0 es pc ≤ 10 ^ 60 * 100 := Nat.mul_le_mul y0 (by cases pc <;> decide)
      have ly : (wd 18446744073709551616 (numY 0 es pc)).length ≤ 1000000 := Nat.le_trans (wd_length_le (B := 18446744073709551616) (by omega) _ 63 (Nat.lt_of_le_of_lt y1 (by decide))) (by omega)
      by_cases hy : numY 0 es pc = 0
      · rw [hy] at NU
        exact (parse_zero t s pc 0 _ _ _ (by omega) (by omega) _ w CU AB UN NU).mono (fun e w' h => ⟨_, _, h.1, .inr (.inl ⟨fun h => h.elim g1 g2, hy, rfl, .inl ⟨rfl, rfl⟩⟩), h.2⟩)
      · obtain ⟨f, hf⟩ := mk_parts (sgn s (numX ds 0 es)) (numY 0 es pc) (by omega)
        exact (parse_genP t s pc 0 _ _ _ (by omega) (by omega) _ _ (by omega) lx ly f hf w CU AB UN NU).mono (fun e w' h => by
          obtain ⟨v, h1, h2, h3⟩ := h
          exact ⟨v, _, h1, .inr (.inr ⟨fun h => h.elim g1 g2, by omega, rfl, f, hf, h2⟩), h3⟩)

theorem parse_good47 (t : ByteArray) (s pc : Bool) (ds es : List UInt8) (w : World) (hN : t.data.toList.length < 2305843009213693952) (hF : formOf t.data.toList = .good s ds 47 es pc) :
    Calls Tryz.prog 43 #[.string t] w fun e w' => ∃ v ev, e = .returned (.tuple #[v, ev]) ∧ ParseGood s ds 47 es pc w' v ev ∧ But [] w w' := by
  have ok := formOf_ok t.data.toList
  rw [hF] at ok
  obtain ⟨hd, hde, h0, hl, hel, -⟩ := ok
  have CU : Hid (∀ W, Calls Tryz.prog 98 #[.string t] W fun e w' => ∃ tw tb, e = .returned (.tuple #[.agg #[.bool s, .string tw, .int .u8 47, .string tb, .bool pc], .int .i64 (-1)]) ∧ (fun tw tb : ByteArray => tw.data.toList = ds ∧ tb.data.toList = es) tw tb ∧ But [] W w') := fun W => (cut_any t W hN).mono (fun e w' h => by
    obtain ⟨v, h1, h2, h3⟩ := h
    rw [hF] at h2
    obtain ⟨tw, tb, rfl, h4, h5⟩ := h2
    exact ⟨tw, tb, h1, ⟨h4, h5⟩, h3⟩)
  have AB : Hid (∀ tw tb, (fun tw tb : ByteArray => tw.data.toList = ds ∧ tb.data.toList = es) tw tb → ∀ W, Calls Tryz.prog 99 #[.agg #[.bool s, .string tw, .int .u8 47, .string tb, .bool pc]] W fun e w' => e = .returned (.int .i64 ((abv ds 47 es : Nat) : Int)) ∧ But [] W w') := fun tw tb hP W => by
    have s1 := size_list hP.1
    have s2 := size_list hP.2
    have h := aboveDigitsG_47 s pc tw tb W (by omega) (by omega)
    rw [s1] at h
    exact h
  have UN : Hid (∀ tw tb, (fun tw tb : ByteArray => tw.data.toList = ds ∧ tb.data.toList = es) tw tb → ∀ W, Calls Tryz.prog 100 #[.agg #[.bool s, .string tw, .int .u8 47, .string tb, .bool pc]] W fun e w' => e = .returned (.int .i64 ((udr 47 es : Nat) : Int)) ∧ But [] W w') := fun tw tb hP W => by
    have s1 := size_list hP.1
    have s2 := size_list hP.2
    have h := underDigitsG_47 s pc tw tb W (by omega) (by omega)
    rw [s2] at h
    exact h
  have zr : ∀ W ev, ErrAt W ev 4 (-1) → (60 < abv ds 47 es ∨ 60 < udr 47 es) → ParseGood s ds 47 es pc W zeroF ev := fun W ev h1 h2 => .inl ⟨h2, rfl, h1⟩
  by_cases g1 : 60 < abv ds 47 es
  · exact (parse_limitA t s pc 47 _ _ (by omega) w CU AB).mono (fun e w' h => ⟨_, _, h.1, zr _ _ (.inl ⟨rfl, rfl⟩) (.inl g1), h.2⟩)
  · by_cases g2 : 60 < udr 47 es
    · exact (parse_limitU t s pc 47 _ _ _ (by omega) (by omega) w CU AB UN).mono (fun e w' h => ⟨_, _, h.1, zr _ _ (.inl ⟨rfl, rfl⟩) (.inr g2), h.2⟩)
    · have b1 : ds.length ≤ 60 := by have : abv ds 47 es = ds.length := rfl; omega
      have b2 : es.length ≤ 60 := by have : udr 47 es = es.length := rfl; omega
      have NU : Hid (∀ tw tb, (fun tw tb : ByteArray => tw.data.toList = ds ∧ tb.data.toList = es) tw tb → ∀ W, Calls Tryz.prog 101 #[.agg #[.bool s, .string tw, .int .u8 47, .string tb, .bool pc]] W fun e w' => ∃ v1 v2, e = .returned (.tuple #[v1, v2]) ∧ Sl .u64 w' v1 (wd 18446744073709551616 (numX ds 47 es)) ∧ Sl .u64 w' v2 (wd 18446744073709551616 (numY 47 es pc)) ∧ But [] W w') := fun tw tb hP W => by
        cases pc
        · rw [show numY 47 es false = dval es from Nat.mul_one _]
          exact numbers_47 s tw tb ds W hP.1 hd (by omega) es hP.2 hde (by omega)
        · exact numbersP_47 s tw tb ds W hP.1 hd (by omega) es hP.2 hde (by omega)
      have dxe : Digits (ds ++ es) := fun d h => (List.mem_append.1 h).elim (hd d) (hde d)
      have lx : (wd 18446744073709551616 (numX ds 47 es)).length ≤ 1000000 := dval_words hd (by omega)
      have y0 : dval es ≤ 10 ^ 60 := Nat.le_trans (Nat.le_of_lt (dval_lt hde)) (Nat.pow_le_pow_right (by omega) b2)
      have y1 : numY 47 es pc ≤ 10 ^ 60 * 100 := Nat.mul_le_mul y0 (by cases pc <;> decide)
      have ly : (wd 18446744073709551616 (numY 47 es pc)).length ≤ 1000000 := Nat.le_trans (wd_length_le (B := 18446744073709551616) (by omega) _ 63 (Nat.lt_of_le_of_lt y1 (by decide))) (by omega)
      by_cases hy : numY 47 es pc = 0
      · rw [hy] at NU
        exact (parse_zero t s pc 47 _ _ _ (by omega) (by omega) _ w CU AB UN NU).mono (fun e w' h => ⟨_, _, h.1, .inr (.inl ⟨fun h => h.elim g1 g2, hy, rfl, .inl ⟨rfl, rfl⟩⟩), h.2⟩)
      · obtain ⟨f, hf⟩ := mk_parts (sgn s (numX ds 47 es)) (numY 47 es pc) (by omega)
        exact (parse_genP t s pc 47 _ _ _ (by omega) (by omega) _ _ (by omega) lx ly f hf w CU AB UN NU).mono (fun e w' h => by
          obtain ⟨v, h1, h2, h3⟩ := h
          exact ⟨v, _, h1, .inr (.inr ⟨fun h => h.elim g1 g2, by omega, rfl, f, hf, h2⟩), h3⟩)

theorem parse_good46 (t : ByteArray) (s pc : Bool) (ds es : List UInt8) (w : World) (hN : t.data.toList.length < 2305843009213693952) (hF : formOf t.data.toList = .good s ds 46 es pc) :
    Calls Tryz.prog 43 #[.string t] w fun e w' => ∃ v ev, e = .returned (.tuple #[v, ev]) ∧ ParseGood s ds 46 es pc w' v ev ∧ But [] w w' := by
  have ok := formOf_ok t.data.toList
  rw [hF] at ok
  obtain ⟨hd, hde, h0, hl, hel, -⟩ := ok
  have CU : Hid (∀ W, Calls Tryz.prog 98 #[.string t] W fun e w' => ∃ tw tb, e = .returned (.tuple #[.agg #[.bool s, .string tw, .int .u8 46, .string tb, .bool pc], .int .i64 (-1)]) ∧ (fun tw tb : ByteArray => tw.data.toList = ds ∧ tb.data.toList = es) tw tb ∧ But [] W w') := fun W => (cut_any t W hN).mono (fun e w' h => by
    obtain ⟨v, h1, h2, h3⟩ := h
    rw [hF] at h2
    obtain ⟨tw, tb, rfl, h4, h5⟩ := h2
    exact ⟨tw, tb, h1, ⟨h4, h5⟩, h3⟩)
  have AB : Hid (∀ tw tb, (fun tw tb : ByteArray => tw.data.toList = ds ∧ tb.data.toList = es) tw tb → ∀ W, Calls Tryz.prog 99 #[.agg #[.bool s, .string tw, .int .u8 46, .string tb, .bool pc]] W fun e w' => e = .returned (.int .i64 ((abv ds 46 es : Nat) : Int)) ∧ But [] W w') := fun tw tb hP W => by
    have s1 := size_list hP.1
    have s2 := size_list hP.2
    have h := aboveDigitsG_46 s pc tw tb W (by omega) (by omega)
    rw [s1, s2] at h
    exact h
  have UN : Hid (∀ tw tb, (fun tw tb : ByteArray => tw.data.toList = ds ∧ tb.data.toList = es) tw tb → ∀ W, Calls Tryz.prog 100 #[.agg #[.bool s, .string tw, .int .u8 46, .string tb, .bool pc]] W fun e w' => e = .returned (.int .i64 ((udr 46 es : Nat) : Int)) ∧ But [] W w') := fun tw tb hP W => by
    have s1 := size_list hP.1
    have s2 := size_list hP.2
    have h := underDigitsG_46 s pc tw tb W (by omega) (by omega)
    rw [s2] at h
    rw [show ((udr 46 es : Nat) : Int) = 1 + (es.length : Int) from by show ((1 + es.length : Nat) : Int) = _; omega]; exact h
  have zr : ∀ W ev, ErrAt W ev 4 (-1) → (60 < abv ds 46 es ∨ 60 < udr 46 es) → ParseGood s ds 46 es pc W zeroF ev := fun W ev h1 h2 => .inl ⟨h2, rfl, h1⟩
  by_cases g1 : 60 < abv ds 46 es
  · exact (parse_limitA t s pc 46 _ _ (by omega) w CU AB).mono (fun e w' h => ⟨_, _, h.1, zr _ _ (.inl ⟨rfl, rfl⟩) (.inl g1), h.2⟩)
  · by_cases g2 : 60 < udr 46 es
    · exact (parse_limitU t s pc 46 _ _ _ (by omega) (by omega) w CU AB UN).mono (fun e w' h => ⟨_, _, h.1, zr _ _ (.inl ⟨rfl, rfl⟩) (.inr g2), h.2⟩)
    · have b1 : ds.length ≤ 60 := by have : abv ds 46 es = ds.length + es.length := rfl; omega
      have b2 : es.length ≤ 60 := by have : udr 46 es = 1 + es.length := rfl; omega
      have NU : Hid (∀ tw tb, (fun tw tb : ByteArray => tw.data.toList = ds ∧ tb.data.toList = es) tw tb → ∀ W, Calls Tryz.prog 101 #[.agg #[.bool s, .string tw, .int .u8 46, .string tb, .bool pc]] W fun e w' => ∃ v1 v2, e = .returned (.tuple #[v1, v2]) ∧ Sl .u64 w' v1 (wd 18446744073709551616 (numX ds 46 es)) ∧ Sl .u64 w' v2 (wd 18446744073709551616 (numY 46 es pc)) ∧ But [] W w') := fun tw tb hP W => by
        cases pc
        · rw [show numY 46 es false = 10 ^ es.length from Nat.mul_one _]
          exact numbers_46 s tw tb ds W hP.1 hd (by omega) es hP.2 hde (by omega)
        · exact numbersP_46 s tw tb ds W hP.1 hd (by omega) es hP.2 hde (by omega)
      have dxe : Digits (ds ++ es) := fun d h => (List.mem_append.1 h).elim (hd d) (hde d)
      have lx : (wd 18446744073709551616 (numX ds 46 es)).length ≤ 1000000 := dval_words dxe (by rw [List.length_append]; omega)
      have y0 : 10 ^ es.length ≤ 10 ^ 60 := Nat.pow_le_pow_right (by omega) b2
      have y1 : numY 46 es pc ≤ 10 ^ 60 * 100 := Nat.mul_le_mul y0 (by cases pc <;> decide)
      have ly : (wd 18446744073709551616 (numY 46 es pc)).length ≤ 1000000 := Nat.le_trans (wd_length_le (B := 18446744073709551616) (by omega) _ 63 (Nat.lt_of_le_of_lt y1 (by decide))) (by omega)
      by_cases hy : numY 46 es pc = 0
      · rw [hy] at NU
        exact (parse_zero t s pc 46 _ _ _ (by omega) (by omega) _ w CU AB UN NU).mono (fun e w' h => ⟨_, _, h.1, .inr (.inl ⟨fun h => h.elim g1 g2, hy, rfl, .inl ⟨rfl, rfl⟩⟩), h.2⟩)
      · obtain ⟨f, hf⟩ := mk_parts (sgn s (numX ds 46 es)) (numY 46 es pc) (by omega)
        exact (parse_genP t s pc 46 _ _ _ (by omega) (by omega) _ _ (by omega) lx ly f hf w CU AB UN NU).mono (fun e w' h => by
          obtain ⟨v, h1, h2, h3⟩ := h
          exact ⟨v, _, h1, .inr (.inr ⟨fun h => h.elim g1 g2, by omega, rfl, f, hf, h2⟩), h3⟩)

/-- what frac.Parse answers of a text of that form -/
def ParseIs (w : World) (v ev : Value) : Form → Prop
  | .bad p => v = zeroF ∧ ErrAt w ev 3 p
  | .good s ds k es pc => ParseGood s ds k es pc w v ev
theorem parse_any (t : ByteArray) (w : World) (hN : t.data.toList.length < 2305843009213693952) :
    Calls Tryz.prog 43 #[.string t] w fun e w' => ∃ v ev, e = .returned (.tuple #[v, ev]) ∧ ParseIs w' v ev (formOf t.data.toList) ∧ But [] w w' := by
  have ok := formOf_ok t.data.toList
  cases hF : formOf t.data.toList with
  | bad p =>
    exact (parse_bad t p w (fun W => (cut_any t W hN).mono (fun e w' h => by
      obtain ⟨v, h1, h2, h3⟩ := h
      rw [hF] at h2
      rw [show v = cutBad p from h2] at h1
      exact ⟨h1, h3⟩))).mono (fun e w' h => by
        obtain ⟨ev, h1, h2, h3⟩ := h
        exact ⟨_, ev, h1, ⟨rfl, h2⟩, h3⟩)
  | good s ds k es pc =>
    rw [hF] at ok
    obtain ⟨-, -, -, -, -, ⟨rfl, hes⟩ | rfl | rfl⟩ := ok
    · exact parse_good0 t s pc ds es w hN hF hes
    · exact parse_good47 t s pc ds es w hN hF
    · exact parse_good46 t s pc ds es w hN hF
end Go.Proofs.YtihiafgogbhjkaaGreatDoor
