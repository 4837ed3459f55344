/- The law FracLaws: whatever the three pairs, the Go text answers true. -/
import Derived.Deep.DeepCutAuto
import Derived.Test.YtihiafgogbhjkaaGreatDoorRF10
import Derived.Test.YtihiafgogbhjkaaGreatDoorRL1
import Derived.Test.YtihiafgogbhjkaaGreatDoorRLR
namespace Go.Proofs.YtihiafgogbhjkaaGreatDoor
open Go.RowKit

theorem div_mul (x y : Rat) (h : y.num ≠ 0) : x / y * y = x := by
  have hy : y ≠ 0 := fun e => h (by rw [e]; rfl)
  rw [Rat.div_def, Rat.mul_assoc, Rat.inv_mul_cancel y hy, Rat.mul_one]
theorem sub_add (x y : Rat) : x - y + y = x := by
  rw [Rat.sub_eq_add_neg, Rat.add_assoc, Rat.neg_add_cancel, Rat.add_zero]

set_option maxHeartbeats 8000000 in
set_option maxRecDepth 100000 in
theorem fracLaws_any (a1 a2 b1 b2 c1 c2 : Int) (ha1 : -9223372036854775808 ≤ a1 ∧ a1 < 9223372036854775808) (ha2 : -9223372036854775808 ≤ a2 ∧ a2 < 9223372036854775808) (hb1 : -9223372036854775808 ≤ b1 ∧ b1 < 9223372036854775808) (hb2 : -9223372036854775808 ≤ b2 ∧ b2 < 9223372036854775808) (hc1 : -9223372036854775808 ≤ c1 ∧ c1 < 9223372036854775808) (hc2 : -9223372036854775808 ≤ c2 ∧ c2 < 9223372036854775808) (w : World) (htab : Lib.TabIs Tryz.prog w "internal/strconv.uint64pow10" .u64 Lib.pow10Tab) (hg : w.cell? ⟨1, 0, none⟩ = some (.iface 212 (.agg #[.pointer (some ⟨8, 32, none⟩)]))) :
    Calls Tryz.prog 7 #[.agg #[.int .i64 a1, .int .i64 a2], .agg #[.int .i64 b1, .int .i64 b2], .agg #[.int .i64 c1, .int .i64 c2]] w fun e w' => e = .returned (.bool true) ∧ But [] w w' := by
  obtain ⟨x, rx, px, qx, lx, -, FX, CX⟩ := plainF_any a1 a2 ha1.1 ha1.2 ha2.1 ha2.2
  obtain ⟨y, ry, py, qy, ly, -, FY, CY⟩ := plainF_any b1 b2 hb1.1 hb1.2 hb2.1 hb2.2
  obtain ⟨z, rz, pz, qz, lz, -, FZ, CZ⟩ := plainF_any c1 c2 hc1.1 hc1.2 hc2.1 hc2.2
  have C1 : Hid (∀ W, But [] w W → Calls Tryz.prog 48 #[] W fun e w' => e = .returned (.bool true) ∧ But [] W w') := fun W h => half_any W (TabIs.but htab h)
  have l2 : Len (x + y) 3 := len_add lx ly 3 (by omega)
  have C2 : Hid (∀ (W : World) , But [] w W → Calls Tryz.prog 15 #[.agg #[.bool rx, .int .u64 px, .int .u64 qx, .pointer none], .agg #[.bool ry, .int .u64 py, .int .u64 qy, .pointer none]] W fun e w' => ∃ v, e = .returned v ∧ FracAt w' v (x + y) ∧ But [] W w') := fun W hW => fracAdd_any _ _ _ _ W (FX W) (FY W) (lx.mono (by omega)) (ly.mono (by omega))
  have l3 : Len ((x + y) * z) 4 := len_mul l2 lz 4 (by omega)
  have C3 : Hid (∀ (W : World) (v0 : Value), But [] w W → FracAt W v0 (x + y) → Calls Tryz.prog 19 #[v0, .agg #[.bool rz, .int .u64 pz, .int .u64 qz, .pointer none]] W fun e w' => ∃ v, e = .returned v ∧ FracAt w' v ((x + y) * z) ∧ But [] W w') := fun W v0 hW h0 => fracMul_any _ _ _ _ W h0 (FZ W) (l2.mono (by omega)) (lz.mono (by omega))
  have l4 : Len (x * z) 2 := len_mul lx lz 2 (by omega)
  have C4 : Hid (∀ (W : World) , But [] w W → Calls Tryz.prog 19 #[.agg #[.bool rx, .int .u64 px, .int .u64 qx, .pointer none], .agg #[.bool rz, .int .u64 pz, .int .u64 qz, .pointer none]] W fun e w' => ∃ v, e = .returned v ∧ FracAt w' v (x * z) ∧ But [] W w') := fun W hW => fracMul_any _ _ _ _ W (FX W) (FZ W) (lx.mono (by omega)) (lz.mono (by omega))
  have l5 : Len (y * z) 2 := len_mul ly lz 2 (by omega)
  have C5 : Hid (∀ (W : World) , But [] w W → Calls Tryz.prog 19 #[.agg #[.bool ry, .int .u64 py, .int .u64 qy, .pointer none], .agg #[.bool rz, .int .u64 pz, .int .u64 qz, .pointer none]] W fun e w' => ∃ v, e = .returned v ∧ FracAt w' v (y * z) ∧ But [] W w') := fun W hW => fracMul_any _ _ _ _ W (FY W) (FZ W) (ly.mono (by omega)) (lz.mono (by omega))
  have l6 : Len (x * z + y * z) 5 := len_add l4 l5 5 (by omega)
  have C6 : Hid (∀ (W : World) (v0 v1 : Value), But [] w W → FracAt W v0 (x * z) → FracAt W v1 (y * z) → Calls Tryz.prog 15 #[v0, v1] W fun e w' => ∃ v, e = .returned v ∧ FracAt w' v (x * z + y * z) ∧ But [] W w') := fun W v0 v1 hW h0 h1 => fracAdd_any _ _ _ _ W h0 h1 (l4.mono (by omega)) (l5.mono (by omega))
  have C7 : Hid (∀ (W : World) (v0 v1 : Value), But [] w W → FracAt W v0 ((x + y) * z) → FracAt W v1 (x * z + y * z) → Calls Tryz.prog 49 #[v0, v1] W fun e w' => e = .returned (.bool true) ∧ But [] W w') := fun W v0 v1 hW h0 h1 => by
    rw [← Rat.add_mul x y z] at h1
    exact like_eq _ _ _ W h0 h1 (l3.mono (by omega)) (TabIs.but htab hW)
  have l8 : Len (y + z) 3 := len_add ly lz 3 (by omega)
  have C8 : Hid (∀ (W : World) , But [] w W → Calls Tryz.prog 15 #[.agg #[.bool ry, .int .u64 py, .int .u64 qy, .pointer none], .agg #[.bool rz, .int .u64 pz, .int .u64 qz, .pointer none]] W fun e w' => ∃ v, e = .returned v ∧ FracAt w' v (y + z) ∧ But [] W w') := fun W hW => fracAdd_any _ _ _ _ W (FY W) (FZ W) (ly.mono (by omega)) (lz.mono (by omega))
  have l9 : Len (x + (y + z)) 5 := len_add lx l8 5 (by omega)
  have C9 : Hid (∀ (W : World) (v1 : Value), But [] w W → FracAt W v1 (y + z) → Calls Tryz.prog 15 #[.agg #[.bool rx, .int .u64 px, .int .u64 qx, .pointer none], v1] W fun e w' => ∃ v, e = .returned v ∧ FracAt w' v (x + (y + z)) ∧ But [] W w') := fun W v1 hW h1 => fracAdd_any _ _ _ _ W (FX W) h1 (lx.mono (by omega)) (l8.mono (by omega))
  have l10 : Len (x + y) 3 := len_add lx ly 3 (by omega)
  have C10 : Hid (∀ (W : World) , But [] w W → Calls Tryz.prog 15 #[.agg #[.bool rx, .int .u64 px, .int .u64 qx, .pointer none], .agg #[.bool ry, .int .u64 py, .int .u64 qy, .pointer none]] W fun e w' => ∃ v, e = .returned v ∧ FracAt w' v (x + y) ∧ But [] W w') := fun W hW => fracAdd_any _ _ _ _ W (FX W) (FY W) (lx.mono (by omega)) (ly.mono (by omega))
  have l11 : Len (x + y + z) 5 := len_add l10 lz 5 (by omega)
  have C11 : Hid (∀ (W : World) (v0 : Value), But [] w W → FracAt W v0 (x + y) → Calls Tryz.prog 15 #[v0, .agg #[.bool rz, .int .u64 pz, .int .u64 qz, .pointer none]] W fun e w' => ∃ v, e = .returned v ∧ FracAt w' v (x + y + z) ∧ But [] W w') := fun W v0 hW h0 => fracAdd_any _ _ _ _ W h0 (FZ W) (l10.mono (by omega)) (lz.mono (by omega))
  have C12 : Hid (∀ (W : World) (v0 v1 : Value), But [] w W → FracAt W v0 (x + (y + z)) → FracAt W v1 (x + y + z) → Calls Tryz.prog 49 #[v0, v1] W fun e w' => e = .returned (.bool true) ∧ But [] W w') := fun W v0 v1 hW h0 h1 => by
    rw [← Rat.add_assoc x y z] at h0
    exact like_eq _ _ _ W h0 h1 (l11.mono (by omega)) (TabIs.but htab hW)
  have l13 : Len (y * z) 2 := len_mul ly lz 2 (by omega)
  have C13 : Hid (∀ (W : World) , But [] w W → Calls Tryz.prog 19 #[.agg #[.bool ry, .int .u64 py, .int .u64 qy, .pointer none], .agg #[.bool rz, .int .u64 pz, .int .u64 qz, .pointer none]] W fun e w' => ∃ v, e = .returned v ∧ FracAt w' v (y * z) ∧ But [] W w') := fun W hW => fracMul_any _ _ _ _ W (FY W) (FZ W) (ly.mono (by omega)) (lz.mono (by omega))
  have l14 : Len (x * (y * z)) 3 := len_mul lx l13 3 (by omega)
  have C14 : Hid (∀ (W : World) (v1 : Value), But [] w W → FracAt W v1 (y * z) → Calls Tryz.prog 19 #[.agg #[.bool rx, .int .u64 px, .int .u64 qx, .pointer none], v1] W fun e w' => ∃ v, e = .returned v ∧ FracAt w' v (x * (y * z)) ∧ But [] W w') := fun W v1 hW h1 => fracMul_any _ _ _ _ W (FX W) h1 (lx.mono (by omega)) (l13.mono (by omega))
  have l15 : Len (x * y) 2 := len_mul lx ly 2 (by omega)
  have C15 : Hid (∀ (W : World) , But [] w W → Calls Tryz.prog 19 #[.agg #[.bool rx, .int .u64 px, .int .u64 qx, .pointer none], .agg #[.bool ry, .int .u64 py, .int .u64 qy, .pointer none]] W fun e w' => ∃ v, e = .returned v ∧ FracAt w' v (x * y) ∧ But [] W w') := fun W hW => fracMul_any _ _ _ _ W (FX W) (FY W) (lx.mono (by omega)) (ly.mono (by omega))
  have l16 : Len (x * y * z) 3 := len_mul l15 lz 3 (by omega)
  have C16 : Hid (∀ (W : World) (v0 : Value), But [] w W → FracAt W v0 (x * y) → Calls Tryz.prog 19 #[v0, .agg #[.bool rz, .int .u64 pz, .int .u64 qz, .pointer none]] W fun e w' => ∃ v, e = .returned v ∧ FracAt w' v (x * y * z) ∧ But [] W w') := fun W v0 hW h0 => fracMul_any _ _ _ _ W h0 (FZ W) (l15.mono (by omega)) (lz.mono (by omega))
  have C17 : Hid (∀ (W : World) (v0 v1 : Value), But [] w W → FracAt W v0 (x * (y * z)) → FracAt W v1 (x * y * z) → Calls Tryz.prog 49 #[v0, v1] W fun e w' => e = .returned (.bool true) ∧ But [] W w') := fun W v0 v1 hW h0 h1 => by
    rw [← Rat.mul_assoc x y z] at h0
    exact like_eq _ _ _ W h0 h1 (l16.mono (by omega)) (TabIs.but htab hW)
  have l18 : Len (x - y) 3 := len_sub lx ly 3 (by omega)
  have C18 : Hid (∀ (W : World) , But [] w W → Calls Tryz.prog 17 #[.agg #[.bool rx, .int .u64 px, .int .u64 qx, .pointer none], .agg #[.bool ry, .int .u64 py, .int .u64 qy, .pointer none]] W fun e w' => ∃ v, e = .returned v ∧ FracAt w' v (x - y) ∧ But [] W w') := fun W hW => fracSub_any _ _ _ _ W (FX W) (FY W) (lx.mono (by omega)) (ly.mono (by omega))
  have l19 : Len (x - y + y) 5 := len_add l18 ly 5 (by omega)
  have C19 : Hid (∀ (W : World) (v0 : Value), But [] w W → FracAt W v0 (x - y) → Calls Tryz.prog 15 #[v0, .agg #[.bool ry, .int .u64 py, .int .u64 qy, .pointer none]] W fun e w' => ∃ v, e = .returned v ∧ FracAt w' v (x - y + y) ∧ But [] W w') := fun W v0 hW h0 => fracAdd_any _ _ _ _ W h0 (FY W) (l18.mono (by omega)) (ly.mono (by omega))
  have C20 : Hid (∀ (W : World) (v0 : Value), But [] w W → FracAt W v0 (x - y + y) → Calls Tryz.prog 49 #[v0, .agg #[.bool rx, .int .u64 px, .int .u64 qx, .pointer none]] W fun e w' => e = .returned (.bool true) ∧ But [] W w') := fun W v0 hW h0 => by
    rw [sub_add x y] at h0
    exact like_eq _ _ x W h0 (FX W) (lx.mono (by omega)) (TabIs.but htab hW)
  have HG := hide hg
  have SY : Hid (∀ W, Calls Tryz.prog 26 #[.agg #[.bool ry, .int .u64 py, .int .u64 qy, .pointer none]] W fun e w' => e = .returned (.int .i64 y.num.sign) ∧ But [] W w') := fun W => fracSign_any _ y W (FY W)
  have DZ : Hid (y.num = 0 → ∀ W, Calls Tryz.prog 11 #[.agg #[.bool rx, .int .u64 px, .int .u64 qx, .pointer none], .agg #[.bool ry, .int .u64 py, .int .u64 qy, .pointer none]] W fun e w' => e = .returned (.tuple #[.agg #[.bool false, .int .u64 0, .int .u64 0, .pointer none], .iface 35 (.int .i64 11)]) ∧ But [] W w') := fun h W => fracDiv_zero _ _ x y W (FX W) (FY W) h
  have DV : Hid (y.num ≠ 0 → ∀ W, Calls Tryz.prog 11 #[.agg #[.bool rx, .int .u64 px, .int .u64 qx, .pointer none], .agg #[.bool ry, .int .u64 py, .int .u64 qy, .pointer none]] W fun e w' => ∃ v, e = .returned (.tuple #[v, .nilIface]) ∧ FracAt w' v (x / y) ∧ But [] W w') := fun h W => fracDiv_any _ _ x y W (FX W) (FY W) (lx.mono (by omega)) (ly.mono (by omega)) h
  have MQ : Hid (y.num ≠ 0 → ∀ W v, FracAt W v (x / y) → Calls Tryz.prog 19 #[v, .agg #[.bool ry, .int .u64 py, .int .u64 qy, .pointer none]] W fun e w' => ∃ v, e = .returned v ∧ FracAt w' v (x / y * y) ∧ But [] W w') := fun h W v hv => fracMul_any _ _ _ _ W hv (FY W) ((len_div lx ly h 2 (by omega)).mono (by omega)) (ly.mono (by omega))
  have LQ : Hid (y.num ≠ 0 → ∀ W v, But [] w W → FracAt W v (x / y * y) → Calls Tryz.prog 49 #[v, .agg #[.bool rx, .int .u64 px, .int .u64 qx, .pointer none]] W fun e w' => e = .returned (.bool true) ∧ But [] W w') := fun h W v hW hv => by
    rw [div_mul x y h] at hv
    exact like_eq _ _ x W hv (FX W) (lx.mono (by omega)) (TabIs.but htab hW)
  have KX := hide CX
  have KY := hide CY
  have KZ := hide CZ
  have HX := hide FX
  have HY := hide FY
  have HZ := hide FZ
  clear hg CX CY CZ FX FY FZ ha1 ha2 hb1 hb2 hc1 hc2
  go_enter Tryz.func7, Tryz.ntmps7
  go_wp2_with fail
  obtain ⟨W, hW⟩ : ∃ W, W = ((w.alloc (.cells #[.int .i64 a1, .int .i64 a2] 23)).alloc (.cells #[.int .i64 b1, .int .i64 b2] 23)).alloc (.cells #[.int .i64 c1, .int .i64 c2] 23) := ⟨_, rfl⟩
  obtain ⟨tA, tB, tC, -, hB⟩ := three_new w W _ _ _ _ hW
  have a0q := tA 0
  have a1q := tA 1
  have b0q := tB 0
  have b1q := tB 1
  have c0q := tC 0
  have c1q := tC 1
  simp only [List.getElem?_toArray, List.getElem?_cons_zero, List.getElem?_cons_succ] at a0q a1q b0q b1q c0q c1q
  have HB := hide hB
  rw [← hW]
  clear tA tB tC hW hB
  obtain ⟨ga, hga⟩ : ∃ ga, ga = w.heap.size := ⟨_, rfl⟩
  obtain ⟨gb, hgb⟩ : ∃ gb, gb = w.heap.size + 1 := ⟨_, rfl⟩
  obtain ⟨gc, hgc⟩ : ∃ gc, gc = w.heap.size + 2 := ⟨_, rfl⟩
  rw [← hga] at a0q a1q
  rw [← hgb] at b0q b1q
  rw [← hgc] at c0q c1q
  rw [show w.heap.size + 1 + 1 = w.heap.size + 2 from rfl, ← hgc, ← hgb, ← hga]
  clear hga hgb hgc
  go_cut [7, 8, 9] (fun s7 s8 s9 wx => ∃ gx gy gz : Nat, s7 = .pointer (some ⟨gx, 0, none⟩) ∧ s8 = .pointer (some ⟨gy, 0, none⟩) ∧ s9 = .pointer (some ⟨gz, 0, none⟩) ∧ Hid (But [] w wx ∧ Lies wx gx rx px qx ∧ Lies wx gy ry py qy ∧ Lies wx gz rz pz qz))
  case first =>
    refine region3 1 W _ a1 a2 b1 b2 c1 c2 rx ry rz px qx py qy pz qz _ ga gb gc (by simp) (by simp [Act.eval]) (by simp [Act.eval]) (by simp [Act.eval]) a0q a1q b0q b1q c0q c1q (unhide KX) (unhide KY) (unhide KZ) ?_
    intro a w' bx bY bz h
    have e := act_eq h (by simp)
    have HL := hide (And.intro ((unhide HB).drew.trans' h.but) (And.intro (h.x.e5 rfl rfl) (And.intro (h.y.e5 rfl rfl) (h.z.e5 rfl rfl))))
    clear h
    subst e
    simp only [puts, List.foldl_cons, List.foldl_nil, Act.put, List.setIfInBounds_toArray, List.set_cons_zero, List.set_cons_succ]
    go_wp2_with fail
    go_meet
    exact ⟨bx, bY, bz, rfl, rfl, rfl, unhide HL⟩
  case rest =>
    obtain ⟨gx, gy, gz, rfl, rfl, rfl, HC⟩ := hcut
    have HB : Hid (But [] w wc) := (unhide HC).1
    obtain ⟨xc0, xc1, xc2, xc3⟩ := (unhide HC).2.1
    obtain ⟨yc0, yc1, yc2, yc3⟩ := (unhide HC).2.2.1
    obtain ⟨zc0, zc1, zc2, zc3⟩ := (unhide HC).2.2.2
    clear HC
    go_wp2_with fail
    go_cut [73] (fun s73 wx => s73 = .bool false ∧ Hid (But [] w wx ∧ Lies wx gx rx px qx ∧ Lies wx gy ry py qy ∧ Lies wx gz rz pz qz))
    case first =>
      go_region_held (fun w' => w'.cell? ⟨gx, 0, none⟩ = some (.bool rx) ∧ w'.cell? ⟨gx, 1, none⟩ = some (.int .u64 px) ∧ w'.cell? ⟨gx, 2, none⟩ = some (.int .u64 qx) ∧ w'.cell? ⟨gx, 3, none⟩ = some (.pointer none) ∧ w'.cell? ⟨gy, 0, none⟩ = some (.bool ry) ∧ w'.cell? ⟨gy, 1, none⟩ = some (.int .u64 py) ∧ w'.cell? ⟨gy, 2, none⟩ = some (.int .u64 qy) ∧ w'.cell? ⟨gy, 3, none⟩ = some (.pointer none) ∧ w'.cell? ⟨gz, 0, none⟩ = some (.bool rz) ∧ w'.cell? ⟨gz, 1, none⟩ = some (.int .u64 pz) ∧ w'.cell? ⟨gz, 2, none⟩ = some (.int .u64 qz) ∧ w'.cell? ⟨gz, 3, none⟩ = some (.pointer none)) (go_keep) (first
        | (go_at_call 49; have hchk := B19; clear hchk; refine (unhide C20 _ v19 (by first | exact (unhide HB).trans' B19 | exact ((unhide HB).trans' B19).drew) (by first | exact unhide HN19 | exact (unhide HN19).but (But.refl _ _).drew)).mono ?_; rintro e w20 ⟨rfl, hc20⟩; have B20 : But [] wc w20 := (by first | exact B19.trans' hc20 | exact (B19.drew).trans' hc20); clear HN19; clear hc20; have xc0_20 := B20.cell_some xc0 (by simp); have xc1_20 := B20.cell_some xc1 (by simp); have xc2_20 := B20.cell_some xc2 (by simp); have xc3_20 := B20.cell_some xc3 (by simp); have yc0_20 := B20.cell_some yc0 (by simp); have yc1_20 := B20.cell_some yc1 (by simp); have yc2_20 := B20.cell_some yc2 (by simp); have yc3_20 := B20.cell_some yc3 (by simp); have zc0_20 := B20.cell_some zc0 (by simp); have zc1_20 := B20.cell_some zc1 (by simp); have zc2_20 := B20.cell_some zc2 (by simp); have zc3_20 := B20.cell_some zc3 (by simp); clear xc0_19 xc1_19 xc2_19 xc3_19 yc0_19 yc1_19 yc2_19 yc3_19 zc0_19 zc1_19 zc2_19 zc3_19 B19 C20)
        | (go_at_call 15; have hchk := B18; clear hchk; refine (unhide C19 _ v18 (by first | exact (unhide HB).trans' B18 | exact ((unhide HB).trans' B18).drew) (by first | exact unhide HN18 | exact (unhide HN18).but (But.refl _ _).drew)).mono ?_; rintro e w19 ⟨v19, rfl, hn19, hc19⟩; have B19 : But [] wc w19 := (by first | exact B18.trans' hc19 | exact (B18.drew).trans' hc19); clear HN18; have HN19 := hide hn19; clear hn19; clear hc19; have xc0_19 := B19.cell_some xc0 (by simp); have xc1_19 := B19.cell_some xc1 (by simp); have xc2_19 := B19.cell_some xc2 (by simp); have xc3_19 := B19.cell_some xc3 (by simp); have yc0_19 := B19.cell_some yc0 (by simp); have yc1_19 := B19.cell_some yc1 (by simp); have yc2_19 := B19.cell_some yc2 (by simp); have yc3_19 := B19.cell_some yc3 (by simp); have zc0_19 := B19.cell_some zc0 (by simp); have zc1_19 := B19.cell_some zc1 (by simp); have zc2_19 := B19.cell_some zc2 (by simp); have zc3_19 := B19.cell_some zc3 (by simp); clear xc0_18 xc1_18 xc2_18 xc3_18 yc0_18 yc1_18 yc2_18 yc3_18 zc0_18 zc1_18 zc2_18 zc3_18 B18 C19)
        | (go_at_call 17; have hchk := B17; clear hchk; refine (unhide C18 _  (by first | exact (unhide HB).trans' B17 | exact ((unhide HB).trans' B17).drew) ).mono ?_; rintro e w18 ⟨v18, rfl, hn18, hc18⟩; have B18 : But [] wc w18 := (by first | exact B17.trans' hc18 | exact (B17.drew).trans' hc18); have HN18 := hide hn18; clear hn18; clear hc18; have xc0_18 := B18.cell_some xc0 (by simp); have xc1_18 := B18.cell_some xc1 (by simp); have xc2_18 := B18.cell_some xc2 (by simp); have xc3_18 := B18.cell_some xc3 (by simp); have yc0_18 := B18.cell_some yc0 (by simp); have yc1_18 := B18.cell_some yc1 (by simp); have yc2_18 := B18.cell_some yc2 (by simp); have yc3_18 := B18.cell_some yc3 (by simp); have zc0_18 := B18.cell_some zc0 (by simp); have zc1_18 := B18.cell_some zc1 (by simp); have zc2_18 := B18.cell_some zc2 (by simp); have zc3_18 := B18.cell_some zc3 (by simp); clear xc0_17 xc1_17 xc2_17 xc3_17 yc0_17 yc1_17 yc2_17 yc3_17 zc0_17 zc1_17 zc2_17 zc3_17 B17 C18)
        | (go_at_call 49; have hchk := B16; clear hchk; refine (unhide C17 _ v14 v16 (by first | exact (unhide HB).trans' B16 | exact ((unhide HB).trans' B16).drew) (by first | exact unhide HN14 | exact (unhide HN14).but (But.refl _ _).drew) (by first | exact unhide HN16 | exact (unhide HN16).but (But.refl _ _).drew)).mono ?_; rintro e w17 ⟨rfl, hc17⟩; have B17 : But [] wc w17 := (by first | exact B16.trans' hc17 | exact (B16.drew).trans' hc17); clear HN14 HN16; clear hc17; have xc0_17 := B17.cell_some xc0 (by simp); have xc1_17 := B17.cell_some xc1 (by simp); have xc2_17 := B17.cell_some xc2 (by simp); have xc3_17 := B17.cell_some xc3 (by simp); have yc0_17 := B17.cell_some yc0 (by simp); have yc1_17 := B17.cell_some yc1 (by simp); have yc2_17 := B17.cell_some yc2 (by simp); have yc3_17 := B17.cell_some yc3 (by simp); have zc0_17 := B17.cell_some zc0 (by simp); have zc1_17 := B17.cell_some zc1 (by simp); have zc2_17 := B17.cell_some zc2 (by simp); have zc3_17 := B17.cell_some zc3 (by simp); clear xc0_16 xc1_16 xc2_16 xc3_16 yc0_16 yc1_16 yc2_16 yc3_16 zc0_16 zc1_16 zc2_16 zc3_16 B16 C17)
        | (go_at_call 19; have hchk := B15; clear hchk; refine (unhide C16 _ v15 (by first | exact (unhide HB).trans' B15 | exact ((unhide HB).trans' B15).drew) (by first | exact unhide HN15 | exact (unhide HN15).but (But.refl _ _).drew)).mono ?_; rintro e w16 ⟨v16, rfl, hn16, hc16⟩; have B16 : But [] wc w16 := (by first | exact B15.trans' hc16 | exact (B15.drew).trans' hc16); replace HN14 : Hid (FracAt w16 v14 (x * (y * z))) := (by first | exact (unhide HN14).but hc16 | exact ((unhide HN14).but (But.refl _ _).drew).but hc16); clear HN15; have HN16 := hide hn16; clear hn16; clear hc16; have xc0_16 := B16.cell_some xc0 (by simp); have xc1_16 := B16.cell_some xc1 (by simp); have xc2_16 := B16.cell_some xc2 (by simp); have xc3_16 := B16.cell_some xc3 (by simp); have yc0_16 := B16.cell_some yc0 (by simp); have yc1_16 := B16.cell_some yc1 (by simp); have yc2_16 := B16.cell_some yc2 (by simp); have yc3_16 := B16.cell_some yc3 (by simp); have zc0_16 := B16.cell_some zc0 (by simp); have zc1_16 := B16.cell_some zc1 (by simp); have zc2_16 := B16.cell_some zc2 (by simp); have zc3_16 := B16.cell_some zc3 (by simp); clear xc0_15 xc1_15 xc2_15 xc3_15 yc0_15 yc1_15 yc2_15 yc3_15 zc0_15 zc1_15 zc2_15 zc3_15 B15 C16)
        | (go_at_call 19; have hchk := B14; clear hchk; refine (unhide C15 _  (by first | exact (unhide HB).trans' B14 | exact ((unhide HB).trans' B14).drew) ).mono ?_; rintro e w15 ⟨v15, rfl, hn15, hc15⟩; have B15 : But [] wc w15 := (by first | exact B14.trans' hc15 | exact (B14.drew).trans' hc15); replace HN14 : Hid (FracAt w15 v14 (x * (y * z))) := (by first | exact (unhide HN14).but hc15 | exact ((unhide HN14).but (But.refl _ _).drew).but hc15); have HN15 := hide hn15; clear hn15; clear hc15; have xc0_15 := B15.cell_some xc0 (by simp); have xc1_15 := B15.cell_some xc1 (by simp); have xc2_15 := B15.cell_some xc2 (by simp); have xc3_15 := B15.cell_some xc3 (by simp); have yc0_15 := B15.cell_some yc0 (by simp); have yc1_15 := B15.cell_some yc1 (by simp); have yc2_15 := B15.cell_some yc2 (by simp); have yc3_15 := B15.cell_some yc3 (by simp); have zc0_15 := B15.cell_some zc0 (by simp); have zc1_15 := B15.cell_some zc1 (by simp); have zc2_15 := B15.cell_some zc2 (by simp); have zc3_15 := B15.cell_some zc3 (by simp); clear xc0_14 xc1_14 xc2_14 xc3_14 yc0_14 yc1_14 yc2_14 yc3_14 zc0_14 zc1_14 zc2_14 zc3_14 B14 C15)
        | (go_at_call 19; have hchk := B13; clear hchk; refine (unhide C14 _ v13 (by first | exact (unhide HB).trans' B13 | exact ((unhide HB).trans' B13).drew) (by first | exact unhide HN13 | exact (unhide HN13).but (But.refl _ _).drew)).mono ?_; rintro e w14 ⟨v14, rfl, hn14, hc14⟩; have B14 : But [] wc w14 := (by first | exact B13.trans' hc14 | exact (B13.drew).trans' hc14); clear HN13; have HN14 := hide hn14; clear hn14; clear hc14; have xc0_14 := B14.cell_some xc0 (by simp); have xc1_14 := B14.cell_some xc1 (by simp); have xc2_14 := B14.cell_some xc2 (by simp); have xc3_14 := B14.cell_some xc3 (by simp); have yc0_14 := B14.cell_some yc0 (by simp); have yc1_14 := B14.cell_some yc1 (by simp); have yc2_14 := B14.cell_some yc2 (by simp); have yc3_14 := B14.cell_some yc3 (by simp); have zc0_14 := B14.cell_some zc0 (by simp); have zc1_14 := B14.cell_some zc1 (by simp); have zc2_14 := B14.cell_some zc2 (by simp); have zc3_14 := B14.cell_some zc3 (by simp); clear xc0_13 xc1_13 xc2_13 xc3_13 yc0_13 yc1_13 yc2_13 yc3_13 zc0_13 zc1_13 zc2_13 zc3_13 B13 C14)
        | (go_at_call 19; have hchk := B12; clear hchk; refine (unhide C13 _  (by first | exact (unhide HB).trans' B12 | exact ((unhide HB).trans' B12).drew) ).mono ?_; rintro e w13 ⟨v13, rfl, hn13, hc13⟩; have B13 : But [] wc w13 := (by first | exact B12.trans' hc13 | exact (B12.drew).trans' hc13); have HN13 := hide hn13; clear hn13; clear hc13; have xc0_13 := B13.cell_some xc0 (by simp); have xc1_13 := B13.cell_some xc1 (by simp); have xc2_13 := B13.cell_some xc2 (by simp); have xc3_13 := B13.cell_some xc3 (by simp); have yc0_13 := B13.cell_some yc0 (by simp); have yc1_13 := B13.cell_some yc1 (by simp); have yc2_13 := B13.cell_some yc2 (by simp); have yc3_13 := B13.cell_some yc3 (by simp); have zc0_13 := B13.cell_some zc0 (by simp); have zc1_13 := B13.cell_some zc1 (by simp); have zc2_13 := B13.cell_some zc2 (by simp); have zc3_13 := B13.cell_some zc3 (by simp); clear xc0_12 xc1_12 xc2_12 xc3_12 yc0_12 yc1_12 yc2_12 yc3_12 zc0_12 zc1_12 zc2_12 zc3_12 B12 C13)
        | (go_at_call 49; have hchk := B11; clear hchk; refine (unhide C12 _ v9 v11 (by first | exact (unhide HB).trans' B11 | exact ((unhide HB).trans' B11).drew) (by first | exact unhide HN9 | exact (unhide HN9).but (But.refl _ _).drew) (by first | exact unhide HN11 | exact (unhide HN11).but (But.refl _ _).drew)).mono ?_; rintro e w12 ⟨rfl, hc12⟩; have B12 : But [] wc w12 := (by first | exact B11.trans' hc12 | exact (B11.drew).trans' hc12); clear HN9 HN11; clear hc12; have xc0_12 := B12.cell_some xc0 (by simp); have xc1_12 := B12.cell_some xc1 (by simp); have xc2_12 := B12.cell_some xc2 (by simp); have xc3_12 := B12.cell_some xc3 (by simp); have yc0_12 := B12.cell_some yc0 (by simp); have yc1_12 := B12.cell_some yc1 (by simp); have yc2_12 := B12.cell_some yc2 (by simp); have yc3_12 := B12.cell_some yc3 (by simp); have zc0_12 := B12.cell_some zc0 (by simp); have zc1_12 := B12.cell_some zc1 (by simp); have zc2_12 := B12.cell_some zc2 (by simp); have zc3_12 := B12.cell_some zc3 (by simp); clear xc0_11 xc1_11 xc2_11 xc3_11 yc0_11 yc1_11 yc2_11 yc3_11 zc0_11 zc1_11 zc2_11 zc3_11 B11 C12)
        | (go_at_call 15; have hchk := B10; clear hchk; refine (unhide C11 _ v10 (by first | exact (unhide HB).trans' B10 | exact ((unhide HB).trans' B10).drew) (by first | exact unhide HN10 | exact (unhide HN10).but (But.refl _ _).drew)).mono ?_; rintro e w11 ⟨v11, rfl, hn11, hc11⟩; have B11 : But [] wc w11 := (by first | exact B10.trans' hc11 | exact (B10.drew).trans' hc11); replace HN9 : Hid (FracAt w11 v9 (x + (y + z))) := (by first | exact (unhide HN9).but hc11 | exact ((unhide HN9).but (But.refl _ _).drew).but hc11); clear HN10; have HN11 := hide hn11; clear hn11; clear hc11; have xc0_11 := B11.cell_some xc0 (by simp); have xc1_11 := B11.cell_some xc1 (by simp); have xc2_11 := B11.cell_some xc2 (by simp); have xc3_11 := B11.cell_some xc3 (by simp); have yc0_11 := B11.cell_some yc0 (by simp); have yc1_11 := B11.cell_some yc1 (by simp); have yc2_11 := B11.cell_some yc2 (by simp); have yc3_11 := B11.cell_some yc3 (by simp); have zc0_11 := B11.cell_some zc0 (by simp); have zc1_11 := B11.cell_some zc1 (by simp); have zc2_11 := B11.cell_some zc2 (by simp); have zc3_11 := B11.cell_some zc3 (by simp); clear xc0_10 xc1_10 xc2_10 xc3_10 yc0_10 yc1_10 yc2_10 yc3_10 zc0_10 zc1_10 zc2_10 zc3_10 B10 C11)
        | (go_at_call 15; have hchk := B9; clear hchk; refine (unhide C10 _  (by first | exact (unhide HB).trans' B9 | exact ((unhide HB).trans' B9).drew) ).mono ?_; rintro e w10 ⟨v10, rfl, hn10, hc10⟩; have B10 : But [] wc w10 := (by first | exact B9.trans' hc10 | exact (B9.drew).trans' hc10); replace HN9 : Hid (FracAt w10 v9 (x + (y + z))) := (by first | exact (unhide HN9).but hc10 | exact ((unhide HN9).but (But.refl _ _).drew).but hc10); have HN10 := hide hn10; clear hn10; clear hc10; have xc0_10 := B10.cell_some xc0 (by simp); have xc1_10 := B10.cell_some xc1 (by simp); have xc2_10 := B10.cell_some xc2 (by simp); have xc3_10 := B10.cell_some xc3 (by simp); have yc0_10 := B10.cell_some yc0 (by simp); have yc1_10 := B10.cell_some yc1 (by simp); have yc2_10 := B10.cell_some yc2 (by simp); have yc3_10 := B10.cell_some yc3 (by simp); have zc0_10 := B10.cell_some zc0 (by simp); have zc1_10 := B10.cell_some zc1 (by simp); have zc2_10 := B10.cell_some zc2 (by simp); have zc3_10 := B10.cell_some zc3 (by simp); clear xc0_9 xc1_9 xc2_9 xc3_9 yc0_9 yc1_9 yc2_9 yc3_9 zc0_9 zc1_9 zc2_9 zc3_9 B9 C10)
        | (go_at_call 15; have hchk := B8; clear hchk; refine (unhide C9 _ v8 (by first | exact (unhide HB).trans' B8 | exact ((unhide HB).trans' B8).drew) (by first | exact unhide HN8 | exact (unhide HN8).but (But.refl _ _).drew)).mono ?_; rintro e w9 ⟨v9, rfl, hn9, hc9⟩; have B9 : But [] wc w9 := (by first | exact B8.trans' hc9 | exact (B8.drew).trans' hc9); clear HN8; have HN9 := hide hn9; clear hn9; clear hc9; have xc0_9 := B9.cell_some xc0 (by simp); have xc1_9 := B9.cell_some xc1 (by simp); have xc2_9 := B9.cell_some xc2 (by simp); have xc3_9 := B9.cell_some xc3 (by simp); have yc0_9 := B9.cell_some yc0 (by simp); have yc1_9 := B9.cell_some yc1 (by simp); have yc2_9 := B9.cell_some yc2 (by simp); have yc3_9 := B9.cell_some yc3 (by simp); have zc0_9 := B9.cell_some zc0 (by simp); have zc1_9 := B9.cell_some zc1 (by simp); have zc2_9 := B9.cell_some zc2 (by simp); have zc3_9 := B9.cell_some zc3 (by simp); clear xc0_8 xc1_8 xc2_8 xc3_8 yc0_8 yc1_8 yc2_8 yc3_8 zc0_8 zc1_8 zc2_8 zc3_8 B8 C9)
        | (go_at_call 15; have hchk := B7; clear hchk; refine (unhide C8 _  (by first | exact (unhide HB).trans' B7 | exact ((unhide HB).trans' B7).drew) ).mono ?_; rintro e w8 ⟨v8, rfl, hn8, hc8⟩; have B8 : But [] wc w8 := (by first | exact B7.trans' hc8 | exact (B7.drew).trans' hc8); have HN8 := hide hn8; clear hn8; clear hc8; have xc0_8 := B8.cell_some xc0 (by simp); have xc1_8 := B8.cell_some xc1 (by simp); have xc2_8 := B8.cell_some xc2 (by simp); have xc3_8 := B8.cell_some xc3 (by simp); have yc0_8 := B8.cell_some yc0 (by simp); have yc1_8 := B8.cell_some yc1 (by simp); have yc2_8 := B8.cell_some yc2 (by simp); have yc3_8 := B8.cell_some yc3 (by simp); have zc0_8 := B8.cell_some zc0 (by simp); have zc1_8 := B8.cell_some zc1 (by simp); have zc2_8 := B8.cell_some zc2 (by simp); have zc3_8 := B8.cell_some zc3 (by simp); clear xc0_7 xc1_7 xc2_7 xc3_7 yc0_7 yc1_7 yc2_7 yc3_7 zc0_7 zc1_7 zc2_7 zc3_7 B7 C8)
        | (go_at_call 49; have hchk := B6; clear hchk; refine (unhide C7 _ v3 v6 (by first | exact (unhide HB).trans' B6 | exact ((unhide HB).trans' B6).drew) (by first | exact unhide HN3 | exact (unhide HN3).but (But.refl _ _).drew) (by first | exact unhide HN6 | exact (unhide HN6).but (But.refl _ _).drew)).mono ?_; rintro e w7 ⟨rfl, hc7⟩; have B7 : But [] wc w7 := (by first | exact B6.trans' hc7 | exact (B6.drew).trans' hc7); clear HN3 HN6; clear hc7; have xc0_7 := B7.cell_some xc0 (by simp); have xc1_7 := B7.cell_some xc1 (by simp); have xc2_7 := B7.cell_some xc2 (by simp); have xc3_7 := B7.cell_some xc3 (by simp); have yc0_7 := B7.cell_some yc0 (by simp); have yc1_7 := B7.cell_some yc1 (by simp); have yc2_7 := B7.cell_some yc2 (by simp); have yc3_7 := B7.cell_some yc3 (by simp); have zc0_7 := B7.cell_some zc0 (by simp); have zc1_7 := B7.cell_some zc1 (by simp); have zc2_7 := B7.cell_some zc2 (by simp); have zc3_7 := B7.cell_some zc3 (by simp); clear xc0_6 xc1_6 xc2_6 xc3_6 yc0_6 yc1_6 yc2_6 yc3_6 zc0_6 zc1_6 zc2_6 zc3_6 B6 C7)
        | (go_at_call 15; have hchk := B5; clear hchk; refine (unhide C6 _ v4 v5 (by first | exact (unhide HB).trans' B5 | exact ((unhide HB).trans' B5).drew) (by first | exact unhide HN4 | exact (unhide HN4).but (But.refl _ _).drew) (by first | exact unhide HN5 | exact (unhide HN5).but (But.refl _ _).drew)).mono ?_; rintro e w6 ⟨v6, rfl, hn6, hc6⟩; have B6 : But [] wc w6 := (by first | exact B5.trans' hc6 | exact (B5.drew).trans' hc6); replace HN3 : Hid (FracAt w6 v3 ((x + y) * z)) := (by first | exact (unhide HN3).but hc6 | exact ((unhide HN3).but (But.refl _ _).drew).but hc6); clear HN4 HN5; have HN6 := hide hn6; clear hn6; clear hc6; have xc0_6 := B6.cell_some xc0 (by simp); have xc1_6 := B6.cell_some xc1 (by simp); have xc2_6 := B6.cell_some xc2 (by simp); have xc3_6 := B6.cell_some xc3 (by simp); have yc0_6 := B6.cell_some yc0 (by simp); have yc1_6 := B6.cell_some yc1 (by simp); have yc2_6 := B6.cell_some yc2 (by simp); have yc3_6 := B6.cell_some yc3 (by simp); have zc0_6 := B6.cell_some zc0 (by simp); have zc1_6 := B6.cell_some zc1 (by simp); have zc2_6 := B6.cell_some zc2 (by simp); have zc3_6 := B6.cell_some zc3 (by simp); clear xc0_5 xc1_5 xc2_5 xc3_5 yc0_5 yc1_5 yc2_5 yc3_5 zc0_5 zc1_5 zc2_5 zc3_5 B5 C6)
        | (go_at_call 19; have hchk := B4; clear hchk; refine (unhide C5 _  (by first | exact (unhide HB).trans' B4 | exact ((unhide HB).trans' B4).drew) ).mono ?_; rintro e w5 ⟨v5, rfl, hn5, hc5⟩; have B5 : But [] wc w5 := (by first | exact B4.trans' hc5 | exact (B4.drew).trans' hc5); replace HN4 : Hid (FracAt w5 v4 (x * z)) := (by first | exact (unhide HN4).but hc5 | exact ((unhide HN4).but (But.refl _ _).drew).but hc5); replace HN3 : Hid (FracAt w5 v3 ((x + y) * z)) := (by first | exact (unhide HN3).but hc5 | exact ((unhide HN3).but (But.refl _ _).drew).but hc5); have HN5 := hide hn5; clear hn5; clear hc5; have xc0_5 := B5.cell_some xc0 (by simp); have xc1_5 := B5.cell_some xc1 (by simp); have xc2_5 := B5.cell_some xc2 (by simp); have xc3_5 := B5.cell_some xc3 (by simp); have yc0_5 := B5.cell_some yc0 (by simp); have yc1_5 := B5.cell_some yc1 (by simp); have yc2_5 := B5.cell_some yc2 (by simp); have yc3_5 := B5.cell_some yc3 (by simp); have zc0_5 := B5.cell_some zc0 (by simp); have zc1_5 := B5.cell_some zc1 (by simp); have zc2_5 := B5.cell_some zc2 (by simp); have zc3_5 := B5.cell_some zc3 (by simp); clear xc0_4 xc1_4 xc2_4 xc3_4 yc0_4 yc1_4 yc2_4 yc3_4 zc0_4 zc1_4 zc2_4 zc3_4 B4 C5)
        | (go_at_call 19; have hchk := B3; clear hchk; refine (unhide C4 _  (by first | exact (unhide HB).trans' B3 | exact ((unhide HB).trans' B3).drew) ).mono ?_; rintro e w4 ⟨v4, rfl, hn4, hc4⟩; have B4 : But [] wc w4 := (by first | exact B3.trans' hc4 | exact (B3.drew).trans' hc4); replace HN3 : Hid (FracAt w4 v3 ((x + y) * z)) := (by first | exact (unhide HN3).but hc4 | exact ((unhide HN3).but (But.refl _ _).drew).but hc4); have HN4 := hide hn4; clear hn4; clear hc4; have xc0_4 := B4.cell_some xc0 (by simp); have xc1_4 := B4.cell_some xc1 (by simp); have xc2_4 := B4.cell_some xc2 (by simp); have xc3_4 := B4.cell_some xc3 (by simp); have yc0_4 := B4.cell_some yc0 (by simp); have yc1_4 := B4.cell_some yc1 (by simp); have yc2_4 := B4.cell_some yc2 (by simp); have yc3_4 := B4.cell_some yc3 (by simp); have zc0_4 := B4.cell_some zc0 (by simp); have zc1_4 := B4.cell_some zc1 (by simp); have zc2_4 := B4.cell_some zc2 (by simp); have zc3_4 := B4.cell_some zc3 (by simp); clear xc0_3 xc1_3 xc2_3 xc3_3 yc0_3 yc1_3 yc2_3 yc3_3 zc0_3 zc1_3 zc2_3 zc3_3 B3 C4)
        | (go_at_call 19; have hchk := B2; clear hchk; refine (unhide C3 _ v2 (by first | exact (unhide HB).trans' B2 | exact ((unhide HB).trans' B2).drew) (by first | exact unhide HN2 | exact (unhide HN2).but (But.refl _ _).drew)).mono ?_; rintro e w3 ⟨v3, rfl, hn3, hc3⟩; have B3 : But [] wc w3 := (by first | exact B2.trans' hc3 | exact (B2.drew).trans' hc3); clear HN2; have HN3 := hide hn3; clear hn3; clear hc3; have xc0_3 := B3.cell_some xc0 (by simp); have xc1_3 := B3.cell_some xc1 (by simp); have xc2_3 := B3.cell_some xc2 (by simp); have xc3_3 := B3.cell_some xc3 (by simp); have yc0_3 := B3.cell_some yc0 (by simp); have yc1_3 := B3.cell_some yc1 (by simp); have yc2_3 := B3.cell_some yc2 (by simp); have yc3_3 := B3.cell_some yc3 (by simp); have zc0_3 := B3.cell_some zc0 (by simp); have zc1_3 := B3.cell_some zc1 (by simp); have zc2_3 := B3.cell_some zc2 (by simp); have zc3_3 := B3.cell_some zc3 (by simp); clear xc0_2 xc1_2 xc2_2 xc3_2 yc0_2 yc1_2 yc2_2 yc3_2 zc0_2 zc1_2 zc2_2 zc3_2 B2 C3)
        | (go_at_call 15; have hchk := B1; clear hchk; refine (unhide C2 _  (by first | exact (unhide HB).trans' B1 | exact ((unhide HB).trans' B1).drew) ).mono ?_; rintro e w2 ⟨v2, rfl, hn2, hc2⟩; have B2 : But [] wc w2 := (by first | exact B1.trans' hc2 | exact (B1.drew).trans' hc2); have HN2 := hide hn2; clear hn2; clear hc2; have xc0_2 := B2.cell_some xc0 (by simp); have xc1_2 := B2.cell_some xc1 (by simp); have xc2_2 := B2.cell_some xc2 (by simp); have xc3_2 := B2.cell_some xc3 (by simp); have yc0_2 := B2.cell_some yc0 (by simp); have yc1_2 := B2.cell_some yc1 (by simp); have yc2_2 := B2.cell_some yc2 (by simp); have yc3_2 := B2.cell_some yc3 (by simp); have zc0_2 := B2.cell_some zc0 (by simp); have zc1_2 := B2.cell_some zc1 (by simp); have zc2_2 := B2.cell_some zc2 (by simp); have zc3_2 := B2.cell_some zc3 (by simp); clear xc0_1 xc1_1 xc2_1 xc3_1 yc0_1 yc1_1 yc2_1 yc3_1 zc0_1 zc1_1 zc2_1 zc3_1 B1 C2)
        | (go_at_call 48; refine (unhide C1 _  (by first | exact unhide HB | exact (unhide HB).drew) ).mono ?_; rintro e w1 ⟨rfl, hc1⟩; have B1 : But [] wc w1 := (by first | exact hc1 | exact (But.refl _ _).drew.trans' hc1); clear hc1; have xc0_1 := B1.cell_some xc0 (by simp); have xc1_1 := B1.cell_some xc1 (by simp); have xc2_1 := B1.cell_some xc2 (by simp); have xc3_1 := B1.cell_some xc3 (by simp); have yc0_1 := B1.cell_some yc0 (by simp); have yc1_1 := B1.cell_some yc1 (by simp); have yc2_1 := B1.cell_some yc2 (by simp); have yc3_1 := B1.cell_some yc3 (by simp); have zc0_1 := B1.cell_some zc0 (by simp); have zc1_1 := B1.cell_some zc1 (by simp); have zc2_1 := B1.cell_some zc2 (by simp); have zc3_1 := B1.cell_some zc3 (by simp); clear C1))
      have HL := hide (And.intro ((unhide HB).trans' B20) (And.intro (⟨xc0_20, xc1_20, xc2_20, xc3_20⟩ : Lies w20 gx rx px qx) (And.intro (⟨yc0_20, yc1_20, yc2_20, yc3_20⟩ : Lies w20 gy ry py qy) (⟨zc0_20, zc1_20, zc2_20, zc3_20⟩ : Lies w20 gz rz pz qz))))
      clear B20
      go_wp2_with fail
      go_meet
      exact ⟨rfl, unhide HL⟩
    case rest =>
      clear xc0 xc1 xc2 xc3 yc0 yc1 yc2 yc3 zc0 zc1 zc2 zc3 HB
      rename_i hcut2
      obtain ⟨rfl, HC⟩ := hcut
      have HB : Hid (But [] w wc) := (unhide HC).1
      obtain ⟨xc0, xc1, xc2, xc3⟩ := (unhide HC).2.1
      obtain ⟨yc0, yc1, yc2, yc3⟩ := (unhide HC).2.2.1
      clear HC
      by_cases hy0 : y.num = 0
      · have D := hide (unhide DZ hy0)
        rw [hy0, Int.sign_zero] at SY
        clear DZ DV MQ LQ hy0
        go_wp2_with fail
        refine (unhide D _).mono ?_
        rintro e w1 ⟨rfl, hb1⟩
        have y0 := hb1.cell_some yc0 (by simp)
        have y1 := hb1.cell_some yc1 (by simp)
        have y2 := hb1.cell_some yc2 (by simp)
        have y3 := hb1.cell_some yc3 (by simp)
        have HB1 : Hid (But [] w w1) := (unhide HB).trans' hb1
        have hlt : gy < w1.heap.size := lt_of_cell y0
        clear hb1
        go_wp2_with fail
        refine (unhide SY _).mono ?_
        rintro e w2 ⟨rfl, hb2⟩
        have HB2 : Hid (But [] w w2) := ((unhide HB1).alloc _).trans' hb2
        clear hb2
        go_wp2_with fail
        refine (tell_errno 11 _ ((unhide HB2).cell_some (unhide HG) (by simp))).mono ?_
        rintro e w3 ⟨rfl, hb3⟩
        have HB3 : Hid (But [] w w3) := (unhide HB2).trans' hb3
        clear hb3
        go_wp2
        go_ret
        exact ⟨rfl, unhide HB3⟩
      · have D := hide (unhide DV hy0)
        have MQ' := hide (unhide MQ hy0)
        have LQ' := hide (unhide LQ hy0)
        have hsg : (y.num.sign == 0) = false := beq_eq_false_iff_ne.2 (fun e => hy0 (Int.sign_eq_zero_iff_zero.1 e))
        clear DZ DV MQ LQ hy0
        generalize y.num.sign = sg at *
        go_wp2_with fail
        refine (unhide D _).mono ?_
        rintro e w1 ⟨vq, rfl, hq1, hb1⟩
        obtain ⟨s8, y8, p8, rfl, -⟩ := hq1.agg
        have HQ1 := hide hq1
        generalize decide ((x / y).num < 0) = r8 at *
        have x0 := hb1.cell_some xc0 (by simp)
        have x1 := hb1.cell_some xc1 (by simp)
        have x2 := hb1.cell_some xc2 (by simp)
        have x3 := hb1.cell_some xc3 (by simp)
        have y0 := hb1.cell_some yc0 (by simp)
        have y1 := hb1.cell_some yc1 (by simp)
        have y2 := hb1.cell_some yc2 (by simp)
        have y3 := hb1.cell_some yc3 (by simp)
        have HB1 : Hid (But [] w w1) := (unhide HB).trans' hb1
        have hlt : gy < w1.heap.size := lt_of_cell y0
        have hltx : gx < w1.heap.size := lt_of_cell x0
        clear hb1 hq1
        go_wp2_with fail
        obtain ⟨W2, hW2⟩ : ∃ W2, W2 = w1.alloc (.cells #[.bool r8, .int .u64 s8, .int .u64 y8, .pointer p8] 27) := ⟨_, rfl⟩
        have q0 : W2.cell? ⟨w1.heap.size, 0, none⟩ = some (.bool r8) := by rw [hW2]; simp
        have q1 : W2.cell? ⟨w1.heap.size, 1, none⟩ = some (.int .u64 s8) := by rw [hW2]; simp
        have q2 : W2.cell? ⟨w1.heap.size, 2, none⟩ = some (.int .u64 y8) := by rw [hW2]; simp
        have q3 : W2.cell? ⟨w1.heap.size, 3, none⟩ = some (.pointer p8) := by rw [hW2]; simp
        have bw : But [] w1 W2 := by rw [hW2]; exact (But.refl _ _).alloc _
        rw [← hW2]
        clear hW2
        generalize w1.heap.size = gq at *
        refine (unhide SY _).mono ?_
        rintro e w2 ⟨rfl, hb2⟩
        have b12 := bw.trans' hb2
        have k0 := hb2.cell_some q0 (by simp)
        have k1 := hb2.cell_some q1 (by simp)
        have k2 := hb2.cell_some q2 (by simp)
        have k3 := hb2.cell_some q3 (by simp)
        have m0 := b12.cell_some y0 (by simp)
        have m1 := b12.cell_some y1 (by simp)
        have m2 := b12.cell_some y2 (by simp)
        have m3 := b12.cell_some y3 (by simp)
        have n0 := b12.cell_some x0 (by simp)
        have n1 := b12.cell_some x1 (by simp)
        have n2 := b12.cell_some x2 (by simp)
        have n3 := b12.cell_some x3 (by simp)
        have HQ2 := hide ((unhide HQ1).but b12)
        have HB2 : Hid (But [] w w2) := (unhide HB1).trans' b12
        clear q0 q1 q2 q3 y0 y1 y2 y3 x0 x1 x2 x3 hb2 bw b12 xc0 xc1 xc2 xc3 yc0 yc1 yc2 yc3 hlt hltx HQ1
        go_wp2_with fail
        go_region_held (fun w' => w'.cell? ⟨gq, 0, none⟩ = some (.bool r8) ∧ w'.cell? ⟨gq, 1, none⟩ = some (.int .u64 s8) ∧ w'.cell? ⟨gq, 2, none⟩ = some (.int .u64 y8) ∧ w'.cell? ⟨gq, 3, none⟩ = some (.pointer p8) ∧ w'.cell? ⟨gy, 0, none⟩ = some (.bool ry) ∧ w'.cell? ⟨gy, 1, none⟩ = some (.int .u64 py) ∧ w'.cell? ⟨gy, 2, none⟩ = some (.int .u64 qy) ∧ w'.cell? ⟨gy, 3, none⟩ = some (.pointer none) ∧ w'.cell? ⟨gx, 0, none⟩ = some (.bool rx) ∧ w'.cell? ⟨gx, 1, none⟩ = some (.int .u64 px) ∧ w'.cell? ⟨gx, 2, none⟩ = some (.int .u64 qx) ∧ w'.cell? ⟨gx, 3, none⟩ = some (.pointer none)) (go_keep) (first
          | (go_at_call 49; have hchk := Bq1; clear hchk; refine (unhide LQ' _ v9 (by first | exact (unhide HB2).trans' Bq1 | exact ((unhide HB2).trans' Bq1).drew) (by first | exact unhide HN9 | exact (unhide HN9).but (But.refl _ _).drew)).mono ?_; rintro e wq2 ⟨rfl, hcq2⟩; have Bq2 : But [] w2 wq2 := (by first | exact Bq1.trans' hcq2 | exact (Bq1.drew).trans' hcq2); clear hcq2; have k0_q2 := Bq2.cell_some k0 (by simp); have k1_q2 := Bq2.cell_some k1 (by simp); have k2_q2 := Bq2.cell_some k2 (by simp); have k3_q2 := Bq2.cell_some k3 (by simp); have m0_q2 := Bq2.cell_some m0 (by simp); have m1_q2 := Bq2.cell_some m1 (by simp); have m2_q2 := Bq2.cell_some m2 (by simp); have m3_q2 := Bq2.cell_some m3 (by simp); have n0_q2 := Bq2.cell_some n0 (by simp); have n1_q2 := Bq2.cell_some n1 (by simp); have n2_q2 := Bq2.cell_some n2 (by simp); have n3_q2 := Bq2.cell_some n3 (by simp); clear k0_q1 k1_q1 k2_q1 k3_q1 m0_q1 m1_q1 m2_q1 m3_q1 n0_q1 n1_q1 n2_q1 n3_q1)
          | (go_at_call 19; refine (unhide MQ' _ _ (by first | exact unhide HQ2 | exact (unhide HQ2).but (But.refl _ _).drew)).mono ?_; rintro e wq1 ⟨v9, rfl, hn9, hcq1⟩; have Bq1 : But [] w2 wq1 := (by first | exact hcq1 | exact (But.refl _ _).drew.trans' hcq1); have HN9 := hide hn9; clear hn9; clear hcq1; have k0_q1 := Bq1.cell_some k0 (by simp); have k1_q1 := Bq1.cell_some k1 (by simp); have k2_q1 := Bq1.cell_some k2 (by simp); have k3_q1 := Bq1.cell_some k3 (by simp); have m0_q1 := Bq1.cell_some m0 (by simp); have m1_q1 := Bq1.cell_some m1 (by simp); have m2_q1 := Bq1.cell_some m2 (by simp); have m3_q1 := Bq1.cell_some m3 (by simp); have n0_q1 := Bq1.cell_some n0 (by simp); have n1_q1 := Bq1.cell_some n1 (by simp); have n2_q1 := Bq1.cell_some n2 (by simp); have n3_q1 := Bq1.cell_some n3 (by simp)))
        have HB9 : Hid (But [] w wq2) := (unhide HB2).trans' Bq2
        clear Bq1 Bq2
        go_wp2
        go_ret
        exact ⟨rfl, unhide HB9⟩
end Go.Proofs.YtihiafgogbhjkaaGreatDoor
