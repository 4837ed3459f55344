/- The law FracBest: whatever the pairs and the bound, the Go text answers true. -/
import Derived.Test.YtihiafgogbhjkaaGreatDoorRM5
import Derived.Test.YtihiafgogbhjkaaGreatDoorRM6
import Derived.Test.YtihiafgogbhjkaaGreatDoorRM7
import Derived.Test.YtihiafgogbhjkaaGreatDoorRQA
namespace Go.Proofs.YtihiafgogbhjkaaGreatDoor
open Go.RowKit

theorem den_le (y : Rat) (u : Nat) (c : Int) (hu : 0 < u) (h : y.num * (u : Int) = c * (y.den : Int)) : y.den ≤ u := by
  have h1 := congrArg Int.natAbs h
  rw [Int.natAbs_mul, Int.natAbs_mul, Int.natAbs_natCast, Int.natAbs_natCast] at h1
  have h2 : y.den ∣ y.num.natAbs * u := ⟨c.natAbs, by rw [h1, Nat.mul_comm]⟩
  exact Nat.le_of_dvd hu ((Nat.Coprime.symm y.reduced).dvd_of_dvd_mul_left h2)
theorem near_int (g : Rat) : ∃ N : Int, nearR g = ((N : Int) : Rat) := by
  unfold nearR
  split
  · exact ⟨fl g + 1, by rw [Rat.intCast_add]⟩
  · exact ⟨fl g, rfl⟩
theorem unit_den (z : Rat) (N : Int) : (((N : Int) : Rat) * z).den ≤ z.den := by
  have h := cross_mul ((N : Int) : Rat) z
  obtain ⟨i1, i2⟩ := int_num N
  rw [i1, i2, Nat.one_mul] at h
  exact den_le _ z.den (N * z.num) (den_pos z) h

set_option maxHeartbeats 32000000 in
set_option maxRecDepth 100000 in
theorem fracBest_any (a1 a2 b c1 c2 : Int) (ha1 : -9223372036854775808 ≤ a1 ∧ a1 < 9223372036854775808) (ha2 : -9223372036854775808 ≤ a2 ∧ a2 < 9223372036854775808) (hb : -9223372036854775808 ≤ b ∧ b < 9223372036854775808) (hc1 : -9223372036854775808 ≤ c1 ∧ c1 < 9223372036854775808) (hc2 : -9223372036854775808 ≤ c2 ∧ c2 < 9223372036854775808) (w : World) (htab : Lib.TabIs Tryz.prog w "internal/strconv.uint64pow10" .u64 Lib.pow10Tab) :
    Calls Tryz.prog 8 #[.agg #[.int .i64 a1, .int .i64 a2], .int .i64 b, .agg #[.int .i64 c1, .int .i64 c2]] w fun e w' => e = .returned (.bool true) ∧ But [] w w' := by
  obtain ⟨f, fs, fx, fy, lf, -, FF, CF⟩ := plainF_any a1 a2 ha1.1 ha1.2 ha2.1 ha2.2
  have hp : f.num.natAbs < 18446744073709551616 := by have := lt_of_wd_length (B := 18446744073709551616) (by omega) _ 1 lf.1; omega
  have hq : f.den < 18446744073709551616 := by have := lt_of_wd_length (B := 18446744073709551616) (by omega) _ 1 lf.2; omega
  have PK0 := hide (fun W => pick_gen b 1000000 hb.1 hb.2 (by omega) (by omega) W)
  obtain ⟨n0, hn0⟩ : ∃ n0 : Nat, n0 = ((if b < 0 then b + 18446744073709551616 else b) % 1000000).toNat := ⟨_, rfl⟩
  rw [← hn0] at PK0
  have n0l : n0 < 1000000 := by omega
  obtain ⟨most, hmost⟩ : ∃ most, most = n0 + 1 := ⟨_, rfl⟩
  have er1 : IntKind.i64.wrap (1 + (n0 : Int)) = (most : Int) := by rw [IntKind.wrap_i64, hmost]; omega
  have mo0 : 0 < most := by omega
  have mo1 : most ≤ 1000000 := by omega
  have NE := hide (fun W => near_any f most fs fx fy W FF hp hq mo0 mo1)
  have HA := hide (fun W (h : But [] w W) => half_any W (TabIs.but htab h))
  have PK1 := hide (fun W => pick_gen c2 (most : Int) hc2.1 hc2.2 (by omega) (by omega) W)
  obtain ⟨m0, hm0⟩ : ∃ m0 : Nat, m0 = ((if c2 < 0 then c2 + 18446744073709551616 else c2) % (most : Int)).toNat := ⟨_, rfl⟩
  rw [← hm0] at PK1
  have m0l : m0 < most := by
    have := Int.emod_lt_of_pos (if c2 < 0 then c2 + 18446744073709551616 else c2) (show (0 : Int) < (most : Int) by omega)
    have := Int.emod_nonneg (if c2 < 0 then c2 + 18446744073709551616 else c2) (show (most : Int) ≠ 0 by omega)
    omega
  obtain ⟨u, hu⟩ : ∃ u, u = m0 + 1 := ⟨_, rfl⟩
  have er2 : IntKind.i64.wrap (1 + (m0 : Int)) = (u : Int) := by rw [IntKind.wrap_i64, hu]; omega
  have u0 : 0 < u := by omega
  have u1 : u ≤ most := by omega
  obtain ⟨y, ys, yx, yy, ly, hy, FY, CY⟩ := fracOf_at c1 (u : Int) hc1.1 hc1.2 (by omega) (by omega) (by omega)
  obtain ⟨z, zs, zx, zy, lz, hz, FZ, CZ⟩ := fracOf_at 1 (u : Int) (by omega) (by omega) (by omega) (by omega) (by omega)
  have yd : y.den ≤ most := Nat.le_trans (den_le y u c1 u0 hy) u1
  have zd : z.den ≤ most := Nat.le_trans (den_le z u 1 u0 hz) u1
  have z0 : 0 < z.num := by
    have := den_pos z
    have hpos : 0 < z.num * (u : Int) := by rw [hz]; omega
    exact Int.pos_of_mul_pos_left hpos (by omega)
  have RO := hide (fun W => round_any _ _ f z W (FF W) (FZ W) lf lz z0)
  have lr : Len (nearR (f * z⁻¹) * z) 21 := (len_mul (near_len (len_mul lf (len_inv lz (by omega)) 2 (by omega)) (by omega)) lz 6 (by omega)).mono (by omega)
  have rd : (nearR (f * z⁻¹) * z).den ≤ most := by
    obtain ⟨N, hN⟩ := near_int (f * z⁻¹)
    rw [hN]
    exact Nat.le_trans (unit_den z N) zd
  obtain ⟨rr, hrr⟩ : ∃ rr, rr = nearR (f * z⁻¹) * z := ⟨_, rfl⟩
  rw [← hrr] at RO lr rd
  have hmf : ∀ (fn : Fn) (first cap : Array Value) (w : World), (Instr.makeFunc fn first cap).run Tryz.prog w = .ok (.func fn first cap) w := fun _ _ _ _ => rfl
  have CA := hide CF
  have KY := hide CY
  have KZ := hide CZ
  have HF := hide (And.intro FF (And.intro lf (And.intro FY (And.intro ly (And.intro yd (And.intro lr rd))))))
  clear lf hp hq hn0 n0l hmost hm0 m0l hu u0 u1 ly hy lz hz zd z0 lr rd hrr FF FY FZ CF CY CZ htab yd mo0
  obtain ⟨W, hW⟩ : ∃ W, W = (w.alloc (.cells #[.int .i64 a1, .int .i64 a2] 23)).alloc (.cells #[.int .i64 c1, .int .i64 c2] 23) := ⟨_, rfl⟩
  obtain ⟨tA, tO, -, -, hB⟩ := two_news w W _ _ _ _ hW
  have a0 := tA 0
  have a1 := tA 1
  have o0 := tO 0
  have o1 := tO 1
  simp only [List.getElem?_toArray, List.getElem?_cons_zero, List.getElem?_cons_succ] at a0 a1 o0 o1
  have HW := hide hW
  have HB := hide hB
  clear hW hB tA tO
  go_enter Tryz.func8, Tryz.ntmps8
  go_wp2_with fail
  rw [← unhide HW]
  obtain ⟨ga, hga⟩ : ∃ ga, ga = w.heap.size := ⟨_, rfl⟩
  obtain ⟨go', hgo⟩ : ∃ go', go' = w.heap.size + 1 := ⟨_, rfl⟩
  rw [← hga] at a0 a1
  rw [← hgo] at o0 o1
  rw [← hgo, ← hga]
  clear hga hgo HW
  refine (unhide PK0 _).mono ?_
  rintro e1 w1 ⟨rfl, hb1⟩
  replace a0 := hb1.cell_some a0 (by simp)
  replace a1 := hb1.cell_some a1 (by simp)
  replace o0 := hb1.cell_some o0 (by simp)
  replace o1 := hb1.cell_some o1 (by simp)
  replace HB : Hid (But [] w w1) := (unhide HB).trans' hb1
  clear hb1 PK0
  go_wp2_with fail
  refine (unhide CA _).mono ?_
  rintro e2 w2 ⟨rfl, hb2⟩
  replace o0 := hb2.cell_some o0 (by simp)
  replace o1 := hb2.cell_some o1 (by simp)
  replace HB : Hid (But [] w w2) := (unhide HB).trans' hb2
  clear hb2 CA a0 a1
  obtain ⟨V2, hV2⟩ : ∃ V2, V2 = w2.alloc (.cells #[.bool fs, .int .u64 fx, .int .u64 fy, .pointer none] 27) := ⟨_, rfl⟩
  have f0 : V2.cell? ⟨w2.heap.size, 0, none⟩ = some (.bool fs) := by rw [hV2]; simp
  have f1 : V2.cell? ⟨w2.heap.size, 1, none⟩ = some (.int .u64 fx) := by rw [hV2]; simp
  have f2 : V2.cell? ⟨w2.heap.size, 2, none⟩ = some (.int .u64 fy) := by rw [hV2]; simp
  have f3 : V2.cell? ⟨w2.heap.size, 3, none⟩ = some (.pointer none) := by rw [hV2]; simp
  have bV2 : But [] w2 V2 := by rw [hV2]; exact (But.refl _ _).alloc _
  go_wp2_with fail
  rw [← hV2]
  clear hV2
  replace o0 := bV2.cell_some o0 (by simp)
  replace o1 := bV2.cell_some o1 (by simp)
  replace HB : Hid (But [] w V2) := (unhide HB).trans' bV2
  clear bV2
  generalize w2.heap.size = gf at *
  refine (unhide NE _).mono ?_
  rintro e3 w3 ⟨v3, x, rfl, hx, lx, -, hbest', hb3⟩
  have hbest : ∀ y : Rat, y.den ≤ most → dist x f ≤ dist y f := fun y hy => (hbest' y hy).le
  clear hbest'
  have HX := hide hx
  obtain ⟨xx, xy, xp, rfl, -⟩ := hx.agg
  generalize decide (x.num < 0) = xs at *
  have HXB := hide (And.intro lx hbest)
  replace o0 := hb3.cell_some o0 (by simp)
  replace o1 := hb3.cell_some o1 (by simp)
  replace f0 := hb3.cell_some f0 (by simp)
  replace f1 := hb3.cell_some f1 (by simp)
  replace f2 := hb3.cell_some f2 (by simp)
  replace f3 := hb3.cell_some f3 (by simp)
  replace HB : Hid (But [] w w3) := (unhide HB).trans' hb3
  clear hb3 hx lx hbest NE
  obtain ⟨V3, hV3⟩ : ∃ V3, V3 = w3.alloc (.cells #[.bool xs, .int .u64 xx, .int .u64 xy, .pointer xp] 27) := ⟨_, rfl⟩
  have x0 : V3.cell? ⟨w3.heap.size, 0, none⟩ = some (.bool xs) := by rw [hV3]; simp
  have x1 : V3.cell? ⟨w3.heap.size, 1, none⟩ = some (.int .u64 xx) := by rw [hV3]; simp
  have x2 : V3.cell? ⟨w3.heap.size, 2, none⟩ = some (.int .u64 xy) := by rw [hV3]; simp
  have x3 : V3.cell? ⟨w3.heap.size, 3, none⟩ = some (.pointer xp) := by rw [hV3]; simp
  have bV3 : But [] w3 V3 := by rw [hV3]; exact (But.refl _ _).alloc _
  go_wp2_with fail
  rw [← hV3]
  clear hV3
  replace o0 := bV3.cell_some o0 (by simp)
  replace o1 := bV3.cell_some o1 (by simp)
  replace f0 := bV3.cell_some f0 (by simp)
  replace f1 := bV3.cell_some f1 (by simp)
  replace f2 := bV3.cell_some f2 (by simp)
  replace f3 := bV3.cell_some f3 (by simp)
  replace HB : Hid (But [] w V3) := (unhide HB).trans' bV3
  replace HX : Hid (FracAt V3 (.agg #[.bool xs, .int .u64 xx, .int .u64 xy, .pointer xp]) x) := (unhide HX).but bV3
  clear bV3
  generalize w3.heap.size = gx at *
  refine (unhide HA _ (unhide HB)).mono ?_
  rintro e4 w4 ⟨rfl, hb4⟩
  replace o0 := hb4.cell_some o0 (by simp)
  replace o1 := hb4.cell_some o1 (by simp)
  replace f0 := hb4.cell_some f0 (by simp)
  replace f1 := hb4.cell_some f1 (by simp)
  replace f2 := hb4.cell_some f2 (by simp)
  replace f3 := hb4.cell_some f3 (by simp)
  replace x0 := hb4.cell_some x0 (by simp)
  replace x1 := hb4.cell_some x1 (by simp)
  replace x2 := hb4.cell_some x2 (by simp)
  replace x3 := hb4.cell_some x3 (by simp)
  replace HB : Hid (But [] w w4) := (unhide HB).trans' hb4
  replace HX : Hid (FracAt w4 (.agg #[.bool xs, .int .u64 xx, .int .u64 xy, .pointer xp]) x) := (unhide HX).but hb4
  clear hb4 HA
  go_wp2_with fail
  refine (unhide PK1 _).mono ?_
  rintro e5 w5 ⟨rfl, hb5⟩
  replace o0 := hb5.cell_some o0 (by simp)
  replace o1 := hb5.cell_some o1 (by simp)
  replace f0 := hb5.cell_some f0 (by simp)
  replace f1 := hb5.cell_some f1 (by simp)
  replace f2 := hb5.cell_some f2 (by simp)
  replace f3 := hb5.cell_some f3 (by simp)
  replace x0 := hb5.cell_some x0 (by simp)
  replace x1 := hb5.cell_some x1 (by simp)
  replace x2 := hb5.cell_some x2 (by simp)
  replace x3 := hb5.cell_some x3 (by simp)
  replace HB : Hid (But [] w w5) := (unhide HB).trans' hb5
  replace HX : Hid (FracAt w5 (.agg #[.bool xs, .int .u64 xx, .int .u64 xy, .pointer xp]) x) := (unhide HX).but hb5
  clear hb5 PK1
  go_wp2_with fail
  refine (unhide KY _).mono ?_
  rintro e6 w6 ⟨rfl, hb6⟩
  replace o0 := hb6.cell_some o0 (by simp)
  replace o1 := hb6.cell_some o1 (by simp)
  replace f0 := hb6.cell_some f0 (by simp)
  replace f1 := hb6.cell_some f1 (by simp)
  replace f2 := hb6.cell_some f2 (by simp)
  replace f3 := hb6.cell_some f3 (by simp)
  replace x0 := hb6.cell_some x0 (by simp)
  replace x1 := hb6.cell_some x1 (by simp)
  replace x2 := hb6.cell_some x2 (by simp)
  replace x3 := hb6.cell_some x3 (by simp)
  replace HB : Hid (But [] w w6) := (unhide HB).trans' hb6
  replace HX : Hid (FracAt w6 (.agg #[.bool xs, .int .u64 xx, .int .u64 xy, .pointer xp]) x) := (unhide HX).but hb6
  clear hb6 KY
  obtain ⟨V6, hV6⟩ : ∃ V6, V6 = w6.alloc (.cells #[.bool ys, .int .u64 yx, .int .u64 yy, .pointer none] 27) := ⟨_, rfl⟩
  have y0 : V6.cell? ⟨w6.heap.size, 0, none⟩ = some (.bool ys) := by rw [hV6]; simp
  have y1 : V6.cell? ⟨w6.heap.size, 1, none⟩ = some (.int .u64 yx) := by rw [hV6]; simp
  have y2 : V6.cell? ⟨w6.heap.size, 2, none⟩ = some (.int .u64 yy) := by rw [hV6]; simp
  have y3 : V6.cell? ⟨w6.heap.size, 3, none⟩ = some (.pointer none) := by rw [hV6]; simp
  have bV6 : But [] w6 V6 := by rw [hV6]; exact (But.refl _ _).alloc _
  go_wp2_with fail
  rw [← hV6]
  clear hV6
  replace o0 := bV6.cell_some o0 (by simp)
  replace o1 := bV6.cell_some o1 (by simp)
  replace f0 := bV6.cell_some f0 (by simp)
  replace f1 := bV6.cell_some f1 (by simp)
  replace f2 := bV6.cell_some f2 (by simp)
  replace f3 := bV6.cell_some f3 (by simp)
  replace x0 := bV6.cell_some x0 (by simp)
  replace x1 := bV6.cell_some x1 (by simp)
  replace x2 := bV6.cell_some x2 (by simp)
  replace x3 := bV6.cell_some x3 (by simp)
  replace HB : Hid (But [] w V6) := (unhide HB).trans' bV6
  replace HX : Hid (FracAt V6 (.agg #[.bool xs, .int .u64 xx, .int .u64 xy, .pointer xp]) x) := (unhide HX).but bV6
  clear bV6 o0 o1
  generalize w6.heap.size = gy at *
  refine (unhide KZ _).mono ?_
  rintro e7 w7 ⟨rfl, hb7⟩
  replace f0 := hb7.cell_some f0 (by simp)
  replace f1 := hb7.cell_some f1 (by simp)
  replace f2 := hb7.cell_some f2 (by simp)
  replace f3 := hb7.cell_some f3 (by simp)
  replace x0 := hb7.cell_some x0 (by simp)
  replace x1 := hb7.cell_some x1 (by simp)
  replace x2 := hb7.cell_some x2 (by simp)
  replace x3 := hb7.cell_some x3 (by simp)
  replace y0 := hb7.cell_some y0 (by simp)
  replace y1 := hb7.cell_some y1 (by simp)
  replace y2 := hb7.cell_some y2 (by simp)
  replace y3 := hb7.cell_some y3 (by simp)
  replace HB : Hid (But [] w w7) := (unhide HB).trans' hb7
  replace HX : Hid (FracAt w7 (.agg #[.bool xs, .int .u64 xx, .int .u64 xy, .pointer xp]) x) := (unhide HX).but hb7
  clear hb7 KZ
  obtain ⟨V7, hV7⟩ : ∃ V7, V7 = w7.alloc (.cells #[.bool zs, .int .u64 zx, .int .u64 zy, .pointer none] 27) := ⟨_, rfl⟩
  have z0 : V7.cell? ⟨w7.heap.size, 0, none⟩ = some (.bool zs) := by rw [hV7]; simp
  have z1 : V7.cell? ⟨w7.heap.size, 1, none⟩ = some (.int .u64 zx) := by rw [hV7]; simp
  have z2 : V7.cell? ⟨w7.heap.size, 2, none⟩ = some (.int .u64 zy) := by rw [hV7]; simp
  have z3 : V7.cell? ⟨w7.heap.size, 3, none⟩ = some (.pointer none) := by rw [hV7]; simp
  have bV7 : But [] w7 V7 := by rw [hV7]; exact (But.refl _ _).alloc _
  have gfl : gf < w7.heap.size := lt_of_cell f0
  go_wp2_with fail
  rw [← hV7]
  clear hV7 gfl
  replace f0 := bV7.cell_some f0 (by simp)
  replace f1 := bV7.cell_some f1 (by simp)
  replace f2 := bV7.cell_some f2 (by simp)
  replace f3 := bV7.cell_some f3 (by simp)
  replace x0 := bV7.cell_some x0 (by simp)
  replace x1 := bV7.cell_some x1 (by simp)
  replace x2 := bV7.cell_some x2 (by simp)
  replace x3 := bV7.cell_some x3 (by simp)
  replace y0 := bV7.cell_some y0 (by simp)
  replace y1 := bV7.cell_some y1 (by simp)
  replace y2 := bV7.cell_some y2 (by simp)
  replace y3 := bV7.cell_some y3 (by simp)
  replace HB : Hid (But [] w V7) := (unhide HB).trans' bV7
  replace HX : Hid (FracAt V7 (.agg #[.bool xs, .int .u64 xx, .int .u64 xy, .pointer xp]) x) := (unhide HX).but bV7
  clear bV7
  generalize w7.heap.size = gz at *
  refine (unhide RO _).mono ?_
  rintro e8 w8 ⟨v8, rfl, hv8, hb8⟩
  have HR := hide hv8
  obtain ⟨rx, ry, rp, rfl, -⟩ := hv8.agg
  generalize decide (rr.num < 0) = rs at *
  replace f0 := hb8.cell_some f0 (by simp)
  replace f1 := hb8.cell_some f1 (by simp)
  replace f2 := hb8.cell_some f2 (by simp)
  replace f3 := hb8.cell_some f3 (by simp)
  replace x0 := hb8.cell_some x0 (by simp)
  replace x1 := hb8.cell_some x1 (by simp)
  replace x2 := hb8.cell_some x2 (by simp)
  replace x3 := hb8.cell_some x3 (by simp)
  replace y0 := hb8.cell_some y0 (by simp)
  replace y1 := hb8.cell_some y1 (by simp)
  replace y2 := hb8.cell_some y2 (by simp)
  replace y3 := hb8.cell_some y3 (by simp)
  replace HB : Hid (But [] w w8) := (unhide HB).trans' hb8
  replace HX : Hid (FracAt w8 (.agg #[.bool xs, .int .u64 xx, .int .u64 xy, .pointer xp]) x) := (unhide HX).but hb8
  clear hb8 hv8 RO z0 z1 z2 z3
  obtain ⟨V8, hV8⟩ : ∃ V8, V8 = w8.alloc (.cells #[.bool rs, .int .u64 rx, .int .u64 ry, .pointer rp] 27) := ⟨_, rfl⟩
  have r0 : V8.cell? ⟨w8.heap.size, 0, none⟩ = some (.bool rs) := by rw [hV8]; simp
  have r1 : V8.cell? ⟨w8.heap.size, 1, none⟩ = some (.int .u64 rx) := by rw [hV8]; simp
  have r2 : V8.cell? ⟨w8.heap.size, 2, none⟩ = some (.int .u64 ry) := by rw [hV8]; simp
  have r3 : V8.cell? ⟨w8.heap.size, 3, none⟩ = some (.pointer rp) := by rw [hV8]; simp
  have bV8 : But [] w8 V8 := by rw [hV8]; exact (But.refl _ _).alloc _
  go_wp2_with fail
  rw [← hV8]
  clear hV8
  replace f0 := bV8.cell_some f0 (by simp)
  replace f1 := bV8.cell_some f1 (by simp)
  replace f2 := bV8.cell_some f2 (by simp)
  replace f3 := bV8.cell_some f3 (by simp)
  replace x0 := bV8.cell_some x0 (by simp)
  replace x1 := bV8.cell_some x1 (by simp)
  replace x2 := bV8.cell_some x2 (by simp)
  replace x3 := bV8.cell_some x3 (by simp)
  replace y0 := bV8.cell_some y0 (by simp)
  replace y1 := bV8.cell_some y1 (by simp)
  replace y2 := bV8.cell_some y2 (by simp)
  replace y3 := bV8.cell_some y3 (by simp)
  replace HB : Hid (But [] w V8) := (unhide HB).trans' bV8
  replace HX : Hid (FracAt V8 (.agg #[.bool xs, .int .u64 xx, .int .u64 xy, .pointer xp]) x) := (unhide HX).but bV8
  replace HR : Hid (FracAt V8 (.agg #[.bool rs, .int .u64 rx, .int .u64 ry, .pointer rp]) rr) := (unhide HR).but bV8
  clear bV8
  generalize w8.heap.size = gr at *
  have OX : Hid (∀ W', But [] V8 W' → Calls Tryz.prog 53 #[.agg #[.bool xs, .int .u64 xx, .int .u64 xy, .pointer xp], .pointer (some ⟨gf, 0, none⟩)] W' fun e w' => ∃ v', e = .returned v' ∧ FracAt w' v' (dist x f) ∧ But [] W' w') := fun W' h => off_any _ x f gf fs fx fy W' ((unhide HX).but h) (unhide HF).1 (unhide HXB).1 (unhide HF).2.1 (P4.but ⟨f0, f1, f2, f3⟩ h (by simp))
  have OY : Hid (∀ W', But [] V8 W' → Calls Tryz.prog 53 #[.agg #[.bool ys, .int .u64 yx, .int .u64 yy, .pointer none], .pointer (some ⟨gf, 0, none⟩)] W' fun e w' => ∃ v', e = .returned v' ∧ FracAt w' v' (dist y f) ∧ But [] W' w') := fun W' h => off_any _ y f gf fs fx fy W' ((unhide HF).2.2.1 W') (unhide HF).1 ((unhide HF).2.2.2.1.mono (by omega)) (unhide HF).2.1 (P4.but ⟨f0, f1, f2, f3⟩ h (by simp))
  have OR : Hid (∀ W', But [] V8 W' → Calls Tryz.prog 53 #[.agg #[.bool rs, .int .u64 rx, .int .u64 ry, .pointer rp], .pointer (some ⟨gf, 0, none⟩)] W' fun e w' => ∃ v', e = .returned v' ∧ FracAt w' v' (dist rr f) ∧ But [] W' w') := fun W' h => off_any _ rr f gf fs fx fy W' ((unhide HR).but h) (unhide HF).1 (unhide HF).2.2.2.2.2.1 (unhide HF).2.1 (P4.but ⟨f0, f1, f2, f3⟩ h (by simp))
  have ldx := len_abs (len_sub (unhide HXB).1 (unhide HF).2.1 23 (by omega))
  have ldy := len_abs (len_sub (unhide HF).2.2.2.1 (unhide HF).2.1 3 (by omega))
  have ldr := len_abs (len_sub (unhide HF).2.2.2.2.2.1 (unhide HF).2.1 23 (by omega))
  obtain ⟨r1', hr1⟩ : ∃ r1', r1' = cmpZ ((dist x f).num * ((dist y f).den : Int)) ((dist y f).num * ((dist x f).den : Int)) := ⟨_, rfl⟩
  obtain ⟨r2', hr2⟩ : ∃ r2', r2' = cmpZ ((dist x f).num * ((dist rr f).den : Int)) ((dist rr f).num * ((dist x f).den : Int)) := ⟨_, rfl⟩
  have C1 : Hid (∀ W' v v', FracAt W' v (dist x f) → FracAt W' v' (dist y f) → Calls Tryz.prog 27 #[v, v'] W' fun e w' => e = .returned (.int .i64 r1') ∧ But [] W' w') := fun W' v v' h1 h2 => fracCmp_any v v' _ _ W' h1 h2 (ldx.mono (by omega)) (ldy.mono (by omega)) r1' hr1
  have C2 : Hid (∀ W' v v', FracAt W' v (dist x f) → FracAt W' v' (dist rr f) → Calls Tryz.prog 27 #[v, v'] W' fun e w' => e = .returned (.int .i64 r2') ∧ But [] W' w') := fun W' v v' h1 h2 => fracCmp_any v v' _ _ W' h1 h2 (ldx.mono (by omega)) (ldr.mono (by omega)) r2' hr2
  have q1 : r1' ≤ 0 := by rw [hr1]; exact (cmp_le _ _).2 ((unhide HXB).2 y (unhide HF).2.2.2.2.1)
  have q2 : r2' ≤ 0 := by rw [hr2]; exact (cmp_le _ _).2 ((unhide HXB).2 rr (unhide HF).2.2.2.2.2.2)
  have H0 : Hid (But [] V8 V8) := But.refl _ _
  clear hr1 hr2 ldx ldy ldr HX HR HXB HF
  go_wp2_with fail
  go_region_held (fun w' => w'.cell? ⟨gf, 0, none⟩ = some (.bool fs) ∧ w'.cell? ⟨gf, 1, none⟩ = some (.int .u64 fx) ∧ w'.cell? ⟨gf, 2, none⟩ = some (.int .u64 fy) ∧ w'.cell? ⟨gf, 3, none⟩ = some (.pointer none) ∧ w'.cell? ⟨gx, 0, none⟩ = some (.bool xs) ∧ w'.cell? ⟨gx, 1, none⟩ = some (.int .u64 xx) ∧ w'.cell? ⟨gx, 2, none⟩ = some (.int .u64 xy) ∧ w'.cell? ⟨gx, 3, none⟩ = some (.pointer xp) ∧ w'.cell? ⟨gy, 0, none⟩ = some (.bool ys) ∧ w'.cell? ⟨gy, 1, none⟩ = some (.int .u64 yx) ∧ w'.cell? ⟨gy, 2, none⟩ = some (.int .u64 yy) ∧ w'.cell? ⟨gy, 3, none⟩ = some (.pointer none) ∧ w'.cell? ⟨gr, 0, none⟩ = some (.bool rs) ∧ w'.cell? ⟨gr, 1, none⟩ = some (.int .u64 rx) ∧ w'.cell? ⟨gr, 2, none⟩ = some (.int .u64 ry) ∧ w'.cell? ⟨gr, 3, none⟩ = some (.pointer rp)) (go_keep) (first
    | (go_at_call 27; have hchk := B5; clear hchk; refine (unhide C2 _ v4 v5 (by first | exact unhide HN4 | exact (unhide HN4).but (But.refl _ _).drew) (by first | exact unhide HN5 | exact (unhide HN5).but (But.refl _ _).drew)).mono ?_; rintro e wk6 ⟨rfl, hc6⟩; have B6 : But [] V8 wk6 := (by first | exact B5.trans' hc6 | exact (B5.drew).trans' hc6); clear HN4 HN5; clear hc6; have f0_6 := B6.cell_some f0 (by simp); have f1_6 := B6.cell_some f1 (by simp); have f2_6 := B6.cell_some f2 (by simp); have f3_6 := B6.cell_some f3 (by simp); have x0_6 := B6.cell_some x0 (by simp); have x1_6 := B6.cell_some x1 (by simp); have x2_6 := B6.cell_some x2 (by simp); have x3_6 := B6.cell_some x3 (by simp); have y0_6 := B6.cell_some y0 (by simp); have y1_6 := B6.cell_some y1 (by simp); have y2_6 := B6.cell_some y2 (by simp); have y3_6 := B6.cell_some y3 (by simp); have r0_6 := B6.cell_some r0 (by simp); have r1_6 := B6.cell_some r1 (by simp); have r2_6 := B6.cell_some r2 (by simp); have r3_6 := B6.cell_some r3 (by simp); clear f0_5 f1_5 f2_5 f3_5 x0_5 x1_5 x2_5 x3_5 y0_5 y1_5 y2_5 y3_5 r0_5 r1_5 r2_5 r3_5)
    | (go_at_call 53; have hchk := B4; clear hchk; refine (unhide OR _ (by first | exact (unhide H0).trans' B4 | exact ((unhide H0).trans' B4).drew)).mono ?_; rintro e wk5 ⟨v5, rfl, hn5, hc5⟩; have B5 : But [] V8 wk5 := (by first | exact B4.trans' hc5 | exact (B4.drew).trans' hc5); replace HN4 : Hid (FracAt wk5 v4 (dist x f)) := (by first | exact (unhide HN4).but hc5 | exact ((unhide HN4).but (But.refl _ _).drew).but hc5); have HN5 := hide hn5; clear hn5; clear hc5; have f0_5 := B5.cell_some f0 (by simp); have f1_5 := B5.cell_some f1 (by simp); have f2_5 := B5.cell_some f2 (by simp); have f3_5 := B5.cell_some f3 (by simp); have x0_5 := B5.cell_some x0 (by simp); have x1_5 := B5.cell_some x1 (by simp); have x2_5 := B5.cell_some x2 (by simp); have x3_5 := B5.cell_some x3 (by simp); have y0_5 := B5.cell_some y0 (by simp); have y1_5 := B5.cell_some y1 (by simp); have y2_5 := B5.cell_some y2 (by simp); have y3_5 := B5.cell_some y3 (by simp); have r0_5 := B5.cell_some r0 (by simp); have r1_5 := B5.cell_some r1 (by simp); have r2_5 := B5.cell_some r2 (by simp); have r3_5 := B5.cell_some r3 (by simp); clear f0_4 f1_4 f2_4 f3_4 x0_4 x1_4 x2_4 x3_4 y0_4 y1_4 y2_4 y3_4 r0_4 r1_4 r2_4 r3_4)
    | (go_at_call 53; have hchk := B3; clear hchk; refine (unhide OX _ (by first | exact (unhide H0).trans' B3 | exact ((unhide H0).trans' B3).drew)).mono ?_; rintro e wk4 ⟨v4, rfl, hn4, hc4⟩; have B4 : But [] V8 wk4 := (by first | exact B3.trans' hc4 | exact (B3.drew).trans' hc4); have HN4 := hide hn4; clear hn4; clear hc4; have f0_4 := B4.cell_some f0 (by simp); have f1_4 := B4.cell_some f1 (by simp); have f2_4 := B4.cell_some f2 (by simp); have f3_4 := B4.cell_some f3 (by simp); have x0_4 := B4.cell_some x0 (by simp); have x1_4 := B4.cell_some x1 (by simp); have x2_4 := B4.cell_some x2 (by simp); have x3_4 := B4.cell_some x3 (by simp); have y0_4 := B4.cell_some y0 (by simp); have y1_4 := B4.cell_some y1 (by simp); have y2_4 := B4.cell_some y2 (by simp); have y3_4 := B4.cell_some y3 (by simp); have r0_4 := B4.cell_some r0 (by simp); have r1_4 := B4.cell_some r1 (by simp); have r2_4 := B4.cell_some r2 (by simp); have r3_4 := B4.cell_some r3 (by simp); clear f0_3 f1_3 f2_3 f3_3 x0_3 x1_3 x2_3 x3_3 y0_3 y1_3 y2_3 y3_3 r0_3 r1_3 r2_3 r3_3)
    | (go_at_call 27; have hchk := B2; clear hchk; refine (unhide C1 _ v1 v2 (by first | exact unhide HN1 | exact (unhide HN1).but (But.refl _ _).drew) (by first | exact unhide HN2 | exact (unhide HN2).but (But.refl _ _).drew)).mono ?_; rintro e wk3 ⟨rfl, hc3⟩; have B3 : But [] V8 wk3 := (by first | exact B2.trans' hc3 | exact (B2.drew).trans' hc3); clear HN1 HN2; clear hc3; have f0_3 := B3.cell_some f0 (by simp); have f1_3 := B3.cell_some f1 (by simp); have f2_3 := B3.cell_some f2 (by simp); have f3_3 := B3.cell_some f3 (by simp); have x0_3 := B3.cell_some x0 (by simp); have x1_3 := B3.cell_some x1 (by simp); have x2_3 := B3.cell_some x2 (by simp); have x3_3 := B3.cell_some x3 (by simp); have y0_3 := B3.cell_some y0 (by simp); have y1_3 := B3.cell_some y1 (by simp); have y2_3 := B3.cell_some y2 (by simp); have y3_3 := B3.cell_some y3 (by simp); have r0_3 := B3.cell_some r0 (by simp); have r1_3 := B3.cell_some r1 (by simp); have r2_3 := B3.cell_some r2 (by simp); have r3_3 := B3.cell_some r3 (by simp); clear f0_2 f1_2 f2_2 f3_2 x0_2 x1_2 x2_2 x3_2 y0_2 y1_2 y2_2 y3_2 r0_2 r1_2 r2_2 r3_2)
    | (go_at_call 53; have hchk := B1; clear hchk; refine (unhide OY _ (by first | exact (unhide H0).trans' B1 | exact ((unhide H0).trans' B1).drew)).mono ?_; rintro e wk2 ⟨v2, rfl, hn2, hc2⟩; have B2 : But [] V8 wk2 := (by first | exact B1.trans' hc2 | exact (B1.drew).trans' hc2); replace HN1 : Hid (FracAt wk2 v1 (dist x f)) := (by first | exact (unhide HN1).but hc2 | exact ((unhide HN1).but (But.refl _ _).drew).but hc2); have HN2 := hide hn2; clear hn2; clear hc2; have f0_2 := B2.cell_some f0 (by simp); have f1_2 := B2.cell_some f1 (by simp); have f2_2 := B2.cell_some f2 (by simp); have f3_2 := B2.cell_some f3 (by simp); have x0_2 := B2.cell_some x0 (by simp); have x1_2 := B2.cell_some x1 (by simp); have x2_2 := B2.cell_some x2 (by simp); have x3_2 := B2.cell_some x3 (by simp); have y0_2 := B2.cell_some y0 (by simp); have y1_2 := B2.cell_some y1 (by simp); have y2_2 := B2.cell_some y2 (by simp); have y3_2 := B2.cell_some y3 (by simp); have r0_2 := B2.cell_some r0 (by simp); have r1_2 := B2.cell_some r1 (by simp); have r2_2 := B2.cell_some r2 (by simp); have r3_2 := B2.cell_some r3 (by simp); clear f0_1 f1_1 f2_1 f3_1 x0_1 x1_1 x2_1 x3_1 y0_1 y1_1 y2_1 y3_1 r0_1 r1_1 r2_1 r3_1)
    | (go_at_call 53; refine (unhide OX _ (by first | exact unhide H0 | exact (unhide H0).drew)).mono ?_; rintro e wk1 ⟨v1, rfl, hn1, hc1⟩; have B1 : But [] V8 wk1 := (by first | exact hc1 | exact (But.refl _ _).drew.trans' hc1); have HN1 := hide hn1; clear hn1; clear hc1; have f0_1 := B1.cell_some f0 (by simp); have f1_1 := B1.cell_some f1 (by simp); have f2_1 := B1.cell_some f2 (by simp); have f3_1 := B1.cell_some f3 (by simp); have x0_1 := B1.cell_some x0 (by simp); have x1_1 := B1.cell_some x1 (by simp); have x2_1 := B1.cell_some x2 (by simp); have x3_1 := B1.cell_some x3 (by simp); have y0_1 := B1.cell_some y0 (by simp); have y1_1 := B1.cell_some y1 (by simp); have y2_1 := B1.cell_some y2 (by simp); have y3_1 := B1.cell_some y3 (by simp); have r0_1 := B1.cell_some r0 (by simp); have r1_1 := B1.cell_some r1 (by simp); have r2_1 := B1.cell_some r2 (by simp); have r3_1 := B1.cell_some r3 (by simp)))
  all_goals (
    have HBF : Hid (But [] w wk6) := (unhide HB).trans' B6
    clear B1 B2 B3 B4 B5 B6
    go_wp2
    go_ret
    exact ⟨by simp, unhide HBF⟩)
end Go.Proofs.YtihiafgogbhjkaaGreatDoor
