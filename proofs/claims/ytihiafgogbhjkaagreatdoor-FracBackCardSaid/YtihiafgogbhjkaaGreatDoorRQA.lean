/- A number picked by another, as the given text has it. -/
import Derived.Test.YtihiafgogbhjkaaGreatDoorRL1
import Derived.Test.YtihiafgogbhjkaaGreatDoorRQ9
namespace Go.Proofs.YtihiafgogbhjkaaGreatDoor
open Go.RowKit

set_option maxHeartbeats 2000000 in
theorem pick_gen (a n : Int) (h1 : -9223372036854775808 ≤ a) (h2 : a < 9223372036854775808) (hn : 0 < n) (hn2 : n < 9223372036854775808) (w : World) :
    Calls Tryz.prog 50 #[.int .i64 a, .int .i64 n] w fun e w' => e = .returned (.int .i64 ((((if a < 0 then a + 18446744073709551616 else a) % n).toNat : Nat) : Int)) ∧ But [] w w' := by
  obtain ⟨u, hu⟩ : ∃ u : Int, u = if a < 0 then a + 18446744073709551616 else a := ⟨_, rfl⟩
  have u1 : 0 ≤ u ∧ u < 18446744073709551616 := by rw [hu]; split <;> omega
  have e1 : IntKind.u64.wrap a = u := by rw [IntKind.wrap_u64, hu]; split <;> omega
  rw [← hu]
  have e2 := Int.emod_nonneg u (show n ≠ 0 by omega)
  have e3 := Int.emod_lt_of_pos u hn
  clear hu
  have e5 : u.tmod n = u % n := Int.tmod_eq_emod_of_nonneg u1.1
  obtain ⟨m, hm⟩ : ∃ m, m = u % n := ⟨_, rfl⟩
  rw [← hm] at e2 e3 e5 ⊢
  have e4 : ((m.toNat : Nat) : Int) = m := by omega
  rw [e4]
  have e6 : IntKind.i64.wrap m = m := by rw [IntKind.wrap_i64]; omega
  have e7 : IntKind.u64.wrap n = n := by rw [IntKind.wrap_u64]; omega
  have e8 : IntKind.u64.wrap m = m := by rw [IntKind.wrap_u64]; omega
  have n0 : (n == 0) = false := beq_eq_false_iff_ne.2 (by omega)
  have n1 : n ≠ 0 := by omega
  clear e4 hm
  go_enter Tryz.func50, Tryz.ntmps50
  go_wp2
  go_ret
  exact ⟨rfl, But.refl _ _⟩
theorem pick_any (a : Int) (h1 : -9223372036854775808 ≤ a) (h2 : a < 9223372036854775808) (w : World) :
    Calls Tryz.prog 50 #[.int .i64 a, .int .i64 19] w fun e w' => e = .returned (.int .i64 ((((if a < 0 then a + 18446744073709551616 else a) % 19).toNat : Nat) : Int)) ∧ But [] w w' := pick_gen a 19 h1 h2 (by omega) (by omega) w
end Go.Proofs.YtihiafgogbhjkaaGreatDoor

namespace Go.Proofs.YtihiafgogbhjkaaGreatDoor
open Go.RowKit

/-- a fraction of words lies nowhere -/
theorem frac_anywhere {W : World} {v : Value} {f : Rat} (h : FracAt W v f) (hp : f.num.natAbs < 18446744073709551616) (hq : f.den < 18446744073709551616) (W' : World) : FracAt W' v f := by
  rcases h with h | ⟨h, -⟩
  · exact .inl h
  · omega
theorem two_new_open (w W : World) (A B : Array Value) (t : TypeId) (hW : W = (w.alloc (.cells A t)).alloc (.cells B t)) : ∀ j, W.frozen? ⟨w.heap.size, j, none⟩ = false := by
  subst hW
  intro j
  have h := ((But.refl [] (w.alloc (.cells A t))).alloc (.cells B t)).frozen (p := ⟨w.heap.size, j, none⟩) (by simp) (by simp)
  rw [h]
  simp

set_option maxHeartbeats 8000000 in
set_option maxRecDepth 100000 in
theorem fracPow_neg (v : Value) (f g : Rat) (k : Nat) (w : World) (hf : FracAt w v f) (hpos : 0 < f.num) (hk0 : 0 < k) (hk : k ≤ 200) (lf : Len f 2) (sp : f.num.natAbs < 18446744073709551616) (sq : f.den < 18446744073709551616) (hn : g.num = ((f.den ^ k : Nat) : Int)) (hd : g.den = f.num.natAbs ^ k) :
    Calls Tryz.prog 23 #[v, .int .i64 (-(k : Int))] w fun e w' => ∃ v', e = .returned (.tuple #[v', .nilIface]) ∧ FracAt w' v' g ∧ But [] w w' := by
  have h0 : f.num ≠ 0 := by omega
  have hq0 := den_pos f
  have hp0 : 0 < f.num.natAbs := by omega
  obtain ⟨i1, i2, i3⟩ := inv_facts f h0
  have SG := hide (fun W (hb : But [] w W) => fracSign_any v f W (hf.but hb))
  rw [Int.sign_eq_one_of_pos hpos] at SG
  have TU := hide (fun W (hb : But [] w W) => fracTurned_any v f W (hf.but hb) h0)
  have NU : Hid (∀ W u, FracAt W u f⁻¹ → Calls Tryz.prog 57 #[u] W fun e w' => ∃ v1 v2, e = .returned (.tuple #[v1, v2]) ∧ Sl .u64 w' v1 (wd 18446744073709551616 f.den) ∧ Sl .u64 w' v2 (wd 18446744073709551616 f.num.natAbs) ∧ But [] W w') := fun W u hu => by
    have := numbers_any u f⁻¹ W hu
    rw [i1, i2] at this
    exact this
  have hpl : ∀ X : Nat, (wd 18446744073709551616 X).length ≤ 2 → (wd 18446744073709551616 (X ^ k)).length ≤ 400 := fun X hX => by
    have h1 := lt_of_wd_length (B := 18446744073709551616) (by omega) X 2 hX
    refine Nat.le_trans (wd_length_le (B := 18446744073709551616) (by omega) _ (2 * k) ?_) (by omega)
    rw [Nat.pow_mul]
    exact Nat.pow_lt_pow_left h1 (by omega)
  have P1 : Hid (∀ W u, Sl .u64 W u (wd 18446744073709551616 f.den) → Calls Tryz.prog 72 #[u, .int .i64 (k : Int)] W fun e w' => ∃ v', e = .returned v' ∧ Sl .u64 w' v' (wd 18446744073709551616 (f.den ^ k)) ∧ But [] W w') := fun W u hu => natPow_any u _ k W hu hq0 (by omega) (by have := hpl _ lf.2; have := lf.2; omega)
  have P2 : Hid (∀ W u, Sl .u64 W u (wd 18446744073709551616 f.num.natAbs) → Calls Tryz.prog 72 #[u, .int .i64 (k : Int)] W fun e w' => ∃ v', e = .returned v' ∧ Sl .u64 w' v' (wd 18446744073709551616 (f.num.natAbs ^ k)) ∧ But [] W w') := fun W u hu => natPow_any u _ k W hu hp0 (by omega) (by have := hpl _ lf.1; have := lf.1; omega)
  have habs : g.num.natAbs = f.den ^ k := by rw [hn]; simp
  have OL : Hid (∀ W v1 v2, Sl .u64 W v1 (wd 18446744073709551616 (f.den ^ k)) → Sl .u64 W v2 (wd 18446744073709551616 (f.num.natAbs ^ k)) → Calls Tryz.prog 66 #[.bool false, v1, v2] W fun e w' => ∃ v, e = .returned v ∧ FracAt w' v g ∧ But [] W w') := fun W v1 v2 h1 h2 => ofLowered_any false v1 v2 g W (by rw [habs]; exact h1) (by rw [hd]; exact h2) (by rw [habs, hn]; rfl) (by rw [habs]; have := hpl _ lf.2; omega) (by rw [hd]; have := hpl _ lf.1; omega)
  have hs3 : decide (f⁻¹.num < 0) = false := by rw [i3]; exact decide_eq_false (by omega)
  have ANY : Hid (∀ W W' u, FracAt W u f⁻¹ → FracAt W' u f⁻¹) := fun W W' u hu => by
    refine frac_anywhere hu ?_ ?_ W'
    · rw [i1]; exact sq
    · rw [i2]; exact sp
  obtain ⟨x1, y1, p1, rfl, -⟩ := hf.agg
  clear hf i1 i2 i3 hn hd habs hpl lf hpos h0 hp0 hq0 sp sq
  generalize decide (f.num < 0) = s1 at *
  obtain ⟨W, hW⟩ : ∃ W, W = ((w.alloc (.cells #[.bool s1, .int .u64 x1, .int .u64 y1, .pointer p1] 27)).alloc (.cells #[.bool false, .int .u64 0, .int .u64 0, .pointer none] 27)) := ⟨_, rfl⟩
  obtain ⟨tA, tC, fz, hB⟩ := two_new w W _ _ _ hW
  have fa : ∀ j, W.frozen? ⟨w.heap.size, j, none⟩ = false := two_new_open w W _ _ _ hW
  have a0 := tA 0
  have a1 := tA 1
  have a2 := tA 2
  have a3 := tA 3
  have r0 := tC 0
  have r1 := tC 1
  have r2 := tC 2
  have r3 := tC 3
  simp only [List.getElem?_toArray, List.getElem?_cons_zero, List.getElem?_cons_succ] at a0 a1 a2 a3 r0 r1 r2 r3
  have BL : Hid (Blank W (w.heap.size + 1)) := ⟨r0, r1, r2, r3, fun j hj => by rw [tC j]; simp; omega⟩
  clear tA tC
  have HW := hide hW
  have HB := hide hB
  clear hW hB
  go_enter Tryz.func23, Tryz.ntmps23
  go_wp2_with fail
  rw [← unhide HW]
  obtain ⟨ga, hga⟩ : ∃ ga, ga = w.heap.size := ⟨_, rfl⟩
  obtain ⟨gr, hgr⟩ : ∃ gr, gr = w.heap.size + 1 := ⟨_, rfl⟩
  rw [← hga] at a0 a1 a2 a3 fa
  rw [← hgr] at r0 r1 r2 r3 fz BL
  rw [← hgr, ← hga]
  have HGR : Hid (w.heap.size ≤ gr) := by show _ ≤ _; omega
  have HGA : Hid (w.heap.size ≤ ga) := by show _ ≤ _; omega
  have nga : ga ≠ gr := by omega
  clear hga hgr HW
  have grl : gr < W.heap.size := lt_of_cell r0
  have gal : ga < W.heap.size := lt_of_cell a0
  refine (unhide SG _ (unhide HB)).mono ?_
  rintro e w1 ⟨rfl, hb1⟩
  have uf : ∀ j, w1.frozen? ⟨gr, j, none⟩ = false := fun j => (hb1.frozen (p := ⟨gr, j, none⟩) grl (by simp)).trans (fz j)
  have ua : ∀ j, w1.frozen? ⟨ga, j, none⟩ = false := fun j => (hb1.frozen (p := ⟨ga, j, none⟩) gal (by simp)).trans (fa j)
  have m0 := hb1.cell_some a0 (by simp)
  have m1 := hb1.cell_some a1 (by simp)
  have m2 := hb1.cell_some a2 (by simp)
  have m3 := hb1.cell_some a3 (by simp)
  have u0 := hb1.cell_some r0 (by simp)
  have u1 := hb1.cell_some r1 (by simp)
  have u2 := hb1.cell_some r2 (by simp)
  have u3 := hb1.cell_some r3 (by simp)
  have HB1 : Hid (But [] w w1) := (unhide HB).trans' hb1
  have BL1 : Hid (Blank w1 gr) := (unhide BL).but hb1
  clear hb1 a0 a1 a2 a3 r0 r1 r2 r3 fz fa grl gal BL
  go_wp2_with fail
  refine (unhide TU _ (unhide HB1)).mono ?_
  rintro e w2 ⟨v2, rfl, hf2, hb2⟩
  have HF2 := hide (fun W' => unhide ANY _ W' _ hf2)
  obtain ⟨x2, y2, p2, rfl, -⟩ := hf2.agg
  clear hf2 ANY
  rw [hs3] at HF2 ⊢
  have gal : ga < w1.heap.size := lt_of_cell m0
  have grl : gr < w1.heap.size := lt_of_cell u0
  have va : ∀ j, w2.frozen? ⟨ga, j, none⟩ = false := fun j => (hb2.frozen (p := ⟨ga, j, none⟩) gal (by simp)).trans (ua j)
  have vr : ∀ j, w2.frozen? ⟨gr, j, none⟩ = false := fun j => (hb2.frozen (p := ⟨gr, j, none⟩) grl (by simp)).trans (uf j)
  have n0 := hb2.cell_some m0 (by simp)
  have n1 := hb2.cell_some m1 (by simp)
  have n2 := hb2.cell_some m2 (by simp)
  have n3 := hb2.cell_some m3 (by simp)
  have r0 := hb2.cell_some u0 (by simp)
  have r1 := hb2.cell_some u1 (by simp)
  have r2 := hb2.cell_some u2 (by simp)
  have r3 := hb2.cell_some u3 (by simp)
  have HB2 : Hid (But [] w w2) := (unhide HB1).trans' hb2
  have BL2 : Hid (Blank w2 gr) := (unhide BL1).but hb2
  clear hb2 m0 m1 m2 m3 u0 u1 u2 u3 uf ua gal grl BL1 HB1
  go_wp2_with fail
  obtain ⟨W3, hW3⟩ : ∃ W3, W3 = ((((w2.setCell ⟨ga, 0, none⟩ (.bool false)).setCell ⟨ga, 1, none⟩ (.int .u64 x2)).setCell ⟨ga, 2, none⟩ (.int .u64 y2)).setCell ⟨ga, 3, none⟩ (.pointer p2)) := ⟨_, rfl⟩
  have hBg : But [ga] w2 W3 := by rw [hW3]; exact (((((But.refl [ga] w2).setCell (.inl (by simp)) _).setCell (.inl (by simp)) _).setCell (.inl (by simp)) _).setCell (.inl (by simp)) _)
  have a0 : W3.cell? ⟨ga, 0, none⟩ = some (.bool false) := by rw [hW3]; simp [go_sem, n0]
  have ngr : gr ∉ [ga] := by simpa using (Ne.symm nga)
  have s0 := hBg.cell_some r0 ngr
  have s1' := hBg.cell_some r1 ngr
  have s2 := hBg.cell_some r2 ngr
  have s3 := hBg.cell_some r3 ngr
  have grl2 : gr < w2.heap.size := lt_of_cell r0
  have sf : ∀ j, W3.frozen? ⟨gr, j, none⟩ = false := fun j => (hBg.frozen (p := ⟨gr, j, none⟩) grl2 ngr).trans (vr j)
  have HB3 : Hid (But [] w W3) := by
    show But [] w W3
    rw [hW3]
    exact ((((unhide HB2).setCell (p := ⟨ga, 0, none⟩) (.inr (unhide HGA)) _).setCell (p := ⟨ga, 1, none⟩) (.inr (unhide HGA)) _).setCell (p := ⟨ga, 2, none⟩) (.inr (unhide HGA)) _).setCell (p := ⟨ga, 3, none⟩) (.inr (unhide HGA)) _
  have BL3 : Hid (Blank W3 gr) := by
    obtain ⟨z0, z1, z2, z3, z4⟩ := unhide BL2
    exact ⟨hBg.cell_some z0 ngr, hBg.cell_some z1 ngr, hBg.cell_some z2 ngr, hBg.cell_some z3 ngr, fun j hj => (hBg.cell (p := ⟨gr, j, none⟩) grl2 ngr).trans (z4 j hj)⟩
  rw [← hW3]
  clear hW3 hBg n0 n1 n2 n3 r0 r1 r2 r3 vr va ngr grl2 BL2 HB2
  refine (unhide NU _ _ (unhide HF2 _)).mono ?_
  rintro e w4 ⟨v1, v2, rfl, hs1, hs2, hb4⟩
  have HS1 := hide hs1
  have HS2 := hide hs2
  have grl3 : gr < W3.heap.size := lt_of_cell s0
  have uf : ∀ j, w4.frozen? ⟨gr, j, none⟩ = false := fun j => (hb4.frozen (p := ⟨gr, j, none⟩) grl3 (by simp)).trans (sf j)
  have c0 := hb4.cell_some a0 (by simp)
  have u0 := hb4.cell_some s0 (by simp)
  have u1 := hb4.cell_some s1' (by simp)
  have u2 := hb4.cell_some s2 (by simp)
  have u3 := hb4.cell_some s3 (by simp)
  have HB4 : Hid (But [] w w4) := (unhide HB3).trans' hb4
  have BL4 : Hid (Blank w4 gr) := (unhide BL3).but hb4
  have grl : gr < w4.heap.size := lt_of_cell u0
  clear hs1 hs2 hb4 a0 s0 s1' s2 s3 sf grl3 BL3 HB3 HF2 NU SG TU
  go_wp2_with fail
  refine (unhide P1 _ _ (unhide HS1)).mono ?_
  rintro e wz1 ⟨vp1, rfl, hsp1, hz1⟩
  have HT1 := hide hsp1
  have HS2' := hide ((unhide HS2).but_nil hz1)
  have c1 := hz1.cell_some c0 (by simp)
  clear hsp1
  go_wp2_with fail
  refine (unhide P2 _ _ (unhide HS2')).mono ?_
  rintro e wz2 ⟨vp2, rfl, hsp2, hz2⟩
  have HT2 := hide hsp2
  have HT1' := hide ((unhide HT1).but_nil hz2)
  have c2 := hz2.cell_some c1 (by simp)
  have Bz2 := hz1.trans' hz2
  clear hsp2 hz1 hz2 c1 c0
  go_wp2_with fail
  refine (unhide OL _ _ _ (unhide HT1') (unhide HT2)).mono ?_
  rintro e wz3 ⟨vr, rfl, hvr, hz3⟩
  have Bz3 := Bz2.trans' hz3
  have HVR := hide hvr
  obtain ⟨x8, y8, p8, rfl, -⟩ := hvr.agg
  clear hvr hz3 Bz2
  generalize decide (g.num < 0) = r8 at *
  have q0 := Bz3.cell_some u0 (by simp)
  have q1 := Bz3.cell_some u1 (by simp)
  have q2 := Bz3.cell_some u2 (by simp)
  have q3 := Bz3.cell_some u3 (by simp)
  have qf : ∀ j, wz3.frozen? ⟨gr, j, none⟩ = false := fun j => (Bz3.frozen (p := ⟨gr, j, none⟩) grl (by simp)).trans (uf j)
  go_wp2
  have hBh : But [gr] wz3 ((((wz3.setCell ⟨gr, 0, none⟩ (.bool r8)).setCell ⟨gr, 1, none⟩ (.int .u64 x8)).setCell ⟨gr, 2, none⟩ (.int .u64 y8)).setCell ⟨gr, 3, none⟩ (.pointer p8)) := (((((But.refl [gr] wz3).setCell (.inl (by simp)) _).setCell (.inl (by simp)) _).setCell (.inl (by simp)) _).setCell (.inl (by simp)) _)
  have hBf := (((((unhide HB4).trans' Bz3).setCell (p := ⟨gr, 0, none⟩) (.inr (unhide HGR)) (.bool r8)).setCell (p := ⟨gr, 1, none⟩) (.inr (unhide HGR)) (.int .u64 x8)).setCell (p := ⟨gr, 2, none⟩) (.inr (unhide HGR)) (.int .u64 y8)).setCell (p := ⟨gr, 3, none⟩) (.inr (unhide HGR)) (.pointer p8)
  exact bodyPost_ret (v := .tuple #[.agg #[.bool r8, .int .u64 x8, .int .u64 y8, .pointer p8], .nilIface]) (by simp [results, Tryz.results23, go_sem, q0, q1, q2, q3]) rfl ⟨_, rfl, ((unhide BL4).but Bz3).frac (unhide HVR) hBh, hBf⟩

set_option maxHeartbeats 8000000 in
set_option maxRecDepth 100000 in
theorem fracPow_zero (v : Value) (f : Rat) (w : World) (hf : FracAt w v f) (hpos : 0 < f.num) (lf : Len f 2) :
    Calls Tryz.prog 23 #[v, .int .i64 0] w fun e w' => ∃ v', e = .returned (.tuple #[v', .nilIface]) ∧ FracAt w' v' (1 : Rat) ∧ But [] w w' := by
  have hq0 := den_pos f
  have hp0 : 0 < f.num.natAbs := by omega
  have hs3 : decide (f.num < 0) = false := decide_eq_false (by omega)
  have hone : (wd 18446744073709551616 1).length ≤ 1 := wd_length_le (by omega) _ _ (by omega)
  have NU : Hid (∀ W, But [] w W → Calls Tryz.prog 57 #[v] W fun e w' => ∃ v1 v2, e = .returned (.tuple #[v1, v2]) ∧ Sl .u64 w' v1 (wd 18446744073709551616 f.num.natAbs) ∧ Sl .u64 w' v2 (wd 18446744073709551616 f.den) ∧ But [] W w') := fun W hb => numbers_any v f W (hf.but hb)
  have P1 : Hid (∀ W u, Sl .u64 W u (wd 18446744073709551616 f.num.natAbs) → Calls Tryz.prog 72 #[u, .int .i64 0] W fun e w' => ∃ v', e = .returned v' ∧ Sl .u64 w' v' (wd 18446744073709551616 1) ∧ But [] W w') := fun W u hu => natPow_any u _ 0 W hu hp0 (by omega) (by have := lf.1; rw [Nat.pow_zero]; omega)
  have P2 : Hid (∀ W u, Sl .u64 W u (wd 18446744073709551616 f.den) → Calls Tryz.prog 72 #[u, .int .i64 0] W fun e w' => ∃ v', e = .returned v' ∧ Sl .u64 w' v' (wd 18446744073709551616 1) ∧ But [] W w') := fun W u hu => natPow_any u _ 0 W hu hq0 (by omega) (by have := lf.2; rw [Nat.pow_zero]; omega)
  have OL : Hid (∀ W v1 v2, Sl .u64 W v1 (wd 18446744073709551616 1) → Sl .u64 W v2 (wd 18446744073709551616 1) → Calls Tryz.prog 66 #[.bool false, v1, v2] W fun e w' => ∃ v, e = .returned v ∧ FracAt w' v (1 : Rat) ∧ But [] W w') := fun W v1 v2 h1 h2 => ofLowered_any false v1 v2 1 W h1 h2 rfl (by show (wd 18446744073709551616 1).length < _; omega) (by show (wd 18446744073709551616 1).length < _; omega)
  obtain ⟨x1, y1, p1, rfl, -⟩ := hf.agg
  rw [hs3] at hf NU ⊢
  clear hf lf hpos hp0 hq0 hs3 hone
  obtain ⟨W, hW⟩ : ∃ W, W = ((w.alloc (.cells #[.bool false, .int .u64 x1, .int .u64 y1, .pointer p1] 27)).alloc (.cells #[.bool false, .int .u64 0, .int .u64 0, .pointer none] 27)) := ⟨_, rfl⟩
  obtain ⟨tA, tC, fz, hB⟩ := two_new w W _ _ _ hW
  have fa : ∀ j, W.frozen? ⟨w.heap.size, j, none⟩ = false := two_new_open w W _ _ _ hW
  have a0 := tA 0
  have a1 := tA 1
  have a2 := tA 2
  have a3 := tA 3
  have r0 := tC 0
  have r1 := tC 1
  have r2 := tC 2
  have r3 := tC 3
  simp only [List.getElem?_toArray, List.getElem?_cons_zero, List.getElem?_cons_succ] at a0 a1 a2 a3 r0 r1 r2 r3
  have BL : Hid (Blank W (w.heap.size + 1)) := ⟨r0, r1, r2, r3, fun j hj => by rw [tC j]; simp; omega⟩
  clear tA tC
  have HW := hide hW
  have HB := hide hB
  clear hW hB
  go_enter Tryz.func23, Tryz.ntmps23
  go_wp2_with fail
  rw [← unhide HW]
  obtain ⟨ga, hga⟩ : ∃ ga, ga = w.heap.size := ⟨_, rfl⟩
  obtain ⟨gr, hgr⟩ : ∃ gr, gr = w.heap.size + 1 := ⟨_, rfl⟩
  rw [← hga] at a0 a1 a2 a3 fa
  rw [← hgr] at r0 r1 r2 r3 fz BL
  rw [← hgr, ← hga]
  have HGR : Hid (w.heap.size ≤ gr) := by show _ ≤ _; omega
  have HGA : Hid (w.heap.size ≤ ga) := by show _ ≤ _; omega
  have nga : ga ≠ gr := by omega
  clear hga hgr HW
  refine (unhide NU _ (unhide HB)).mono ?_
  rintro e w4 ⟨v1, v2, rfl, hs1, hs2, hb4⟩
  have HS1 := hide hs1
  have HS2 := hide hs2
  have grl3 : gr < W.heap.size := lt_of_cell r0
  have uf : ∀ j, w4.frozen? ⟨gr, j, none⟩ = false := fun j => (hb4.frozen (p := ⟨gr, j, none⟩) grl3 (by simp)).trans (fz j)
  have c0 := hb4.cell_some a0 (by simp)
  have u0 := hb4.cell_some r0 (by simp)
  have u1 := hb4.cell_some r1 (by simp)
  have u2 := hb4.cell_some r2 (by simp)
  have u3 := hb4.cell_some r3 (by simp)
  have HB4 : Hid (But [] w w4) := (unhide HB).trans' hb4
  have BL4 : Hid (Blank w4 gr) := (unhide BL).but hb4
  have grl : gr < w4.heap.size := lt_of_cell u0
  clear hs1 hs2 hb4 a0 r0 r1 r2 r3 fz fa grl3 BL HB NU
  go_wp2_with fail
  refine (unhide P1 _ _ (unhide HS1)).mono ?_
  rintro e wz1 ⟨vp1, rfl, hsp1, hz1⟩
  have HT1 := hide hsp1
  have HS2' := hide ((unhide HS2).but_nil hz1)
  have c1 := hz1.cell_some c0 (by simp)
  clear hsp1
  go_wp2_with fail
  refine (unhide P2 _ _ (unhide HS2')).mono ?_
  rintro e wz2 ⟨vp2, rfl, hsp2, hz2⟩
  have HT2 := hide hsp2
  have HT1' := hide ((unhide HT1).but_nil hz2)
  have c2 := hz2.cell_some c1 (by simp)
  have Bz2 := hz1.trans' hz2
  clear hsp2 hz1 hz2 c1 c0
  go_wp2_with fail
  refine (unhide OL _ _ _ (unhide HT1') (unhide HT2)).mono ?_
  rintro e wz3 ⟨vr, rfl, hvr, hz3⟩
  have Bz3 := Bz2.trans' hz3
  have HVR := hide hvr
  obtain ⟨x8, y8, p8, rfl, -⟩ := hvr.agg
  clear hvr hz3 Bz2
  generalize decide ((1 : Rat).num < 0) = r8 at *
  have q0 := Bz3.cell_some u0 (by simp)
  have q1 := Bz3.cell_some u1 (by simp)
  have q2 := Bz3.cell_some u2 (by simp)
  have q3 := Bz3.cell_some u3 (by simp)
  have qf : ∀ j, wz3.frozen? ⟨gr, j, none⟩ = false := fun j => (Bz3.frozen (p := ⟨gr, j, none⟩) grl (by simp)).trans (uf j)
  go_wp2
  have hBh : But [gr] wz3 ((((wz3.setCell ⟨gr, 0, none⟩ (.bool r8)).setCell ⟨gr, 1, none⟩ (.int .u64 x8)).setCell ⟨gr, 2, none⟩ (.int .u64 y8)).setCell ⟨gr, 3, none⟩ (.pointer p8)) := (((((But.refl [gr] wz3).setCell (.inl (by simp)) _).setCell (.inl (by simp)) _).setCell (.inl (by simp)) _).setCell (.inl (by simp)) _)
  have hBf := (((((unhide HB4).trans' Bz3).setCell (p := ⟨gr, 0, none⟩) (.inr (unhide HGR)) (.bool r8)).setCell (p := ⟨gr, 1, none⟩) (.inr (unhide HGR)) (.int .u64 x8)).setCell (p := ⟨gr, 2, none⟩) (.inr (unhide HGR)) (.int .u64 y8)).setCell (p := ⟨gr, 3, none⟩) (.inr (unhide HGR)) (.pointer p8)
  exact bodyPost_ret (v := .tuple #[.agg #[.bool r8, .int .u64 x8, .int .u64 y8, .pointer p8], .nilIface]) (by simp [results, Tryz.results23, go_sem, q0, q1, q2, q3]) rfl ⟨_, rfl, ((unhide BL4).but Bz3).frac (unhide HVR) hBh, hBf⟩
end Go.Proofs.YtihiafgogbhjkaaGreatDoor

namespace Go.Proofs.YtihiafgogbhjkaaGreatDoor
open Go.RowKit

/-- a fraction's own text, read again -/
theorem parse_text (t : ByteArray) (f : Rat) (w : World) (ht : t = fracTxt (decide (f.num < 0)) f.num.natAbs f.den) (hN : f.num.natAbs < 18446744073709551616) (hD : f.den < 18446744073709551616) :
    Calls Tryz.prog 43 #[.string t] w fun e w' => ∃ v, e = .returned (.tuple #[v, .nilIface]) ∧ FracAt w' v f ∧ But [] w w' := by
  obtain ⟨d1, d2, d3⟩ := dec_digits f.num.natAbs
  obtain ⟨e1, e2, e3⟩ := dec_digits f.den
  have l1 := dec_upto f.num.natAbs 20 (by omega) (by omega)
  have l2 := dec_upto f.den 20 (by omega) (by omega)
  have hs : f.num = sgn (decide (f.num < 0)) f.num.natAbs := by
    unfold sgn
    by_cases h : f.num < 0
    · rw [if_pos (decide_eq_true h)]; omega
    · rw [if_neg (by simpa using h)]; omega
  have hsg : ∀ s : Bool, ∀ x : ByteArray, (if s then (⟨#[45]⟩ : ByteArray) ++ x else x).data.toList = sg s ++ x.data.toList := fun s x => by
    cases s
    · simp [sg]
    · simp [sg]
  by_cases hq : f.den = 1
  · refine parse_whole t (decide (f.num < 0)) (Lib.decDigits f.num.natAbs) w ?_ d1 d3 (by omega) f ?_
    · rw [ht]
      unfold fracTxt
      rw [if_pos hq, ba_nil, hsg]
    · rw [d2, ← hs, hq]; simp
  · refine parse_line t (decide (f.num < 0)) (Lib.decDigits f.num.natAbs) (Lib.decDigits f.den) w ?_ d1 d3 (by omega) e1 e3 (by omega) (by rw [e2]; exact den_pos f) f ?_
    · rw [ht]
      unfold fracTxt
      rw [if_neg hq, ba_list, hsg, ba_list]
      rfl
    · rw [d2, e2, ← hs]
/-- a decimal's text, read -/
theorem parse_dec (t : ByteArray) (N : Int) (k : Nat) (d : Rat) (w : World) (ht : DecTxt N.natAbs k (decide (N < 0)) t) (hk : k ≤ 18) (hb : N.natAbs < 10 ^ 41) (hd : d.num * ((10 ^ k : Nat) : Int) = N * (d.den : Int)) :
    Calls Tryz.prog 43 #[.string t] w fun e w' => ∃ v, e = .returned (.tuple #[v, .nilIface]) ∧ FracAt w' v d ∧ But [] w w' := by
  have l1 := dec_upto N.natAbs 41 (by omega) hb
  have l2 := (dec_digits N.natAbs).2.2
  have l3 := dpad_length N.natAbs k
  have hv := dpad_val N.natAbs k
  have hdd := dpad_digits N.natAbs k
  have hs : N = sgn (decide (N < 0)) N.natAbs := by
    unfold sgn
    by_cases h : N < 0
    · rw [if_pos (decide_eq_true h)]; omega
    · rw [if_neg (by simpa using h)]; omega
  unfold DecTxt at ht
  generalize dpad N.natAbs k = D at *
  have c1 : Digits (D.take (D.length - k)) := fun x hx => hdd x (List.mem_of_mem_take hx)
  have c2 : Digits (D.drop (D.length - k)) := fun x hx => hdd x (List.mem_of_mem_drop hx)
  have c3 : (D.take (D.length - k)).length = D.length - k := by rw [List.length_take]; omega
  have c4 : (D.drop (D.length - k)).length = k := by rw [List.length_drop]; omega
  have c5 : D.take (D.length - k) ++ D.drop (D.length - k) = D := List.take_append_drop _ _
  by_cases h0 : k = 0
  · subst h0
    rw [if_pos rfl, List.append_nil, Nat.sub_zero, List.take_length] at ht
    refine parse_whole t (decide (N < 0)) D w ht hdd (by omega) (by omega) d ?_
    rw [hv, ← hs]
    simpa using hd
  · rw [if_neg h0] at ht
    refine parse_point t (decide (N < 0)) _ _ w ht c1 (by omega) c2 (by omega) (by omega) (by omega) d ?_
    rw [c4, c5, hv, ← hs]
    exact hd
end Go.Proofs.YtihiafgogbhjkaaGreatDoor
