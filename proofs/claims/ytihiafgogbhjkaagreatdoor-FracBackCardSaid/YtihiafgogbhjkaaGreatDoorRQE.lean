/- The law FracBack: whatever the pair and the places, the Go text answers true. -/
import Derived.Test.YtihiafgogbhjkaaGreatDoorRQA
namespace Go.Proofs.YtihiafgogbhjkaaGreatDoor
open Go.RowKit

/-- two values of one fraction of words are one -/
theorem words_same {W W' : World} {v v' : Value} {f : Rat} (h : FracAt W v f) (h' : FracAt W' v' f) (hp : f.num.natAbs < 18446744073709551616) (hq : f.den < 18446744073709551616) : v = v' := by
  rcases h with ⟨-, -, rfl⟩ | ⟨h, -⟩
  · rcases h' with ⟨-, -, rfl⟩ | ⟨h', -⟩
    · rfl
    · omega
  · omega
theorem ten_num (k : Nat) : (mkRat 1 (10 ^ k)).num = 1 ∧ (mkRat 1 (10 ^ k)).den = 10 ^ k :=
  rat_of_coprime 1 (10 ^ k) (Nat.ne_of_gt (Nat.pow_pos (by omega))) (by simp) _ (parts 1 (10 ^ k) (Nat.ne_of_gt (Nat.pow_pos (by omega))))
/-- the power of ten that FracBack compares with -/
theorem ten_pow (k : Nat) (hk : k ≤ 18) (v : Value) (W : World) (hv : FracAt W v ((10 : Int) : Rat)) :
    Calls Tryz.prog 23 #[v, .int .i64 (-(k : Int))] W fun e w' => ∃ v', e = .returned (.tuple #[v', .nilIface]) ∧ FracAt w' v' (mkRat 1 (10 ^ k)) ∧ But [] W w' := by
  obtain ⟨i1, i2⟩ := int_num 10
  have hl := (int_len 10 (by omega) (by omega)).mono (n := 2) (by omega)
  rcases Nat.eq_zero_or_pos k with h0 | h0
  · subst h0
    have h1 : mkRat 1 (10 ^ 0) = 1 := by decide +kernel
    rw [h1]
    exact fracPow_zero v _ W hv (by rw [i1]; omega) hl
  · obtain ⟨t1, t2⟩ := ten_num k
    refine fracPow_neg v _ _ k W hv (by rw [i1]; omega) h0 (by omega) hl (by rw [i1]; omega) (by rw [i2]; omega) ?_ ?_
    · rw [t1, i2, Nat.one_pow]; rfl
    · rw [t2, i1]; rfl

theorem parts_len (N : Int) (P : Nat) (hP : 0 < P) (d : Rat) (h : d.num * (P : Int) = N * (d.den : Int)) : d.den ≤ P ∧ d.num.natAbs ≤ N.natAbs := by
  have h1 := congrArg Int.natAbs h
  rw [Int.natAbs_mul, Int.natAbs_mul, Int.natAbs_natCast, Int.natAbs_natCast] at h1
  have h2 : d.den ∣ d.num.natAbs * P := ⟨N.natAbs, by rw [h1, Nat.mul_comm]⟩
  have h3 : d.den ∣ P := (Nat.Coprime.symm d.reduced).dvd_of_dvd_mul_left h2
  have h4 := Nat.le_of_dvd hP h3
  refine ⟨h4, Nat.le_of_mul_le_mul_right (c := P) ?_ hP⟩
  rw [h1]
  exact Nat.mul_le_mul_left _ h4

/-- a fraction turned about, written over the one that it was made of -/
theorem neg_over {w0 w W : World} {g : Nat} {s : Bool} {x y : Int} {pp : Option Addr} {o : Rat} {v : Value} (_ho : FracAt w0 (.agg #[.bool s, .int .u64 x, .int .u64 y, .pointer pp]) o) (c0 : w.cell? ⟨g, 0, none⟩ = some (.bool s)) (_c1 : w.cell? ⟨g, 1, none⟩ = some (.int .u64 x)) (_c2 : w.cell? ⟨g, 2, none⟩ = some (.int .u64 y)) (_c3 : w.cell? ⟨g, 3, none⟩ = some (.pointer pp)) (_c4 : ∀ j, 4 ≤ j → w.cell? ⟨g, j, none⟩ = none) (hn : FracAt w v (-o)) (hb : But [g] w W) : FracAt W v (-o) :=
  hn.over c0 hb

set_option maxHeartbeats 8000000 in
set_option maxRecDepth 100000 in
theorem fracBack_any (a1 a2 b : Int) (ha1 : -9223372036854775808 ≤ a1 ∧ a1 < 9223372036854775808) (ha2 : -9223372036854775808 ≤ a2 ∧ a2 < 9223372036854775808) (hb : -9223372036854775808 ≤ b ∧ b < 9223372036854775808) (w : World) (htab : Lib.TabIs Tryz.prog w "internal/strconv.uint64pow10" .u64 Lib.pow10Tab) :
    Calls Tryz.prog 6 #[.agg #[.int .i64 a1, .int .i64 a2], .int .i64 b] w fun e w' => e = .returned (.bool true) ∧ But [] w w' := by
  obtain ⟨f, r, p, q, lf, -, FF, CF⟩ := plainF_any a1 a2 ha1.1 ha1.2 ha2.1 ha2.2
  have hp : f.num.natAbs < 18446744073709551616 := by have := lt_of_wd_length (B := 18446744073709551616) (by omega) _ 1 lf.1; omega
  have hq : f.den < 18446744073709551616 := by have := lt_of_wd_length (B := 18446744073709551616) (by omega) _ 1 lf.2; omega
  have hq0 := den_pos f
  obtain ⟨k, hk⟩ : ∃ k : Nat, k = ((if b < 0 then b + 18446744073709551616 else b) % 19).toNat := ⟨_, rfl⟩
  have hk18 : k ≤ 18 := by omega
  have PK := hide (fun W => pick_any b hb.1 hb.2 W)
  rw [← hk] at PK
  have hP0 : 0 < 10 ^ k := Nat.pow_pos (by omega)
  have hP1 : 10 ^ k ≤ 1000000000000000000 := Nat.pow_le_pow_right (by omega) hk18 (n := 10)
  obtain ⟨t, ht⟩ : ∃ t, t = fracTxt (decide (f.num < 0)) f.num.natAbs f.den := ⟨_, rfl⟩
  have c608 := below_pow f.num.natAbs 20 608 (by omega) (by omega)
  have d608 := below_pow f.den 20 608 (by omega) (by omega)
  have TX := hide (fun W (hB : But [] w W) => fracText_at (.agg #[.bool r, .int .u64 p, .int .u64 q, .pointer none]) f W (FF W) c608 d608 (TabIs.but htab hB) t ht)
  have P1 : Hid (∀ W, Calls Tryz.prog 43 #[.string t] W fun e w' => e = .returned (.tuple #[.agg #[.bool r, .int .u64 p, .int .u64 q, .pointer none], .nilIface]) ∧ But [] W w') := fun W =>
    (parse_text t f W ht hp hq).mono fun e w' ⟨v, he, hv, hB⟩ => ⟨by rw [he, words_same hv (FF w') hp hq], hB⟩
  have HA := hide (fun W (hB : But [] w W) => half_any W (TabIs.but htab hB))
  have LK := hide (fun W (hB : But [] w W) => like_eq (.agg #[.bool r, .int .u64 p, .int .u64 q, .pointer none]) (.agg #[.bool r, .int .u64 p, .int .u64 q, .pointer none]) f W (FF W) (FF W) (lf.mono (by omega)) (TabIs.but htab hB))
  obtain ⟨N, hN⟩ : ∃ N, N = nearZ (f * (((10 ^ k : Nat) : Int) : Rat)) := ⟨_, rfl⟩
  have lP := int_len ((10 ^ k : Nat) : Int) (by generalize 10 ^ k = x at *; omega) (by generalize 10 ^ k = x at *; omega)
  have lg := len_mul lf lP 2 (by omega)
  have hNb : N.natAbs < 10 ^ 41 := by
    rw [hN]
    have hm := cross_mul f (((10 ^ k : Nat) : Int) : Rat)
    obtain ⟨i1, i2⟩ := int_num ((10 ^ k : Nat) : Int)
    rw [i1, i2, Nat.mul_one] at hm
    have h1 := congrArg Int.natAbs hm
    rw [Int.natAbs_mul, Int.natAbs_mul, Int.natAbs_mul, Int.natAbs_natCast, Int.natAbs_natCast, Int.natAbs_natCast] at h1
    have h2 : (f * (((10 ^ k : Nat) : Int) : Rat)).num.natAbs ≤ (18446744073709551616 * 1000000000000000000) * (f * (((10 ^ k : Nat) : Int) : Rat)).den := by
      refine Nat.le_trans (Nat.le_mul_of_pos_right _ hq0) ?_
      rw [h1]
      exact Nat.mul_le_mul_right _ (Nat.mul_le_mul (by omega) hP1)
    have h3 := near_bound _ _ (by omega) h2
    omega
  have hNb2 := below_pow _ 41 42 hNb (by omega)
  have DC := hide (fun W (hB : But [] w W) => decimal_any (.agg #[.bool r, .int .u64 p, .int .u64 q, .pointer none]) f k N W (FF W) hk18 (lf.mono (by omega)) (lg.mono (by omega)) (by rw [hN]; exact near_whole _) hNb2 (TabIs.but htab hB))
  obtain ⟨d, hd⟩ : ∃ d, d = mkRat N (10 ^ k) := ⟨_, rfl⟩
  have hdN : d.num * ((10 ^ k : Nat) : Int) = N * (d.den : Int) := by rw [hd]; exact parts N (10 ^ k) (by omega)
  have P2 := hide (fun (u : ByteArray) (hu : DecTxt N.natAbs k (decide (N < 0)) u) W => parse_dec u N k d W hu hk18 hNb hdN)
  obtain ⟨xb, xp, TF, TC⟩ := whole_at 10 (by omega) (by omega) w
  have WH := hide TC
  obtain ⟨t1, t2⟩ := ten_num k
  obtain ⟨te, hte⟩ : ∃ te, te = mkRat 1 (10 ^ k) := ⟨_, rfl⟩
  have PW := hide (fun W => ten_pow k hk18 _ W (TF W))
  rw [← hte] at t1 t2 PW
  obtain ⟨pl1, pl2⟩ := parts_len N (10 ^ k) hP0 d hdN
  have ld : Len d 3 := len_of (m := 3) (n := 1) (Nat.lt_of_le_of_lt pl2 (Nat.lt_trans hNb (by decide))) (by generalize 10 ^ k = x at *; omega) 3 (Nat.le_refl _) (by omega)
  have lo := len_sub ld lf 5 (by omega)
  have lt : Len te 1 := len_of (m := 1) (n := 1) (by rw [t1]; decide) (by rw [t2]; generalize 10 ^ k = x at *; omega) 1 (Nat.le_refl _) (Nat.le_refl _)
  obtain ⟨dn1, dn2⟩ := dec_near f d (10 ^ k) hP0 (by rw [← hN]; exact hdN)
  have SB : Hid (∀ W (v : Value), FracAt W v d → Calls Tryz.prog 17 #[v, .agg #[.bool r, .int .u64 p, .int .u64 q, .pointer none]] W fun e w' => ∃ v', e = .returned v' ∧ FracAt w' v' (d - f) ∧ But [] W w') := fun W v hv => fracSub_any v _ d f W hv (FF W) (ld.mono (by omega)) (lf.mono (by omega))
  obtain ⟨o, ho⟩ : ∃ o, o = d - f := ⟨_, rfl⟩
  rw [← ho] at lo dn1 dn2 SB
  have SG := hide (fun W (v : Value) (hv : FracAt W v o) => fracSign_any v o W hv)
  have NG := hide (fun W (v : Value) (hv : FracAt W v o) => fracNeg_any v o W hv)
  have AD : Hid (∀ (x : Rat), Len x 5 → ∀ W (v : Value), FracAt W v x → Calls Tryz.prog 15 #[v, v] W fun e w' => ∃ v', e = .returned v' ∧ FracAt w' v' (x + x) ∧ But [] W w') := fun x lx W v hv => fracAdd_any v v x x W hv hv (lx.mono (by omega)) (lx.mono (by omega))
  have CM : Hid (∀ (x : Rat), Len x 5 → ∀ W (v u : Value), FracAt W v (x + x) → FracAt W u te → Calls Tryz.prog 27 #[v, u] W fun e w' => e = .returned (.int .i64 (cmpZ ((x + x).num * (te.den : Int)) (te.num * ((x + x).den : Int)))) ∧ But [] W w') := fun x lx W v u hv hu => fracCmp_any v u _ _ W hv hu ((len_add lx lx 11 (by omega)).mono (by omega)) (lt.mono (by omega)) _ rfl
  have LO : Hid (Len o 5 ∧ Len (-o) 5) := ⟨lo, len_neg lo⟩
  have R1 : Hid (¬ o.num < 0 → cmpZ ((o + o).num * (te.den : Int)) (te.num * ((o + o).den : Int)) ≤ 0) := fun _ => twice_cmp o te (10 ^ k) dn1 t1 t2
  have R2 : Hid (cmpZ ((-o + -o).num * (te.den : Int)) (te.num * ((-o + -o).den : Int)) ≤ 0) := twice_cmp (-o) te (10 ^ k) (by simp only [Rat.neg_num, Rat.neg_den]; grind) t1 t2
  have TW : Hid (te.num.natAbs < 18446744073709551616 ∧ te.den < 18446744073709551616) := ⟨by rw [t1]; decide, by rw [t2]; generalize 10 ^ k = x at *; omega⟩
  have FA := hide FF
  have CA := hide CF
  clear lf hp hq hq0 hk hP0 hP1 ht c608 d608 hN lP lg hNb hNb2 hd hdN TF TC t1 t2 hte pl1 pl2 ld lo lt dn1 dn2 ho FF CF htab
  go_enter Tryz.func6, Tryz.ntmps6
  go_wp2_with fail
  refine (unhide CA _).mono ?_
  rintro e w1 ⟨rfl, hb1⟩
  have HB : Hid (But [] w w1) := ((But.refl _ _).alloc _).trans' hb1
  clear hb1
  obtain ⟨V1, hV1⟩ : ∃ V1, V1 = w1.alloc (.cells #[.bool r, .int .u64 p, .int .u64 q, .pointer none] 27) := ⟨_, rfl⟩
  have f0 : V1.cell? ⟨w1.heap.size, 0, none⟩ = some (.bool r) := by rw [hV1]; simp
  have f1 : V1.cell? ⟨w1.heap.size, 1, none⟩ = some (.int .u64 p) := by rw [hV1]; simp
  have f2 : V1.cell? ⟨w1.heap.size, 2, none⟩ = some (.int .u64 q) := by rw [hV1]; simp
  have f3 : V1.cell? ⟨w1.heap.size, 3, none⟩ = some (.pointer none) := by rw [hV1]; simp
  have bV1 : But [] w1 V1 := by rw [hV1]; exact (But.refl _ _).alloc _
  replace HB : Hid (But [] w V1) := (unhide HB).trans' bV1
  clear bV1
  go_wp2_with fail
  rw [← hV1]
  clear hV1
  generalize w1.heap.size = gf at *
  refine (unhide TX _ (unhide HB)).mono ?_
  rintro e w2 ⟨rfl, hb2⟩
  replace f0 := hb2.cell_some f0 (by simp)
  replace f1 := hb2.cell_some f1 (by simp)
  replace f2 := hb2.cell_some f2 (by simp)
  replace f3 := hb2.cell_some f3 (by simp)
  replace HB : Hid (But [] w w2) := (unhide HB).trans' hb2
  clear hb2
  go_wp2_with fail
  refine (unhide P1 _).mono ?_
  rintro e w3 ⟨rfl, hb3⟩
  replace f0 := hb3.cell_some f0 (by simp)
  replace f1 := hb3.cell_some f1 (by simp)
  replace f2 := hb3.cell_some f2 (by simp)
  replace f3 := hb3.cell_some f3 (by simp)
  replace HB : Hid (But [] w w3) := (unhide HB).trans' hb3
  clear hb3
  obtain ⟨V3, hV3⟩ : ∃ V3, V3 = w3.alloc (.cells #[.bool r, .int .u64 p, .int .u64 q, .pointer none] 27) := ⟨_, rfl⟩
  have g0 : V3.cell? ⟨w3.heap.size, 0, none⟩ = some (.bool r) := by rw [hV3]; simp
  have g1 : V3.cell? ⟨w3.heap.size, 1, none⟩ = some (.int .u64 p) := by rw [hV3]; simp
  have g2 : V3.cell? ⟨w3.heap.size, 2, none⟩ = some (.int .u64 q) := by rw [hV3]; simp
  have g3 : V3.cell? ⟨w3.heap.size, 3, none⟩ = some (.pointer none) := by rw [hV3]; simp
  have bV3 : But [] w3 V3 := by rw [hV3]; exact (But.refl _ _).alloc _
  have f0' := bV3.cell_some f0 (by simp)
  have f1' := bV3.cell_some f1 (by simp)
  have f2' := bV3.cell_some f2 (by simp)
  have f3' := bV3.cell_some f3 (by simp)
  replace HB : Hid (But [] w V3) := (unhide HB).trans' bV3
  clear bV3
  go_wp2_with fail
  rw [← hV3]
  clear hV3 f0 f1 f2 f3
  generalize w3.heap.size = gg at *
  refine (unhide HA _ (unhide HB)).mono ?_
  rintro e w4 ⟨rfl, hb4⟩
  replace f0' := hb4.cell_some f0' (by simp)
  replace f1' := hb4.cell_some f1' (by simp)
  replace f2' := hb4.cell_some f2' (by simp)
  replace f3' := hb4.cell_some f3' (by simp)
  replace g0 := hb4.cell_some g0 (by simp)
  replace g1 := hb4.cell_some g1 (by simp)
  replace g2 := hb4.cell_some g2 (by simp)
  replace g3 := hb4.cell_some g3 (by simp)
  replace HB : Hid (But [] w w4) := (unhide HB).trans' hb4
  clear hb4
  go_wp2_with fail
  refine (unhide LK _ (unhide HB)).mono ?_
  rintro e w5 ⟨rfl, hb5⟩
  replace f0' := hb5.cell_some f0' (by simp)
  replace f1' := hb5.cell_some f1' (by simp)
  replace f2' := hb5.cell_some f2' (by simp)
  replace f3' := hb5.cell_some f3' (by simp)
  replace HB : Hid (But [] w w5) := (unhide HB).trans' hb5
  clear hb5 g0 g1 g2 g3
  go_wp2_with fail
  refine (unhide PK _).mono ?_
  rintro e w6 ⟨rfl, hb6⟩
  replace f0' := hb6.cell_some f0' (by simp)
  replace f1' := hb6.cell_some f1' (by simp)
  replace f2' := hb6.cell_some f2' (by simp)
  replace f3' := hb6.cell_some f3' (by simp)
  replace HB : Hid (But [] w w6) := (unhide HB).trans' hb6
  clear hb6
  go_wp2_with fail
  refine (unhide DC _ (unhide HB)).mono ?_
  rintro e w7 ⟨u, rfl, hu, hb7⟩
  have HU := hide hu
  replace f0' := hb7.cell_some f0' (by simp)
  replace f1' := hb7.cell_some f1' (by simp)
  replace f2' := hb7.cell_some f2' (by simp)
  replace f3' := hb7.cell_some f3' (by simp)
  replace HB : Hid (But [] w w7) := (unhide HB).trans' hb7
  clear hb7 hu
  go_wp2_with fail
  refine (unhide P2 _ (unhide HU) _).mono ?_
  rintro e w8 ⟨v8, rfl, hv8, hb8⟩
  replace f0' := hb8.cell_some f0' (by simp)
  replace f1' := hb8.cell_some f1' (by simp)
  replace f2' := hb8.cell_some f2' (by simp)
  replace f3' := hb8.cell_some f3' (by simp)
  replace HB : Hid (But [] w w8) := (unhide HB).trans' hb8
  clear hb8 HU
  have HD := hide hv8
  obtain ⟨dx, dy, dp, rfl, -⟩ := hv8.agg
  clear hv8
  generalize decide (d.num < 0) = ds at *
  obtain ⟨V8, hV8⟩ : ∃ V8, V8 = w8.alloc (.cells #[.bool ds, .int .u64 dx, .int .u64 dy, .pointer dp] 27) := ⟨_, rfl⟩
  have d0 : V8.cell? ⟨w8.heap.size, 0, none⟩ = some (.bool ds) := by rw [hV8]; simp
  have d1 : V8.cell? ⟨w8.heap.size, 1, none⟩ = some (.int .u64 dx) := by rw [hV8]; simp
  have d2 : V8.cell? ⟨w8.heap.size, 2, none⟩ = some (.int .u64 dy) := by rw [hV8]; simp
  have d3 : V8.cell? ⟨w8.heap.size, 3, none⟩ = some (.pointer dp) := by rw [hV8]; simp
  have bV8 : But [] w8 V8 := by rw [hV8]; exact (But.refl _ _).alloc _
  have e0 := bV8.cell_some f0' (by simp)
  have e1 := bV8.cell_some f1' (by simp)
  have e2 := bV8.cell_some f2' (by simp)
  have e3 := bV8.cell_some f3' (by simp)
  replace HD := hide ((unhide HD).but bV8)
  replace HB : Hid (But [] w V8) := (unhide HB).trans' bV8
  clear bV8
  go_wp2_with fail
  rw [← hV8]
  clear hV8 f0' f1' f2' f3'
  generalize w8.heap.size = gd at *
  refine (unhide WH _).mono ?_
  rintro e w9 ⟨rfl, hb9⟩
  replace e0 := hb9.cell_some e0 (by simp)
  replace e1 := hb9.cell_some e1 (by simp)
  replace e2 := hb9.cell_some e2 (by simp)
  replace e3 := hb9.cell_some e3 (by simp)
  replace d0 := hb9.cell_some d0 (by simp)
  replace d1 := hb9.cell_some d1 (by simp)
  replace d2 := hb9.cell_some d2 (by simp)
  replace d3 := hb9.cell_some d3 (by simp)
  replace HD := hide ((unhide HD).but hb9)
  replace HB : Hid (But [] w w9) := (unhide HB).trans' hb9
  clear hb9
  have en : IntKind.i64.wrap (-(k : Int)) = -(k : Int) := by rw [IntKind.wrap_i64]; omega
  go_wp2_with fail
  refine (unhide PW _).mono ?_
  rintro e w10 ⟨v10, rfl, hv10, hb10⟩
  replace e0 := hb10.cell_some e0 (by simp)
  replace e1 := hb10.cell_some e1 (by simp)
  replace e2 := hb10.cell_some e2 (by simp)
  replace e3 := hb10.cell_some e3 (by simp)
  replace d0 := hb10.cell_some d0 (by simp)
  replace d1 := hb10.cell_some d1 (by simp)
  replace d2 := hb10.cell_some d2 (by simp)
  replace d3 := hb10.cell_some d3 (by simp)
  replace HD := hide ((unhide HD).but hb10)
  replace HB : Hid (But [] w w10) := (unhide HB).trans' hb10
  clear hb10
  have HT := hide hv10
  obtain ⟨tx, ty, tp, rfl, -⟩ := hv10.agg
  clear hv10
  generalize decide (te.num < 0) = ts at *
  have hgd : gd < w10.heap.size := lt_of_cell d0
  have hgf : gf < w10.heap.size := lt_of_cell e0
  obtain ⟨V10, hV10⟩ : ∃ V10, V10 = w10.alloc (.cells #[.bool ts, .int .u64 tx, .int .u64 ty, .pointer tp] 27) := ⟨_, rfl⟩
  have t0 : V10.cell? ⟨w10.heap.size, 0, none⟩ = some (.bool ts) := by rw [hV10]; simp
  have t1 : V10.cell? ⟨w10.heap.size, 1, none⟩ = some (.int .u64 tx) := by rw [hV10]; simp
  have t2 : V10.cell? ⟨w10.heap.size, 2, none⟩ = some (.int .u64 ty) := by rw [hV10]; simp
  have t3 : V10.cell? ⟨w10.heap.size, 3, none⟩ = some (.pointer tp) := by rw [hV10]; simp
  have bV10 : But [] w10 V10 := by rw [hV10]; exact (But.refl _ _).alloc _
  have e0' := bV10.cell_some e0 (by simp)
  have d0' := bV10.cell_some d0 (by simp)
  have e1' := bV10.cell_some e1 (by simp)
  have d1' := bV10.cell_some d1 (by simp)
  have e2' := bV10.cell_some e2 (by simp)
  have d2' := bV10.cell_some d2 (by simp)
  have e3' := bV10.cell_some e3 (by simp)
  have d3' := bV10.cell_some d3 (by simp)
  replace HD := hide ((unhide HD).but bV10)
  replace HT := hide ((unhide HT).but bV10)
  replace HB : Hid (But [] w V10) := (unhide HB).trans' bV10
  clear bV10
  go_wp2_with fail
  rw [← hV10]
  clear hV10 hgd hgf e0 e1 e2 e3 d0 d1 d2 d3
  generalize w10.heap.size = gt at *
  refine (unhide SB _ _ (unhide HD)).mono ?_
  rintro e w11 ⟨v11, rfl, hv11, hb11⟩
  replace t0 := hb11.cell_some t0 (by simp)
  replace t1 := hb11.cell_some t1 (by simp)
  replace t2 := hb11.cell_some t2 (by simp)
  replace t3 := hb11.cell_some t3 (by simp)
  replace HT := hide ((unhide HT).but hb11)
  replace HB : Hid (But [] w w11) := (unhide HB).trans' hb11
  clear hb11 e0' e1' e2' e3' d0' d1' d2' d3' HD
  have HO := hide hv11
  obtain ⟨ox, oy, op, rfl, -⟩ := hv11.agg
  clear hv11
  obtain ⟨os, hos⟩ : ∃ os, os = decide (o.num < 0) := ⟨_, rfl⟩
  rw [← hos] at HO ⊢
  clear hos
  obtain ⟨V11, hV11⟩ : ∃ V11, V11 = w11.alloc (.cells #[.bool os, .int .u64 ox, .int .u64 oy, .pointer op] 27) := ⟨_, rfl⟩
  have o0 : V11.cell? ⟨w11.heap.size, 0, none⟩ = some (.bool os) := by rw [hV11]; simp
  have o1 : V11.cell? ⟨w11.heap.size, 1, none⟩ = some (.int .u64 ox) := by rw [hV11]; simp
  have o2 : V11.cell? ⟨w11.heap.size, 2, none⟩ = some (.int .u64 oy) := by rw [hV11]; simp
  have o3 : V11.cell? ⟨w11.heap.size, 3, none⟩ = some (.pointer op) := by rw [hV11]; simp
  have o4 : ∀ j, 4 ≤ j → V11.cell? ⟨w11.heap.size, j, none⟩ = none := fun j hj => by rw [hV11]; simp; omega
  have of : ∀ j, V11.frozen? ⟨w11.heap.size, j, none⟩ = false := fun j => by rw [hV11]; simp
  have bV11 : But [] w11 V11 := by rw [hV11]; exact (But.refl _ _).alloc _
  have hlo : w.heap.size ≤ w11.heap.size := (unhide HB).size
  have hlt : gt < w11.heap.size := lt_of_cell t0
  have t0' := bV11.cell_some t0 (by simp)
  have t1' := bV11.cell_some t1 (by simp)
  have t2' := bV11.cell_some t2 (by simp)
  have t3' := bV11.cell_some t3 (by simp)
  replace HO := hide ((unhide HO).but bV11)
  replace HT := hide ((unhide HT).but bV11)
  replace HB : Hid (But [] w V11) := (unhide HB).trans' bV11
  clear bV11
  go_wp2_with fail
  rw [← hV11]
  clear hV11 t0 t1 t2 t3
  generalize w11.heap.size = go at *
  refine (unhide SG _ _ (unhide HO)).mono ?_
  rintro e w12 ⟨rfl, hb12⟩
  have hgo : go < V11.heap.size := lt_of_cell o0
  replace of : ∀ j, w12.frozen? ⟨go, j, none⟩ = false := fun j => (hb12.frozen (p := ⟨go, j, none⟩) hgo (by simp)).trans (of j)
  have O4 : Hid (∀ j, 4 ≤ j → w12.cell? ⟨go, j, none⟩ = none) := fun j hj => (hb12.cell (p := ⟨go, j, none⟩) hgo (by simp)).trans (o4 j hj)
  replace o0 := hb12.cell_some o0 (by simp)
  replace o1 := hb12.cell_some o1 (by simp)
  replace o2 := hb12.cell_some o2 (by simp)
  replace o3 := hb12.cell_some o3 (by simp)
  replace t0' := hb12.cell_some t0' (by simp)
  replace t1' := hb12.cell_some t1' (by simp)
  replace t2' := hb12.cell_some t2' (by simp)
  replace t3' := hb12.cell_some t3' (by simp)
  replace HO := hide ((unhide HO).but hb12)
  replace HT := hide ((unhide HT).but hb12)
  replace HB : Hid (But [] w w12) := (unhide HB).trans' hb12
  clear hb12 o4 hgo
  by_cases hneg : o.num < 0
  · have hsg : o.num.sign = -1 := Int.sign_eq_neg_one_of_neg hneg
    rw [hsg]
    go_wp2_with fail
    refine (unhide NG _ _ (unhide HO)).mono ?_
    rintro e w13 ⟨v13, rfl, hv13, hb13⟩
    have hgo : go < w12.heap.size := lt_of_cell o0
    have pf : ∀ j, w13.frozen? ⟨go, j, none⟩ = false := fun j => (hb13.frozen (p := ⟨go, j, none⟩) hgo (by simp)).trans (of j)
    have p0 := hb13.cell_some o0 (by simp)
    have q0 := hb13.cell_some t0' (by simp)
    have p1 := hb13.cell_some o1 (by simp)
    have q1 := hb13.cell_some t1' (by simp)
    have p2 := hb13.cell_some o2 (by simp)
    have q2 := hb13.cell_some t2' (by simp)
    have p3 := hb13.cell_some o3 (by simp)
    have q3 := hb13.cell_some t3' (by simp)
    have p4 : Hid (∀ j, 4 ≤ j → w13.cell? ⟨go, j, none⟩ = none) := fun j hj => (hb13.cell (p := ⟨go, j, none⟩) hgo (by simp)).trans (unhide O4 j hj)
    replace HT := hide ((unhide HT).but hb13)
    replace HB : Hid (But [] w w13) := (unhide HB).trans' hb13
    have HN := hide hv13
    obtain ⟨nx, ny, np, rfl, -⟩ := hv13.agg
    clear hv13 hb13 of o0 o1 o2 o3 t0' t1' t2' t3' O4 hgo
    generalize decide ((-o).num < 0) = ns at *
    obtain ⟨W14, hW14⟩ : ∃ W14, W14 = ((((w13.setCell ⟨go, 0, none⟩ (.bool ns)).setCell ⟨go, 1, none⟩ (.int .u64 nx)).setCell ⟨go, 2, none⟩ (.int .u64 ny)).setCell ⟨go, 3, none⟩ (.pointer np)) := ⟨_, rfl⟩
    have hBg : But [go] w13 W14 := by rw [hW14]; exact (((((But.refl [go] w13).setCell (.inl (by simp)) _).setCell (.inl (by simp)) _).setCell (.inl (by simp)) _).setCell (.inl (by simp)) _)
    have c0 : W14.cell? ⟨go, 0, none⟩ = some (.bool ns) := by rw [hW14]; simp [go_sem, p0]
    have c1 : W14.cell? ⟨go, 1, none⟩ = some (.int .u64 nx) := by rw [hW14]; simp [go_sem, p1]
    have c2 : W14.cell? ⟨go, 2, none⟩ = some (.int .u64 ny) := by rw [hW14]; simp [go_sem, p2]
    have c3 : W14.cell? ⟨go, 3, none⟩ = some (.pointer np) := by rw [hW14]; simp [go_sem, p3]
    have ngt : gt ∉ [go] := by simp; omega
    have HN4 := hide (neg_over (unhide HO) p0 p1 p2 p3 (unhide p4) (unhide HN) hBg)
    have hT : FracAt W14 (.agg #[.bool ts, .int .u64 tx, .int .u64 ty, .pointer tp]) te := frac_anywhere (unhide HT) (unhide TW).1 (unhide TW).2 W14
    replace HT := hide hT
    clear hT
    have HB4 : Hid (But [] w W14) := by
      show But [] w W14
      rw [hW14]
      exact ((((unhide HB).setCell (p := ⟨go, 0, none⟩) (.inr hlo) _).setCell (p := ⟨go, 1, none⟩) (.inr hlo) _).setCell (p := ⟨go, 2, none⟩) (.inr hlo) _).setCell (p := ⟨go, 3, none⟩) (.inr hlo) _
    have hne : gt ≠ go := by omega
    have hgt13 : gt < w13.heap.size := lt_of_cell q0
    have q0' := hBg.cell_some q0 ngt
    have q1' := hBg.cell_some q1 ngt
    have q2' := hBg.cell_some q2 ngt
    have q3' := hBg.cell_some q3 ngt
    replace HB := HB4
    clear HB4 hBg HN
    go_wp2_with fail
    rw [← hW14]
    clear hW14 q0 q1 q2 q3 p0 p1 p2 p3 p4 pf ngt hgt13 hlt hlo HO
    have q0 := q0'
    have q1 := q1'
    have q2 := q2'
    have q3 := q3'
    clear q0' q1' q2' q3'
    go_wp2_with fail
    go_region_held (fun w' => w'.cell? ⟨go, 0, none⟩ = some (.bool ns) ∧ w'.cell? ⟨go, 1, none⟩ = some (.int .u64 nx) ∧ w'.cell? ⟨go, 2, none⟩ = some (.int .u64 ny) ∧ w'.cell? ⟨go, 3, none⟩ = some (.pointer np) ∧ w'.cell? ⟨gt, 0, none⟩ = some (.bool ts) ∧ w'.cell? ⟨gt, 1, none⟩ = some (.int .u64 tx) ∧ w'.cell? ⟨gt, 2, none⟩ = some (.int .u64 ty) ∧ w'.cell? ⟨gt, 3, none⟩ = some (.pointer tp)) (go_keep) (first
      | (go_at_call 27; have hchk := Bz1; clear hchk; refine (unhide CM (-o) (unhide LO).2 _ _ _ (by first | exact unhide HVA | exact (unhide HVA).but (But.refl _ _).drew) (by first | exact unhide HT1 | exact (unhide HT1).but (But.refl _ _).drew)).mono ?_; rintro e wz2 ⟨rfl, hcz2⟩; have Bz2 : But [] W14 wz2 := (by first | exact Bz1.trans' hcz2 | exact (Bz1.drew).trans' hcz2); clear hcz2; have c0_z2 := Bz2.cell_some c0 (by simp); have c1_z2 := Bz2.cell_some c1 (by simp); have c2_z2 := Bz2.cell_some c2 (by simp); have c3_z2 := Bz2.cell_some c3 (by simp); have q0_z2 := Bz2.cell_some q0 (by simp); have q1_z2 := Bz2.cell_some q1 (by simp); have q2_z2 := Bz2.cell_some q2 (by simp); have q3_z2 := Bz2.cell_some q3 (by simp); clear c0_z1 c1_z1 c2_z1 c3_z1 q0_z1 q1_z1 q2_z1 q3_z1)
      | (go_at_call 15; refine (unhide AD (-o) (unhide LO).2 _ (.agg #[.bool ns, .int .u64 nx, .int .u64 ny, .pointer np]) (by first | exact unhide HN4 | exact (unhide HN4).but (But.refl _ _).drew)).mono ?_; rintro e wz1 ⟨va, rfl, hva, hcz1⟩; have Bz1 : But [] W14 wz1 := (by first | exact hcz1 | exact (But.refl _ _).drew.trans' hcz1); have HVA := hide hva; have HT1 := hide ((unhide HT).but Bz1); clear hva; clear hcz1; have c0_z1 := Bz1.cell_some c0 (by simp); have c1_z1 := Bz1.cell_some c1 (by simp); have c2_z1 := Bz1.cell_some c2 (by simp); have c3_z1 := Bz1.cell_some c3 (by simp); have q0_z1 := Bz1.cell_some q0 (by simp); have q1_z1 := Bz1.cell_some q1 (by simp); have q2_z1 := Bz1.cell_some q2 (by simp); have q3_z1 := Bz1.cell_some q3 (by simp)))
    have hle := unhide R2
    obtain ⟨c, hc⟩ : ∃ c, c = cmpZ ((-o + -o).num * (te.den : Int)) (te.num * ((-o + -o).den : Int)) := ⟨_, rfl⟩
    rw [← hc] at hle ⊢
    clear hc
    have hdec : decide (c ≤ 0) = true := decide_eq_true hle
    have HBz : Hid (But [] w wz2) := (unhide HB).trans' Bz2
    clear Bz2
    go_wp2
    go_ret
    exact ⟨congrArg (fun x => Ending.returned (Value.bool x)) hdec, unhide HBz⟩
  · have hsg : decide (o.num.sign < 0) = false := decide_eq_false (by rcases Int.lt_trichotomy o.num 0 with h1 | h1 | h1; exact absurd h1 hneg; rw [h1]; decide; rw [Int.sign_eq_one_of_pos h1]; decide)
    have hsg2 : 0 ≤ o.num.sign := by have := of_decide_eq_false hsg; omega
    generalize o.num.sign = sg at *
    have q0 := t0'
    have q1 := t1'
    have q2 := t2'
    have q3 := t3'
    clear t0' t1' t2' t3' of O4 hlt hlo
    go_wp2_with fail
    go_region_held (fun w' => w'.cell? ⟨go, 0, none⟩ = some (.bool os) ∧ w'.cell? ⟨go, 1, none⟩ = some (.int .u64 ox) ∧ w'.cell? ⟨go, 2, none⟩ = some (.int .u64 oy) ∧ w'.cell? ⟨go, 3, none⟩ = some (.pointer op) ∧ w'.cell? ⟨gt, 0, none⟩ = some (.bool ts) ∧ w'.cell? ⟨gt, 1, none⟩ = some (.int .u64 tx) ∧ w'.cell? ⟨gt, 2, none⟩ = some (.int .u64 ty) ∧ w'.cell? ⟨gt, 3, none⟩ = some (.pointer tp)) (go_keep) (first
      | (go_at_call 27; have hchk := Bz1; clear hchk; refine (unhide CM (o) (unhide LO).1 _ _ _ (by first | exact unhide HVA | exact (unhide HVA).but (But.refl _ _).drew) (by first | exact unhide HT1 | exact (unhide HT1).but (But.refl _ _).drew)).mono ?_; rintro e wz2 ⟨rfl, hcz2⟩; have Bz2 : But [] w12 wz2 := (by first | exact Bz1.trans' hcz2 | exact (Bz1.drew).trans' hcz2); clear hcz2; have o0_z2 := Bz2.cell_some o0 (by simp); have o1_z2 := Bz2.cell_some o1 (by simp); have o2_z2 := Bz2.cell_some o2 (by simp); have o3_z2 := Bz2.cell_some o3 (by simp); have q0_z2 := Bz2.cell_some q0 (by simp); have q1_z2 := Bz2.cell_some q1 (by simp); have q2_z2 := Bz2.cell_some q2 (by simp); have q3_z2 := Bz2.cell_some q3 (by simp); clear o0_z1 o1_z1 o2_z1 o3_z1 q0_z1 q1_z1 q2_z1 q3_z1)
      | (go_at_call 15; refine (unhide AD (o) (unhide LO).1 _ (.agg #[.bool os, .int .u64 ox, .int .u64 oy, .pointer op]) (by first | exact unhide HO | exact (unhide HO).but (But.refl _ _).drew)).mono ?_; rintro e wz1 ⟨va, rfl, hva, hcz1⟩; have Bz1 : But [] w12 wz1 := (by first | exact hcz1 | exact (But.refl _ _).drew.trans' hcz1); have HVA := hide hva; have HT1 := hide ((unhide HT).but Bz1); clear hva; clear hcz1; have o0_z1 := Bz1.cell_some o0 (by simp); have o1_z1 := Bz1.cell_some o1 (by simp); have o2_z1 := Bz1.cell_some o2 (by simp); have o3_z1 := Bz1.cell_some o3 (by simp); have q0_z1 := Bz1.cell_some q0 (by simp); have q1_z1 := Bz1.cell_some q1 (by simp); have q2_z1 := Bz1.cell_some q2 (by simp); have q3_z1 := Bz1.cell_some q3 (by simp)))
    have hle := unhide R1 hneg
    obtain ⟨c, hc⟩ : ∃ c, c = cmpZ ((o + o).num * (te.den : Int)) (te.num * ((o + o).den : Int)) := ⟨_, rfl⟩
    rw [← hc] at hle ⊢
    clear hc
    have hdec : decide (c ≤ 0) = true := decide_eq_true hle
    have HBz : Hid (But [] w wz2) := (unhide HB).trans' Bz2
    clear Bz2
    go_wp2
    go_ret
    exact ⟨congrArg (fun x => Ending.returned (Value.bool x)) hdec, unhide HBz⟩
end Go.Proofs.YtihiafgogbhjkaaGreatDoor
