/- Which of two marks is the nearer one, as the Go text of package frac asks. -/
import Derived.Test.YtlnacciciafliaaGreatDoorKM0
import Derived.Test.YtlnacciciafliaaGreatDoorKM1
namespace Go.Proofs.YtlnacciciafliaaGreatDoor
open Go.RowKit

/-- what the call leaves: one that is no farther off -/
def NearPost (w : World) (f xa xb : Rat) (e : Ending) (w' : World) : Prop := ∃ b, e = .returned (.bool b) ∧ (b = true → dist xa f ≤ dist xb f) ∧ (b = false → dist xb f ≤ dist xa f) ∧ But [] w w'
theorem len_abs {f : Rat} {n : Nat} (h : Len f n) : Len (absR f) n := by
  obtain ⟨a1, a2, -⟩ := absR_facts f
  unfold Len
  rw [a1, a2]
  exact h
theorem cmpZ_cases (x y : Rat) (r : Int) (hr : r = cmpZ (x.num * (y.den : Int)) (y.num * (x.den : Int))) : (r = 0 → x = y) ∧ (r < 0 → x ≤ y) ∧ (¬ r < 0 → y ≤ x) := by
  have h1 := cmp_le x y
  have h2 : (y ≤ x) ↔ 0 ≤ r := by
    rw [Rat.le_iff, hr]
    unfold cmpZ
    constructor
    · intro h
      rw [if_neg (by omega)]
      split <;> omega
    · intro h
      by_cases h3 : x.num * (y.den : Int) < y.num * (x.den : Int)
      · rw [if_pos h3] at h; omega
      · omega
  rw [← hr] at h1
  refine ⟨fun e => Rat.le_antisymm (h1.1 (by omega)) (h2.2 (by omega)), fun e => h1.1 (by omega), fun e => h2.2 (by omega)⟩

set_option maxHeartbeats 16000000 in
set_option maxRecDepth 100000 in
theorem nearer_any (va vb : Value) (Oa Ob : Int) (ua ub : Nat) (f : Rat) (gp : Nat) (fs : Bool) (fx fy : Int) (w : World) (ha : MarkAt w va Oa ua) (hb : MarkAt w vb Ob ub) (ha0 : 0 < ua) (ha1 : ua ≤ 1000000) (hb0 : 0 < ub) (hb1 : ub ≤ 1000000) (la : Len ((Oa : Int) : Rat) 20) (lb : Len ((Ob : Int) : Rat) 20)
    (hf : ∀ W, FracAt W (.agg #[.bool fs, .int .u64 fx, .int .u64 fy, .pointer none]) f) (lf : Len f 1) (hc : P4 w gp fs fx fy none) :
    Calls Tryz.prog 15 #[va, vb, .pointer (some ⟨gp, 0, none⟩)] w fun e w' => NearPost w f ((Oa : Rat) * (((ua : Int) : Rat))⁻¹) ((Ob : Rat) * (((ub : Int) : Rat))⁻¹) e w' := by
  have VA := hide (fun W (h : But [] w W) => markValue_any va Oa ua W (ha.but h) ha0 ha1 (la.mono (by omega)))
  have VB := hide (fun W (h : But [] w W) => markValue_any vb Ob ub W (hb.but h) hb0 hb1 (lb.mono (by omega)))
  have l1 := len_mul la (len_inv (int_len (ua : Int) (by omega) (by omega)) (inv_num_one ua ha0)) 21 (by omega)
  have l2 := len_mul lb (len_inv (int_len (ub : Int) (by omega) (by omega)) (inv_num_one ub hb0)) 21 (by omega)
  obtain ⟨d1, hd1⟩ : ∃ d1, d1 = (Oa : Rat) * (((ua : Int) : Rat))⁻¹ := ⟨_, rfl⟩
  obtain ⟨d2, hd2⟩ : ∃ d2, d2 = (Ob : Rat) * (((ub : Int) : Rat))⁻¹ := ⟨_, rfl⟩
  rw [← hd1] at VA l1 ⊢
  rw [← hd2] at VB l2 ⊢
  obtain ⟨s1, x1, y1, p1, rfl, -⟩ := ha
  obtain ⟨s2, x2, y2, p2, rfl, -⟩ := hb
  have t1 := len_abs (len_sub l1 lf 23 (by omega))
  have t2 := len_abs (len_sub l2 lf 23 (by omega))
  have HA1 := hide (fun W v (h : FracAt W v (d1 - f)) => fracAbs_any v (d1 - f) W h)
  have HA2 := hide (fun W v (h : FracAt W v (d2 - f)) => fracAbs_any v (d2 - f) W h)
  have A1 : Hid (∀ W v, FracAt W v (d1 - f) → Calls Tryz.prog 17 #[v] W fun e w' => ∃ v', e = .returned v' ∧ FracAt w' v' (dist d1 f) ∧ But [] W w') := unhide HA1
  have A2 : Hid (∀ W v, FracAt W v (d2 - f) → Calls Tryz.prog 17 #[v] W fun e w' => ∃ v', e = .returned v' ∧ FracAt w' v' (dist d2 f) ∧ But [] W w') := unhide HA2
  clear HA1 HA2
  obtain ⟨r, hr⟩ : ∃ r, r = cmpZ ((dist d1 f).num * ((dist d2 f).den : Int)) ((dist d2 f).num * ((dist d1 f).den : Int)) := ⟨_, rfl⟩
  have C5 : Hid (∀ W v v', FracAt W v (dist d1 f) → FracAt W v' (dist d2 f) → Calls Tryz.prog 14 #[v, v'] W fun e w' => e = .returned (.int .i64 r) ∧ But [] W w') := fun W v v' h1 h2 => fracCmp_any v v' _ _ W h1 h2 (t1.mono (by omega)) (t2.mono (by omega)) r hr
  have RC := hide (cmpZ_cases _ _ r hr)
  obtain ⟨r2, hr2⟩ : ∃ r2, r2 = cmpZ (d1.num * (d2.den : Int)) (d2.num * (d1.den : Int)) := ⟨_, rfl⟩
  have SF : Hid (∀ (x : Rat) (v : Value), Len x 21 → ∀ W, FracAt W v x → Calls Tryz.prog 11 #[v, .agg #[.bool fs, .int .u64 fx, .int .u64 fy, .pointer none]] W fun e w' => ∃ v', e = .returned v' ∧ FracAt w' v' (x - f) ∧ But [] W w') := fun x v lx W h => fracSub_any v _ x f W h (hf W) (lx.mono (by omega)) (lf.mono (by omega))
  have CF : Hid (∀ W v v', FracAt W v d1 → FracAt W v' d2 → Calls Tryz.prog 14 #[v, v'] W fun e w' => e = .returned (.int .i64 r2) ∧ But [] W w') := fun W v v' h1 h2 => fracCmp_any v v' _ _ W h1 h2 (l1.mono (by omega)) (l2.mono (by omega)) r2 hr2
  have LL : Hid (Len d1 21 ∧ Len d2 21) := ⟨l1, l2⟩
  clear hd1 hd2 l1 l2 t1 t2 hr hr2 la lb hf lf
  obtain ⟨W, hW⟩ : ∃ W, W = (w.alloc (.cells #[.bool s1, .int .u64 x1, .int .u64 y1, .pointer p1, .int .i64 (ua : Int)] 45)).alloc (.cells #[.bool s2, .int .u64 x2, .int .u64 y2, .pointer p2, .int .i64 (ub : Int)] 45) := ⟨_, rfl⟩
  obtain ⟨tA, tB, -, -, hB⟩ := two_news w W _ _ _ _ hW
  have CA : Hid (P5 W w.heap.size s1 x1 y1 p1 (ua : Int)) := ⟨tA 0, tA 1, tA 2, tA 3, tA 4⟩
  have CB : Hid (P5 W (w.heap.size + 1) s2 x2 y2 p2 (ub : Int)) := ⟨tB 0, tB 1, tB 2, tB 3, tB 4⟩
  obtain ⟨f0, f1, f2, f3⟩ := hc.but hB (by simp)
  have HW := hide hW
  have HB := hide hB
  clear hW hB tA tB hc
  go_enter Tryz.func15, Tryz.ntmps15
  go_wp2_with fail
  rw [← unhide HW]
  obtain ⟨ga, hga⟩ : ∃ ga, ga = w.heap.size := ⟨_, rfl⟩
  obtain ⟨gb, hgb⟩ : ∃ gb, gb = w.heap.size + 1 := ⟨_, rfl⟩
  rw [← hgb, ← hga]
  rw [← hga] at CA
  rw [← hgb] at CB
  clear hga hgb HW
  go_cut [6, 7] (fun s6 s7 wx => ∃ (gx gy : Nat) (sx : Bool) (xx yx : Int) (px : Option Addr) (sy : Bool) (xy yy : Int) (py : Option Addr), s6 = .pointer (some ⟨gx, 0, none⟩) ∧ s7 = .pointer (some ⟨gy, 0, none⟩) ∧ Hid (But [] W wx ∧ P4 wx gx sx xx yx px ∧ P4 wx gy sy xy yy py ∧ FracAt wx (.agg #[.bool sx, .int .u64 xx, .int .u64 yx, .pointer px]) d1 ∧ FracAt wx (.agg #[.bool sy, .int .u64 xy, .int .u64 yy, .pointer py]) d2))
  case first =>
    have VX : Hid (∀ wq, But [] W wq → Calls Tryz.prog 16 #[.agg #[.bool s1, .int .u64 x1, .int .u64 y1, .pointer p1, .int .i64 (ua : Int)]] wq fun e w' => ∃ v, e = .returned v ∧ FracOf d1 w' v ∧ But [] wq w') := fun wq hq => (unhide VA wq ((unhide HB).trans' hq)).mono fun e w' ⟨v, he, hv, hb'⟩ => by
      obtain ⟨x, y, p, e', -⟩ := hv.agg
      exact ⟨v, he, ⟨⟨_, x, y, p, e'⟩, hv⟩, hb'⟩
    have VY : Hid (∀ wq, But [] W wq → Calls Tryz.prog 16 #[.agg #[.bool s2, .int .u64 x2, .int .u64 y2, .pointer p2, .int .i64 (ub : Int)]] wq fun e w' => ∃ v, e = .returned v ∧ FracOf d2 w' v ∧ But [] wq w') := fun wq hq => (unhide VB wq ((unhide HB).trans' hq)).mono fun e w' ⟨v, he, hv, hb'⟩ => by
      obtain ⟨x, y, p, e', -⟩ := hv.agg
      exact ⟨v, he, ⟨⟨_, x, y, p, e'⟩, hv⟩, hb'⟩
    refine values_region 1 _ W _ ga gb s1 x1 y1 (ua : Int) p1 s2 x2 y2 (ub : Int) p2 d1 d2 (by simp) (by simp [Act.eval]) (by simp [Act.eval]) (unhide CA) (unhide CB) (unhide VX) (unhide VY) ?_
    rintro w' vx vy b6 b7 h1 ⟨⟨sx, xx, yx, px, rfl⟩, h2⟩ ⟨⟨sy, xy, yy, py, rfl⟩, h3⟩ - - h4 h5
    have HL : Hid (But [] W w' ∧ P4 w' b6 sx xx yx px ∧ P4 w' b7 sy xy yy py ∧ FracAt w' (.agg #[.bool sx, .int .u64 xx, .int .u64 yx, .pointer px]) d1 ∧ FracAt w' (.agg #[.bool sy, .int .u64 xy, .int .u64 yy, .pointer py]) d2) := ⟨(But.refl [] W).drew.trans' h1, h4.p4, h5.p4, h2, h3⟩
    clear h1 h2 h3 h4 h5
    simp only [putted, List.foldl_cons, List.foldl_nil, Act.put, List.setIfInBounds_toArray, List.set_cons_zero, List.set_cons_succ]
    go_wp2_with fail
    go_meet
    exact ⟨b6, b7, _, _, _, _, _, _, _, _, rfl, rfl, unhide HL⟩
  case rest =>
    obtain ⟨gx, gy, sx, xx, yx, px, sy, xy, yy, py, rfl, rfl, HC⟩ := hcut
    have bC := (unhide HC).1
    replace f0 := bC.cell_some f0 (by simp)
    replace f1 := bC.cell_some f1 (by simp)
    replace f2 := bC.cell_some f2 (by simp)
    replace f3 := bC.cell_some f3 (by simp)
    obtain ⟨x0, x1, x2, x3⟩ := (unhide HC).2.1
    obtain ⟨y0, y1, y2, y3⟩ := (unhide HC).2.2.1
    obtain ⟨A4, A5⟩ : (∃ q, q = wc.cell? ⟨ga, 4, none⟩) ∧ True := ⟨⟨_, rfl⟩, trivial⟩
    have a4 := ((unhide CA).but bC (by simp)).2.2.2.2
    have b4 := ((unhide CB).but bC (by simp)).2.2.2.2
    have S1 : Hid (∀ W', But [] wc W' → Calls Tryz.prog 11 #[.agg #[.bool sx, .int .u64 xx, .int .u64 yx, .pointer px], .agg #[.bool fs, .int .u64 fx, .int .u64 fy, .pointer none]] W' fun e w' => ∃ v', e = .returned v' ∧ FracAt w' v' (d1 - f) ∧ But [] W' w') := fun W' hb => unhide SF d1 _ (unhide LL).1 W' ((unhide HC).2.2.2.1.but hb)
    have S2 : Hid (∀ W', But [] wc W' → Calls Tryz.prog 11 #[.agg #[.bool sy, .int .u64 xy, .int .u64 yy, .pointer py], .agg #[.bool fs, .int .u64 fx, .int .u64 fy, .pointer none]] W' fun e w' => ∃ v', e = .returned v' ∧ FracAt w' v' (d2 - f) ∧ But [] W' w') := fun W' hb => unhide SF d2 _ (unhide LL).2 W' ((unhide HC).2.2.2.2.but hb)
    have C6 : Hid (∀ W', But [] wc W' → Calls Tryz.prog 14 #[.agg #[.bool sx, .int .u64 xx, .int .u64 yx, .pointer px], .agg #[.bool sy, .int .u64 xy, .int .u64 yy, .pointer py]] W' fun e w' => e = .returned (.int .i64 r2) ∧ But [] W' w') := fun W' hb => unhide CF W' _ _ ((unhide HC).2.2.2.1.but hb) ((unhide HC).2.2.2.2.but hb)
    have HBw : Hid (But [] w wc) := (unhide HB).trans' bC
    have H0 : Hid (But [] wc wc) := But.refl _ _
    clear bC HC CA CB SF CF LL HB VA VB A4 A5
    go_wp2_with fail
    go_cut [8] (fun s8 wx => s8 = .int .i64 r ∧ Hid (But [] wc wx))
    case first =>
      go_region_held (fun w' => w'.cell? ⟨gx, 0, none⟩ = some (.bool sx) ∧ w'.cell? ⟨gx, 1, none⟩ = some (.int .u64 xx) ∧ w'.cell? ⟨gx, 2, none⟩ = some (.int .u64 yx) ∧ w'.cell? ⟨gx, 3, none⟩ = some (.pointer px) ∧ w'.cell? ⟨gy, 0, none⟩ = some (.bool sy) ∧ w'.cell? ⟨gy, 1, none⟩ = some (.int .u64 xy) ∧ w'.cell? ⟨gy, 2, none⟩ = some (.int .u64 yy) ∧ w'.cell? ⟨gy, 3, none⟩ = some (.pointer py) ∧ w'.cell? ⟨gp, 0, none⟩ = some (.bool fs) ∧ w'.cell? ⟨gp, 1, none⟩ = some (.int .u64 fx) ∧ w'.cell? ⟨gp, 2, none⟩ = some (.int .u64 fy) ∧ w'.cell? ⟨gp, 3, none⟩ = some (.pointer none)) (go_keep) (first
        | (go_at_call 14; have hchk := B4; clear hchk; refine (unhide C5 _ v2 v4 (by first | exact unhide HN2 | exact (unhide HN2).but (But.refl _ _).drew) (by first | exact unhide HN4 | exact (unhide HN4).but (But.refl _ _).drew)).mono ?_; rintro e w5 ⟨rfl, hc5⟩; have B5 : But [] wc w5 := (by first | exact B4.trans' hc5 | exact (B4.drew).trans' hc5); clear HN2 HN4; clear hc5; have x0_5 := B5.cell_some x0 (by simp); have x1_5 := B5.cell_some x1 (by simp); have x2_5 := B5.cell_some x2 (by simp); have x3_5 := B5.cell_some x3 (by simp); have y0_5 := B5.cell_some y0 (by simp); have y1_5 := B5.cell_some y1 (by simp); have y2_5 := B5.cell_some y2 (by simp); have y3_5 := B5.cell_some y3 (by simp); have f0_5 := B5.cell_some f0 (by simp); have f1_5 := B5.cell_some f1 (by simp); have f2_5 := B5.cell_some f2 (by simp); have f3_5 := B5.cell_some f3 (by simp); clear x0_4 x1_4 x2_4 x3_4 y0_4 y1_4 y2_4 y3_4 f0_4 f1_4 f2_4 f3_4)
        | (go_at_call 17; have hchk := B3; clear hchk; refine (unhide A2 _ v3 (by first | exact unhide HN3 | exact (unhide HN3).but (But.refl _ _).drew)).mono ?_; rintro e w4 ⟨v4, rfl, hn4, hc4⟩; have B4 : But [] wc w4 := (by first | exact B3.trans' hc4 | exact (B3.drew).trans' hc4); replace HN2 : Hid (FracAt w4 v2 (dist d1 f)) := (by first | exact (unhide HN2).but hc4 | exact ((unhide HN2).but (But.refl _ _).drew).but hc4); have HN4 := hide hn4; clear hn4; clear HN3; clear hc4; have x0_4 := B4.cell_some x0 (by simp); have x1_4 := B4.cell_some x1 (by simp); have x2_4 := B4.cell_some x2 (by simp); have x3_4 := B4.cell_some x3 (by simp); have y0_4 := B4.cell_some y0 (by simp); have y1_4 := B4.cell_some y1 (by simp); have y2_4 := B4.cell_some y2 (by simp); have y3_4 := B4.cell_some y3 (by simp); have f0_4 := B4.cell_some f0 (by simp); have f1_4 := B4.cell_some f1 (by simp); have f2_4 := B4.cell_some f2 (by simp); have f3_4 := B4.cell_some f3 (by simp); clear x0_3 x1_3 x2_3 x3_3 y0_3 y1_3 y2_3 y3_3 f0_3 f1_3 f2_3 f3_3)
        | (go_at_call 11; have hchk := B2; clear hchk; refine (unhide S2 _ (by first | exact (unhide H0).trans' B2 | exact ((unhide H0).trans' B2).drew)).mono ?_; rintro e w3 ⟨v3, rfl, hn3, hc3⟩; have B3 : But [] wc w3 := (by first | exact B2.trans' hc3 | exact (B2.drew).trans' hc3); replace HN2 : Hid (FracAt w3 v2 (dist d1 f)) := (by first | exact (unhide HN2).but hc3 | exact ((unhide HN2).but (But.refl _ _).drew).but hc3); have HN3 := hide hn3; clear hn3; clear hc3; have x0_3 := B3.cell_some x0 (by simp); have x1_3 := B3.cell_some x1 (by simp); have x2_3 := B3.cell_some x2 (by simp); have x3_3 := B3.cell_some x3 (by simp); have y0_3 := B3.cell_some y0 (by simp); have y1_3 := B3.cell_some y1 (by simp); have y2_3 := B3.cell_some y2 (by simp); have y3_3 := B3.cell_some y3 (by simp); have f0_3 := B3.cell_some f0 (by simp); have f1_3 := B3.cell_some f1 (by simp); have f2_3 := B3.cell_some f2 (by simp); have f3_3 := B3.cell_some f3 (by simp); clear x0_2 x1_2 x2_2 x3_2 y0_2 y1_2 y2_2 y3_2 f0_2 f1_2 f2_2 f3_2)
        | (go_at_call 17; have hchk := B1; clear hchk; refine (unhide A1 _ v1 (by first | exact unhide HN1 | exact (unhide HN1).but (But.refl _ _).drew)).mono ?_; rintro e w2 ⟨v2, rfl, hn2, hc2⟩; have B2 : But [] wc w2 := (by first | exact B1.trans' hc2 | exact (B1.drew).trans' hc2); have HN2 := hide hn2; clear hn2; clear HN1; clear hc2; have x0_2 := B2.cell_some x0 (by simp); have x1_2 := B2.cell_some x1 (by simp); have x2_2 := B2.cell_some x2 (by simp); have x3_2 := B2.cell_some x3 (by simp); have y0_2 := B2.cell_some y0 (by simp); have y1_2 := B2.cell_some y1 (by simp); have y2_2 := B2.cell_some y2 (by simp); have y3_2 := B2.cell_some y3 (by simp); have f0_2 := B2.cell_some f0 (by simp); have f1_2 := B2.cell_some f1 (by simp); have f2_2 := B2.cell_some f2 (by simp); have f3_2 := B2.cell_some f3 (by simp); clear x0_1 x1_1 x2_1 x3_1 y0_1 y1_1 y2_1 y3_1 f0_1 f1_1 f2_1 f3_1)
        | (go_at_call 11; refine (unhide S1 _ (by first | exact unhide H0 | exact (unhide H0).drew)).mono ?_; rintro e w1 ⟨v1, rfl, hn1, hc1⟩; have B1 : But [] wc w1 := (by first | exact hc1 | exact (But.refl _ _).drew.trans' hc1); have HN1 := hide hn1; clear hn1; clear hc1; have x0_1 := B1.cell_some x0 (by simp); have x1_1 := B1.cell_some x1 (by simp); have x2_1 := B1.cell_some x2 (by simp); have x3_1 := B1.cell_some x3 (by simp); have y0_1 := B1.cell_some y0 (by simp); have y1_1 := B1.cell_some y1 (by simp); have y2_1 := B1.cell_some y2 (by simp); have y3_1 := B1.cell_some y3 (by simp); have f0_1 := B1.cell_some f0 (by simp); have f1_1 := B1.cell_some f1 (by simp); have f2_1 := B1.cell_some f2 (by simp); have f3_1 := B1.cell_some f3 (by simp)))
      all_goals (
        have HB5 := hide B5
        clear B1 B2 B3 B4 B5
        go_wp2_with fail
        go_meet
        exact ⟨rfl, unhide HB5⟩)
    case rest =>
      obtain ⟨rfl, HD⟩ := hcut
      rename World => wd
      have hD := unhide HD
      replace x0 := hD.cell_some x0 (by simp)
      replace x1 := hD.cell_some x1 (by simp)
      replace x2 := hD.cell_some x2 (by simp)
      replace x3 := hD.cell_some x3 (by simp)
      replace y0 := hD.cell_some y0 (by simp)
      replace y1 := hD.cell_some y1 (by simp)
      replace y2 := hD.cell_some y2 (by simp)
      replace y3 := hD.cell_some y3 (by simp)
      replace a4 := hD.cell_some a4 (by simp)
      replace b4 := hD.cell_some b4 (by simp)
      have HBd : Hid (But [] w wd) := (unhide HBw).trans' hD
      clear hD f0 f1 f2 f3 S1 S2 A1 A2 C5 H0 HBw
      by_cases hr0 : r = 0
      · subst hr0
        have BO : Hid (dist d1 f ≤ dist d2 f ∧ dist d2 f ≤ dist d1 f) := by
          have e := (unhide RC).1 rfl
          show _ ∧ _
          rw [e]
          exact ⟨Rat.le_refl, Rat.le_refl⟩
        clear RC
        by_cases hu : ua = ub
        · have e1 : IntKind.i64.wrap ((ua : Int) - (ub : Int)) = 0 := by rw [IntKind.wrap_i64]; omega
          subst hu
          go_wp2_with fail
          refine (unhide C6 _ (unhide HD)).mono ?_
          rintro e9 w9 ⟨rfl, hb9⟩
          have HF : Hid (But [] w w9) := (unhide HBd).trans' hb9
          clear hb9
          go_wp2
          go_ret
          exact ⟨_, rfl, fun _ => (unhide BO).1, fun _ => (unhide BO).2, unhide HF⟩
        · obtain ⟨z, hz⟩ : ∃ z : Int, z = (ua : Int) - (ub : Int) := ⟨_, rfl⟩
          have e1 : IntKind.i64.wrap ((ua : Int) - (ub : Int)) = z := by rw [IntKind.wrap_i64, hz]; omega
          have e2 : ¬ z = 0 := by omega
          have e3 : (z == 0) = false := beq_eq_false_iff_ne.2 e2
          clear hz hu
          go_wp2
          go_ret
          exact ⟨_, rfl, fun _ => (unhide BO).1, fun _ => (unhide BO).2, unhide HBd⟩
      · have e3 : (r == 0) = false := beq_eq_false_iff_ne.2 hr0
        go_wp2
        go_ret
        exact ⟨_, rfl, fun e => (unhide RC).2.1 (by simpa using e), fun e => (unhide RC).2.2 (by simpa using e), unhide HBd⟩
end Go.Proofs.YtlnacciciafliaaGreatDoor

namespace Go.Proofs.YtlnacciciafliaaGreatDoor
open Go.RowKit

/-- what the call leaves: a fraction than which none with such a lower number is nearer -/
def NearFin (w : World) (f : Rat) (most : Nat) (e : Ending) (w' : World) : Prop := ∃ v' x, e = .returned (.tuple #[v', .nilIface]) ∧ FracAt w' v' x ∧ Len x 21 ∧ (∀ y : Rat, y.den ≤ most → dist x f ≤ dist y f) ∧ But [] w w'
theorem mark_len (O : Int) (u : Nat) (h0 : 0 < u) (h1 : u ≤ 1000000) (l : Len ((O : Int) : Rat) 20) : Len ((O : Rat) * (((u : Int) : Rat))⁻¹) 21 := len_mul l (len_inv (int_len (u : Int) (by omega) (by omega)) (inv_num_one u h0)) 21 (by omega)

set_option maxHeartbeats 16000000 in
set_option maxRecDepth 100000 in
theorem near_any (f : Rat) (most : Nat) (fs : Bool) (fx fy : Int) (w : World) (hf : ∀ W, FracAt W (.agg #[.bool fs, .int .u64 fx, .int .u64 fy, .pointer none]) f) (hp : f.num.natAbs < 18446744073709551616) (hq : f.den < 18446744073709551616) (hm0 : 0 < most) (hm : most ≤ 1000000) :
    Calls Tryz.prog 6 #[.agg #[.bool fs, .int .u64 fx, .int .u64 fy, .pointer none], .int .i64 (most : Int)] w fun e w' => NearFin w f most e w' := by
  have lf : Len f 1 := len_of (m := 1) (n := 1) (by rw [Nat.pow_one]; exact hp) (by rw [Nat.pow_one]; exact hq) 1 (Nat.le_refl _) (Nat.le_refl _)
  have hK : (fl f).natAbs + 1 ≤ 18446744073709551616 := by have := fl_le_abs f; omega
  have NB := hide (fun W => neighbours_any _ f most W hf hp hq hm0 hm)
  have HF := hide (And.intro hf (And.intro lf hK))
  have hmf : ∀ (fn : Fn) (first cap : Array Value) (w : World), (Instr.makeFunc fn first cap).run Tryz.prog w = .ok (.func fn first cap) w := fun _ _ _ _ => rfl
  have c1 : ¬ (most : Int) < 1 := by omega
  have c2 : ¬ (1000000 : Int) < (most : Int) := by omega
  have c3 : ¬ 1000000 < most := by omega
  have c4 : ¬ most < 1 := by omega
  clear hf hp hq lf hK
  obtain ⟨W, hW⟩ : ∃ W, W = (w.alloc (.cells #[.bool fs, .int .u64 fx, .int .u64 fy, .pointer none] 28)).alloc (.cells #[.bool false, .int .u64 0, .int .u64 0, .pointer none] 28) := ⟨_, rfl⟩
  obtain ⟨tA, tC, -, fz, hB⟩ := two_news w W _ _ _ _ hW
  have a0 := tA 0
  have a1 := tA 1
  have a2 := tA 2
  have a3 := tA 3
  have CR : Hid (P4 W (w.heap.size + 1) false 0 0 none) := ⟨tC 0, tC 1, tC 2, tC 3⟩
  have OR : Hid (Open W (w.heap.size + 1)) := fz
  simp only [List.getElem?_toArray, List.getElem?_cons_zero, List.getElem?_cons_succ] at a0 a1 a2 a3
  have HW := hide hW
  have HB := hide hB
  clear hW hB tA tC fz
  go_enter Tryz.func6, Tryz.ntmps6
  go_wp2_with fail
  rw [← unhide HW]
  obtain ⟨gf, hgf⟩ : ∃ gf, gf = w.heap.size := ⟨_, rfl⟩
  obtain ⟨gr, hgr⟩ : ∃ gr, gr = w.heap.size + 1 := ⟨_, rfl⟩
  rw [← hgf] at a0 a1 a2 a3
  rw [← hgr] at CR OR
  rw [← hgr, ← hgf]
  have HGR : Hid (w.heap.size ≤ gr) := by show _ ≤ _; omega
  have ngr : gf ≠ gr := by omega
  clear hgf hgr HW
  refine (unhide NB _).mono ?_
  rintro e1 w1 ⟨va, vb, Oa, Ob, ua, ub, rfl, hA, hBm, hN, hb1⟩
  obtain ⟨ua0, uam, la, ub0, ubm, lb, hbest⟩ := hN
  have lA : Len ((Oa : Int) : Rat) 20 := over_len Oa _ ua (unhide HF).2.2 (by omega) la
  have lB : Len ((Ob : Int) : Rat) 20 := over_len Ob _ ub (unhide HF).2.2 (by omega) lb
  obtain ⟨sa, xa, ya, pa, rfl, fa⟩ := id hA
  obtain ⟨sb, xb, yb, pb, rfl, fb⟩ := id hBm
  obtain ⟨V, hV⟩ : ∃ V, V = (w1.alloc (.cells #[.bool sa, .int .u64 xa, .int .u64 ya, .pointer pa, .int .i64 (ua : Int)] 45)).alloc (.cells #[.bool sb, .int .u64 xb, .int .u64 yb, .pointer pb, .int .i64 (ub : Int)] 45) := ⟨_, rfl⟩
  obtain ⟨tA, tB, -, -, bV⟩ := two_news w1 V _ _ _ _ hV
  have m0 := tA 0
  have m1 := tA 1
  have m2 := tA 2
  have m3 := tA 3
  have m4 := tA 4
  have n0 := tB 0
  have n1 := tB 1
  have n2 := tB 2
  have n3 := tB 3
  have n4 := tB 4
  simp only [List.getElem?_toArray, List.getElem?_cons_zero, List.getElem?_cons_succ] at m0 m1 m2 m3 m4 n0 n1 n2 n3 n4
  have bW := hb1.trans' bV
  have HAV := hide (hA.but bV)
  have HBV := hide (hBm.but bV)
  replace a0 := bW.cell_some a0 (by simp)
  replace a1 := bW.cell_some a1 (by simp)
  replace a2 := bW.cell_some a2 (by simp)
  replace a3 := bW.cell_some a3 (by simp)
  replace OR : Hid (Open V gr) := (unhide OR).but bW (unhide CR).lt (by simp)
  replace CR : Hid (P4 V gr false 0 0 none) := (unhide CR).but bW (by simp)
  replace HB : Hid (But [] w V) := (unhide HB).trans' bW
  have NE := hide (nearer_any _ _ Oa Ob ua ub f gf fs fx fy V (unhide HAV) (unhide HBV) ua0 (by omega) ub0 (by omega) lA lB (unhide HF).1 (unhide HF).2.1 ⟨a0, a1, a2, a3⟩)
  have VA := hide (fun W' (h : But [] V W') => markValue_any _ Oa ua W' ((unhide HAV).but h) ua0 (by omega) (lA.mono (by omega)))
  have VB := hide (fun W' (h : But [] V W') => markValue_any _ Ob ub W' ((unhide HBV).but h) ub0 (by omega) (lB.mono (by omega)))
  have L1 := mark_len Oa ua ua0 (by omega) lA
  have L2 := mark_len Ob ub ub0 (by omega) lB
  obtain ⟨d1, hd1⟩ : ∃ d1, d1 = (Oa : Rat) * (((ua : Int) : Rat))⁻¹ := ⟨_, rfl⟩
  obtain ⟨d2, hd2⟩ : ∃ d2, d2 = (Ob : Rat) * (((ub : Int) : Rat))⁻¹ := ⟨_, rfl⟩
  rw [← hd1] at VA L1 NE hbest
  rw [← hd2] at VB L2 NE hbest
  have LB := hide (And.intro L1 (And.intro L2 hbest))
  clear hA hBm fa fb la lb lA lB hb1 bV bW tA tB HAV HBV L1 L2 hbest hd1 hd2 NB HF ua0 uam ub0 ubm c1 c2 c3 c4
  go_wp2_with fail
  rw [← hV]
  clear hV
  generalize w1.heap.size + 1 = gB at *
  generalize w1.heap.size = gA at *
  first
    | refine (unhide NE).mono ?_
    | (go_at_call 15; refine (unhide NE).mono ?_)
  rintro e2 w2 ⟨b, rfl, hbt, hbf, hb2⟩
  have HBT := hide (And.intro hbt hbf)
  have K2 := hide hb2
  replace m0 := hb2.cell_some m0 (by simp)
  replace m1 := hb2.cell_some m1 (by simp)
  replace m2 := hb2.cell_some m2 (by simp)
  replace m3 := hb2.cell_some m3 (by simp)
  replace m4 := hb2.cell_some m4 (by simp)
  replace n0 := hb2.cell_some n0 (by simp)
  replace n1 := hb2.cell_some n1 (by simp)
  replace n2 := hb2.cell_some n2 (by simp)
  replace n3 := hb2.cell_some n3 (by simp)
  replace n4 := hb2.cell_some n4 (by simp)
  replace OR : ∀ j, w2.frozen? ⟨gr, j, none⟩ = false := (unhide OR).but hb2 (unhide CR).lt (by simp)
  obtain ⟨r0, r1, r2, r3⟩ := (unhide CR).but hb2 (by simp)
  have H2 : Hid (But [] w w2) := (unhide HB).trans' hb2
  clear hb2 hbt hbf NE CR HB a0 a1 a2 a3
  cases b
  · go_wp2_with fail
    refine (unhide VB _ (unhide K2)).mono ?_
    rintro e3 w3 ⟨v3, rfl, hv3, hb3⟩
    have HV3 := hide hv3
    obtain ⟨x8, y8, p8, rfl, -⟩ := hv3.agg
    generalize decide (d2.num < 0) = r8 at *
    have grl : gr < w2.heap.size := lt_of_cell r0
    replace OR : ∀ j, w3.frozen? ⟨gr, j, none⟩ = false := Open.but (w := w2) (g := gr) OR hb3 grl (by simp)
    replace r0 := hb3.cell_some r0 (by simp)
    replace r1 := hb3.cell_some r1 (by simp)
    replace r2 := hb3.cell_some r2 (by simp)
    replace r3 := hb3.cell_some r3 (by simp)
    have H3 : Hid (But [] w w3) := (unhide H2).trans' hb3
    have FIN : Hid (Len d2 21 ∧ ∀ y : Rat, y.den ≤ most → dist d2 f ≤ dist y f) := by
      obtain ⟨l1, l2, hb⟩ := unhide LB
      exact ⟨l2, fun y hy => hb d2 y hy ((unhide HBT).2 (by simp)) Rat.le_refl⟩
    clear hb3 hv3 H2 K2 VA VB LB HBT m0 m1 m2 m3 m4 n0 n1 n2 n3 n4 grl
    go_wp2
    have hBg := but_set4 w3 gr (.bool r8) (.int .u64 x8) (.int .u64 y8) (.pointer p8)
    exact bodyPost_ret (v := .tuple #[.agg #[.bool r8, .int .u64 x8, .int .u64 y8, .pointer p8], .nilIface]) (by simp [results, Tryz.results6, go_sem, r0, r1, r2, r3]) rfl ⟨_, d2, rfl, (unhide HV3).over r0 hBg, (unhide FIN).1, (unhide FIN).2, (unhide H3).trans hBg (fun x hx => by simp at hx; subst hx; exact .inr (unhide HGR))⟩
  · go_wp2_with fail
    refine (unhide VA _ (unhide K2)).mono ?_
    rintro e3 w3 ⟨v3, rfl, hv3, hb3⟩
    have HV3 := hide hv3
    obtain ⟨x8, y8, p8, rfl, -⟩ := hv3.agg
    generalize decide (d1.num < 0) = r8 at *
    have grl : gr < w2.heap.size := lt_of_cell r0
    replace OR : ∀ j, w3.frozen? ⟨gr, j, none⟩ = false := Open.but (w := w2) (g := gr) OR hb3 grl (by simp)
    replace r0 := hb3.cell_some r0 (by simp)
    replace r1 := hb3.cell_some r1 (by simp)
    replace r2 := hb3.cell_some r2 (by simp)
    replace r3 := hb3.cell_some r3 (by simp)
    have H3 : Hid (But [] w w3) := (unhide H2).trans' hb3
    have FIN : Hid (Len d1 21 ∧ ∀ y : Rat, y.den ≤ most → dist d1 f ≤ dist y f) := by
      obtain ⟨l1, l2, hb⟩ := unhide LB
      exact ⟨l1, fun y hy => hb d1 y hy Rat.le_refl ((unhide HBT).1 (by simp))⟩
    clear hb3 hv3 H2 K2 VA VB LB HBT m0 m1 m2 m3 m4 n0 n1 n2 n3 n4 grl
    go_wp2
    have hBg := but_set4 w3 gr (.bool r8) (.int .u64 x8) (.int .u64 y8) (.pointer p8)
    exact bodyPost_ret (v := .tuple #[.agg #[.bool r8, .int .u64 x8, .int .u64 y8, .pointer p8], .nilIface]) (by simp [results, Tryz.results6, go_sem, r0, r1, r2, r3]) rfl ⟨_, d1, rfl, (unhide HV3).over r0 hBg, (unhide FIN).1, (unhide FIN).2, (unhide H3).trans hBg (fun x hx => by simp at hx; subst hx; exact .inr (unhide HGR))⟩
end Go.Proofs.YtlnacciciafliaaGreatDoor

namespace Go.Proofs.YtlnacciciafliaaGreatDoor
open Go.RowKit

theorem near_len {g : Rat} {n : Nat} (h : Len g n) (hn : 0 < n) : Len (nearR g) (n + 3) := by
  have h1 := fl_len h hn
  have h2 := int_len 1 (by omega) (by omega)
  unfold nearR
  split
  · exact len_add h1 h2 (n + 3) (by omega)
  · exact h1.mono (by omega)

set_option maxHeartbeats 16000000 in
set_option maxRecDepth 100000 in
theorem round_any (vf vz : Value) (f z : Rat) (w : World) (hf : FracAt w vf f) (hz : FracAt w vz z) (lf : Len f 1) (lz : Len z 1) (hz0 : 0 < z.num) :
    Calls Tryz.prog 9 #[vf, vz] w fun e w' => ∃ v', e = .returned (.tuple #[v', .nilIface]) ∧ FracAt w' v' (nearR (f * z⁻¹) * z) ∧ But [] w w' := by
  have hzn : z.num ≠ 0 := by omega
  have lzi := len_inv lz hzn
  have lq := len_mul lf lzi 2 (by omega)
  have ln := near_len lq (by omega)
  have SG : Hid (∀ W, But [] w W → Calls Tryz.prog 12 #[vz] W fun e w' => e = .returned (.int .i64 1) ∧ But [] W w') := fun W h => by
    have := fracSign_any vz z W (hz.but h)
    rw [Int.sign_eq_one_of_pos hz0] at this
    exact this
  have TU := hide (fun W (h : But [] w W) => fracTurned_any vz z W (hz.but h) hzn)
  have M1 := hide (fun W v (h : But [] w W) (hv : FracAt W v z⁻¹) => fracMul_any vf v f z⁻¹ W (hf.but h) hv (lf.mono (by omega)) (lzi.mono (by omega)))
  have NR := hide (fun W v (hv : FracAt W v (f * z⁻¹)) => nearest_any v (f * z⁻¹) W hv (lq.mono (by omega)))
  have M2 := hide (fun W v (h : But [] w W) (hv : FracAt W v (nearR (f * z⁻¹))) => fracMul_any v vz _ z W hv (hz.but h) (ln.mono (by omega)) (lz.mono (by omega)))
  obtain ⟨d, hd⟩ : ∃ d, d = nearR (f * z⁻¹) * z := ⟨_, rfl⟩
  rw [← hd] at M2 ⊢
  obtain ⟨x1, y1, p1, rfl, -⟩ := hf.agg
  obtain ⟨x2, y2, p2, rfl, -⟩ := hz.agg
  generalize decide (f.num < 0) = s1 at *
  generalize decide (z.num < 0) = s2 at *
  clear hf hz lf lz hz0 hzn lzi lq ln hd
  obtain ⟨W, hW⟩ : ∃ W, W = (((w.alloc (.cells #[.bool s1, .int .u64 x1, .int .u64 y1, .pointer p1] 28)).alloc (.cells #[.bool s2, .int .u64 x2, .int .u64 y2, .pointer p2] 28)).alloc (.cells #[.bool false, .int .u64 0, .int .u64 0, .pointer none] 28)) := ⟨_, rfl⟩
  obtain ⟨tA, tB, tC, fz, hB⟩ := three_new w W _ _ _ _ hW
  have a0 := tA 0
  have a1 := tA 1
  have a2 := tA 2
  have a3 := tA 3
  have b0 := tB 0
  have b1 := tB 1
  have b2 := tB 2
  have b3 := tB 3
  have r0 := tC 0
  have r1 := tC 1
  have r2 := tC 2
  have r3 := tC 3
  simp only [List.getElem?_toArray, List.getElem?_cons_zero, List.getElem?_cons_succ] at a0 a1 a2 a3 b0 b1 b2 b3 r0 r1 r2 r3
  clear tA tB tC
  have HW := hide hW
  have HB := hide hB
  clear hW hB
  go_enter Tryz.func9, Tryz.ntmps9
  go_wp2_with fail
  rw [← unhide HW]
  obtain ⟨ga, hga⟩ : ∃ ga, ga = w.heap.size := ⟨_, rfl⟩
  obtain ⟨gb, hgb⟩ : ∃ gb, gb = w.heap.size + 1 := ⟨_, rfl⟩
  obtain ⟨gr, hgr⟩ : ∃ gr, gr = w.heap.size + 2 := ⟨_, rfl⟩
  rw [← hga] at a0 a1 a2 a3
  rw [← hgb] at b0 b1 b2 b3
  rw [← hgr] at r0 r1 r2 r3 fz
  rw [show w.heap.size + 1 + 1 = w.heap.size + 2 from rfl, ← hgr, ← hgb, ← hga]
  have HGR : Hid (w.heap.size ≤ gr) := by show _ ≤ _; omega
  have nga : ga ≠ gr := by omega
  have ngb : gb ≠ gr := by omega
  clear hga hgb hgr HW
  refine (unhide SG _ (unhide HB)).mono ?_
  rintro e W0 ⟨rfl, hc0⟩
  have gl0 : gr < W.heap.size := lt_of_cell r0
  replace fz : ∀ j, W0.frozen? ⟨gr, j, none⟩ = false := fun j => (hc0.frozen (p := ⟨gr, j, none⟩) gl0 (by simp)).trans (fz j)
  clear gl0
  replace a0 := hc0.cell_some a0 (by simp)
  replace a1 := hc0.cell_some a1 (by simp)
  replace a2 := hc0.cell_some a2 (by simp)
  replace a3 := hc0.cell_some a3 (by simp)
  replace b0 := hc0.cell_some b0 (by simp)
  replace b1 := hc0.cell_some b1 (by simp)
  replace b2 := hc0.cell_some b2 (by simp)
  replace b3 := hc0.cell_some b3 (by simp)
  replace r0 := hc0.cell_some r0 (by simp)
  replace r1 := hc0.cell_some r1 (by simp)
  replace r2 := hc0.cell_some r2 (by simp)
  replace r3 := hc0.cell_some r3 (by simp)
  replace HB : Hid (But [] w W0) := (unhide HB).trans' hc0
  clear hc0
  go_wp2_with fail
  have grl : gr < W0.heap.size := lt_of_cell r0
  go_region_held (fun w' => w'.cell? ⟨ga, 0, none⟩ = some (.bool s1) ∧ w'.cell? ⟨ga, 1, none⟩ = some (.int .u64 x1) ∧ w'.cell? ⟨ga, 2, none⟩ = some (.int .u64 y1) ∧ w'.cell? ⟨ga, 3, none⟩ = some (.pointer p1) ∧ w'.cell? ⟨gb, 0, none⟩ = some (.bool s2) ∧ w'.cell? ⟨gb, 1, none⟩ = some (.int .u64 x2) ∧ w'.cell? ⟨gb, 2, none⟩ = some (.int .u64 y2) ∧ w'.cell? ⟨gb, 3, none⟩ = some (.pointer p2)) (first | (go_keep; done) | exact ⟨set4_cell _ _ _ _ _ _ _ _ _ nga a0_4, set4_cell _ _ _ _ _ _ _ _ _ nga a1_4, set4_cell _ _ _ _ _ _ _ _ _ nga a2_4, set4_cell _ _ _ _ _ _ _ _ _ nga a3_4, set4_cell _ _ _ _ _ _ _ _ _ ngb b0_4, set4_cell _ _ _ _ _ _ _ _ _ ngb b1_4, set4_cell _ _ _ _ _ _ _ _ _ ngb b2_4, set4_cell _ _ _ _ _ _ _ _ _ ngb b3_4⟩) (first
    | (go_at_call 24; have hchk := B3; clear hchk; refine (unhide M2 _ v3 (by first | exact (unhide HB).trans' B3 | exact ((unhide HB).trans' B3).drew) (by first | exact unhide HN3 | exact (unhide HN3).but (But.refl _ _).drew)).mono ?_; rintro e w4 ⟨v4, rfl, hn4, hc4⟩; have B4 : But [] W0 w4 := (by first | exact B3.trans' hc4 | exact (B3.drew).trans' hc4); have HN4 := hide hn4; obtain ⟨x8, y8, p8, rfl, -⟩ := hn4.agg; clear hn4; clear HN3; generalize decide (d.num < 0) = r8 at *; have u0 := B4.cell_some r0 (by simp); have u1 := B4.cell_some r1 (by simp); have u2 := B4.cell_some r2 (by simp); have u3 := B4.cell_some r3 (by simp); have uf : ∀ j, w4.frozen? ⟨gr, j, none⟩ = false := fun j => (B4.frozen (p := ⟨gr, j, none⟩) grl (by simp)).trans (fz j); clear hc4; have a0_4 := B4.cell_some a0 (by simp); have a1_4 := B4.cell_some a1 (by simp); have a2_4 := B4.cell_some a2 (by simp); have a3_4 := B4.cell_some a3 (by simp); have b0_4 := B4.cell_some b0 (by simp); have b1_4 := B4.cell_some b1 (by simp); have b2_4 := B4.cell_some b2 (by simp); have b3_4 := B4.cell_some b3 (by simp); clear a0_3 a1_3 a2_3 a3_3 b0_3 b1_3 b2_3 b3_3)
    | (go_at_call 26; have hchk := B2; clear hchk; refine (unhide NR _ v2 (by first | exact unhide HN2 | exact (unhide HN2).but (But.refl _ _).drew)).mono ?_; rintro e w3 ⟨v3, rfl, hn3, hc3⟩; have B3 : But [] W0 w3 := (by first | exact B2.trans' hc3 | exact (B2.drew).trans' hc3); have HN3 := hide hn3; clear hn3; clear HN2; clear hc3; have a0_3 := B3.cell_some a0 (by simp); have a1_3 := B3.cell_some a1 (by simp); have a2_3 := B3.cell_some a2 (by simp); have a3_3 := B3.cell_some a3 (by simp); have b0_3 := B3.cell_some b0 (by simp); have b1_3 := B3.cell_some b1 (by simp); have b2_3 := B3.cell_some b2 (by simp); have b3_3 := B3.cell_some b3 (by simp); clear a0_2 a1_2 a2_2 a3_2 b0_2 b1_2 b2_2 b3_2)
    | (go_at_call 24; have hchk := B1; clear hchk; refine (unhide M1 _ v1 (by first | exact (unhide HB).trans' B1 | exact ((unhide HB).trans' B1).drew) (by first | exact unhide HN1 | exact (unhide HN1).but (But.refl _ _).drew)).mono ?_; rintro e w2 ⟨v2, rfl, hn2, hc2⟩; have B2 : But [] W0 w2 := (by first | exact B1.trans' hc2 | exact (B1.drew).trans' hc2); have HN2 := hide hn2; clear hn2; clear HN1; clear hc2; have a0_2 := B2.cell_some a0 (by simp); have a1_2 := B2.cell_some a1 (by simp); have a2_2 := B2.cell_some a2 (by simp); have a3_2 := B2.cell_some a3 (by simp); have b0_2 := B2.cell_some b0 (by simp); have b1_2 := B2.cell_some b1 (by simp); have b2_2 := B2.cell_some b2 (by simp); have b3_2 := B2.cell_some b3 (by simp); clear a0_1 a1_1 a2_1 a3_1 b0_1 b1_1 b2_1 b3_1)
    | (go_at_call 25; refine (unhide TU _ (by first | exact unhide HB | exact (unhide HB).drew)).mono ?_; rintro e w1 ⟨v1, rfl, hn1, hc1⟩; have B1 : But [] W0 w1 := (by first | exact hc1 | exact (But.refl _ _).drew.trans' hc1); have HN1 := hide hn1; clear hn1; clear hc1; have a0_1 := B1.cell_some a0 (by simp); have a1_1 := B1.cell_some a1 (by simp); have a2_1 := B1.cell_some a2 (by simp); have a3_1 := B1.cell_some a3 (by simp); have b0_1 := B1.cell_some b0 (by simp); have b1_1 := B1.cell_some b1 (by simp); have b2_1 := B1.cell_some b2 (by simp); have b3_1 := B1.cell_some b3 (by simp)))
  all_goals (
    have hB4 := (unhide HB).trans' B4
    go_wp2
    have hBg := but_set4 w4 gr (.bool r8) (.int .u64 x8) (.int .u64 y8) (.pointer p8)
    exact bodyPost_ret (v := .tuple #[.agg #[.bool r8, .int .u64 x8, .int .u64 y8, .pointer p8], .nilIface]) (by simp [results, Tryz.results9, go_sem, u0, u1, u2, u3]) rfl ⟨_, rfl, (unhide HN4).over u0 hBg, hB4.trans hBg (fun x hx => by simp at hx; subst hx; exact .inr (unhide HGR))⟩)
end Go.Proofs.YtlnacciciafliaaGreatDoor

namespace Go.Proofs.YtlnacciciafliaaGreatDoor
open Go.RowKit

set_option maxHeartbeats 16000000 in
set_option maxRecDepth 100000 in
theorem off_any (vg : Value) (g f : Rat) (gp : Nat) (fs : Bool) (fx fy : Int) (w : World) (hg : FracAt w vg g) (hf : ∀ W, FracAt W (.agg #[.bool fs, .int .u64 fx, .int .u64 fy, .pointer none]) f) (lg : Len g 21) (lf : Len f 1) (hc : P4 w gp fs fx fy none) :
    Calls Tryz.prog 10 #[vg, .pointer (some ⟨gp, 0, none⟩)] w fun e w' => ∃ v', e = .returned v' ∧ FracAt w' v' (dist g f) ∧ But [] w w' := by
  have SU := hide (fun W (h : But [] w W) => fracSub_any vg _ g f W (hg.but h) (hf W) (lg.mono (by omega)) (lf.mono (by omega)))
  obtain ⟨d, hd⟩ : ∃ d, d = g - f := ⟨_, rfl⟩
  have hdist : dist g f = absR d := by rw [hd]; rfl
  rw [hdist]
  rw [← hd] at SU
  have SG := hide (fun W v (h : FracAt W v d) => fracSign_any v d W h)
  have NG := hide (fun W v (h : FracAt W v d) => fracNeg_any v d W h)
  have HAB : Hid ((d.num < 0 → absR d = -d) ∧ (¬ d.num < 0 → absR d = d)) := ⟨fun h => if_pos h, fun h => if_neg h⟩
  obtain ⟨x1, y1, p1, rfl, -⟩ := hg.agg
  generalize decide (g.num < 0) = s1 at *
  clear hg hf lg lf hd hdist
  obtain ⟨W, hW⟩ : ∃ W, W = (w.alloc (.cells #[.bool s1, .int .u64 x1, .int .u64 y1, .pointer p1] 28)).alloc (.cells #[.bool false, .int .u64 0, .int .u64 0, .pointer none] 28) := ⟨_, rfl⟩
  obtain ⟨tA, tC, -, fz, hB⟩ := two_news w W _ _ _ _ hW
  have a0 := tA 0
  have a1 := tA 1
  have a2 := tA 2
  have a3 := tA 3
  have r0 := tC 0
  have r1 := tC 1
  have r2 := tC 2
  have r3 := tC 3
  simp only [List.getElem?_toArray, List.getElem?_cons_zero, List.getElem?_cons_succ] at a0 a1 a2 a3 r0 r1 r2 r3
  obtain ⟨f0, f1, f2, f3⟩ := hc
  have gpl : gp < w.heap.size := lt_of_cell f0
  have gpl1 : gp < w.heap.size + 1 := by omega
  have gne : ¬ gp = w.heap.size := by omega
  have gne1 : ¬ gp = w.heap.size + 1 := by omega
  clear tA tC
  have HW := hide hW
  have HB := hide hB
  clear hW hB
  go_enter Tryz.func10, Tryz.ntmps10
  go_wp2_with fail
  rw [← unhide HW]
  obtain ⟨ga, hga⟩ : ∃ ga, ga = w.heap.size := ⟨_, rfl⟩
  obtain ⟨gr, hgr⟩ : ∃ gr, gr = w.heap.size + 1 := ⟨_, rfl⟩
  rw [← hga] at a0 a1 a2 a3
  rw [← hgr] at r0 r1 r2 r3 fz
  rw [← hgr, ← hga]
  have HGR : Hid (w.heap.size ≤ gr) := by show _ ≤ _; omega
  clear hga hgr HW gpl gpl1 gne gne1
  refine (unhide SU _ (unhide HB)).mono ?_
  rintro e1 w1 ⟨v1, rfl, hv1, hb1⟩
  have HV := hide hv1
  obtain ⟨x2, y2, p2, rfl, -⟩ := hv1.agg
  obtain ⟨s2, hs2⟩ : ∃ s2, s2 = decide (d.num < 0) := ⟨_, rfl⟩
  rw [← hs2] at HV ⊢
  have grl : gr < W.heap.size := lt_of_cell r0
  replace fz : ∀ j, w1.frozen? ⟨gr, j, none⟩ = false := fun j => (hb1.frozen (p := ⟨gr, j, none⟩) grl (by simp)).trans (fz j)
  replace r0 := hb1.cell_some r0 (by simp)
  replace r1 := hb1.cell_some r1 (by simp)
  replace r2 := hb1.cell_some r2 (by simp)
  replace r3 := hb1.cell_some r3 (by simp)
  replace HB : Hid (But [] w w1) := (unhide HB).trans' hb1
  clear hb1 hv1 grl a0 a1 a2 a3 f0 f1 f2 f3 SU hs2
  obtain ⟨V, hV⟩ : ∃ V, V = w1.alloc (.cells #[.bool s2, .int .u64 x2, .int .u64 y2, .pointer p2] 28) := ⟨_, rfl⟩
  have d0 : V.cell? ⟨w1.heap.size, 0, none⟩ = some (.bool s2) := by rw [hV]; simp
  have d1 : V.cell? ⟨w1.heap.size, 1, none⟩ = some (.int .u64 x2) := by rw [hV]; simp
  have d2 : V.cell? ⟨w1.heap.size, 2, none⟩ = some (.int .u64 y2) := by rw [hV]; simp
  have d3 : V.cell? ⟨w1.heap.size, 3, none⟩ = some (.pointer p2) := by rw [hV]; simp
  have bV : But [] w1 V := by rw [hV]; exact (But.refl _ _).alloc _
  have grl : gr < w1.heap.size := lt_of_cell r0
  have ndr : w1.heap.size ≠ gr := by omega
  go_wp2_with fail
  rw [← hV]
  clear hV
  replace fz : ∀ j, V.frozen? ⟨gr, j, none⟩ = false := fun j => (bV.frozen (p := ⟨gr, j, none⟩) grl (by simp)).trans (fz j)
  replace r0 := bV.cell_some r0 (by simp)
  replace r1 := bV.cell_some r1 (by simp)
  replace r2 := bV.cell_some r2 (by simp)
  replace r3 := bV.cell_some r3 (by simp)
  replace HB : Hid (But [] w V) := (unhide HB).trans' bV
  replace HV : Hid (FracAt V (.agg #[.bool s2, .int .u64 x2, .int .u64 y2, .pointer p2]) d) := (unhide HV).but bV
  clear bV grl
  generalize w1.heap.size = gd at *
  refine (unhide SG _ _ (unhide HV)).mono ?_
  rintro e2 w2 ⟨rfl, hb2⟩
  have grl : gr < V.heap.size := lt_of_cell r0
  replace fz : ∀ j, w2.frozen? ⟨gr, j, none⟩ = false := fun j => (hb2.frozen (p := ⟨gr, j, none⟩) grl (by simp)).trans (fz j)
  replace r0 := hb2.cell_some r0 (by simp)
  replace r1 := hb2.cell_some r1 (by simp)
  replace r2 := hb2.cell_some r2 (by simp)
  replace r3 := hb2.cell_some r3 (by simp)
  replace d0 := hb2.cell_some d0 (by simp)
  replace d1 := hb2.cell_some d1 (by simp)
  replace d2 := hb2.cell_some d2 (by simp)
  replace d3 := hb2.cell_some d3 (by simp)
  replace HB : Hid (But [] w w2) := (unhide HB).trans' hb2
  replace HV : Hid (FracAt w2 (.agg #[.bool s2, .int .u64 x2, .int .u64 y2, .pointer p2]) d) := (unhide HV).but hb2
  clear hb2 grl SG
  by_cases hn : d.num < 0
  · have hs : d.num.sign = -1 := Int.sign_eq_neg_one_of_neg hn
    have HE := hide ((unhide HAB).1 hn)
    rw [hs]
    clear hs hn HAB
    go_wp2_with fail
    refine (unhide NG _ _ (unhide HV)).mono ?_
    rintro e3 w3 ⟨v3, rfl, hv3, hb3⟩
    have HV3 := hide hv3
    obtain ⟨x8, y8, p8, rfl, -⟩ := hv3.agg
    generalize decide ((-d).num < 0) = r8 at *
    have grl : gr < w2.heap.size := lt_of_cell r0
    replace fz : ∀ j, w3.frozen? ⟨gr, j, none⟩ = false := fun j => (hb3.frozen (p := ⟨gr, j, none⟩) grl (by simp)).trans (fz j)
    replace r0 := hb3.cell_some r0 (by simp)
    replace r1 := hb3.cell_some r1 (by simp)
    replace r2 := hb3.cell_some r2 (by simp)
    replace r3 := hb3.cell_some r3 (by simp)
    have H3 : Hid (But [] w w3) := (unhide HB).trans' hb3
    clear hb3 hv3 HB HV grl d0 d1 d2 d3 NG
    go_wp2
    have hBg := but_set4 w3 gr (.bool r8) (.int .u64 x8) (.int .u64 y8) (.pointer p8)
    exact bodyPost_ret (v := .agg #[.bool r8, .int .u64 x8, .int .u64 y8, .pointer p8]) (by simp [results, Tryz.results10, go_sem, r0, r1, r2, r3]) rfl ⟨_, rfl, by rw [unhide HE]; exact (unhide HV3).over r0 hBg, (unhide H3).trans hBg (fun x hx => by simp at hx; subst hx; exact .inr (unhide HGR))⟩
  · have HE := hide ((unhide HAB).2 (by omega))
    have hs : ¬ d.num.sign < 0 := fun e => hn (Int.neg_of_sign_eq_neg_one (by
      rcases Int.lt_trichotomy d.num 0 with h | h | h
      · exact absurd h hn
      · rw [h] at e; simp at e
      · rw [Int.sign_eq_one_of_pos h] at e; omega))
    obtain ⟨sg, hsg⟩ : ∃ sg, sg = d.num.sign := ⟨_, rfl⟩
    rw [← hsg] at hs ⊢
    clear hsg hn HAB NG
    go_wp2
    have hBg := but_set4 w2 gr (.bool s2) (.int .u64 x2) (.int .u64 y2) (.pointer p2)
    exact bodyPost_ret (v := .agg #[.bool s2, .int .u64 x2, .int .u64 y2, .pointer p2]) (by simp [results, Tryz.results10, go_sem, r0, r1, r2, r3]) rfl ⟨_, rfl, by rw [unhide HE]; exact (unhide HV).over r0 hBg, (unhide HB).trans hBg (fun x hx => by simp at hx; subst hx; exact .inr (unhide HGR))⟩
end Go.Proofs.YtlnacciciafliaaGreatDoor
