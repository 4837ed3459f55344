/- Which of two marks is the nearer one, as the Go text of package frac asks. -/
import Derived.Test.YtihiafgogbhjkaaGreatDoorRM3
namespace Go.Proofs.YtihiafgogbhjkaaGreatDoor
open Go.RowKit

/-- what the call leaves: which one comes first -/
def NearPost (w : World) (f xa xb : Rat) (e : Ending) (w' : World) : Prop := ∃ b, e = .returned (.bool b) ∧ (b = true → Bef f xa xb) ∧ (b = false → Bef f xb xa) ∧ But [] w w'
theorem len_abs {f : Rat} {n : Nat} (h : Len f n) : Len (absR f) n := by
  obtain ⟨a1, a2, -⟩ := absR_facts f
  unfold Len
  rw [a1, a2]
  exact h
theorem cmpZ_cases (x y : Rat) (r : Int) (hr : r = cmpZ (x.num * (y.den : Int)) (y.num * (x.den : Int))) : (r = 0 → x = y) ∧ (r < 0 → x < y) ∧ (0 < r → y < x) := by
  have h1 := cmp_le x y
  have h2 : (y ≤ x) ↔ 0 ≤ r := by
    rw [Rat.le_iff, hr]
    unfold cmpZ
    constructor
    · intro h
      rw [if_neg (by omega)]
      split <;> omega
    · intro h
      by_cases h3 : x.num * (y.den : Int) < y.num * (x.den : Int)
      · rw [if_pos h3] at h; omega
      · omega
  rw [← hr] at h1
  refine ⟨fun e => Rat.le_antisymm (h1.1 (by omega)) (h2.2 (by omega)), fun e => ?_, fun e => ?_⟩
  · have h3 : ¬ y ≤ x := fun k => by have := h2.1 k; omega
    grind
  · have h3 : ¬ x ≤ y := fun k => by have := h1.2 k; omega
    grind

set_option maxHeartbeats 16000000 in
set_option maxRecDepth 100000 in
theorem nearer_any (va vb : Value) (Oa Ob : Int) (ua ub : Nat) (f : Rat) (gp : Nat) (fs : Bool) (fx fy : Int) (w : World) (ha : MarkAt w va Oa ua) (hb : MarkAt w vb Ob ub) (ha0 : 0 < ua) (ha1 : ua ≤ 1000000) (hb0 : 0 < ub) (hb1 : ub ≤ 1000000) (la : Len ((Oa : Int) : Rat) 20) (lb : Len ((Ob : Int) : Rat) 20)
    (hf : ∀ W, FracAt W (.agg #[.bool fs, .int .u64 fx, .int .u64 fy, .pointer none]) f) (lf : Len f 1) (hc : P4 w gp fs fx fy none) (hda : ((Oa : Rat) * (((ua : Int) : Rat))⁻¹).den = ua) (hdb : ((Ob : Rat) * (((ub : Int) : Rat))⁻¹).den = ub) :
    Calls Tryz.prog 108 #[va, vb, .pointer (some ⟨gp, 0, none⟩)] w fun e w' => NearPost w f ((Oa : Rat) * (((ua : Int) : Rat))⁻¹) ((Ob : Rat) * (((ub : Int) : Rat))⁻¹) e w' := by
  have VA := hide (fun W (h : But [] w W) => markValue_any va Oa ua W (ha.but h) ha0 ha1 (la.mono (by omega)))
  have VB := hide (fun W (h : But [] w W) => markValue_any vb Ob ub W (hb.but h) hb0 hb1 (lb.mono (by omega)))
  have l1 := len_mul la (len_inv (int_len (ua : Int) (by omega) (by omega)) (inv_num_one ua ha0)) 21 (by omega)
  have l2 := len_mul lb (len_inv (int_len (ub : Int) (by omega) (by omega)) (inv_num_one ub hb0)) 21 (by omega)
  obtain ⟨d1, hd1⟩ : ∃ d1, d1 = (Oa : Rat) * (((ua : Int) : Rat))⁻¹ := ⟨_, rfl⟩
  obtain ⟨d2, hd2⟩ : ∃ d2, d2 = (Ob : Rat) * (((ub : Int) : Rat))⁻¹ := ⟨_, rfl⟩
  rw [← hd1] at VA l1 hda ⊢
  rw [← hd2] at VB l2 hdb ⊢
  have DEN := hide (And.intro hda hdb)
  clear hda hdb
  obtain ⟨s1, x1, y1, p1, rfl, -⟩ := ha
  obtain ⟨s2, x2, y2, p2, rfl, -⟩ := hb
  have t1 := len_abs (len_sub l1 lf 23 (by omega))
  have t2 := len_abs (len_sub l2 lf 23 (by omega))
  have HA1 := hide (fun W v (h : FracAt W v (d1 - f)) => fracAbs_any v (d1 - f) W h)
  have HA2 := hide (fun W v (h : FracAt W v (d2 - f)) => fracAbs_any v (d2 - f) W h)
  have A1 : Hid (∀ W v, FracAt W v (d1 - f) → Calls Tryz.prog 93 #[v] W fun e w' => ∃ v', e = .returned v' ∧ FracAt w' v' (dist d1 f) ∧ But [] W w') := unhide HA1
  have A2 : Hid (∀ W v, FracAt W v (d2 - f) → Calls Tryz.prog 93 #[v] W fun e w' => ∃ v', e = .returned v' ∧ FracAt w' v' (dist d2 f) ∧ But [] W w') := unhide HA2
  clear HA1 HA2
  obtain ⟨r, hr⟩ : ∃ r, r = cmpZ ((dist d1 f).num * ((dist d2 f).den : Int)) ((dist d2 f).num * ((dist d1 f).den : Int)) := ⟨_, rfl⟩
  have C5 : Hid (∀ W v v', FracAt W v (dist d1 f) → FracAt W v' (dist d2 f) → Calls Tryz.prog 27 #[v, v'] W fun e w' => e = .returned (.int .i64 r) ∧ But [] W w') := fun W v v' h1 h2 => fracCmp_any v v' _ _ W h1 h2 (t1.mono (by omega)) (t2.mono (by omega)) r hr
  have RC := hide (cmpZ_cases _ _ r hr)
  obtain ⟨r2, hr2⟩ : ∃ r2, r2 = cmpZ (d1.num * (d2.den : Int)) (d2.num * (d1.den : Int)) := ⟨_, rfl⟩
  have RC2 := hide (cmpZ_cases _ _ r2 hr2)
  have SF : Hid (∀ (x : Rat) (v : Value), Len x 21 → ∀ W, FracAt W v x → Calls Tryz.prog 17 #[v, .agg #[.bool fs, .int .u64 fx, .int .u64 fy, .pointer none]] W fun e w' => ∃ v', e = .returned v' ∧ FracAt w' v' (x - f) ∧ But [] W w') := fun x v lx W h => fracSub_any v _ x f W h (hf W) (lx.mono (by omega)) (lf.mono (by omega))
  have CF : Hid (∀ W v v', FracAt W v d1 → FracAt W v' d2 → Calls Tryz.prog 27 #[v, v'] W fun e w' => e = .returned (.int .i64 r2) ∧ But [] W w') := fun W v v' h1 h2 => fracCmp_any v v' _ _ W h1 h2 (l1.mono (by omega)) (l2.mono (by omega)) r2 hr2
  have LL : Hid (Len d1 21 ∧ Len d2 21) := ⟨l1, l2⟩
  clear hd1 hd2 l1 l2 t1 t2 hr hr2 la lb hf lf
  obtain ⟨W, hW⟩ : ∃ W, W = (w.alloc (.cells #[.bool s1, .int .u64 x1, .int .u64 y1, .pointer p1, .int .i64 (ua : Int)] 129)).alloc (.cells #[.bool s2, .int .u64 x2, .int .u64 y2, .pointer p2, .int .i64 (ub : Int)] 129) := ⟨_, rfl⟩
  obtain ⟨tA, tB, -, -, hB⟩ := two_news w W _ _ _ _ hW
  have CA : Hid (P5 W w.heap.size s1 x1 y1 p1 (ua : Int)) := ⟨tA 0, tA 1, tA 2, tA 3, tA 4⟩
  have CB : Hid (P5 W (w.heap.size + 1) s2 x2 y2 p2 (ub : Int)) := ⟨tB 0, tB 1, tB 2, tB 3, tB 4⟩
  obtain ⟨f0, f1, f2, f3⟩ := hc.but hB (by simp)
  have HW := hide hW
  have HB := hide hB
  clear hW hB tA tB hc
  go_enter Tryz.func108, Tryz.ntmps108
  go_wp2_with fail
  rw [← unhide HW]
  obtain ⟨ga, hga⟩ : ∃ ga, ga = w.heap.size := ⟨_, rfl⟩
  obtain ⟨gb, hgb⟩ : ∃ gb, gb = w.heap.size + 1 := ⟨_, rfl⟩
  rw [← hgb, ← hga]
  rw [← hga] at CA
  rw [← hgb] at CB
  clear hga hgb HW
  go_cut [6, 7] (fun s6 s7 wx => ∃ (gx gy : Nat) (sx : Bool) (xx yx : Int) (px : Option Addr) (sy : Bool) (xy yy : Int) (py : Option Addr), s6 = .pointer (some ⟨gx, 0, none⟩) ∧ s7 = .pointer (some ⟨gy, 0, none⟩) ∧ Hid (But [] W wx ∧ P4 wx gx sx xx yx px ∧ P4 wx gy sy xy yy py ∧ FracAt wx (.agg #[.bool sx, .int .u64 xx, .int .u64 yx, .pointer px]) d1 ∧ FracAt wx (.agg #[.bool sy, .int .u64 xy, .int .u64 yy, .pointer py]) d2))
  case first =>
    have VX : Hid (∀ wq, But [] W wq → Calls Tryz.prog 109 #[.agg #[.bool s1, .int .u64 x1, .int .u64 y1, .pointer p1, .int .i64 (ua : Int)]] wq fun e w' => ∃ v, e = .returned v ∧ FracOf d1 w' v ∧ But [] wq w') := fun wq hq => (unhide VA wq ((unhide HB).trans' hq)).mono fun e w' ⟨v, he, hv, hb'⟩ => by
      obtain ⟨x, y, p, e', -⟩ := hv.agg
      exact ⟨v, he, ⟨⟨_, x, y, p, e'⟩, hv⟩, hb'⟩
    have VY : Hid (∀ wq, But [] W wq → Calls Tryz.prog 109 #[.agg #[.bool s2, .int .u64 x2, .int .u64 y2, .pointer p2, .int .i64 (ub : Int)]] wq fun e w' => ∃ v, e = .returned v ∧ FracOf d2 w' v ∧ But [] wq w') := fun wq hq => (unhide VB wq ((unhide HB).trans' hq)).mono fun e w' ⟨v, he, hv, hb'⟩ => by
      obtain ⟨x, y, p, e', -⟩ := hv.agg
      exact ⟨v, he, ⟨⟨_, x, y, p, e'⟩, hv⟩, hb'⟩
    refine values_region 1 _ W _ ga gb s1 x1 y1 (ua : Int) p1 s2 x2 y2 (ub : Int) p2 d1 d2 (by simp) (by simp [Act.eval]) (by simp [Act.eval]) (unhide CA) (unhide CB) (unhide VX) (unhide VY) ?_
    rintro w' vx vy b6 b7 h1 ⟨⟨sx, xx, yx, px, rfl⟩, h2⟩ ⟨⟨sy, xy, yy, py, rfl⟩, h3⟩ - - h4 h5
    have HL : Hid (But [] W w' ∧ P4 w' b6 sx xx yx px ∧ P4 w' b7 sy xy yy py ∧ FracAt w' (.agg #[.bool sx, .int .u64 xx, .int .u64 yx, .pointer px]) d1 ∧ FracAt w' (.agg #[.bool sy, .int .u64 xy, .int .u64 yy, .pointer py]) d2) := ⟨(But.refl [] W).drew.trans' h1, h4.p4, h5.p4, h2, h3⟩
    clear h1 h2 h3 h4 h5
    simp only [putted, List.foldl_cons, List.foldl_nil, Act.put, List.setIfInBounds_toArray, List.set_cons_zero, List.set_cons_succ]
    go_wp2_with fail
    go_meet
    exact ⟨b6, b7, _, _, _, _, _, _, _, _, rfl, rfl, unhide HL⟩
  case rest =>
    obtain ⟨gx, gy, sx, xx, yx, px, sy, xy, yy, py, rfl, rfl, HC⟩ := hcut
    have bC := (unhide HC).1
    replace f0 := bC.cell_some f0 (by simp)
    replace f1 := bC.cell_some f1 (by simp)
    replace f2 := bC.cell_some f2 (by simp)
    replace f3 := bC.cell_some f3 (by simp)
    obtain ⟨x0, x1, x2, x3⟩ := (unhide HC).2.1
    obtain ⟨y0, y1, y2, y3⟩ := (unhide HC).2.2.1
    obtain ⟨A4, A5⟩ : (∃ q, q = wc.cell? ⟨ga, 4, none⟩) ∧ True := ⟨⟨_, rfl⟩, trivial⟩
    have a4 := ((unhide CA).but bC (by simp)).2.2.2.2
    have b4 := ((unhide CB).but bC (by simp)).2.2.2.2
    have S1 : Hid (∀ W', But [] wc W' → Calls Tryz.prog 17 #[.agg #[.bool sx, .int .u64 xx, .int .u64 yx, .pointer px], .agg #[.bool fs, .int .u64 fx, .int .u64 fy, .pointer none]] W' fun e w' => ∃ v', e = .returned v' ∧ FracAt w' v' (d1 - f) ∧ But [] W' w') := fun W' hb => unhide SF d1 _ (unhide LL).1 W' ((unhide HC).2.2.2.1.but hb)
    have S2 : Hid (∀ W', But [] wc W' → Calls Tryz.prog 17 #[.agg #[.bool sy, .int .u64 xy, .int .u64 yy, .pointer py], .agg #[.bool fs, .int .u64 fx, .int .u64 fy, .pointer none]] W' fun e w' => ∃ v', e = .returned v' ∧ FracAt w' v' (d2 - f) ∧ But [] W' w') := fun W' hb => unhide SF d2 _ (unhide LL).2 W' ((unhide HC).2.2.2.2.but hb)
    have C6 : Hid (∀ W', But [] wc W' → Calls Tryz.prog 27 #[.agg #[.bool sx, .int .u64 xx, .int .u64 yx, .pointer px], .agg #[.bool sy, .int .u64 xy, .int .u64 yy, .pointer py]] W' fun e w' => e = .returned (.int .i64 r2) ∧ But [] W' w') := fun W' hb => unhide CF W' _ _ ((unhide HC).2.2.2.1.but hb) ((unhide HC).2.2.2.2.but hb)
    have HBw : Hid (But [] w wc) := (unhide HB).trans' bC
    have H0 : Hid (But [] wc wc) := But.refl _ _
    clear bC HC CA CB SF CF LL HB VA VB A4 A5
    go_wp2_with fail
    go_cut [8] (fun s8 wx => s8 = .int .i64 r ∧ Hid (But [] wc wx))
    case first =>
      go_region_held (fun w' => w'.cell? ⟨gx, 0, none⟩ = some (.bool sx) ∧ w'.cell? ⟨gx, 1, none⟩ = some (.int .u64 xx) ∧ w'.cell? ⟨gx, 2, none⟩ = some (.int .u64 yx) ∧ w'.cell? ⟨gx, 3, none⟩ = some (.pointer px) ∧ w'.cell? ⟨gy, 0, none⟩ = some (.bool sy) ∧ w'.cell? ⟨gy, 1, none⟩ = some (.int .u64 xy) ∧ w'.cell? ⟨gy, 2, none⟩ = some (.int .u64 yy) ∧ w'.cell? ⟨gy, 3, none⟩ = some (.pointer py) ∧ w'.cell? ⟨gp, 0, none⟩ = some (.bool fs) ∧ w'.cell? ⟨gp, 1, none⟩ = some (.int .u64 fx) ∧ w'.cell? ⟨gp, 2, none⟩ = some (.int .u64 fy) ∧ w'.cell? ⟨gp, 3, none⟩ = some (.pointer none)) (go_keep) (first
        | (go_at_call 27; have hchk := B4; clear hchk; refine (unhide C5 _ v2 v4 (by first | exact unhide HN2 | exact (unhide HN2).but (But.refl _ _).drew) (by first | exact unhide HN4 | exact (unhide HN4).but (But.refl _ _).drew)).mono ?_; rintro e w5 ⟨rfl, hc5⟩; have B5 : But [] wc w5 := (by first | exact B4.trans' hc5 | exact (B4.drew).trans' hc5); clear HN2 HN4; clear hc5; have x0_5 := B5.cell_some x0 (by simp); have x1_5 := B5.cell_some x1 (by simp); have x2_5 := B5.cell_some x2 (by simp); have x3_5 := B5.cell_some x3 (by simp); have y0_5 := B5.cell_some y0 (by simp); have y1_5 := B5.cell_some y1 (by simp); have y2_5 := B5.cell_some y2 (by simp); have y3_5 := B5.cell_some y3 (by simp); have f0_5 := B5.cell_some f0 (by simp); have f1_5 := B5.cell_some f1 (by simp); have f2_5 := B5.cell_some f2 (by simp); have f3_5 := B5.cell_some f3 (by simp); clear x0_4 x1_4 x2_4 x3_4 y0_4 y1_4 y2_4 y3_4 f0_4 f1_4 f2_4 f3_4)
        | (go_at_call 93; have hchk := B3; clear hchk; refine (unhide A2 _ v3 (by first | exact unhide HN3 | exact (unhide HN3).but (But.refl _ _).drew)).mono ?_; rintro e w4 ⟨v4, rfl, hn4, hc4⟩; have B4 : But [] wc w4 := (by first | exact B3.trans' hc4 | exact (B3.drew).trans' hc4); replace HN2 : Hid (FracAt w4 v2 (dist d1 f)) := (by first | exact (unhide HN2).but hc4 | exact ((unhide HN2).but (But.refl _ _).drew).but hc4); have HN4 := hide hn4; clear hn4; clear HN3; clear hc4; have x0_4 := B4.cell_some x0 (by simp); have x1_4 := B4.cell_some x1 (by simp); have x2_4 := B4.cell_some x2 (by simp); have x3_4 := B4.cell_some x3 (by simp); have y0_4 := B4.cell_some y0 (by simp); have y1_4 := B4.cell_some y1 (by simp); have y2_4 := B4.cell_some y2 (by simp); have y3_4 := B4.cell_some y3 (by simp); have f0_4 := B4.cell_some f0 (by simp); have f1_4 := B4.cell_some f1 (by simp); have f2_4 := B4.cell_some f2 (by simp); have f3_4 := B4.cell_some f3 (by simp); clear x0_3 x1_3 x2_3 x3_3 y0_3 y1_3 y2_3 y3_3 f0_3 f1_3 f2_3 f3_3)
        | (go_at_call 17; have hchk := B2; clear hchk; refine (unhide S2 _ (by first | exact (unhide H0).trans' B2 | exact ((unhide H0).trans' B2).drew)).mono ?_; rintro e w3 ⟨v3, rfl, hn3, hc3⟩; have B3 : But [] wc w3 := (by first | exact B2.trans' hc3 | exact (B2.drew).trans' hc3); replace HN2 : Hid (FracAt w3 v2 (dist d1 f)) := (by first | exact (unhide HN2).but hc3 | exact ((unhide HN2).but (But.refl _ _).drew).but hc3); have HN3 := hide hn3; clear hn3; clear hc3; have x0_3 := B3.cell_some x0 (by simp); have x1_3 := B3.cell_some x1 (by simp); have x2_3 := B3.cell_some x2 (by simp); have x3_3 := B3.cell_some x3 (by simp); have y0_3 := B3.cell_some y0 (by simp); have y1_3 := B3.cell_some y1 (by simp); have y2_3 := B3.cell_some y2 (by simp); have y3_3 := B3.cell_some y3 (by simp); have f0_3 := B3.cell_some f0 (by simp); have f1_3 := B3.cell_some f1 (by simp); have f2_3 := B3.cell_some f2 (by simp); have f3_3 := B3.cell_some f3 (by simp); clear x0_2 x1_2 x2_2 x3_2 y0_2 y1_2 y2_2 y3_2 f0_2 f1_2 f2_2 f3_2)
        | (go_at_call 93; have hchk := B1; clear hchk; refine (unhide A1 _ v1 (by first | exact unhide HN1 | exact (unhide HN1).but (But.refl _ _).drew)).mono ?_; rintro e w2 ⟨v2, rfl, hn2, hc2⟩; have B2 : But [] wc w2 := (by first | exact B1.trans' hc2 | exact (B1.drew).trans' hc2); have HN2 := hide hn2; clear hn2; clear HN1; clear hc2; have x0_2 := B2.cell_some x0 (by simp); have x1_2 := B2.cell_some x1 (by simp); have x2_2 := B2.cell_some x2 (by simp); have x3_2 := B2.cell_some x3 (by simp); have y0_2 := B2.cell_some y0 (by simp); have y1_2 := B2.cell_some y1 (by simp); have y2_2 := B2.cell_some y2 (by simp); have y3_2 := B2.cell_some y3 (by simp); have f0_2 := B2.cell_some f0 (by simp); have f1_2 := B2.cell_some f1 (by simp); have f2_2 := B2.cell_some f2 (by simp); have f3_2 := B2.cell_some f3 (by simp); clear x0_1 x1_1 x2_1 x3_1 y0_1 y1_1 y2_1 y3_1 f0_1 f1_1 f2_1 f3_1)
        | (go_at_call 17; refine (unhide S1 _ (by first | exact unhide H0 | exact (unhide H0).drew)).mono ?_; rintro e w1 ⟨v1, rfl, hn1, hc1⟩; have B1 : But [] wc w1 := (by first | exact hc1 | exact (But.refl _ _).drew.trans' hc1); have HN1 := hide hn1; clear hn1; clear hc1; have x0_1 := B1.cell_some x0 (by simp); have x1_1 := B1.cell_some x1 (by simp); have x2_1 := B1.cell_some x2 (by simp); have x3_1 := B1.cell_some x3 (by simp); have y0_1 := B1.cell_some y0 (by simp); have y1_1 := B1.cell_some y1 (by simp); have y2_1 := B1.cell_some y2 (by simp); have y3_1 := B1.cell_some y3 (by simp); have f0_1 := B1.cell_some f0 (by simp); have f1_1 := B1.cell_some f1 (by simp); have f2_1 := B1.cell_some f2 (by simp); have f3_1 := B1.cell_some f3 (by simp)))
      all_goals (
        have HB5 := hide B5
        clear B1 B2 B3 B4 B5
        go_wp2_with fail
        go_meet
        exact ⟨rfl, unhide HB5⟩)
    case rest =>
      obtain ⟨rfl, HD⟩ := hcut
      rename World => wd
      have hD := unhide HD
      replace x0 := hD.cell_some x0 (by simp)
      replace x1 := hD.cell_some x1 (by simp)
      replace x2 := hD.cell_some x2 (by simp)
      replace x3 := hD.cell_some x3 (by simp)
      replace y0 := hD.cell_some y0 (by simp)
      replace y1 := hD.cell_some y1 (by simp)
      replace y2 := hD.cell_some y2 (by simp)
      replace y3 := hD.cell_some y3 (by simp)
      replace a4 := hD.cell_some a4 (by simp)
      replace b4 := hD.cell_some b4 (by simp)
      have HBd : Hid (But [] w wd) := (unhide HBw).trans' hD
      clear hD f0 f1 f2 f3 S1 S2 A1 A2 C5 H0 HBw
      by_cases hr0 : r = 0
      · subst hr0
        have BO : Hid (dist d1 f = dist d2 f) := (unhide RC).1 rfl
        clear RC
        by_cases hu : ua = ub
        · have e1 : IntKind.i64.wrap ((ua : Int) - (ub : Int)) = 0 := by rw [IntKind.wrap_i64]; omega
          have DE : Hid (d1.den = d2.den) := by
            show _ = _
            rw [(unhide DEN).1, (unhide DEN).2, hu]
          clear DEN
          subst hu
          go_wp2_with fail
          refine (unhide C6 _ (unhide HD)).mono ?_
          rintro e9 w9 ⟨rfl, hb9⟩
          have HF : Hid (But [] w w9) := (unhide HBd).trans' hb9
          clear hb9
          go_wp2
          go_ret
          exact ⟨_, rfl, fun e => .inr ⟨unhide BO, .inr ⟨unhide DE, by have := (unhide RC2).2.1 (by simpa using e); grind⟩⟩, fun e => .inr ⟨(unhide BO).symm, .inr ⟨(unhide DE).symm, by
            have hn : ¬ r2 < 0 := by simpa using e
            by_cases h0 : r2 = 0
            · rw [(unhide RC2).1 h0]; exact Rat.le_refl
            · have := (unhide RC2).2.2 (by omega)
              grind⟩⟩, unhide HF⟩
        · obtain ⟨z, hz⟩ : ∃ z : Int, z = (ua : Int) - (ub : Int) := ⟨_, rfl⟩
          have e1 : IntKind.i64.wrap ((ua : Int) - (ub : Int)) = z := by rw [IntKind.wrap_i64, hz]; omega
          have e2 : ¬ z = 0 := by omega
          have e3 : (z == 0) = false := beq_eq_false_iff_ne.2 e2
          have HZ := hide hz
          clear hz hu
          go_wp2
          go_ret
          exact ⟨_, rfl, fun e => .inr ⟨unhide BO, .inl (by
            have h1 : z < 0 := by simpa using e
            rw [(unhide DEN).1, (unhide DEN).2]
            have := unhide HZ
            omega)⟩, fun e => .inr ⟨(unhide BO).symm, .inl (by
            have h1 : ¬ z < 0 := by simpa using e
            rw [(unhide DEN).1, (unhide DEN).2]
            have := unhide HZ
            omega)⟩, unhide HBd⟩
      · have e3 : (r == 0) = false := beq_eq_false_iff_ne.2 hr0
        go_wp2
        go_ret
        exact ⟨_, rfl, fun e => .inl ((unhide RC).2.1 (by simpa using e)), fun e => .inl ((unhide RC).2.2 (by
          have h1 : ¬ r < 0 := by simpa using e
          omega)), unhide HBd⟩
end Go.Proofs.YtihiafgogbhjkaaGreatDoor
