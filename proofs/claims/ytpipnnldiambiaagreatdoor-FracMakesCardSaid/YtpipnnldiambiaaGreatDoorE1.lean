/- The law FracMakes: whatever the two numbers, the Go text answers true. -/
import Derived.Test.YtpipnnldiambiaaGreatDoorB13
import Derived.Test.YtpipnnldiambiaaGreatDoorC3
import Derived.Test.YtpipnnldiambiaaGreatDoorD1
namespace Go.Proofs.YtpipnnldiambiaaGreatDoor
open Go.RowKit

theorem ba_ext {a b : ByteArray} (h : a.data.toList = b.data.toList) : a = b := by
  cases a; cases b; simp only [ByteArray.mk.injEq]; exact Array.ext' h
theorem ba_app (a b : ByteArray) : (a ++ b).data.toList = a.data.toList ++ b.data.toList := by simp
theorem txt_eq (r : Bool) (p q : Nat) (N : Int) (h1 : N.natAbs = p) (h2 : decide (N < 0) = r) : fracTxt r p q = ratTxt N q := by
  apply ba_ext
  have e : decI N = (if r then [45] else []) ++ Lib.decDigits p := by
    rw [decI, h1]
    by_cases h : N < 0
    · rw [if_pos h, ← h2, decide_eq_true h]; rfl
    · rw [if_neg h, ← h2, decide_eq_false h]; rfl
  have e2 : decI (q : Int) = Lib.decDigits q := by rw [decI, if_neg (by omega), Int.natAbs_natCast]
  rw [fracTxt, ratTxt, ba_app]
  by_cases hq : q = 1
  · rw [if_pos hq, if_pos hq, e]
    cases r <;> simp
  · rw [if_neg hq, if_neg hq, ba_app, ba_app, ba_app, e, e2]
    cases r <;> simp

theorem fracTxt_zero : fracTxt false 0 1 = ⟨#[48]⟩ := by
  rw [fracTxt]
  have : Lib.decDigits 0 = [48] := by rw [Lib.decDigits, dif_pos (by omega)]; rfl
  rw [this]
  apply ba_ext
  rw [ba_app]; rfl

set_option maxHeartbeats 4000000 in
set_option maxRecDepth 100000 in
theorem law_zero (x : Int) (w : World) (htab : Lib.TabIs Tryz.prog w "internal/strconv.uint64pow10" .u64 Lib.pow10Tab) (hg : w.cell? ⟨0, 0, none⟩ = some (.iface 85 (.agg #[.pointer (some ⟨6, 27, none⟩)]))) :
    Calls Tryz.prog 3 #[.int .i64 x, .int .i64 0] w fun e w' => e = .returned (.bool true) ∧ But [] w w' := by
  have H := hide htab
  have HG := hide hg
  clear htab hg
  go_enter Tryz.func3, Tryz.ntmps3
  go_wp2_with fail
  refine (fracOf_zero x _).mono ?_
  rintro e w1 ⟨rfl, B1⟩
  go_wp2_with fail
  have B2 : But [] w (w1.alloc (.cells #[.bool false, .int .u64 0, .int .u64 0, .pointer none] 25)) := B1.alloc _
  have c0 : (w1.alloc (.cells #[.bool false, .int .u64 0, .int .u64 0, .pointer none] 25)).cell? ⟨w1.heap.size, 0, none⟩ = some (.bool false) := by simp
  have c1 : (w1.alloc (.cells #[.bool false, .int .u64 0, .int .u64 0, .pointer none] 25)).cell? ⟨w1.heap.size, 1, none⟩ = some (.int .u64 0) := by simp
  have c2 : (w1.alloc (.cells #[.bool false, .int .u64 0, .int .u64 0, .pointer none] 25)).cell? ⟨w1.heap.size, 2, none⟩ = some (.int .u64 0) := by simp
  have c3 : (w1.alloc (.cells #[.bool false, .int .u64 0, .int .u64 0, .pointer none] 25)).cell? ⟨w1.heap.size, 3, none⟩ = some (.pointer none) := by simp
  refine (tell_errno 11 _ (B2.cell_some (unhide HG) (by simp))).mono ?_
  rintro e w2 ⟨rfl, B3⟩
  have k0 := B3.cell_some c0 (by simp)
  have k1 := B3.cell_some c1 (by simp)
  have k2 := B3.cell_some c2 (by simp)
  have k3 := B3.cell_some c3 (by simp)
  have B4 := B2.trans' B3
  go_wp2_with fail
  refine (fracText_any false 0 1 (by omega) (by omega) (by omega) _ (TabIs.but (unhide H) B4) ⟨#[48]⟩ fracTxt_zero.symm).mono ?_
  rintro e w3 ⟨rfl, B5⟩
  go_wp2
  go_ret
  exact ⟨rfl, B4.trans' B5⟩

set_option maxHeartbeats 8000000 in
set_option maxRecDepth 100000 in
theorem law_any (x y : Int) (hx1 : -9223372036854775808 ≤ x) (hx2 : x < 9223372036854775808) (hy1 : -9223372036854775808 ≤ y) (hy2 : y < 9223372036854775808) (hy0 : y ≠ 0) (w : World) (htab : Lib.TabIs Tryz.prog w "internal/strconv.uint64pow10" .u64 Lib.pow10Tab) :
    Calls Tryz.prog 3 #[.int .i64 x, .int .i64 y] w fun e w' => e = .returned (.bool true) ∧ But [] w w' := by
  have H := hide htab
  clear htab
  have n0 : (y == 0) = false := by simp; exact hy0
  obtain ⟨g, hg⟩ : ∃ g, g = Nat.gcd x.natAbs y.natAbs := ⟨_, rfl⟩
  have hg0 : 0 < g := by rw [hg]; exact Nat.gcd_pos_of_pos_right _ (by omega)
  have hgl : g ≤ y.natAbs := by rw [hg]; exact Nat.gcd_le_right _ (by omega)
  obtain ⟨p, hp⟩ : ∃ p, p = x.natAbs / g := ⟨_, rfl⟩
  obtain ⟨q, hq⟩ : ∃ q, q = y.natAbs / g := ⟨_, rfl⟩
  have hp64 : p < 18446744073709551616 := by rw [hp]; exact Nat.lt_of_le_of_lt (Nat.div_le_self _ _) (by omega)
  have hq64 : q < 18446744073709551616 := by rw [hq]; exact Nat.lt_of_le_of_lt (Nat.div_le_self _ _) (by omega)
  have hq0 : 0 < q := by rw [hq]; exact Nat.div_pos hgl hg0
  obtain ⟨N, hN⟩ : ∃ N, N = redN (if y < 0 then -x else x) y.natAbs := ⟨_, rfl⟩
  have hNa : N.natAbs = p := by
    rw [hN, redN_abs, hp, hg]
    split <;> simp
  obtain ⟨r, hr⟩ : ∃ r, r = ((decide (x < 0) != decide (y < 0)) && decide (p ≠ 0)) := ⟨_, rfl⟩
  have hNr : decide (N < 0) = r := by
    have hp0 : p = 0 ↔ x = 0 := by
      rw [hp, Nat.div_eq_zero_iff]
      constructor
      · intro h
        rcases h with h | h
        · omega
        · rcases Nat.eq_zero_or_pos x.natAbs with h1 | h1
          · omega
          · have := Nat.gcd_le_left y.natAbs h1
            omega
      · rintro rfl; right; simpa using hg0
    rw [hN, redN_neg, hr]
    rw [Bool.eq_iff_iff]
    by_cases h1 : x < 0 <;> by_cases h2 : y < 0 <;> simp [h1, h2] <;> omega
  have hD : (q : Int) = redD x y.natAbs := by rw [redD, hq, hg]
  obtain ⟨t, ht⟩ : ∃ t, t = fracTxt r p q := ⟨_, rfl⟩
  have ht2 : t = ratTxt N q := by rw [ht]; exact txt_eq r p q N hNa hNr
  obtain ⟨u, hu⟩ : ∃ u, u = fracTxt (decide (x < 0)) x.natAbs 1 := ⟨_, rfl⟩
  have hu2 : u = ratTxt x 1 := by rw [hu]; exact txt_eq _ _ _ x rfl rfl
  have HP : Hid (p = x.natAbs / Nat.gcd x.natAbs y.natAbs) := by show _ = _; rw [hp, hg]
  have HQ : Hid (q = y.natAbs / Nat.gcd x.natAbs y.natAbs) := by show _ = _; rw [hq, hg]
  have HR := hide hr
  have HN := hide hN
  have HD := hide hD
  have HT := hide ht
  have HT2 := hide ht2
  have HU := hide hu
  have HU2 := hide hu2
  have hNl : N.natAbs < 18446744073709551616 := by omega
  clear hp hq hr hN hD ht ht2 hu hu2 hNa hNr hg hgl hg0
  go_enter Tryz.func3, Tryz.ntmps3
  go_wp2_with fail
  refine (fracOf_any x y hx1 hx2 hy1 hy2 hy0 _ r p q HR HP HQ).mono ?_
  rintro e w1 ⟨rfl, B1⟩
  go_wp2_with fail
  have B2 : But [] w (w1.alloc (.cells #[.bool r, .int .u64 (p : Int), .int .u64 ((q : Int) - 1), .pointer none] 25)) := B1.alloc _
  refine (fracText_any r p q hp64 hq64 hq0 _ (TabIs.but (unhide H) B2) t HT).mono ?_
  rintro e w2 ⟨rfl, B3⟩
  have B4 := B2.trans' B3
  clear B1 B2 B3
  go_wp2_with fail
  refine (refInt_any x _ hx1 hx2).mono ?_
  rintro e w3 ⟨xb, rfl, B5, R5⟩
  go_wp2_with fail
  refine (refInt_any y _ hy1 hy2).mono ?_
  rintro e w4 ⟨yb, rfl, B6, R6⟩
  go_wp2_with fail
  refine (refDiv_any xb yb x y _ (R5.but B6) R6 (by omega) (by omega) hy0 N q HN HD).mono ?_
  rintro e w5 ⟨zb, rfl, B7, R7⟩
  go_wp2_with fail
  refine (refText_any zb N q _ R7 hq0 hq64 hNl t HT2).mono ?_
  rintro e w6 ⟨rfl, B8⟩
  have B9 := (((B4.trans' B5).trans' B6).trans' B7).trans' B8
  clear B4 B5 B6 B7 B8 R5 R6 R7
  go_wp2_with fail
  refine (whole_any x hx1 hx2 _).mono ?_
  rintro e w7 ⟨rfl, B10⟩
  have B11 := B9.trans' B10
  go_wp2_with fail
  refine (fracText_any (decide (x < 0)) x.natAbs 1 (by omega) (by omega) (by omega) _ (TabIs.but (unhide H) B11) u HU).mono ?_
  rintro e w8 ⟨rfl, B12⟩
  go_wp2_with fail
  refine (refInt_any x _ hx1 hx2).mono ?_
  rintro e w9 ⟨vb, rfl, B13, R13⟩
  go_wp2_with fail
  refine (refText_any vb x 1 _ R13 (by omega) (by omega) (by omega) u HU2).mono ?_
  rintro e w10 ⟨rfl, B14⟩
  go_wp2
  go_ret
  exact ⟨rfl, ((B11.trans' B12).trans' B13).trans' B14⟩
end Go.Proofs.YtpipnnldiambiaaGreatDoor
