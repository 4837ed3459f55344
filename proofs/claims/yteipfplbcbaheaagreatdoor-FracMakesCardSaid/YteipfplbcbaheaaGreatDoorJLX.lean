/- Texts of fractions, of both kinds, are the same. -/
import Derived.Test.YteipfplbcbaheaaGreatDoorJD1
import Derived.Test.YteipfplbcbaheaaGreatDoorJF8
import Derived.Test.YteipfplbcbaheaaGreatDoorJHN
import Derived.Test.YteipfplbcbaheaaGreatDoorJHT
import Derived.Test.YteipfplbcbaheaaGreatDoorJQ4
namespace Go.Proofs.YteipfplbcbaheaaGreatDoor
open Go.RowKit

theorem nba_ext {a b : ByteArray} (h : a.data.toList = b.data.toList) : a = b := by
  cases a; cases b; simp only [ByteArray.mk.injEq]; exact Array.ext' h
theorem nba_app (a b : ByteArray) : (a ++ b).data.toList = a.data.toList ++ b.data.toList := by simp
theorem txt_same (x : Rat) : fracTxt (decide (x.num < 0)) x.num.natAbs x.den = ratTxt x.num x.den := by
  apply nba_ext
  have e : decI x.num = (if decide (x.num < 0) then [45] else []) ++ Lib.decDigits x.num.natAbs := by
    rw [decI]
    by_cases h : x.num < 0
    · rw [if_pos h, decide_eq_true h]; rfl
    · rw [if_neg h, decide_eq_false h]; rfl
  have e2 : decI (x.den : Int) = Lib.decDigits x.den := by rw [decI, if_neg (by omega), Int.natAbs_natCast]
  generalize decide (x.num < 0) = r at *
  rw [fracTxt, ratTxt, nba_app]
  by_cases hq : x.den = 1
  · rw [if_pos hq, if_pos hq, e]
    cases r <;> simp
  · rw [if_neg hq, if_neg hq, nba_app, nba_app, nba_app, e, e2]
    cases r <;> simp
theorem txt_zero : fracTxt false 0 1 = ⟨#[48]⟩ := by
  rw [fracTxt]
  have : Lib.decDigits 0 = [48] := by rw [Lib.decDigits, dif_pos (by omega)]; rfl
  rw [this]
  apply nba_ext
  rw [nba_app]; rfl

theorem len_zero : Len (0 : Rat) 1000000 := ⟨by show (wd 18446744073709551616 0).length ≤ _; rw [wd_zero]; simp, Nat.le_trans (wd_length_le (B := 18446744073709551616) (by omega) 1 1 (by omega)) (by omega)⟩
theorem lenU_len {f : Rat} {n : Nat} (h : Len f n) : LenU f (2 * n) := by
  have h1 := lt_of_wd_length (B := 18446744073709551616) (by omega) _ n h.1
  have h2 := lt_of_wd_length (B := 18446744073709551616) (by omega) _ n h.2
  have e : (18446744073709551616 : Nat) ^ n = 4294967296 ^ (2 * n) := by rw [Nat.pow_mul]
  rw [e] at h1 h2
  exact ⟨wd_length_le (by omega) _ _ h1, wd_length_le (by omega) _ _ h2⟩
end Go.Proofs.YteipfplbcbaheaaGreatDoor

namespace Go.Proofs.YteipfplbcbaheaaGreatDoor
open Go.RowKit

set_option maxHeartbeats 4000000 in
theorem ofZero_any (x : Int) (w : World) :
    Calls Tryz.prog 42 #[.int .i64 x, .int .i64 0] w fun e w' => e = .returned (.tuple #[.agg #[.bool false, .int .u64 0, .int .u64 0, .pointer none], .iface 35 (.int .i64 11)]) ∧ But [] w w' := by
  go_enter Tryz.func42, Tryz.ntmps42
  go_wp2
  exact bodyPost_ret (v := .tuple #[.agg #[.bool false, .int .u64 0, .int .u64 0, .pointer none], .iface 35 (.int .i64 11)]) (by simp [results, Tryz.results42, go_sem]) rfl ⟨rfl, (But.refl _ _).alloc _⟩

set_option maxHeartbeats 4000000 in
set_option maxRecDepth 100000 in
theorem makes_zero (x : Int) (w : World) (htab : Lib.TabIs Tryz.prog w "internal/strconv.uint64pow10" .u64 Lib.pow10Tab) (hg : w.cell? ⟨1, 0, none⟩ = some (.iface 235 (.agg #[.pointer (some ⟨8, 32, none⟩)]))) :
    Calls Tryz.prog 4 #[.int .i64 x, .int .i64 0] w fun e w' => e = .returned (.bool true) ∧ But [] w w' := by
  have TZ := hide (fun W h => fracText_len (.agg #[.bool false, .int .u64 0, .int .u64 0, .pointer none]) 0 W (int_at (s := false) (p := 0) (by simp [sgn]) (by omega) (fun e => by simp at e)) len_zero h ⟨#[48]⟩ txt_zero.symm)
  have H := hide htab
  have HG := hide hg
  clear htab hg
  go_enter Tryz.func4, Tryz.ntmps4
  go_wp2_with fail
  refine (ofZero_any x _).mono ?_
  rintro e w1 ⟨rfl, B1⟩
  obtain ⟨V, hV⟩ : ∃ V, V = w1.alloc (.cells #[.bool false, .int .u64 0, .int .u64 0, .pointer none] 27) := ⟨_, rfl⟩
  obtain ⟨gf, hgf⟩ : ∃ gf, gf = w1.heap.size := ⟨_, rfl⟩
  have c0 : V.cell? ⟨gf, 0, none⟩ = some (.bool false) := by rw [hV, hgf]; simp
  have c1 : V.cell? ⟨gf, 1, none⟩ = some (.int .u64 0) := by rw [hV, hgf]; simp
  have c2 : V.cell? ⟨gf, 2, none⟩ = some (.int .u64 0) := by rw [hV, hgf]; simp
  have c3 : V.cell? ⟨gf, 3, none⟩ = some (.pointer none) := by rw [hV, hgf]; simp
  have bV : But [] w V := by rw [hV]; exact B1.alloc _
  have TE1 := hide (tell_errno 11 V (bV.cell_some (unhide HG) (by simp)))
  have HBV := hide bV
  have HV := hide hV
  clear bV hV B1
  go_wp2_with fail
  rw [← unhide HV]
  try rw [← hgf]
  clear hgf HV
  refine (unhide TE1).mono ?_
  rintro e w2 ⟨rfl, B3⟩
  replace c0 := B3.cell_some c0 (by simp)
  replace c1 := B3.cell_some c1 (by simp)
  replace c2 := B3.cell_some c2 (by simp)
  replace c3 := B3.cell_some c3 (by simp)
  have B4 := hide ((unhide HBV).trans' B3)
  clear B3
  go_wp2_with fail
  refine (unhide TZ _ (TabIs.but (unhide H) (unhide B4))).mono ?_
  rintro e w3 ⟨rfl, B5⟩
  have B6 := hide ((unhide B4).trans' B5)
  clear B5
  go_wp2
  go_ret
  exact ⟨rfl, unhide B6⟩

set_option maxHeartbeats 8000000 in
set_option maxRecDepth 100000 in
theorem makes_any (x y : Int) (hx1 : -9223372036854775808 ≤ x) (hx2 : x < 9223372036854775808) (hy1 : -9223372036854775808 ≤ y) (hy2 : y < 9223372036854775808) (hy0 : y ≠ 0) (w : World) (htab : Lib.TabIs Tryz.prog w "internal/strconv.uint64pow10" .u64 Lib.pow10Tab) :
    Calls Tryz.prog 4 #[.int .i64 x, .int .i64 y] w fun e w' => e = .returned (.bool true) ∧ But [] w w' := by
  have n0 : (y == 0) = false := by simp; exact hy0
  obtain ⟨f, r, p, q, lf, hcr, FF, CF⟩ := fracOf_at x y hx1 hx2 hy1 hy2 hy0
  obtain ⟨rw', pw, FW, CW⟩ := whole_at x hx1 hx2 w
  obtain ⟨t, ht⟩ : ∃ t, t = fracTxt (decide (f.num < 0)) f.num.natAbs f.den := ⟨_, rfl⟩
  obtain ⟨i1, i2⟩ := int_num x
  obtain ⟨u, hu⟩ : ∃ u, u = fracTxt (decide ((((x : Int) : Rat)).num < 0)) (((x : Int) : Rat)).num.natAbs (((x : Int) : Rat)).den := ⟨_, rfl⟩
  have lx2 : (wd 4294967296 x.natAbs).length ≤ 2 := len_le_two _ (by omega)
  have ly2 : (wd 4294967296 y.natAbs).length ≤ 2 := len_le_two _ (by omega)
  have l1 : (wd 4294967296 1).length ≤ 2 := len_le_two _ (by omega)
  have lxU : LenU ((x : Int) : Rat) 2 := ⟨by rw [i1]; exact lx2, by rw [i2]; exact l1⟩
  obtain ⟨j1, j2⟩ := int_num y
  have lyU : LenU ((y : Int) : Rat) 2 := ⟨by rw [j1]; exact ly2, by rw [j2]; exact l1⟩
  have lx1 : Len ((x : Int) : Rat) 1 := ⟨by rw [i1]; exact wd_length_le (by omega) _ 1 (by omega), by rw [i2]; exact wd_length_le (by omega) _ 1 (by omega)⟩
  have hfy : f * ((y : Int) : Rat) = ((x : Int) : Rat) := by
    have h := cross_mul f ((y : Int) : Rat)
    rw [j1, j2, Nat.mul_one] at h
    have hd := den_pos f
    obtain ⟨e1, e2⟩ := rat_of_coprime x 1 (by omega) (by simp) (f * ((y : Int) : Rat)) (by
      refine Int.eq_of_mul_eq_mul_right (show (f.den : Int) ≠ 0 by omega) ?_
      grind)
    exact Rat.ext (by rw [e1, i1]) (by rw [e2, i2])
  have TF := hide (fun W (h : But [] w W) => fracText_len _ f W (FF W) (lf.mono (by omega)) (TabIs.but htab h) t ht)
  have TW := hide (fun W (h : But [] w W) => fracText_len _ ((x : Int) : Rat) W (FW W) (lx1.mono (by omega)) (TabIs.but htab h) u hu)
  have I1 := hide (fun W => refInt_any x W hx1 hx2)
  have I2 := hide (fun W => refInt_any y W hy1 hy2)
  have isX : Hid (∀ W b, RatAt W b x 1 → RatIs W b ((x : Int) : Rat)) := fun W b h => by unfold RatIs; rw [i1, i2]; exact h
  have isY : Hid (∀ W b, RatAt W b y 1 → RatIs W b ((y : Int) : Rat)) := fun W b h => by unfold RatIs; rw [j1, j2]; exact h
  have DV := hide (fun W xb yb (h1 : RatIs W xb ((x : Int) : Rat)) (h2 : RatIs W yb ((y : Int) : Rat)) => refDivU_any xb yb _ _ f W h1 h2 (lxU.mono (by omega)) (lyU.mono (by omega)) (by rw [j1]; exact hy0) hfy)
  have T1 := hide (fun W zb (h : RatIs W zb f) => refText_any zb f W h ((lenU_len lf).mono (by omega)) t (ht.trans (txt_same f)))
  have T2 := hide (fun W zb (h : RatIs W zb ((x : Int) : Rat)) => refText_any zb _ W h (lxU.mono (by omega)) u (hu.trans (txt_same _)))
  have CA := hide CF
  have CW' := hide CW
  clear lf hcr FF CF FW CW ht hu i1 i2 j1 j2 lx2 ly2 l1 lxU lyU lx1 hfy htab
  go_enter Tryz.func4, Tryz.ntmps4
  go_wp2_with fail
  refine (unhide CA _).mono ?_
  rintro e w1 ⟨rfl, B1⟩
  have B2 : But [] w (w1.alloc (.cells #[.bool r, .int .u64 p, .int .u64 q, .pointer none] 27)) := B1.alloc _
  have HB2 := hide B2
  clear B1 B2
  go_wp2_with fail
  refine (unhide TF _ (unhide HB2)).mono ?_
  rintro e w2 ⟨rfl, B3⟩
  have B4 := hide ((unhide HB2).trans' B3)
  clear B3
  go_wp2_with fail
  refine (unhide I1 _).mono ?_
  rintro e w3 ⟨xb, rfl, B5, R5⟩
  have K3 := hide (And.intro ((unhide B4).trans' B5) R5)
  clear B5 R5
  go_wp2_with fail
  refine (unhide I2 _).mono ?_
  rintro e w4 ⟨yb, rfl, B6, R6⟩
  have D1 := hide (unhide DV w4 xb yb (unhide isX _ _ ((unhide K3).2.but B6)) (unhide isY _ _ R6))
  have K4 := hide ((unhide K3).1.trans' B6)
  clear B6 R6 K3 DV isY I2
  go_wp2_with fail
  refine (unhide D1).mono ?_
  rintro e w5 ⟨zb, rfl, B7, R7, -⟩
  have X1 := hide (unhide T1 w5 zb R7)
  have K5 := hide ((unhide K4).trans' B7)
  clear B7 R7 T1 D1 K4
  go_wp2_with fail
  refine (unhide X1).mono ?_
  rintro e w6 ⟨rfl, B8⟩
  have K6 := hide ((unhide K5).trans' B8)
  clear B8 X1 K5
  go_wp2_with fail
  refine (unhide CW' _).mono ?_
  rintro e w7 ⟨rfl, B10⟩
  have K7 := hide ((unhide K6).trans' B10)
  clear B10 K6
  go_wp2_with fail
  refine (unhide TW _ (unhide K7)).mono ?_
  rintro e w8 ⟨rfl, B12⟩
  have K8 := hide ((unhide K7).trans' B12)
  clear B12 K7
  go_wp2_with fail
  refine (unhide I1 _).mono ?_
  rintro e w9 ⟨vb, rfl, B13, R13⟩
  have X2 := hide (unhide T2 w9 vb (unhide isX _ _ R13))
  have K9 := hide ((unhide K8).trans' B13)
  clear B13 R13 T2 K8
  go_wp2_with fail
  refine (unhide X2).mono ?_
  rintro e w10 ⟨rfl, B14⟩
  have K10 := hide ((unhide K9).trans' B14)
  clear B14 K9 X2
  go_wp2
  go_ret
  exact ⟨rfl, unhide K10⟩
end Go.Proofs.YteipfplbcbaheaaGreatDoor
