/- Ratios without their signs and turned round; the order of whole numbers with signs, as the Go text of package tontinebig finds them. -/
import Derived.Test.YtihiafgogbhjkaaGreatDoorPHD
namespace Go.Proofs.YtihiafgogbhjkaaGreatDoor
open Go.RowKit

/-- the upper number of a ratio turns -/
theorem rat_up {w w1 : World} {b : Nat} {p q z : Int} {v : Value} (h : RatAt w b p q) (hb : But [] w w1) (hv : Sl .u32 w1 v (wd 4294967296 z.natAbs)) : RatAt (putI w1 b 0 v (decide (z < 0))) b z q ∧ But [b] w (putI w1 b 0 v (decide (z < 0))) := by
  have hw := h.but hb
  obtain ⟨aa, na, ca, rfl⟩ := hv.slice
  exact ⟨⟨put_int hw.sa _ _ hv, put_int_other hw.sa _ _ hw.low (by omega), put_slot hw.sa _ _ _ _, put_slot_other _ _ hw.sb (by omega)⟩, (But.of_nil hb).trans (put_but ..) (by simp)⟩

set_option maxHeartbeats 8000000 in
set_option maxRecDepth 100000 in
theorem ratNegU_any (zb xb : Nat) (f a : Rat) (w : World) (hz0 : Slot w zb 0) (hz2 : Slot w zb 2) (hx : RatIs w xb f) (lf : LenU f 4000000) (ha : a.num = -f.num) (hd : a.den = f.den) :
    Calls Tryz.prog 106 #[.pointer (some ⟨zb, 0, none⟩), .pointer (some ⟨xb, 0, none⟩)] w fun e w' => e = .returned (.pointer (some ⟨zb, 0, none⟩)) ∧ But [zb] w w' ∧ RatIs w' zb a := by
  have ST := hide (ratSetU_any zb xb f w hz0 hz2 hx lf)
  have hl := lf.1
  go_enter Tryz.func106, Tryz.ntmps106
  go_wp2_with fail
  refine (unhide ST).mono ?_
  rintro e w1 ⟨rfl, B1, R1⟩
  go_wp2
  go_region_with (go_at_call 166; refine (neg_any zb 0 zb 0 f.num _ ?_ ?_ (by omega)).mono ?_; (first | exact R1.sa | exact R1.sa.drew); (first | exact R1.up | exact R1.up.drew); rintro e W1 ⟨rfl, H1⟩; have H1' := hide H1; clear H1)
  all_goals
    obtain ⟨w2, v2, hb2, hv2, rfl⟩ := unhide H1'
    have hb2' : But [] w1 w2 := (by first | exact hb2 | exact (But.refl _ _).drew.trans' hb2)
    have RU := rat_up (z := -f.num) R1 hb2' hv2
    rw [← ha, ← hd] at RU
    have FIN := hide RU
    rw [← ha]
    clear H1' RU
    go_wp2
    go_ret
    exact ⟨rfl, B1.trans (unhide FIN).2 (by simp), (unhide FIN).1⟩
end Go.Proofs.YtihiafgogbhjkaaGreatDoor

namespace Go.Proofs.YtihiafgogbhjkaaGreatDoor
open Go.RowKit

def cmpS (x y : Int) : Int := if x < y then -1 else if x = y then 0 else 1
theorem cmpS_neg (x y : Int) (hx : x < 0) (hy : y < 0) : cmpS x y = -cmpN x.natAbs y.natAbs := by
  unfold cmpS cmpN
  by_cases h1 : x < y
  · rw [if_pos h1, if_neg (by omega), if_neg (by omega)]
  · by_cases h2 : x = y
    · rw [if_neg h1, if_pos h2, if_neg (by omega), if_pos (by omega)]; rfl
    · rw [if_neg h1, if_neg h2, if_pos (by omega)]; rfl
theorem cmpS_pos (x y : Int) (hx : 0 ≤ x) (hy : 0 ≤ y) : cmpS x y = cmpN x.natAbs y.natAbs := by
  unfold cmpS cmpN
  by_cases h1 : x < y
  · rw [if_pos h1, if_pos (by omega)]
  · by_cases h2 : x = y
    · rw [if_neg h1, if_pos h2, if_neg (by omega), if_pos (by omega)]
    · rw [if_neg h1, if_neg h2, if_neg (by omega), if_neg (by omega)]
theorem cmpN_range (m n : Nat) : -1 ≤ cmpN m n ∧ cmpN m n ≤ 1 := by
  rcases cmpN_cases m n with ⟨-, h⟩ | ⟨-, h⟩ | ⟨-, h⟩ <;> omega

set_option maxHeartbeats 4000000 in
set_option maxRecDepth 100000 in
theorem intCmpU_any (b o b' o' : Nat) (x y : Int) (w : World) (hx : IntAt w b o x) (hy : IntAt w b' o' y) (hlx : (wd 4294967296 x.natAbs).length < 2147483648) (hly : (wd 4294967296 y.natAbs).length < 2147483648) :
    Calls Tryz.prog 77 #[.pointer (some ⟨b, o, none⟩), .pointer (some ⟨b', o', none⟩)] w fun e w' => e = .returned (.int .i64 (cmpS x y)) ∧ ∃ q, w' = w.drewN q := by
  obtain ⟨h0, v0, h1, hv⟩ := hx
  obtain ⟨g0, v1, g1, hv'⟩ := hy
  by_cases hxn : x < 0 <;> by_cases hyn : y < 0
  · rw [decide_eq_true hxn] at h0
    rw [decide_eq_true hyn] at g0
    have HC : Hid (cmpS x y = -cmpN x.natAbs y.natAbs) := cmpS_neg x y hxn hyn
    obtain ⟨c1, c2⟩ := cmpN_range x.natAbs y.natAbs
    go_enter Tryz.func77, Tryz.ntmps77
    go_wp2
    go_quiet (fail)
    go_wp2
    obtain ⟨W, hW⟩ : ∃ W, W = w.drewN nq := ⟨_, rfl⟩
    have k0 : W.cell? ⟨b, o, none⟩ = some (.bool true) := by rw [hW]; exact h0
    have k1 : W.cell? ⟨b, o + 1, none⟩ = some v0 := by rw [hW]; exact h1
    have l1 : W.cell? ⟨b', o' + 1, none⟩ = some v1 := by rw [hW]; exact g1
    have hva : Sl .u32 W v0 (wd 4294967296 x.natAbs) := by rw [hW]; exact hv
    have hvb : Sl .u32 W v1 (wd 4294967296 y.natAbs) := by rw [hW]; exact hv'
    rw [← hW]
    have HW := hide hW
    clear hW
    go_quiet ((go_at_call 136; refine Calls.quiet_of (cmp_any v0 v1 x.natAbs y.natAbs _ ?_ ?_ hlx hly); exact hva; exact hvb))
    generalize cmpN x.natAbs y.natAbs = cc at *
    go_wp2
    go_ret
    exact ⟨by rw [unhide HC]; rfl, by rw [unhide HW]; exact dr1 _ _ _⟩
  · rw [decide_eq_true hxn] at h0
    rw [decide_eq_false hyn] at g0
    have HC : Hid (cmpS x y = -1) := by show _ = _; unfold cmpS; rw [if_pos (by omega)]
    go_enter Tryz.func77, Tryz.ntmps77
    go_wp2
    go_quiet (fail)
    go_wp2
    go_ret
    exact ⟨by rw [unhide HC]; rfl, _, rfl⟩
  · rw [decide_eq_false hxn] at h0
    rw [decide_eq_true hyn] at g0
    have HC : Hid (cmpS x y = 1) := by show _ = _; unfold cmpS; rw [if_neg (by omega), if_neg (by omega)]
    go_enter Tryz.func77, Tryz.ntmps77
    go_wp2
    go_quiet (fail)
    go_wp2
    go_ret
    exact ⟨by rw [unhide HC]; rfl, _, rfl⟩
  · rw [decide_eq_false hxn] at h0
    rw [decide_eq_false hyn] at g0
    have HC : Hid (cmpS x y = cmpN x.natAbs y.natAbs) := cmpS_pos x y (by omega) (by omega)
    obtain ⟨c1, c2⟩ := cmpN_range x.natAbs y.natAbs
    go_enter Tryz.func77, Tryz.ntmps77
    go_wp2
    go_quiet (fail)
    go_wp2
    obtain ⟨W, hW⟩ : ∃ W, W = w.drewN nq := ⟨_, rfl⟩
    have k0 : W.cell? ⟨b, o, none⟩ = some (.bool false) := by rw [hW]; exact h0
    have k1 : W.cell? ⟨b, o + 1, none⟩ = some v0 := by rw [hW]; exact h1
    have l1 : W.cell? ⟨b', o' + 1, none⟩ = some v1 := by rw [hW]; exact g1
    have hva : Sl .u32 W v0 (wd 4294967296 x.natAbs) := by rw [hW]; exact hv
    have hvb : Sl .u32 W v1 (wd 4294967296 y.natAbs) := by rw [hW]; exact hv'
    rw [← hW]
    have HW := hide hW
    clear hW
    go_quiet ((go_at_call 136; refine Calls.quiet_of (cmp_any v0 v1 x.natAbs y.natAbs _ ?_ ?_ hlx hly); exact hva; exact hvb))
    generalize cmpN x.natAbs y.natAbs = cc at *
    go_wp2
    go_ret
    exact ⟨by rw [unhide HC]; rfl, by rw [unhide HW]; exact dr1 _ _ _⟩
end Go.Proofs.YtihiafgogbhjkaaGreatDoor

namespace Go.Proofs.YtihiafgogbhjkaaGreatDoor
open Go.RowKit

theorem cmpS_small (x y : Int) : -1 ≤ cmpS x y ∧ cmpS x y ≤ 1 := by
  unfold cmpS
  split
  · omega
  · split <;> omega
theorem cmpS_one (n : Int) : (cmpS n 1 == 0) = decide (n = 1) := by
  unfold cmpS
  by_cases h1 : n < 1
  · rw [if_pos h1, decide_eq_false (by omega)]; rfl
  · by_cases h2 : n = 1
    · rw [if_neg h1, if_pos h2, decide_eq_true h2]; rfl
    · rw [if_neg h1, if_neg h2, decide_eq_false h2]; rfl

set_option maxHeartbeats 4000000 in
set_option maxRecDepth 100000 in
theorem ratIsIntU_any (xb : Nat) (x : Int) (nx : Nat) (w : World) (hx : RatAt w xb x (nx : Int)) (hnx : 0 < nx) (hnxl : (wd 4294967296 nx).length < 8388608) :
    Calls Tryz.prog 40 #[.pointer (some ⟨xb, 0, none⟩)] w fun e w' => e = .returned (.bool (decide (nx = 1))) ∧ But [] w w' := by
  have DX := hide (den_any xb x nx w hx hnx)
  have one : (wd 4294967296 (1 : Int).natAbs).length < 2147483648 := by
    have := len_le_two 1 (by omega)
    simpa using Nat.lt_of_le_of_lt this (by omega)
  have CM := hide (fun W b (h1 : IntAt W xb 2 (nx : Int)) (h2 : IntAt W b 0 1) => intCmpU_any xb 2 b 0 (nx : Int) 1 W h1 h2 (by rw [Int.natAbs_natCast]; omega) one)
  obtain ⟨c1, c2⟩ := cmpS_small (nx : Int) 1
  have hc : Hid ((cmpS (nx : Int) 1 == 0) = decide (nx = 1)) := by
    show _ = _
    rw [cmpS_one]
    exact decide_eq_decide.2 (by omega)
  generalize cmpS (nx : Int) 1 = cd at CM c1 c2 hc
  clear one
  go_enter Tryz.func40, Tryz.ntmps40
  go_wp2_with fail
  refine (unhide DX).mono ?_
  rintro e w1 ⟨rfl, hw⟩
  obtain rfl := hw.symm
  clear hw
  go_wp2_with fail
  refine (newInt_any 1 _ (by omega) (by omega)).mono ?_
  rintro e w2 ⟨rfl, B2, I2, S2⟩
  go_wp2_with fail
  refine (unhide CM _ _ (hx.low.but B2) I2).mono ?_
  rintro e w3 ⟨rfl, q, rfl⟩
  clear CM DX
  go_wp2
  go_ret
  exact ⟨by rw [← unhide hc]; rfl, B2.drewN _⟩

end Go.Proofs.YtihiafgogbhjkaaGreatDoor
