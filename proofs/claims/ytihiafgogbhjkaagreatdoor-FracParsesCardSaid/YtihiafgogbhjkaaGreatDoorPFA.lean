/- Fractions of words, as the Go text of package frac makes them of two numbers. -/
import Derived.Deep.RegionHeld
import Derived.Deep.RegionWith
import Derived.Test.YtihiafgogbhjkaaGreatDoorPG0
namespace Go.Proofs.YtihiafgogbhjkaaGreatDoor
open Go.RowKit

set_option maxHeartbeats 1000000 in
theorem under_any (s : Bool) (p q : Nat) (hq : q < 18446744073709551616) (hq0 : 0 < q) (w : World) :
    Calls Tryz.prog 80 #[.agg #[.bool s, .int .u64 (p : Int), .int .u64 ((q : Int) - 1), .pointer none]] w fun e w' => e = .returned (.int .u64 (q : Int)) ∧ But [] w w' := by
  go_enter Tryz.func80, Tryz.ntmps80
  go_wp2
  go_ret
  exact ⟨rfl, (But.refl _ _).alloc _⟩

set_option maxHeartbeats 1000000 in
theorem ofWords_any (s : Bool) (p q : Nat) (hp : p < 18446744073709551616) (hq : q < 18446744073709551616) (hq0 : 0 < q) (r : Bool) (hr : Hid (r = (s && decide (p ≠ 0)))) (w : World) :
    Calls Tryz.prog 81 #[.bool s, .int .u64 (p : Int), .int .u64 (q : Int)] w fun e w' => e = .returned (.agg #[.bool r, .int .u64 (p : Int), .int .u64 ((q : Int) - 1), .pointer none]) ∧ But [] w w' := by
  have e : ((p : Int) != 0) = decide (p ≠ 0) := by rw [Bool.eq_iff_iff]; simp
  by_cases h0 : p = 0
  · subst h0
    have er : Hid (r = false) := by show _ = _; rw [unhide hr]; simp
    clear hr e
    cases s
    all_goals
      go_enter Tryz.func81, Tryz.ntmps81
      go_wp2
      rw [unhide er]
      exact bodyPost_ret (v := .agg #[.bool false, .int .u64 ((0 : Nat) : Int), .int .u64 ((q : Int) - 1), .pointer none]) (by simp [results, Tryz.results81, go_sem]) rfl ⟨rfl, (But.refl _ _).alloc _⟩
  · have e1 : ((p : Int) != 0) = true := by rw [e]; simp [h0]
    cases s
    · have er : Hid (r = false) := by show _ = _; rw [unhide hr]; simp
      clear hr e
      go_enter Tryz.func81, Tryz.ntmps81
      go_wp2
      rw [unhide er]
      exact bodyPost_ret (v := .agg #[.bool false, .int .u64 (p : Int), .int .u64 ((q : Int) - 1), .pointer none]) (by simp [results, Tryz.results81, go_sem]) rfl ⟨rfl, (But.refl _ _).alloc _⟩
    · have er : Hid (r = true) := by show _ = _; rw [unhide hr]; simp [h0]
      clear hr e
      go_enter Tryz.func81, Tryz.ntmps81
      go_wp2
      rw [unhide er]
      exact bodyPost_ret (v := .agg #[.bool true, .int .u64 (p : Int), .int .u64 ((q : Int) - 1), .pointer none]) (by simp [results, Tryz.results81, go_sem]) rfl ⟨rfl, (But.refl _ _).alloc _⟩

end Go.Proofs.YtihiafgogbhjkaaGreatDoor
