/- A whole number as a fraction, as the Go text of package frac makes it. -/
import Derived.Test.YteipfplbcbaheaaGreatDoorJFA
namespace Go.Proofs.YteipfplbcbaheaaGreatDoor
open Go.RowKit

set_option maxHeartbeats 1000000 in
theorem whole_any (x : Int) (h1 : -9223372036854775808 ≤ x) (h2 : x < 9223372036854775808) (w : World) :
    Calls Tryz.prog 43 #[.int .i64 x] w fun e w' => e = .returned (.agg #[.bool (decide (x < 0)), .int .u64 ((x.natAbs : Nat) : Int), .int .u64 (((1 : Nat) : Int) - 1), .pointer none]) ∧ But [] w w' := by
  obtain ⟨s, hs⟩ : ∃ s, s = decide (x < 0) := ⟨_, rfl⟩
  obtain ⟨n, hn⟩ : ∃ n, n = x.natAbs := ⟨_, rfl⟩
  rw [← hs, ← hn]
  have HS := hide hs
  have HN := hide hn
  go_enter Tryz.func43, Tryz.ntmps43
  go_wp2_with fail
  refine (size_any x h1 h2 _).mono ?_
  rintro e w1 ⟨rfl, hw⟩
  obtain rfl := hw.symm
  go_wp2
  exact bodyPost_ret (v := .agg #[.bool (decide (x < 0)), .int .u64 ((x.natAbs : Nat) : Int), .int .u64 0, .pointer none]) (by simp [results, Tryz.results43, go_sem]) rfl ⟨by rw [unhide HS, unhide HN]; rfl, (But.refl _ _).alloc _⟩
end Go.Proofs.YteipfplbcbaheaaGreatDoor
