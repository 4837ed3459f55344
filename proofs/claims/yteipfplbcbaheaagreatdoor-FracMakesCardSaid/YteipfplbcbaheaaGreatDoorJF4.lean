/- The product of two fractions, as the Go text of package frac makes it. -/
import Derived.Deep.LoopGhost
import Derived.Test.YteipfplbcbaheaaGreatDoorJBase
import Derived.Test.YteipfplbcbaheaaGreatDoorJF1
import Derived.Test.YteipfplbcbaheaaGreatDoorJG0
import Derived.Test.YteipfplbcbaheaaGreatDoorJN16
import Derived.Test.YteipfplbcbaheaaGreatDoorJN36
namespace Go.Proofs.YteipfplbcbaheaaGreatDoor
open Go.RowKit

theorem FracAt.agg {w : World} {v : Value} {f : Rat} (h : FracAt w v f) : ∃ x y p, v = .agg #[.bool (decide (f.num < 0)), .int .u64 x, .int .u64 y, .pointer p] ∧ (p = none → f.num.natAbs < 18446744073709551616 ∧ f.den < 18446744073709551616 ∧ x = (f.num.natAbs : Int) ∧ y = (f.den : Int) - 1) := by
  rcases h with ⟨h1, h2, rfl⟩ | ⟨-, b, v1, v2, rfl, -⟩
  · exact ⟨_, _, _, rfl, fun _ => ⟨h1, h2, rfl, rfl⟩⟩
  · exact ⟨_, _, _, rfl, fun e => by simp at e⟩
end Go.Proofs.YteipfplbcbaheaaGreatDoor
