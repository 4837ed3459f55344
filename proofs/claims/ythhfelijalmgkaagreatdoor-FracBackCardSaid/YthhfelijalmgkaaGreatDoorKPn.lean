/- The nearest whole number is whole (plain). -/
import Derived.Test.YthhfelijalmgkaaGreatDoorKQ4
namespace Go.Proofs.YthhfelijalmgkaaGreatDoor
open Go.RowKit

/-- the nearest whole number is whole -/
def nearZ (f : Rat) : Int := if up f then fl f + 1 else fl f
theorem near_whole (f : Rat) : nearR f = ((nearZ f : Int) : Rat) := by
  unfold nearR nearZ
  by_cases h : up f = true
  · rw [if_pos h, if_pos h, Rat.intCast_add]
  · rw [if_neg h, if_neg h]
end Go.Proofs.YthhfelijalmgkaaGreatDoor
