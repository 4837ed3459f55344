/- A text is cut into its parts, as the Go text of package frac does it. -/
import Derived.Deep.RegionHeld
import Derived.Test.YtihiafgogbhjkaaGreatDoorPPt
namespace Go.Proofs.YtihiafgogbhjkaaGreatDoor
open Go.RowKit

theorem extract_mid (t : ByteArray) (xs ds es : List UInt8) (h : t.data.toList = xs ++ ds ++ es) : (t.extract xs.length (xs.length + ds.length)).data.toList = ds := by
  rw [ByteArray.data_extract, Array.toList_extract, List.extract_eq_take_drop, h, List.append_assoc, List.drop_left, Nat.add_sub_cancel_left, List.take_left]
theorem prefix_minus (ds : List UInt8) (h : ∀ d, ds.head? = some d → d ≠ 45) : Lib.hasPrefix ds [45] = false := by
  cases ds with
  | nil => rfl
  | cons d ds =>
    have := h d rfl
    simp [Lib.hasPrefix, List.isPrefixOf]
    exact fun e => this e.symm
theorem prefix_yes (ds : List UInt8) : Lib.hasPrefix (45 :: ds) [45] = true := by simp [Lib.hasPrefix, List.isPrefixOf]
end Go.Proofs.YtihiafgogbhjkaaGreatDoor
