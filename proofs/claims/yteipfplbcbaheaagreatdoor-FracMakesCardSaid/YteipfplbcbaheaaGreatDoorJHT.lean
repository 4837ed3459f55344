/- Sums and differences of fractions, as package tontineref asks for them; how long the numbers become. -/
import Derived.Deep.RegionHeld
import Derived.Test.YteipfplbcbaheaaGreatDoorJBase
import Derived.Test.YteipfplbcbaheaaGreatDoorJH2
import Derived.Test.YteipfplbcbaheaaGreatDoorJH7
import Derived.Test.YteipfplbcbaheaaGreatDoorJH9
import Derived.Test.YteipfplbcbaheaaGreatDoorJHG
import Derived.Test.YteipfplbcbaheaaGreatDoorJN1
import Derived.Test.YteipfplbcbaheaaGreatDoorJQ2
namespace Go.Proofs.YteipfplbcbaheaaGreatDoor
open Go.RowKit

theorem LenU.mono {f : Rat} {m n : Nat} (h : LenU f m) (hmn : m ≤ n) : LenU f n := ⟨Nat.le_trans h.1 hmn, Nat.le_trans h.2 hmn⟩
end Go.Proofs.YteipfplbcbaheaaGreatDoor
