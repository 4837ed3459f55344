/- What a comparison tells. -/
import Derived.Test.YtloojmaamaambaaGreatDoorKBF13
namespace Go.Proofs.YtloojmaamaambaaGreatDoor
open Go.RowKit

theorem cmpZ_tells (x y : Rat) (r : Int) (hr : r = cmpZ (x.num * (y.den : Int)) (y.num * (x.den : Int))) : (r < 0 ↔ x < y)∧(0 < r ↔ y < x)∧(r = 0 ↔ x = y):=by
 have h1 : x < y ↔ x.num * (y.den : Int) < y.num * (x.den : Int):=Rat.lt_iff x y
 have h2 : y < x ↔ y.num * (x.den : Int) < x.num * (y.den : Int):=Rat.lt_iff y x
 have h3 : x = y ↔ x.num * (y.den : Int) = y.num * (x.den : Int):=by
  constructor
  ·intro h; rw [h]
  ·intro h
   exact Rat.le_antisymm ((Rat.le_iff _ _).2 (by omega)) ((Rat.le_iff _ _).2 (by omega))
 rw [h1,h2,h3,hr]
 unfold cmpZ
 split
 ·omega
 ·split <;> omega
end Go.Proofs.YtloojmaamaambaaGreatDoor
