/- A fraction rounded down, as the Go text of package frac does it. -/
import Derived.Test.YtndcigdphgojpaaGreatDoorKTF13
import Derived.Test.YtndcigdphgojpaaGreatDoorKTFW
namespace Go.Proofs.YtndcigdphgojpaaGreatDoor
open Go.RowKit

theorem int_at {W : World} {n : Int} {s : Bool} {p : Nat} (hn : n = sgn s p) (hp : p < 18446744073709551616) (hs : s = true→p ≠ 0) : FracAt W (.agg #[.bool s,.int .u64 (p : Int),.int .u64 0,.pointer none]) ((n : Int) : Rat):=by
 have h1 : ((n : Int) : Rat).num = n:=by simp
 have h2 : ((n : Int) : Rat).den = 1:=by simp
 unfold FracAt
 rw [h1,h2,hn,sgn_abs,sgn_neg]
 refine .inl ⟨hp,by omega,?_⟩
 cases s
 ·rfl
 ·have:=hs rfl
  simp [this]

end Go.Proofs.YtndcigdphgojpaaGreatDoor
