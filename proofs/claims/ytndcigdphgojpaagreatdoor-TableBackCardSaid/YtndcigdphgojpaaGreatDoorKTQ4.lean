/- The nearest whole number to a fraction, of two the even one, as the Go text of package frac finds it. -/
import Derived.Deep.DeepCutAuto
import Derived.Test.YtndcigdphgojpaaGreatDoorKTL2
import Derived.Test.YtndcigdphgojpaaGreatDoorKTQ2
namespace Go.Proofs.YtndcigdphgojpaaGreatDoor
open Go.RowKit

/-- a fraction of words, as a value of numbers -/
theorem whole_at (x : Int) (h1 : -9223372036854775808 ≤ x) (h2 : x < 9223372036854775808) (_w : World) :
  ∃ (r : Bool) (p : Int),(∀ W,FracAt W (.agg #[.bool r,.int .u64 p,.int .u64 0,.pointer none]) ((x : Int) : Rat))∧∀ W,Calls Tryz.prog 22 #[.int .i64 x] W fun e w' => e = .returned (.agg #[.bool r,.int .u64 p,.int .u64 0,.pointer none])∧But [] W w':=by
 refine ⟨decide (x < 0),((x.natAbs : Nat) : Int),fun W => int_at (s:=decide (x < 0)) (p:=x.natAbs) ?_ (by omega) (fun e => by have:=of_decide_eq_true e; omega),fun W => ?_⟩
 ·by_cases h : x < 0
  ·simp [sgn,h]; omega
  ·simp [sgn,h]; omega
 ·have h:=whole_any x h1 h2 W
  simpa using h

end Go.Proofs.YtndcigdphgojpaaGreatDoor
