/- The nearest whole number to a fraction, of two the even one, as the Go text of package frac finds it. -/
import Derived.Deep.DeepCutAuto
import Derived.Test.YteipfplbcbaheaaGreatDoorKC1
import Derived.Test.YteipfplbcbaheaaGreatDoorKFW
namespace Go.Proofs.YteipfplbcbaheaaGreatDoor
open Go.RowKit

theorem int_num (n : Int) : ((n : Int) : Rat).num = n∧((n : Int) : Rat).den = 1:=⟨by simp,by simp⟩
/-- a fraction of words, as a value of numbers -/
theorem whole_at (x : Int) (h1 : -9223372036854775808 ≤ x) (h2 : x < 9223372036854775808) (_w : World) :
  ∃ (r : Bool) (p : Int),(∀ W,FracAt W (.agg #[.bool r,.int .u64 p,.int .u64 0,.pointer none]) ((x : Int) : Rat))∧∀ W,Calls Tryz.prog 43 #[.int .i64 x] W fun e w' => e = .returned (.agg #[.bool r,.int .u64 p,.int .u64 0,.pointer none])∧But [] W w':=by
 refine ⟨decide (x < 0),((x.natAbs : Nat) : Int),fun W => int_at (s:=decide (x < 0)) (p:=x.natAbs) ?_ (by omega) (fun e => by have:=of_decide_eq_true e; omega),fun W => ?_⟩
 ·by_cases h : x < 0
  ·simp [sgn,h]; omega
  ·simp [sgn,h]; omega
 ·have h:=whole_any x h1 h2 W
  simpa using h

theorem fl_len {f : Rat} {n : Nat} (h : Len f n) (hn : 0 < n) : Len ((fl f : Int) : Rat) (n + 1):=by
 obtain ⟨h1,h2⟩:=int_num (fl f)
 have h3:=h.lt
 have hb : (fl f).natAbs ≤ f.num.natAbs + 1:=by
  by_cases hd : f.den = 1
  ·rw [(fl_whole f hd).1]; omega
  ·rw [fl_abs f hd,sgn_abs]
   have:=Nat.div_le_self f.num.natAbs f.den
   split <;> omega
 refine len_of (m:=n + 1) (n:=1) ?_ (by rw [h2,Nat.pow_one]; omega) (n + 1) (Nat.le_refl _) (by omega)
 rw [h1,Nat.pow_succ]
 have h4 : 0 < 18446744073709551616 ^ n:=Nat.pow_pos (by omega)
 omega
theorem int_len (x : Int) (h1 : -9223372036854775808 ≤ x) (h2 : x < 9223372036854775808) : Len ((x : Int) : Rat) 1:=by
 obtain ⟨a,b⟩:=int_num x
 exact len_of (m:=1) (n:=1) (by rw [a,Nat.pow_one]; omega) (by rw [b,Nat.pow_one]; omega) 1 (Nat.le_refl _) (Nat.le_refl _)

end Go.Proofs.YteipfplbcbaheaaGreatDoor
