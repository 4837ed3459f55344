/- Out of OG: what needs no more than these -/
import Derived.Test.YtagmkkiagjmimaaGreatDoorYF11
namespace Go.Proofs.YtagmkkiagjmimaaGreatDoor
set_option linter.unusedVariables false
open Go.RowKit
theorem zfh (n:Nat) (h:1≤n):Len 0 n:=⟨Nat.le_trans (aj (by omega) _ 1 (by decide)) h,Nat.le_trans (aj (by omega) _ 1 (by decide)) h⟩
def atR (fs:List Rat) (k:Nat):Rat:=fs[k]?.getD 0
theorem qfz (x y:Rat) (r:Int) (hr:r=zbk (x.num*(y.den:Int)) (y.num*(x.den:Int))):(r != 0)=!decide (x=y):=by(
 have h1:r=0↔x=y:=by
  have hle:x.num*(y.den:Int)=y.num*(x.den:Int)↔x=y:=by
   constructor
   ·intro h
    exact Rat.le_antisymm ((Rat.le_iff _ _).2 (by omega)) ((Rat.le_iff _ _).2 (by omega))
   ·intro h
    rw[h]
  rw[← hle,hr]
  unfold zbk
  constructor
  ·intro h
   split at h
   ·omega
   ·split at h
    ·assumption
    ·omega
  ·intro h
   rw[if_neg (by omega),if_pos h]
 by_cases h:x=y
 ·rw[h1.2 h,decide_eq_true h];rfl
 ·rw[decide_eq_false h]
  have h2:r≠0:=fun e=>h (h1.1 e)
  simpa using h2)
end Go.Proofs.YtagmkkiagjmimaaGreatDoor
