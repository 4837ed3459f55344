/- Out of OG: what needs no more than these -/
import Derived.Test.YtagmkkiagjmimaaGreatDoorXF11
namespace Go.Proofs.YtagmkkiagjmimaaGreatDoor
set_option linter.unusedVariables false
open Go.RowKit
theorem zbq (n:Nat) (h:1≤n):Len 0 n:=⟨Nat.le_trans (aj (by omega) _ 1 (by decide)) h,Nat.le_trans (aj (by omega) _ 1 (by decide)) h⟩
theorem zpj (c:Nat) (f:Nat→Rat) (h:∀ k,Len (f k) c):∀ k,Len (sgR f k) (k*(c+1)+1)
 | 0=>zbq _ (by omega)
 | k+1=>by
  have ih:=zpj c f h k
  show Len (sgR f k+f k) _
  exact zci ih (h k) _ (by rw[Nat.succ_mul];omega)
def atR (fs:List Rat) (k:Nat):Rat:=fs[k]?.getD 0
theorem zan {fs:List Rat} {c:Nat} (h:∀ f ∈ fs,Len f c) (hc:1≤c) (k:Nat):Len (fs[k]?.getD 0) c:=by(
 by_cases hk:k<fs.length
 ·rw[List.getElem?_eq_getElem hk];exact h _ (List.getElem_mem hk)
 ·rw[List.getElem?_eq_none (by omega)];exact zbq _ hc)
theorem qcn (x y:Rat) (r:Int) (hr:r=zbz (x.num*(y.den:Int)) (y.num*(x.den:Int))):(r != 0)=!decide (x=y):=by(
 have h1:r=0↔x=y:=by
  have hle:x.num*(y.den:Int)=y.num*(x.den:Int)↔x=y:=by
   constructor
   ·intro h
    exact Rat.le_antisymm ((Rat.le_iff _ _).2 (by omega)) ((Rat.le_iff _ _).2 (by omega))
   ·intro h
    rw[h]
  rw[← hle,hr]
  unfold zbz
  constructor
  ·intro h
   split at h
   ·omega
   ·split at h
    ·assumption
    ·omega
  ·intro h
   rw[if_neg (by omega),if_pos h]
 by_cases h:x=y
 ·rw[h1.2 h,decide_eq_true h];rfl
 ·rw[decide_eq_false h]
  have h2:r≠0:=fun e=>h (h1.1 e)
  simpa using h2)
theorem zsh {x:Rat} {n:Nat} (h:Len x n) (hn:1≤n):Len (zgi x) n:=by(
 unfold zgi
 split
 ·exact h
 ·exact zbq _ hn)
end Go.Proofs.YtagmkkiagjmimaaGreatDoor
