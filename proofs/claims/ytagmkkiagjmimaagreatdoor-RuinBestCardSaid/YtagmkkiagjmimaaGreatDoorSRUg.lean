/- RuinSays: every input.  -/
import Derived.Laws.MakeOwn
import Derived.Test.YtagmkkiagjmimaaGreatDoorSHPd
namespace Go.Proofs.YtagmkkiagjmimaaGreatDoor
open Go.RowKit
set_option linter.unusedVariables false
theorem qbb {fs:List Rat} {st inc ys:Int} (h:ruE fs st inc ys=0):o9 fs=0∧(0≤st∧st≤60∧0≤inc∧inc≤20∧0≤ys∧ys≤16)∧fs.length≤41:=by(
 unfold ruE at h
 by_cases h1:o9 fs=0
 ·(
 rw[if_neg (fun h=>h h1)] at h
 by_cases h2:0≤st∧st≤60∧0≤inc∧inc≤20∧0≤ys∧ys≤16
 ·rw[if_neg (fun h=>h h2)] at h
  by_cases h3:41<fs.length
  ·rw[if_pos h3] at h;exact absurd h (by decide)
  ·exact⟨h1,h2,by omega⟩
 ·rw[if_pos h2] at h;exact absurd h (by decide))
 ·rw[if_pos h1] at h;exact absurd h h1)
theorem qip (fs:List Rat) (inc:Int):ruE fs 0 inc 0=ckR fs (decide (0≤inc∧inc≤20)):=by(
 unfold ruE ckR
 by_cases h1:o9 fs=0
 ·(
 have e:¬ o9 fs≠0:=fun h=>h h1
 rw[if_neg e,if_neg e]
 by_cases h2:0≤inc∧inc≤20
 ·have e2:¬ ¬ ((0:Int)≤0∧(0:Int)≤60∧0≤inc∧inc≤20∧(0:Int)≤0∧(0:Int)≤16):=fun h=>h ⟨by omega,by omega,h2.1,h2.2,by omega,by omega⟩
  rw[if_neg e2,decide_eq_true h2,if_neg (show ¬ (true=false) by decide)]
 ·have e2:¬ ((0:Int)≤0∧(0:Int)≤60∧0≤inc∧inc≤20∧(0:Int)≤0∧(0:Int)≤16):=fun h=>h2 ⟨h.2.2.1,h.2.2.2.1⟩
  rw[if_pos e2,decide_eq_false h2,if_pos rfl])
 ·have e:o9 fs≠0:=h1
  rw[if_pos e,if_pos e])
theorem zzo {fs:List Rat} (lf:∀ f ∈ fs,Len f 1) (h:fs.length≤12):(wd 18446744073709551616 (yg 1 fs)).length≤20:=by(
 refine Nat.le_trans (zgu 1 fs 1 lf) ?_
 have h1:(wd 18446744073709551616 1).length≤1:=aj (by omega) _ 1 (by omega)
 omega)
end Go.Proofs.YtagmkkiagjmimaaGreatDoor
