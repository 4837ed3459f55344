/- The least amount that is not gone beyond with so much of chance, as the Go text of package claims finds it. -/
import Derived.Test.YtikgmhpbdcdogaaGreatDoorYK8
import Derived.Test.YtikgmhpbdcdogaaGreatDoorYKN
namespace Go.Proofs.YtikgmhpbdcdogaaGreatDoor
open Go.RowKit

theorem chk_some {fs : List Rat} (h : chkE fs = 0) : 0 < fs.length∧fs.length ≤ 201∧(∀ f ∈ fs,0 ≤ f)∧sumR fs = 1:=by
 unfold chkE at h
 by_cases h1 : fs.length < 1 ∨ 201 < fs.length
 ·rw [if_pos h1] at h; simp at h
 ·rw [if_neg h1] at h
  by_cases h2 : fs.any (fun f => decide (f.num < 0)) = true
  ·rw [if_pos h2] at h; simp at h
  ·rw [if_neg h2] at h
   by_cases h3 : sumR fs = 1
   ·refine ⟨by omega,by omega,fun f hf => ?_,h3⟩
    have h4 : fs.any (fun f => decide (f.num < 0)) = false:=by simpa using h2
    rw [List.any_eq_false] at h4
    have:=h4 f hf
    simp at this
    exact this
   ·rw [if_neg h3] at h; simp at h
end Go.Proofs.YtikgmhpbdcdogaaGreatDoor
