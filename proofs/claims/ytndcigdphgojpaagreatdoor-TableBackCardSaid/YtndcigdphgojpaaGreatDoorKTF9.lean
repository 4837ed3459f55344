/- One divided by a fraction, as the Go text of package frac makes it. -/
import Derived.Test.YtndcigdphgojpaaGreatDoorKTF7
import Derived.Test.YtndcigdphgojpaaGreatDoorKTN26
namespace Go.Proofs.YtndcigdphgojpaaGreatDoor
open Go.RowKit

/-- two new blocks, one behind the other -/
theorem two_new (w W : World) (A B : Array Value) (t : TypeId) (hW : W = (w.alloc (.cells A t)).alloc (.cells B t)) :
  (∀ j,W.cell? ⟨w.heap.size,j,none⟩ = A[j]?)∧(∀ j,W.cell? ⟨w.heap.size + 1,j,none⟩ = B[j]?)∧(∀ j,W.frozen? ⟨w.heap.size + 1,j,none⟩ = false)∧But [] w W:=by
 subst hW
 refine ⟨fun j => ?_,fun j => ?_,fun j => ?_,((But.refl _ _).alloc _).alloc _⟩
 ·have h:=((But.refl [] (w.alloc (.cells A t))).alloc (.cells B t)).cell (p:=⟨w.heap.size,j,none⟩) (by simp) (by simp)
  rw [h,World.cell?_alloc_new]
 ·simp
 ·simp

end Go.Proofs.YtndcigdphgojpaaGreatDoor

namespace Go.Proofs.YtndcigdphgojpaaGreatDoor
open Go.RowKit

set_option maxHeartbeats 1000000 in
set_option maxRecDepth 100000 in
theorem cmpOr_two (b : Nat) (x y : Int) (w : World) (hx : w.cell? ⟨b,0,none⟩ = some (.int .i64 x)) (hy : w.cell? ⟨b,1,none⟩ = some (.int .i64 y)) (r : Int) (hr : Hid (r = if x ≠ 0 then x else y)) :
  Calls Tryz.prog 86 #[.slice (some ⟨b,0,none⟩) 2 2] w fun e w' => e = .returned (.int .i64 r)∧But [] w w':=by
 by_cases h0 : x = 0
 ·subst h0
  by_cases h1 : y = 0
  ·subst h1
   have er : Hid (r = 0):=by show _ = _; rw [unhide hr]; simp
   clear hr
   go_enter Tryz.func86,Tryz.ntmps86
   go_wp2
   refine wp_loop_rounds 3 ?_
   rw [rounds_succ]
   go_wp2
   rw [rounds_succ]
   go_wp2
   rw [rounds_succ]
   go_wp2
   go_ret
   exact ⟨by rw [unhide er]; rfl,But.refl _ _⟩
  ·have er : Hid (r = y):=by show _ = _; rw [unhide hr]; simp
   have n1 : (y != 0) = true:=by simp [h1]
   clear hr
   go_enter Tryz.func86,Tryz.ntmps86
   go_wp2
   refine wp_loop_rounds 2 ?_
   rw [rounds_succ]
   go_wp2
   rw [rounds_succ]
   go_wp2
   go_ret
   exact ⟨by rw [unhide er]; rfl,But.refl _ _⟩
 ·have er : Hid (r = x):=by show _ = _; rw [unhide hr]; simp [h0]
  have n1 : (x != 0) = true:=by simp [h0]
  clear hr
  go_enter Tryz.func86,Tryz.ntmps86
  go_wp2
  refine wp_loop_rounds 1 ?_
  rw [rounds_succ]
  go_wp2
  go_ret
  exact ⟨by rw [unhide er]; rfl,But.refl _ _⟩
end Go.Proofs.YtndcigdphgojpaaGreatDoor
