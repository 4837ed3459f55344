/- Steps of Euclid's by leading bits, as the Go text of package nat finds them. -/
import Derived.Test.YtndcigdphgojpaaGreatDoorKTN15
namespace Go.Proofs.YtndcigdphgojpaaGreatDoor
open Go.RowKit

/-- steps that may be taken: none, or such as make two lesser numbers with the same divisors -/
def StepsOK (X Y xx xy yx yy : Nat) (back : Bool) : Prop:=xy = 0 ∨ ∃ X' Y' : Nat,(if back then X' + xx * X = xy * Y∧Y' + yy * Y = yx * X else X' + xy * Y = xx * X∧Y' + yx * X = yy * Y)∧Y' < X'∧X' ≤ Y∧Nat.gcd X' Y' = Nat.gcd X Y
theorem StepsOK.of {a0 b0 a b xx xy yx yy : Nat} {back : Bool} (h : Lst a0 b0 a b xx xy yx yy back) (X Y K ε δ : Nat) (hX : X = a0 * K + ε) (hY : Y = b0 * K + δ) (hε : ε < K) (hδ : δ < K) : StepsOK X Y xx xy yx yy back:=by
 obtain ⟨h1,-,h2 | h2⟩:=h
 ·exact .inl h2.2.1
 ·exact .inr (h1.apply h2 X Y K ε δ hX hY hε hδ)

theorem five_cells (wr : World) (gz : Nat) (t : TypeId) (v0 v1 v2 v3 v4 u0 u1 u2 u3 u4 : Value) (cs : Array Value) (h : gz < wr.heap.size) (c0 : wr.cell? ⟨gz,0,none⟩ = some u0) (c1 : wr.cell? ⟨gz,1,none⟩ = some u1) (c2 : wr.cell? ⟨gz,2,none⟩ = some u2) (c3 : wr.cell? ⟨gz,3,none⟩ = some u3) (c4 : wr.cell? ⟨gz,4,none⟩ = some u4) (hf : ∀ j,wr.frozen? ⟨gz,j,none⟩ = false) :
  (((((((wr.setCell ⟨gz,0,none⟩ v0).setCell ⟨gz,1,none⟩ v1).setCell ⟨gz,2,none⟩ v2).setCell ⟨gz,3,none⟩ v3).setCell ⟨gz,4,none⟩ v4).alloc (.cells cs t)).cell? ⟨gz,0,none⟩ = some v0 ∧
  ((((((wr.setCell ⟨gz,0,none⟩ v0).setCell ⟨gz,1,none⟩ v1).setCell ⟨gz,2,none⟩ v2).setCell ⟨gz,3,none⟩ v3).setCell ⟨gz,4,none⟩ v4).alloc (.cells cs t)).cell? ⟨gz,1,none⟩ = some v1 ∧
  ((((((wr.setCell ⟨gz,0,none⟩ v0).setCell ⟨gz,1,none⟩ v1).setCell ⟨gz,2,none⟩ v2).setCell ⟨gz,3,none⟩ v3).setCell ⟨gz,4,none⟩ v4).alloc (.cells cs t)).cell? ⟨gz,2,none⟩ = some v2 ∧
  ((((((wr.setCell ⟨gz,0,none⟩ v0).setCell ⟨gz,1,none⟩ v1).setCell ⟨gz,2,none⟩ v2).setCell ⟨gz,3,none⟩ v3).setCell ⟨gz,4,none⟩ v4).alloc (.cells cs t)).cell? ⟨gz,3,none⟩ = some v3 ∧
  ((((((wr.setCell ⟨gz,0,none⟩ v0).setCell ⟨gz,1,none⟩ v1).setCell ⟨gz,2,none⟩ v2).setCell ⟨gz,3,none⟩ v3).setCell ⟨gz,4,none⟩ v4).alloc (.cells cs t)).cell? ⟨gz,4,none⟩ = some v4) ∧
  ∀ j,((((((wr.setCell ⟨gz,0,none⟩ v0).setCell ⟨gz,1,none⟩ v1).setCell ⟨gz,2,none⟩ v2).setCell ⟨gz,3,none⟩ v3).setCell ⟨gz,4,none⟩ v4).alloc (.cells cs t)).frozen? ⟨gz,j,none⟩ = false:=by
 have e0 : ∀ (w : World) (o : Obj) (p : Addr),p.block < w.heap.size→(w.alloc o).cell? p = w.cell? p:=fun w o p hp => ((But.refl [] w).alloc o).cell hp (by simp)
 have e1 : ∀ (w : World) (o : Obj) (p : Addr),p.block < w.heap.size→(w.alloc o).frozen? p = w.frozen? p:=fun w o p hp => ((But.refl [] w).alloc o).frozen hp (by simp)
 have k0:=World.cell?_setCell_same wr ⟨gz,0,none⟩ v0 c0
 have k1:=World.cell?_setCell_same (wr.setCell ⟨gz,0,none⟩ v0) ⟨gz,1,none⟩ v1 (u:=u1) (by rw [World.cell?_setCell_other _ _ _ _ (by simp)]; exact c1)
 have k2:=World.cell?_setCell_same ((wr.setCell ⟨gz,0,none⟩ v0).setCell ⟨gz,1,none⟩ v1) ⟨gz,2,none⟩ v2 (u:=u2) (by rw [World.cell?_setCell_other _ _ _ _ (by simp),World.cell?_setCell_other _ _ _ _ (by simp)]; exact c2)
 have k3:=World.cell?_setCell_same (((wr.setCell ⟨gz,0,none⟩ v0).setCell ⟨gz,1,none⟩ v1).setCell ⟨gz,2,none⟩ v2) ⟨gz,3,none⟩ v3 (u:=u3) (by rw [World.cell?_setCell_other _ _ _ _ (by simp),World.cell?_setCell_other _ _ _ _ (by simp),World.cell?_setCell_other _ _ _ _ (by simp)]; exact c3)
 have k4:=World.cell?_setCell_same ((((wr.setCell ⟨gz,0,none⟩ v0).setCell ⟨gz,1,none⟩ v1).setCell ⟨gz,2,none⟩ v2).setCell ⟨gz,3,none⟩ v3) ⟨gz,4,none⟩ v4 (u:=u4) (by rw [World.cell?_setCell_other _ _ _ _ (by simp),World.cell?_setCell_other _ _ _ _ (by simp),World.cell?_setCell_other _ _ _ _ (by simp),World.cell?_setCell_other _ _ _ _ (by simp)]; exact c4)
 refine ⟨⟨?_,?_,?_,?_,?_⟩,fun j => ?_⟩
 ·rw [e0 _ _ _ (by simpa using h),World.cell?_setCell_other _ _ _ _ (by simp),World.cell?_setCell_other _ _ _ _ (by simp),World.cell?_setCell_other _ _ _ _ (by simp),World.cell?_setCell_other _ _ _ _ (by simp)]; exact k0
 ·rw [e0 _ _ _ (by simpa using h),World.cell?_setCell_other _ _ _ _ (by simp),World.cell?_setCell_other _ _ _ _ (by simp),World.cell?_setCell_other _ _ _ _ (by simp)]; exact k1
 ·rw [e0 _ _ _ (by simpa using h),World.cell?_setCell_other _ _ _ _ (by simp),World.cell?_setCell_other _ _ _ _ (by simp)]; exact k2
 ·rw [e0 _ _ _ (by simpa using h),World.cell?_setCell_other _ _ _ _ (by simp)]; exact k3
 ·rw [e0 _ _ _ (by simpa using h)]; exact k4
 ·rw [e1 _ _ _ (by simpa using h)]
  simp only [World.frozen?_setCell]
  exact hf j
end Go.Proofs.YtndcigdphgojpaaGreatDoor
