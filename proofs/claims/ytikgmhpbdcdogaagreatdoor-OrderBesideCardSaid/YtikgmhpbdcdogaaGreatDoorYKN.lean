/- Whether a fraction is a chance, and not a certain one, as the Go text of package claims tells; what a comparison tells. -/
import Derived.Test.YtikgmhpbdcdogaaGreatDoorYK7
import Derived.Test.YtikgmhpbdcdogaaGreatDoorYKM
namespace Go.Proofs.YtikgmhpbdcdogaaGreatDoor
open Go.RowKit

theorem cmpZ_tells (x y : Rat) (r : Int) (hr : r = cmpZ (x.num * (y.den : Int)) (y.num * (x.den : Int))) : (r < 0 ↔ x < y)∧(0 < r ↔ y < x)∧(r = 0 ↔ x = y):=by
 have h1 : x < y ↔ x.num * (y.den : Int) < y.num * (x.den : Int):=Rat.lt_iff x y
 have h2 : y < x ↔ y.num * (x.den : Int) < x.num * (y.den : Int):=Rat.lt_iff y x
 have h3 : x = y ↔ x.num * (y.den : Int) = y.num * (x.den : Int):=by
  constructor
  ·intro h; rw [h]
  ·intro h
   exact Rat.le_antisymm ((Rat.le_iff _ _).2 (by omega)) ((Rat.le_iff _ _).2 (by omega))
 rw [h1,h2,h3,hr]
 unfold cmpZ
 split
 ·omega
 ·split <;> omega
end Go.Proofs.YtikgmhpbdcdogaaGreatDoor

namespace Go.Proofs.YtikgmhpbdcdogaaGreatDoor
open Go.RowKit

/-- a place of the call's own for a fraction, blank yet -/
def LaidK (B : Nat) (w : World) (v : Value) : Prop:=∃ b,v = .pointer (some ⟨b,0,none⟩)∧B ≤ b∧P4 w b false 0 0 none∧∀ j,w.frozen? ⟨b,j,none⟩ = false
theorem LaidK.but {B : Nat} {w w' : World} {v : Value} (h : LaidK B w v) (hb : But [] w w') : LaidK B w' v:=by
 obtain ⟨b,h1,h2,h3,h4⟩:=h
 have hl : b < w.heap.size:=lt_of_cell h3.1
 exact ⟨b,h1,h2,h3.but hb (by simp),fun j => (hb.frozen (p:=⟨b,j,none⟩) hl (by simp)).trans (h4 j)⟩
theorem run_allocK (a : Act) (w : World) (d : Nat) (u : TypeId) (ps : String) (ed : Array Edge) :
  (execOp a.eval { dst:=some d,op:=Op.alloc 29,type:=u,pos:=ps,after:=ed,guard:=none }).run Tryz.prog w = .ok (.value (.pointer (some ⟨w.heap.size,0,none⟩))) (w.alloc (.cells #[.bool false,.int .u64 0,.int .u64 0,.pointer none] 29)):=by
 unfold execOp
 go_simp
theorem run_orFK (a : Act) (w : World) (d t1 t2 : Nat) (u : TypeId) (ps : String) (ed : Array Edge) (gd : Option (Nat × Bool)) (v : Value) (h1 : a.eval (.tmp t1) = .bool false) (h2 : a.eval (.tmp t2) = v) :
  (execOp a.eval { dst:=some d,op:=Op.pick (.tmp t1) (.const (.bool true)) (.tmp t2),type:=u,pos:=ps,after:=ed,guard:=gd }).run Tryz.prog w = .ok (.value v) w:=by
 unfold execOp
 simp only [h1,h2]
 go_simp
end Go.Proofs.YtikgmhpbdcdogaaGreatDoor
