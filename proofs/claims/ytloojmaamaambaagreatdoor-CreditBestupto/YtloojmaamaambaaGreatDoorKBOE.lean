/- Of what is left a row is given so much, from the lowest amount on, as the Go text of package order does it. -/
import Derived.RangeFuncNested
import Derived.RangeFuncBound
import Derived.RangeFuncCalls
import Derived.RangeFuncLeaves
import Derived.Shelf.Abstract
import Derived.Shelf.RegionOpen
import Derived.WalkKit
import Derived.OwnWalkIn
import Derived.TacticsInMore
import Derived.LoopNIn
import Derived.LoopIn
import Derived.Test.YtloojmaamaambaaGreatDoorProg
import Derived.Test.YtloojmaamaambaaGreatDoorKBF10
import Derived.Test.YtloojmaamaambaaGreatDoorKBKW
import Derived.Test.YtloojmaamaambaaGreatDoorKBT2
namespace Go.Proofs.YtloojmaamaambaaGreatDoor
open Go.RowKit

theorem RowOf.congr {w : World} {g n : Nat} {F G : Nat→Rat} (h : RowOf w g n F) (e : ∀ j,j < n→F j = G j) : RowOf w g n G :=
 ⟨fun j hj => by rw [← e j hj]; exact h.told j hj,h.loose⟩
end Go.Proofs.YtloojmaamaambaaGreatDoor

namespace Go.Proofs.YtloojmaamaambaaGreatDoor
open Go.RowKit

theorem run_loadRK (a : Act) (w : World) (d t : Nat) (u : TypeId) (ps : String) (ed : Array Edge) (gd : Option (Nat × Bool)) (b o : Nat) (q : Option Addr) (m c : Nat) (h1 : a.eval (.tmp t) = .pointer (some ⟨b,o,none⟩)) (hc : w.cell? ⟨b,o,none⟩ = some (.slice q m c)) :
  (execOp a.eval { dst:=some d,op:=Op.load 33 (.tmp t),type:=u,pos:=ps,after:=ed,guard:=gd }).run Tryz.prog w = .ok (.value (.slice q m c)) w:=by
 unfold execOp
 simp only [h1]
 go_simp
end Go.Proofs.YtloojmaamaambaaGreatDoor

namespace Go.Proofs.YtloojmaamaambaaGreatDoor
open Go.RowKit

theorem len_max0 {x : Rat} {n : Nat} (h : Len x n) (hn : 1 ≤ n) : Len (max0 x) n:=by
 unfold max0
 split
 ·exact h
 ·exact len_zero _ hn
def atR (fs : List Rat) (k : Nat) : Rat:=fs[k]?.getD 0
end Go.Proofs.YtloojmaamaambaaGreatDoor
