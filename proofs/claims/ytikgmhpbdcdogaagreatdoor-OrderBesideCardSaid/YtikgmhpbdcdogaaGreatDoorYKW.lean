/- Layers, one upon the other: the statements of the law that draw their order, as the Go text of package tontinekeep has them. -/
import Derived.Test.YtikgmhpbdcdogaaGreatDoorYKN
namespace Go.Proofs.YtikgmhpbdcdogaaGreatDoor
open Go.RowKit

theorem run_notK (a : Act) (w : World) (d t : Nat) (u : TypeId) (ps : String) (ed : Array Edge) (gd : Option (Nat × Bool)) (b : Bool) (h : a.eval (.tmp t) = .bool b) :
  (execOp a.eval { dst:=some d,op:=Op.unOp UnOp.not 4 (.tmp t),type:=u,pos:=ps,after:=ed,guard:=gd }).run Tryz.prog w = .ok (.value (.bool (!b))) w:=by
 unfold execOp
 simp only [h]
 go_simp
theorem run_likeK (a : Act) (w : World) (d t1 t2 : Nat) (u : TypeId) (ps : String) (ed : Array Edge) (gd : Option (Nat × Bool)) (x1 x2 : Value) (h1 : a.eval (.tmp t1) = x1) (h2 : a.eval (.tmp t2) = x2) :
  (execOp a.eval { dst:=some d,op:=Op.call { callee:=Callee.value (Operand.func 18),args:=#[Operand.tmp t1,Operand.tmp t2],argTypes:=#[29,29] },type:=u,pos:=ps,after:=ed,guard:=gd }).run Tryz.prog w = .ok (.enter 18 #[x1,x2]) w:=by
 unfold execOp
 go_simp
 rw [← h1,← h2]
 simp [Act.eval]
end Go.Proofs.YtikgmhpbdcdogaaGreatDoor
