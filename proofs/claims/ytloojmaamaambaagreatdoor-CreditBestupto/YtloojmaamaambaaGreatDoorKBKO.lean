/- The least amount that is not gone beyond with so much of chance: the statements that draw their order, as the Go text of package claims has them. -/
import Derived.Test.YtloojmaamaambaaGreatDoorKBKC
import Derived.Test.YtloojmaamaambaaGreatDoorKBKM
import Derived.Test.YtloojmaamaambaaGreatDoorKBKNz
namespace Go.Proofs.YtloojmaamaambaaGreatDoor
open Go.RowKit

theorem run_gt0K (a : Act) (w : World) (d t : Nat) (u : TypeId) (ps : String) (ed : Array Edge) (gd : Option (Nat × Bool)) (x : Int) (h : a.eval (.tmp t) = .int .i64 x) :
  (execOp a.eval { dst:=some d,op:=Op.binOp BinOp.gtr 3 (.tmp t) (.const (.int .i64 0)) 3,type:=u,pos:=ps,after:=ed,guard:=gd }).run Tryz.prog w = .ok (.value (.bool (decide (0 < x)))) w:=by
 have e : a.eval (.const (.int .i64 0)) = .int .i64 0:=rfl
 unfold execOp
 simp only [h,e]
 go_simp
theorem run_orFK (a : Act) (w : World) (d t1 t2 : Nat) (u : TypeId) (ps : String) (ed : Array Edge) (gd : Option (Nat × Bool)) (v : Value) (h1 : a.eval (.tmp t1) = .bool false) (h2 : a.eval (.tmp t2) = v) :
  (execOp a.eval { dst:=some d,op:=Op.pick (.tmp t1) (.const (.bool true)) (.tmp t2),type:=u,pos:=ps,after:=ed,guard:=gd }).run Tryz.prog w = .ok (.value v) w:=by
 unfold execOp
 simp only [h1,h2]
 go_simp
end Go.Proofs.YtloojmaamaambaaGreatDoor
