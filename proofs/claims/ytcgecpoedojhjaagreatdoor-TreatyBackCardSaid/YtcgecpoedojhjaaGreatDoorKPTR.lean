/- Single operations in a region, for seats -/
import Derived.Test.YtcgecpoedojhjaaGreatDoorKPF8
import Derived.Test.YtcgecpoedojhjaaGreatDoorKPRL
namespace Go.Proofs.YtcgecpoedojhjaaGreatDoor
open Go.Proofs.Tryz
open Go.RowKit
set_option linter.unusedVariables false
theorem zz (a:Act) (w:World) (d t:Nat) (u:TypeId) (ps:String) (ed:Array Edge) (gd:Option (Nat × Bool)) (N:Value) (h:a.eval (.tmp t)=N) :
  (execOp a.eval { dst:=some d,op:=Op.move (.tmp t),type:=u,pos:=ps,after:=ed,guard:=gd }).run prog w=.ok (.value N) w:=by
 unfold execOp
 simp only[h]
 go_simp
theorem zbq (a:Act) (w:World) (d t:Nat) (u:TypeId) (ps:String) (ed:Array Edge) (gd:Option (Nat × Bool)) (b o:Nat) (s:Bool) (x y:Int) (p:Option Addr) (h1:a.eval (.tmp t)=.pointer (some ⟨b,o,none⟩)) (hc:P4o w b o s x y p) :
  (execOp a.eval { dst:=some d,op:=Op.load 35 (.tmp t),type:=u,pos:=ps,after:=ed,guard:=gd }).run prog w=.ok (.value (.agg #[.bool s,.int .u64 x,.int .u64 y,.pointer p])) w:=by
 obtain⟨c0,c1,c2,c3⟩:=hc
 unfold execOp
 simp only[h1]
 go_simp
theorem zjm (a:Act) (w:World) (d t1 k:Nat) (u:TypeId) (ps:String) (ed:Array Edge) (gd:Option (Nat × Bool)) (xs:Array Value) (v:Value) (h1:a.eval (.tmp t1)=.tuple xs) (h2:xs[k]? = some v) :
  (execOp a.eval { dst:=some d,op:=Op.extract (.tmp t1) k,type:=u,pos:=ps,after:=ed,guard:=gd }).run prog w=.ok (.value v) w:=by
 unfold execOp
 simp only[h1]
 go_simp
theorem zae (a:Act) (w:World) (d t:Nat) (u:TypeId) (ps:String) (ed:Array Edge) (gd:Option (Nat × Bool)) (N:Value) (h:a.eval (.tmp t)=N) :
  (execOp a.eval { dst:=some d,op:=Op.assign (.tmp t),type:=u,pos:=ps,after:=ed,guard:=gd }).run prog w=.ok (.value N) w:=by
 unfold execOp
 simp only[h]
 go_simp
theorem qbt (a:Act) (w:World) (d t1 t2:Nat) (u:TypeId) (ps:String) (ed:Array Edge) (gd:Option (Nat × Bool)) (x1 x2:Value) (h1:a.eval (.tmp t1)=x1) (h2:a.eval (.tmp t2)=x2) :
  (execOp a.eval { dst:=some d,op:=Op.call { callee:=Callee.value (Operand.func 57),args:=#[Operand.tmp t1,Operand.tmp t2],argTypes:=#[35,35] },type:=u,pos:=ps,after:=ed,guard:=gd }).run prog w=.ok (.enter 57 #[x1,x2]) w:=by
 unfold execOp
 go_simp
 rw[← h1,← h2]
 simp[Act.eval]
theorem zuv (a:Act) (w:World) (d t1:Nat) (u:TypeId) (ps:String) (ed:Array Edge) (gd:Option (Nat × Bool)) (x1:Value) (h1:a.eval (.tmp t1)=x1) :
  (execOp a.eval { dst:=some d,op:=Op.call { callee:=Callee.value (Operand.func 58),args:=#[Operand.tmp t1],argTypes:=#[3] },type:=u,pos:=ps,after:=ed,guard:=gd }).run prog w=.ok (.enter 58 #[x1]) w:=by
 unfold execOp
 go_simp
 rw[← h1]
 simp[Act.eval]
theorem au (a:Act) (w:World) (d t:Nat) (u:TypeId) (ps:String) (ed:Array Edge) (gd:Option (Nat × Bool)) (b o:Nat) (z:Int) (h1:a.eval (.tmp t)=.pointer (some ⟨b,o,none⟩)) (hc:w.cell? ⟨b,o,none⟩=some (.int .i64 z)) :
  (execOp a.eval { dst:=some d,op:=Op.load 3 (.tmp t),type:=u,pos:=ps,after:=ed,guard:=gd }).run prog w=.ok (.value (.int .i64 z)) w:=by
 unfold execOp
 simp only[h1]
 go_simp
end Go.Proofs.YtcgecpoedojhjaaGreatDoor
