/- Out of GRr: what needs no more than thes -/
import Derived.Test.YtagmkkiagjmimaaGreatDoorYRJ
namespace Go.Proofs.YtagmkkiagjmimaaGreatDoor
set_option linter.unusedVariables false
open Go.Proofs.Tryz
open Go.RowKit
theorem br (a:Act) (w:World) (d t:Nat) (u:TypeId) (ps:String) (ed:Array Edge) (gd:Option (Nat × Bool)) (N:Value) (h:a.eval (.tmp t)=N) :
   (execOp a.eval { dst:=some d,op:=Op.move (.tmp t),type:=u,pos:=ps,after:=ed,guard:=gd }).run prog w=.ok (.value N) w:=by(
 unfold execOp
 simp only[h]
 go_simp)
theorem zxp (a:Act) (w:World) (d t:Nat) (u:TypeId) (ps:String) (ed:Array Edge) (gd:Option (Nat × Bool)) (N:Value) (h:a.eval (.tmp t)=N) :
   (execOp a.eval { dst:=some d,op:=Op.assign (.tmp t),type:=u,pos:=ps,after:=ed,guard:=gd }).run prog w=.ok (.value N) w:=by(
 unfold execOp
 simp only[h]
 go_simp)
abbrev FZ:=Bool × Int × Int × Option Addr
theorem zye {P:Program} {f:FuncId} {args:Array Value} {w:World} {r:Rat} (h:Calls P f args w fun e w'=>∃ v,e=.returned v∧aq w' v r∧But [] w w') :
  Calls P f args w fun e w'=>∃ z:FZ,e=.returned (.agg #[.bool z.1,.int .u64 z.2.1,.int .u64 z.2.2.1,.pointer z.2.2.2])∧aq w' (.agg #[.bool z.1,.int .u64 z.2.1,.int .u64 z.2.2.1,.pointer z.2.2.2]) r∧But [] w w' :=
 (zfl h).mono fun _ _ ⟨s,x,y,p,h1,h2,h3⟩=>⟨(s,x,y,p),h1,h2,h3⟩
theorem zsa (a:Act) (w:World) (t1 t2:Nat) (u:TypeId) (ps:String) (ed:Array Edge) (g o:Nat) (s:Bool) (x y:Int) (p:Option Addr) {s':Bool} {x' y':Int} {p':Option Addr} (h1:a.eval (.tmp t1)=.pointer (some ⟨g,o,none⟩)) (h2:a.eval (.tmp t2)=.agg #[.bool s,.int .u64 x,.int .u64 y,.pointer p]) (hc:P4o w g o s' x' y' p') (fz:∀ j,w.frozen? ⟨g,j,none⟩=false) :
   (execOp a.eval { dst:=none,op:=Op.store 27 (.tmp t1) (.tmp t2),type:=u,pos:=ps,after:=ed,guard:=none }).run prog w=.ok .skip (w.setCells g o [.bool s,.int .u64 x,.int .u64 y,.pointer p]):=by(
 obtain⟨c0,c1,c2,c3⟩:=hc
 unfold execOp
 simp only[h1,h2]
 go_simp
 rfl)
theorem qcr (a:Act) (w:World) (d t:Nat) (u:TypeId) (ps:String) (ed:Array Edge) (gd:Option (Nat × Bool)) (x:Int) (h:a.eval (.tmp t)=.int .i64 x) :
   (execOp a.eval { dst:=some d,op:=Op.binOp BinOp.lss 3 (.tmp t) (.const (.int .i64 0)) 3,type:=u,pos:=ps,after:=ed,guard:=gd }).run prog w=.ok (.value (.bool (decide (x<0)))) w:=by(
 have e:a.eval (.const (.int .i64 0))=.int .i64 0:=rfl
 unfold execOp
 simp only[h,e]
 go_simp)
end Go.Proofs.YtagmkkiagjmimaaGreatDoor
