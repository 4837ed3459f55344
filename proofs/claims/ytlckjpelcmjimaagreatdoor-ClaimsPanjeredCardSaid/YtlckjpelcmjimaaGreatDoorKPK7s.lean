/- Whether a size may be, as the Go text of -/
import Derived.Test.YtlckjpelcmjimaaGreatDoorKPKC
import Derived.Test.YtlckjpelcmjimaaGreatDoorKPKM
namespace Go.Proofs.YtlckjpelcmjimaaGreatDoor
open Go.RowKit
theorem checkSize_any (n:Int) (w:World):Calls Tryz.prog 49 #[.int .i64 n] w fun e w'=>e=.returned (if n<0∨200<n then .iface 54 (.int .i64 2) else .nilIface)∧w'=w:=by
 go_enter Tryz.func49,Tryz.ntmps49
 by_cases h0:n<0
 ·go_wp2
  go_ret
  exact ⟨rfl,rfl⟩
 ·by_cases h1:200<n
  ·go_wp2
   go_ret
   exact ⟨rfl,rfl⟩
  ·go_wp2
   go_ret
   exact ⟨rfl,rfl⟩
def LaidK (B:Nat) (w:World) (v:Value):Prop:=∃ b,v=.pointer (some ⟨b,0,none⟩)∧B≤b∧P4 w b false 0 0 none∧∀ j,w.frozen? ⟨b,j,none⟩=false
theorem LaidK.but {B:Nat} {w w':World} {v:Value} (h:LaidK B w v) (hb:But [] w w'):LaidK B w' v:=by
 obtain ⟨b,h1,h2,h3,h4⟩:=h
 have hl:b<w.heap.size:=ai h3.1
 exact ⟨b,h1,h2,h3.but hb (by simp),fun j=>(hb.frozen (p:=⟨b,j,none⟩) hl (by simp)).trans (h4 j)⟩
theorem run_allocK (a:Act) (w:World) (d:Nat) (u:TypeId) (ps:String) (ed:Array Edge) :
  (execOp a.eval { dst:=some d,op:=Op.alloc 29,type:=u,pos:=ps,after:=ed,guard:=none }).run Tryz.prog w=.ok (.value (.pointer (some ⟨w.heap.size,0,none⟩))) (w.alloc (.cells #[.bool false,.int .u64 0,.int .u64 0,.pointer none] 29)):=by
 unfold execOp
 go_simp
theorem run_subK (a:Act) (w:World) (d t1 t2:Nat) (u:TypeId) (ps:String) (ed:Array Edge) (gd:Option (Nat × Bool)) (x1 x2:Value) (h1:a.eval (.tmp t1)=x1) (h2:a.eval (.tmp t2)=x2) :
  (execOp a.eval { dst:=some d,op:=Op.call { callee:=Callee.value (Operand.func 74),args:=#[Operand.tmp t1,Operand.tmp t2],argTypes:=#[29,29] },type:=u,pos:=ps,after:=ed,guard:=gd }).run Tryz.prog w=.ok (.enter 74 #[x1,x2]) w:=by
 unfold execOp
 go_simp
 rw [← h1,← h2]
 simp [Act.eval]
end Go.Proofs.YtlckjpelcmjimaaGreatDoor
