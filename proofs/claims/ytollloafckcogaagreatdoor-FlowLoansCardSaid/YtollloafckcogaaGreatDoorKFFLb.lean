/- The law FlowLoans: its statement that dr -/
import Derived.Test.YtollloafckcogaaGreatDoorKFRLc
namespace Go.Proofs.YtollloafckcogaaGreatDoor
open Go.RowKit
set_option maxHeartbeats 8000000
set_option maxRecDepth 100000
set_option linter.unusedVariables false
theorem txts3_new (w:World) (t1 t2 t3:ByteArray):TxtsAt (w.alloc (.cells #[.string t1,.string t2,.string t3] 9)) (.slice (some ⟨w.heap.size,0,none⟩) 3 3) [t1,t2,t3]:=by
 refine ⟨_,3,rfl,fun i x hi=>⟨_,0,rfl,?_⟩⟩
 match i,hi with
 | 0,hi=>simp at hi;subst hi;simp
 | 1,hi=>simp at hi;subst hi;simp
 | 2,hi=>simp at hi;subst hi;simp
 | i+3,hi=>simp at hi
theorem run_Fl0 (a:Act) (w:World) (d t1 t2:Nat) (u:TypeId) (ps:String) (ed:Array Edge) (gd:Option (Nat × Bool)) (b off n c k o':Nat) (ho:off+k*12=o') (hk:k<n) (_hn:n<1000000) (h1:a.eval (.tmp t1)=.slice (some ⟨b,off,none⟩) n c) (h2:a.eval (.tmp t2)=.int .i64 (k:Int)) :
  (execOp a.eval { dst:=some d,op:=Op.indexAddr 58 (.tmp t1) (.tmp t2),type:=u,pos:=ps,after:=ed,guard:=gd }).run Tryz.prog w=.ok (.value (.pointer (some ⟨b,o',none⟩))) w:=by
 subst ho
 unfold execOp
 simp only [h1,h2]
 go_simp
theorem run_Fl1 (a:Act) (w:World) (d t:Nat) (u:TypeId) (ps:String) (ed:Array Edge) (gd:Option (Nat × Bool)) (b o o':Nat) (ho:o+0=o') (h1:a.eval (.tmp t)=.pointer (some ⟨b,o,none⟩)) :
  (execOp a.eval { dst:=some d,op:=Op.fieldAddr 66 (.tmp t) 0,type:=u,pos:=ps,after:=ed,guard:=gd }).run Tryz.prog w=.ok (.value (.pointer (some ⟨b,o',none⟩))) w:=by
 subst ho
 unfold execOp
 simp only [h1]
 go_simp
theorem run_Fl2 (a:Act) (w:World) (d t0:Nat) (u:TypeId) (ps:String) (ed:Array Edge) (gd:Option (Nat × Bool)) (z0:Value) (h0:a.eval (.tmp t0)=z0) :
  (execOp a.eval { dst:=some d,op:=Op.call { callee:=Callee.value (Operand.func 9),args:=#[Operand.tmp t0],argTypes:=#[27] },type:=u,pos:=ps,after:=ed,guard:=gd }).run Tryz.prog w=.ok (.enter 9 #[z0]) w:=by
 unfold execOp
 go_simp
 rw [← h0]
 simp [Act.eval]
theorem run_Fl3 (a:Act) (w:World) (d t:Nat) (u:TypeId) (ps:String) (ed:Array Edge) (gd:Option (Nat × Bool)) (b o o':Nat) (ho:o+4=o') (h1:a.eval (.tmp t)=.pointer (some ⟨b,o,none⟩)) :
  (execOp a.eval { dst:=some d,op:=Op.fieldAddr 66 (.tmp t) 1,type:=u,pos:=ps,after:=ed,guard:=gd }).run Tryz.prog w=.ok (.value (.pointer (some ⟨b,o',none⟩))) w:=by
 subst ho
 unfold execOp
 simp only [h1]
 go_simp
theorem run_Fl4 (a:Act) (w:World) (d t:Nat) (u:TypeId) (ps:String) (ed:Array Edge) (gd:Option (Nat × Bool)) (b o o':Nat) (ho:o+8=o') (h1:a.eval (.tmp t)=.pointer (some ⟨b,o,none⟩)) :
  (execOp a.eval { dst:=some d,op:=Op.fieldAddr 66 (.tmp t) 2,type:=u,pos:=ps,after:=ed,guard:=gd }).run Tryz.prog w=.ok (.value (.pointer (some ⟨b,o',none⟩))) w:=by
 subst ho
 unfold execOp
 simp only [h1]
 go_simp
theorem run_Fl5 (a:Act) (w:World) (d t0 t1 t2:Nat) (u:TypeId) (ps:String) (ed:Array Edge) (gd:Option (Nat × Bool)) (z0:ByteArray) (z1:ByteArray) (z2:ByteArray) (h0:a.eval (.tmp t0)=.string z0) (h1:a.eval (.tmp t1)=.string z1) (h2:a.eval (.tmp t2)=.string z2) :
  (execOp a.eval { dst:=some d,op:=Op.buildSlice 67 3 #[(0,Operand.tmp t0),(1,Operand.tmp t1),(2,Operand.tmp t2)],type:=u,pos:=ps,after:=ed,guard:=gd }).run Tryz.prog w=.ok (.value (.slice (some ⟨w.heap.size,0,none⟩) 3 3)) (w.alloc (.cells #[.string z0,.string z1,.string z2] 9)):=by
 unfold execOp
 simp only [List.map_toArray,List.map_cons,List.map_nil,h0,h1,h2]
 go_simp
theorem run_Fl6 (a:Act) (w:World) (d t1 t2:Nat) (u:TypeId) (ps:String) (ed:Array Edge) (gd:Option (Nat × Bool)) (b off n c k o':Nat) (ho:off+k=o') (hk:k<n) (_hn:n<1000000) (h1:a.eval (.tmp t1)=.slice (some ⟨b,off,none⟩) n c) (h2:a.eval (.tmp t2)=.int .i64 (k:Int)) :
  (execOp a.eval { dst:=some d,op:=Op.indexAddr 61 (.tmp t1) (.tmp t2),type:=u,pos:=ps,after:=ed,guard:=gd }).run Tryz.prog w=.ok (.value (.pointer (some ⟨b,o',none⟩))) w:=by
 subst ho
 unfold execOp
 simp only [h1,h2]
 go_simp
theorem run_Fl7 (a:Act) (w:World) (d t:Nat) (u:TypeId) (ps:String) (ed:Array Edge) (gd:Option (Nat × Bool)) (b o:Nat) (v:Value) (h1:a.eval (.tmp t)=.pointer (some ⟨b,o,none⟩)) (hc:w.cell? ⟨b,o,none⟩=some v) :
  (execOp a.eval { dst:=some d,op:=Op.load 46 (.tmp t),type:=u,pos:=ps,after:=ed,guard:=gd }).run Tryz.prog w=.ok (.value v) w:=by
 unfold execOp
 simp only [h1]
 go_simp
theorem run_Fl8 (a:Act) (w:World) (d t0:Nat) (u:TypeId) (ps:String) (ed:Array Edge) (gd:Option (Nat × Bool)) (z0:Value) (h0:a.eval (.tmp t0)=z0) :
  (execOp a.eval { dst:=some d,op:=Op.call { callee:=Callee.value (Operand.func 27),args:=#[Operand.tmp t0],argTypes:=#[46] },type:=u,pos:=ps,after:=ed,guard:=gd }).run Tryz.prog w=.ok (.enter 27 #[z0]) w:=by
 unfold execOp
 go_simp
 rw [← h0]
 simp [Act.eval]
theorem run_Fl9 (a:Act) (w:World) (d t0 t1:Nat) (u:TypeId) (ps:String) (ed:Array Edge) (gd:Option (Nat × Bool)) (z0 z1:Value) (h0:a.eval (.tmp t0)=z0) (h1:a.eval (.tmp t1)=z1) :
  (execOp a.eval { dst:=some d,op:=Op.call { callee:=Callee.value (Operand.func 26),args:=#[Operand.tmp t0,Operand.tmp t1],argTypes:=#[67,67] },type:=u,pos:=ps,after:=ed,guard:=gd }).run Tryz.prog w=.ok (.enter 26 #[z0,z1]) w:=by
 unfold execOp
 go_simp
 rw [← h0,← h1]
 simp [Act.eval]
theorem run_Fl10 (a:Act) (w:World) (d t:Nat) (u:TypeId) (ps:String) (ed:Array Edge) (gd:Option (Nat × Bool)) (x:Bool) (h1:a.eval (.tmp t)=.bool x) :
  (execOp a.eval { dst:=some d,op:=Op.unOp UnOp.not 4 (.tmp t),type:=u,pos:=ps,after:=ed,guard:=gd }).run Tryz.prog w=.ok (.value (.bool (!x))) w:=by
 unfold execOp
 simp only [h1]
 go_simp
 try rfl
def opFa0:Oper:={ dst:=some 52,op:=Op.move (Operand.tmp 6),type := 58,pos := "law.go:383",after:=#[],guard:=none }
def opFa1:Oper:={ dst:=some 53,op:=Op.move (Operand.tmp 11),type := 3,pos := "law.go:383",after:=#[],guard:=none }
def opFa2:Oper:={ dst:=some 54,op:=Op.indexAddr 58 (Operand.tmp 52) (Operand.tmp 53),type:=0,pos := "law.go:383",after:=#[⟨0,.data⟩,⟨1,.data⟩],guard:=none }
def opFa3:Oper:={ dst:=some 55,op:=Op.fieldAddr 66 (Operand.tmp 54) 0,type:=0,pos := "law.go:383",after:=#[⟨2,.data⟩],guard:=none }
def opFa4:Oper:={ dst:=some 56,op:=Op.load 27 (Operand.tmp 55),type := 27,pos := "law.go:383",after:=#[⟨3,.data⟩],guard:=none }
def opFa5:Oper:={ dst:=some 57,op:=Op.call { callee:=Callee.value (Operand.func 9),args:=#[Operand.tmp 56],argTypes:=#[27] },type := 9,pos := "law.go:383",after:=#[⟨4,.data⟩],guard:=none }
def opFa6:Oper:={ dst:=some 58,op:=Op.move (Operand.tmp 6),type := 58,pos := "law.go:383",after:=#[],guard:=none }
def opFa7:Oper:={ dst:=some 59,op:=Op.move (Operand.tmp 11),type := 3,pos := "law.go:383",after:=#[],guard:=none }
def opFa8:Oper:={ dst:=some 60,op:=Op.indexAddr 58 (Operand.tmp 58) (Operand.tmp 59),type:=0,pos := "law.go:383",after:=#[⟨6,.data⟩,⟨7,.data⟩],guard:=none }
def opFa9:Oper:={ dst:=some 61,op:=Op.fieldAddr 66 (Operand.tmp 60) 1,type:=0,pos := "law.go:383",after:=#[⟨8,.data⟩],guard:=none }
def opFa10:Oper:={ dst:=some 62,op:=Op.load 27 (Operand.tmp 61),type := 27,pos := "law.go:383",after:=#[⟨9,.data⟩],guard:=none }
def opFa11:Oper:={ dst:=some 63,op:=Op.call { callee:=Callee.value (Operand.func 9),args:=#[Operand.tmp 62],argTypes:=#[27] },type := 9,pos := "law.go:383",after:=#[⟨10,.data⟩,⟨5,.chain⟩],guard:=none }
def opFa12:Oper:={ dst:=some 64,op:=Op.move (Operand.tmp 6),type := 58,pos := "law.go:383",after:=#[],guard:=none }
def opFa13:Oper:={ dst:=some 65,op:=Op.move (Operand.tmp 11),type := 3,pos := "law.go:383",after:=#[],guard:=none }
def opFa14:Oper:={ dst:=some 66,op:=Op.indexAddr 58 (Operand.tmp 64) (Operand.tmp 65),type:=0,pos := "law.go:383",after:=#[⟨12,.data⟩,⟨13,.data⟩],guard:=none }
def opFa15:Oper:={ dst:=some 67,op:=Op.fieldAddr 66 (Operand.tmp 66) 2,type:=0,pos := "law.go:383",after:=#[⟨14,.data⟩],guard:=none }
def opFa16:Oper:={ dst:=some 68,op:=Op.load 27 (Operand.tmp 67),type := 27,pos := "law.go:383",after:=#[⟨15,.data⟩],guard:=none }
def opFa17:Oper:={ dst:=some 69,op:=Op.call { callee:=Callee.value (Operand.func 9),args:=#[Operand.tmp 68],argTypes:=#[27] },type := 9,pos := "law.go:383",after:=#[⟨16,.data⟩,⟨11,.chain⟩],guard:=none }
def opFa18:Oper:={ dst:=some 70,op:=Op.buildSlice 67 3 #[(0,Operand.tmp 57),(1,Operand.tmp 63),(2,Operand.tmp 69)],type := 67,pos := "law.go:383",after:=#[⟨5,.data⟩,⟨11,.data⟩,⟨17,.data⟩],guard:=none }
def opFa19:Oper:={ dst:=some 71,op:=Op.move (Operand.tmp 9),type := 61,pos := "law.go:383",after:=#[],guard:=none }
def opFa20:Oper:={ dst:=some 72,op:=Op.move (Operand.tmp 11),type := 3,pos := "law.go:383",after:=#[],guard:=none }
def opFa21:Oper:={ dst:=some 73,op:=Op.indexAddr 61 (Operand.tmp 71) (Operand.tmp 72),type:=0,pos := "law.go:383",after:=#[⟨19,.data⟩,⟨20,.data⟩],guard:=none }
def opFa22:Oper:={ dst:=some 74,op:=Op.load 46 (Operand.tmp 73),type := 46,pos := "law.go:383",after:=#[⟨21,.data⟩],guard:=none }
def opFa23:Oper:={ dst:=some 75,op:=Op.call { callee:=Callee.value (Operand.func 27),args:=#[Operand.tmp 74],argTypes:=#[46] },type := 67,pos := "law.go:383",after:=#[⟨22,.data⟩,⟨17,.chain⟩],guard:=none }
def opFa24:Oper:={ dst:=some 76,op:=Op.call { callee:=Callee.value (Operand.func 26),args:=#[Operand.tmp 70,Operand.tmp 75],argTypes:=#[67,67] },type := 4,pos := "law.go:383",after:=#[⟨18,.data⟩,⟨23,.data⟩,⟨23,.chain⟩],guard:=none }
def opFa25:Oper:={ dst:=some 77,op:=Op.unOp UnOp.not 4 (Operand.tmp 76),type := 4,pos := "law.go:383",after:=#[⟨24,.data⟩],guard:=none }
def opFas:Array Oper:=#[opFa0,opFa1,opFa2,opFa3,opFa4,opFa5,opFa6,opFa7,opFa8,opFa9,opFa10,opFa11,opFa12,opFa13,opFa14,opFa15,opFa16,opFa17,opFa18,opFa19,opFa20,opFa21,opFa22,opFa23,opFa24,opFa25]
structure opFaH (W0:World) (gp:Nat) (gr:Nat) (gi:Nat) (n:Nat) (m:Nat) (k:Nat) (t1:ByteArray) (t2:ByteArray) (t3:ByteArray) (s1:Bool) (x1:Int) (y1:Int) (p1:Option Addr) (s2:Bool) (x2:Int) (y2:Int) (p2:Option Addr) (s3:Bool) (x3:Int) (y3:Int) (p3:Option Addr) (gs:Nat) (vt:Value) (b18:Bool) (b23:Bool) (w:World):Prop where
 mem:But [] W0 w
 f18:b18=true→TxtsAt w (.slice (some ⟨gs,0,none⟩) 3 3) [t1,t2,t3]
 f23:b23=true→TxtsAt w vt [t1,t2,t3]
theorem opFaH.but {W0:World} {gp:Nat} {gr:Nat} {gi:Nat} {n:Nat} {m:Nat} {k:Nat} {t1:ByteArray} {t2:ByteArray} {t3:ByteArray} {s1:Bool} {x1:Int} {y1:Int} {p1:Option Addr} {s2:Bool} {x2:Int} {y2:Int} {p2:Option Addr} {s3:Bool} {x3:Int} {y3:Int} {p3:Option Addr} {gs:Nat} {vt:Value} {b18 b23:Bool} {w w':World} (h:opFaH W0 gp gr gi n m k t1 t2 t3 s1 x1 y1 p1 s2 x2 y2 p2 s3 x3 y3 p3 gs vt b18 b23 w) (hb:But [] w w'):opFaH W0 gp gr gi n m k t1 t2 t3 s1 x1 y1 p1 s2 x2 y2 p2 s3 x3 y3 p3 gs vt b18 b23 w' :=
 { mem:=h.mem.trans' hb,f18:=fun e=>(h.f18 e).but hb,f23:=fun e=>(h.f23 e).but hb }
theorem opFaH.s18 {W0:World} {gp:Nat} {gr:Nat} {gi:Nat} {n:Nat} {m:Nat} {k:Nat} {t1:ByteArray} {t2:ByteArray} {t3:ByteArray} {s1:Bool} {x1:Int} {y1:Int} {p1:Option Addr} {s2:Bool} {x2:Int} {y2:Int} {p2:Option Addr} {s3:Bool} {x3:Int} {y3:Int} {p3:Option Addr} {gs:Nat} {vt:Value} {b18 b23:Bool} {w:World} (h:opFaH W0 gp gr gi n m k t1 t2 t3 s1 x1 y1 p1 s2 x2 y2 p2 s3 x3 y3 p3 gs vt b18 b23 w) (gs':Nat) (hf:TxtsAt w (.slice (some ⟨gs',0,none⟩) 3 3) [t1,t2,t3]):opFaH W0 gp gr gi n m k t1 t2 t3 s1 x1 y1 p1 s2 x2 y2 p2 s3 x3 y3 p3 gs' vt true b23 w :=
 { mem:=h.mem,f18:=fun _=>hf,f23:=h.f23 }
theorem opFaH.s23 {W0:World} {gp:Nat} {gr:Nat} {gi:Nat} {n:Nat} {m:Nat} {k:Nat} {t1:ByteArray} {t2:ByteArray} {t3:ByteArray} {s1:Bool} {x1:Int} {y1:Int} {p1:Option Addr} {s2:Bool} {x2:Int} {y2:Int} {p2:Option Addr} {s3:Bool} {x3:Int} {y3:Int} {p3:Option Addr} {gs:Nat} {vt:Value} {b18 b23:Bool} {w:World} (h:opFaH W0 gp gr gi n m k t1 t2 t3 s1 x1 y1 p1 s2 x2 y2 p2 s3 x3 y3 p3 gs vt b18 b23 w) (vt':Value) (hf:TxtsAt w vt' [t1,t2,t3]):opFaH W0 gp gr gi n m k t1 t2 t3 s1 x1 y1 p1 s2 x2 y2 p2 s3 x3 y3 p3 gs vt' b18 true w :=
 { mem:=h.mem,f18:=h.f18,f23:=fun _=>hf }
def opFaT (i:Nat):Nat:=match i with
 | 0=>52
 | 1=>53
 | 2=>54
 | 3=>55
 | 4=>56
 | 5=>57
 | 6=>58
 | 7=>59
 | 8=>60
 | 9=>61
 | 10=>62
 | 11=>63
 | 12=>64
 | 13=>65
 | 14=>66
 | 15=>67
 | 16=>68
 | 17=>69
 | 18=>70
 | 19=>71
 | 20=>72
 | 21=>73
 | 22=>74
 | 23=>75
 | 24=>76
 | _=>77
def opFaW (i:Nat):Bool:=match i with
 | _=>true
def opFaV (gp:Nat) (gr:Nat) (gi:Nat) (n:Nat) (m:Nat) (k:Nat) (t1:ByteArray) (t2:ByteArray) (t3:ByteArray) (s1:Bool) (x1:Int) (y1:Int) (p1:Option Addr) (s2:Bool) (x2:Int) (y2:Int) (p2:Option Addr) (s3:Bool) (x3:Int) (y3:Int) (p3:Option Addr) (gs:Nat) (vt:Value) (i:Nat):Value:=match i with
 | 0=>.slice (some ⟨gp,0,none⟩) n n
 | 1=>.int .i64 (k:Int)
 | 2=>.pointer (some ⟨gp,k*12,none⟩)
 | 3=>.pointer (some ⟨gp,k*12,none⟩)
 | 4=>.agg #[.bool s1,.int .u64 x1,.int .u64 y1,.pointer p1]
 | 5=>.string t1
 | 6=>.slice (some ⟨gp,0,none⟩) n n
 | 7=>.int .i64 (k:Int)
 | 8=>.pointer (some ⟨gp,k*12,none⟩)
 | 9=>.pointer (some ⟨gp,k*12+4,none⟩)
 | 10=>.agg #[.bool s2,.int .u64 x2,.int .u64 y2,.pointer p2]
 | 11=>.string t2
 | 12=>.slice (some ⟨gp,0,none⟩) n n
 | 13=>.int .i64 (k:Int)
 | 14=>.pointer (some ⟨gp,k*12,none⟩)
 | 15=>.pointer (some ⟨gp,k*12+8,none⟩)
 | 16=>.agg #[.bool s3,.int .u64 x3,.int .u64 y3,.pointer p3]
 | 17=>.string t3
 | 18=>.slice (some ⟨gs,0,none⟩) 3 3
 | 19=>.slice (some ⟨gr,0,none⟩) n m
 | 20=>.int .i64 (k:Int)
 | 21=>.pointer (some ⟨gr,k,none⟩)
 | 22=>.slice (some ⟨gi,0,none⟩) 3 3
 | 23=>vt
 | 24=>.bool true
 | _=>.bool false
theorem opFa_dep:depOps opFas [(2,0),(2,1),(3,2),(4,3),(5,4),(8,6),(8,7),(9,8),(10,9),(11,5),(11,10),(14,12),(14,13),(15,14),(16,15),(17,11),(17,16),(18,5),(18,11),(18,17),(21,19),(21,20),(22,21),(23,17),(23,22),(24,18),(24,23),(25,24)]=true:=by kernel_rfl
theorem opFaT_inj:∀ i j,i<26→j<26→opFaW i=true→opFaW j=true→opFaT i=opFaT j→i=j:=fun i j hi hj=>(by decide:∀ i,i<26→∀ j,j<26→opFaW i=true→opFaW j=true→opFaT i=opFaT j→i=j) i hi j hj
theorem loans_region10 (id:Nat) (Q:Exit→Act→World→Prop) (base:Act) (W0:World) (gp:Nat) (gr:Nat) (gi:Nat) (n:Nat) (m:Nat) (k:Nat) (t1:ByteArray) (t2:ByteArray) (t3:ByteArray) (s1:Bool) (x1:Int) (y1:Int) (p1:Option Addr) (s2:Bool) (x2:Int) (y2:Int) (p2:Option Addr) (s3:Bool) (x3:Int) (y3:Int) (p3:Option Addr) (hs:77<base.tmps.size) (e6:base.eval (.tmp 6)=.slice (some ⟨gp,0,none⟩) n n) (e11:base.eval (.tmp 11)=.int .i64 (k:Int)) (e9:base.eval (.tmp 9)=.slice (some ⟨gr,0,none⟩) n m)
  (hk:k<n) (hn:n<1000000) (c1:P4o W0 gp (k*12) s1 x1 y1 p1) (c2:P4o W0 gp (k*12+4) s2 x2 y2 p2) (c3:P4o W0 gp (k*12+8) s3 x3 y3 p3) (cr:W0.cell? ⟨gr,k,none⟩=some (.slice (some ⟨gi,0,none⟩) 3 3)) (T1:∀ w,But [] W0 w→Calls Tryz.prog 9 #[.agg #[.bool s1,.int .u64 x1,.int .u64 y1,.pointer p1]] w fun e w'=>e=.returned (.string t1)∧But [] w w') (T2:∀ w,But [] W0 w→Calls Tryz.prog 9 #[.agg #[.bool s2,.int .u64 x2,.int .u64 y2,.pointer p2]] w fun e w'=>e=.returned (.string t2)∧But [] w w') (T3:∀ w,But [] W0 w→Calls Tryz.prog 9 #[.agg #[.bool s3,.int .u64 x3,.int .u64 y3,.pointer p3]] w fun e w'=>e=.returned (.string t3)∧But [] w w') (TX:∀ w,But [] W0 w→Calls Tryz.prog 27 #[.slice (some ⟨gi,0,none⟩) 3 3] w fun e w'=>∃ v,e=.returned v∧TxtsAt w' v [t1,t2,t3]∧But [] w w') (SM:∀ w g v,But [] W0 w→TxtsAt w (.slice (some ⟨g,0,none⟩) 3 3) [t1,t2,t3]→TxtsAt w v [t1,t2,t3]→Calls Tryz.prog 26 #[.slice (some ⟨g,0,none⟩) 3 3,v] w fun e w'=>e=.returned (.bool true)∧But [] w w')
  (hQ:∀ (gs:Nat) (vt:Value) w1,opFaH W0 gp gr gi n m k t1 t2 t3 s1 x1 y1 p1 s2 x2 y2 p2 s3 x3 y3 p3 gs vt true true w1→Q .normal (putted base [(52,.slice (some ⟨gp,0,none⟩) n n),(53,.int .i64 (k:Int)),(54,.pointer (some ⟨gp,k*12,none⟩)),(55,.pointer (some ⟨gp,k*12,none⟩)),(56,.agg #[.bool s1,.int .u64 x1,.int .u64 y1,.pointer p1]),(57,.string t1),(58,.slice (some ⟨gp,0,none⟩) n n),(59,.int .i64 (k:Int)),(60,.pointer (some ⟨gp,k*12,none⟩)),(61,.pointer (some ⟨gp,k*12+4,none⟩)),(62,.agg #[.bool s2,.int .u64 x2,.int .u64 y2,.pointer p2]),(63,.string t2),(64,.slice (some ⟨gp,0,none⟩) n n),(65,.int .i64 (k:Int)),(66,.pointer (some ⟨gp,k*12,none⟩)),(67,.pointer (some ⟨gp,k*12+8,none⟩)),(68,.agg #[.bool s3,.int .u64 x3,.int .u64 y3,.pointer p3]),(69,.string t3),(70,.slice (some ⟨gs,0,none⟩) 3 3),(71,.slice (some ⟨gr,0,none⟩) n m),(72,.int .i64 (k:Int)),(73,.pointer (some ⟨gr,k,none⟩)),(74,.slice (some ⟨gi,0,none⟩) 3 3),(75,vt),(76,.bool true),(77,.bool false)]) w1) :
  (Code.region id opFas true).wp Tryz.prog Q base W0:=by
 have hT:∀ i,i<26→opFaW i=true→opFaT i<base.tmps.size:=fun i hi _=>by
  have h:opFaT i≤77:=by revert i;decide
  omega
 refine region_all (by kernel_rfl) (low_of (by kernel_rfl)) (bare_of (by kernel_rfl)) (fun (N:(Nat) × (Value)) d w=>opFaH W0 gp gr gi n m k t1 t2 t3 s1 x1 y1 p1 s2 x2 y2 p2 s3 x3 y3 p3 N.1 N.2 (d 18) (d 23) w) (fun N=>opFaV gp gr gi n m k t1 t2 t3 s1 x1 y1 p1 s2 x2 y2 p2 s3 x3 y3 p3 N.1 N.2) opFaT opFaW 26 (by kernel_rfl) opFaT_inj hT (0,.pointer none) { mem:=(But.refl _ _).drew,f18:=fun h=>by simp at h,f23:=fun h=>by simp at h } ?_ ?_
 ·intro N d i o a w K hi ho hdi hcl hH he hdep hK
  have hD:=dep_is opFa_dep ho (fun j=>d j=true∧(opFaW j=true→a.eval (.tmp (opFaT j))=opFaV gp gr gi n m k t1 t2 t3 s1 x1 y1 p1 s2 x2 y2 p2 s3 x3 y3 p3 N.1 N.2 j)) hdep
  have e6':=(he 6 (fun j hj _ _=>(by decide:∀ j,j<26→(6:Nat)≠opFaT j) j hj)).trans e6
  have e11':=(he 11 (fun j hj _ _=>(by decide:∀ j,j<26→(11:Nat)≠opFaT j) j hj)).trans e11
  have e9':=(he 9 (fun j hj _ _=>(by decide:∀ j,j<26→(9:Nat)≠opFaT j) j hj)).trans e9
  have:i=0∨i=1∨i=2∨i=3∨i=4∨i=5∨i=6∨i=7∨i=8∨i=9∨i=10∨i=11∨i=12∨i=13∨i=14∨i=15∨i=16∨i=17∨i=18∨i=19∨i=20∨i=21∨i=22∨i=23∨i=24∨i=25:=by omega
  rcases this with rfl | rfl | rfl | rfl | rfl | rfl | rfl | rfl | rfl | rfl | rfl | rfl | rfl | rfl | rfl | rfl | rfl | rfl | rfl | rfl | rfl | rfl | rfl | rfl | rfl | rfl
  ·obtain rfl:=Option.some.inj ((show opFas[0]? = some opFa0 from rfl).symm.trans ho)
   exact wp_value (run_mvK a w _ _ _ _ _ _ _ e6') (hK N _ _ (fun _=>rfl) (fun _ _ _ _=>rfl) hH)
  ·obtain rfl:=Option.some.inj ((show opFas[1]? = some opFa1 from rfl).symm.trans ho)
   exact wp_value (run_mvK a w _ _ _ _ _ _ _ e11') (hK N _ _ (fun _=>rfl) (fun _ _ _ _=>rfl) hH)
  ·obtain rfl:=Option.some.inj ((show opFas[2]? = some opFa2 from rfl).symm.trans ho)
   exact wp_value (run_Fl0 a w _ _ _ _ _ _ _ gp (0) (n) (n) (k) (k*12) (by omega) hk hn ((hD 0 (by simp)).2 rfl) ((hD 1 (by simp)).2 rfl)) (hK N _ _ (fun _=>rfl) (fun _ _ _ _=>rfl) hH)
  ·obtain rfl:=Option.some.inj ((show opFas[3]? = some opFa3 from rfl).symm.trans ho)
   exact wp_value (run_Fl1 a w _ _ _ _ _ _ gp (k*12) (k*12) rfl ((hD 2 (by simp)).2 rfl)) (hK N _ _ (fun _=>rfl) (fun _ _ _ _=>rfl) hH)
  ·obtain rfl:=Option.some.inj ((show opFas[4]? = some opFa4 from rfl).symm.trans ho)
   have hP:=hH
   have hW:=hP.mem
   exact wp_value (run_loadK a w _ _ _ _ _ _ gp (k*12) _ _ _ _ ((hD 3 (by simp)).2 rfl) (c1.but hW (by simp))) (hK N _ _ (fun _=>rfl) (fun _ _ _ _=>rfl) hH)
  ·obtain rfl:=Option.some.inj ((show opFas[5]? = some opFa5 from rfl).symm.trans ho)
   have hP:=hH
   have hW:=hP.mem
   exact wp_enter (run_Fl2 a w _ _ _ _ _ _ _ ((hD 4 (by simp)).2 rfl)) (R:=fun w' v=>v=opFaV gp gr gi n m k t1 t2 t3 s1 x1 y1 p1 s2 x2 y2 p2 s3 x3 y3 p3 N.1 N.2 5∧But [] w w') ((T1 w hW).mono fun e w' ⟨he,hb⟩=>⟨_,he,rfl,hb⟩) (fun v w' hv=>hK N _ _ (fun _=>hv.1) (fun _ _ _ _=>rfl) (hP.but hv.2))
  ·obtain rfl:=Option.some.inj ((show opFas[6]? = some opFa6 from rfl).symm.trans ho)
   exact wp_value (run_mvK a w _ _ _ _ _ _ _ e6') (hK N _ _ (fun _=>rfl) (fun _ _ _ _=>rfl) hH)
  ·obtain rfl:=Option.some.inj ((show opFas[7]? = some opFa7 from rfl).symm.trans ho)
   exact wp_value (run_mvK a w _ _ _ _ _ _ _ e11') (hK N _ _ (fun _=>rfl) (fun _ _ _ _=>rfl) hH)
  ·obtain rfl:=Option.some.inj ((show opFas[8]? = some opFa8 from rfl).symm.trans ho)
   exact wp_value (run_Fl0 a w _ _ _ _ _ _ _ gp (0) (n) (n) (k) (k*12) (by omega) hk hn ((hD 6 (by simp)).2 rfl) ((hD 7 (by simp)).2 rfl)) (hK N _ _ (fun _=>rfl) (fun _ _ _ _=>rfl) hH)
  ·obtain rfl:=Option.some.inj ((show opFas[9]? = some opFa9 from rfl).symm.trans ho)
   exact wp_value (run_Fl3 a w _ _ _ _ _ _ gp (k*12) (k*12+4) rfl ((hD 8 (by simp)).2 rfl)) (hK N _ _ (fun _=>rfl) (fun _ _ _ _=>rfl) hH)
  ·obtain rfl:=Option.some.inj ((show opFas[10]? = some opFa10 from rfl).symm.trans ho)
   have hP:=hH
   have hW:=hP.mem
   exact wp_value (run_loadK a w _ _ _ _ _ _ gp (k*12+4) _ _ _ _ ((hD 9 (by simp)).2 rfl) (c2.but hW (by simp))) (hK N _ _ (fun _=>rfl) (fun _ _ _ _=>rfl) hH)
  ·obtain rfl:=Option.some.inj ((show opFas[11]? = some opFa11 from rfl).symm.trans ho)
   have hP:=hH
   have hW:=hP.mem
   exact wp_enter (run_Fl2 a w _ _ _ _ _ _ _ ((hD 10 (by simp)).2 rfl)) (R:=fun w' v=>v=opFaV gp gr gi n m k t1 t2 t3 s1 x1 y1 p1 s2 x2 y2 p2 s3 x3 y3 p3 N.1 N.2 11∧But [] w w') ((T2 w hW).mono fun e w' ⟨he,hb⟩=>⟨_,he,rfl,hb⟩) (fun v w' hv=>hK N _ _ (fun _=>hv.1) (fun _ _ _ _=>rfl) (hP.but hv.2))
  ·obtain rfl:=Option.some.inj ((show opFas[12]? = some opFa12 from rfl).symm.trans ho)
   exact wp_value (run_mvK a w _ _ _ _ _ _ _ e6') (hK N _ _ (fun _=>rfl) (fun _ _ _ _=>rfl) hH)
  ·obtain rfl:=Option.some.inj ((show opFas[13]? = some opFa13 from rfl).symm.trans ho)
   exact wp_value (run_mvK a w _ _ _ _ _ _ _ e11') (hK N _ _ (fun _=>rfl) (fun _ _ _ _=>rfl) hH)
  ·obtain rfl:=Option.some.inj ((show opFas[14]? = some opFa14 from rfl).symm.trans ho)
   exact wp_value (run_Fl0 a w _ _ _ _ _ _ _ gp (0) (n) (n) (k) (k*12) (by omega) hk hn ((hD 12 (by simp)).2 rfl) ((hD 13 (by simp)).2 rfl)) (hK N _ _ (fun _=>rfl) (fun _ _ _ _=>rfl) hH)
  ·obtain rfl:=Option.some.inj ((show opFas[15]? = some opFa15 from rfl).symm.trans ho)
   exact wp_value (run_Fl4 a w _ _ _ _ _ _ gp (k*12) (k*12+8) rfl ((hD 14 (by simp)).2 rfl)) (hK N _ _ (fun _=>rfl) (fun _ _ _ _=>rfl) hH)
  ·obtain rfl:=Option.some.inj ((show opFas[16]? = some opFa16 from rfl).symm.trans ho)
   have hP:=hH
   have hW:=hP.mem
   exact wp_value (run_loadK a w _ _ _ _ _ _ gp (k*12+8) _ _ _ _ ((hD 15 (by simp)).2 rfl) (c3.but hW (by simp))) (hK N _ _ (fun _=>rfl) (fun _ _ _ _=>rfl) hH)
  ·obtain rfl:=Option.some.inj ((show opFas[17]? = some opFa17 from rfl).symm.trans ho)
   have hP:=hH
   have hW:=hP.mem
   exact wp_enter (run_Fl2 a w _ _ _ _ _ _ _ ((hD 16 (by simp)).2 rfl)) (R:=fun w' v=>v=opFaV gp gr gi n m k t1 t2 t3 s1 x1 y1 p1 s2 x2 y2 p2 s3 x3 y3 p3 N.1 N.2 17∧But [] w w') ((T3 w hW).mono fun e w' ⟨he,hb⟩=>⟨_,he,rfl,hb⟩) (fun v w' hv=>hK N _ _ (fun _=>hv.1) (fun _ _ _ _=>rfl) (hP.but hv.2))
  ·obtain rfl:=Option.some.inj ((show opFas[18]? = some opFa18 from rfl).symm.trans ho)
   have hP:=hH
   have hW:=hP.mem
   have bA:But [] w (w.alloc (.cells #[.string t1,.string t2,.string t3] 9)):=(But.refl _ _).alloc _
   have hsz:=hW.size
   exact wp_value (run_Fl5 a w _ _ _ _ _ _ _ _ _ _ _ ((hD 5 (by simp)).2 rfl) ((hD 11 (by simp)).2 rfl) ((hD 17 (by simp)).2 rfl)) (hK (w.heap.size,N.2) _ _ (fun _=>rfl) (fun j hj _ hdj=>by
    have:j=0∨j=1∨j=2∨j=3∨j=4∨j=5∨j=6∨j=7∨j=8∨j=9∨j=10∨j=11∨j=12∨j=13∨j=14∨j=15∨j=16∨j=17∨j=18∨j=19∨j=20∨j=21∨j=22∨j=23∨j=24∨j=25:=by omega
    rcases this with rfl | rfl | rfl | rfl | rfl | rfl | rfl | rfl | rfl | rfl | rfl | rfl | rfl | rfl | rfl | rfl | rfl | rfl | rfl | rfl | rfl | rfl | rfl | rfl | rfl | rfl
    ·rfl
    ·rfl
    ·rfl
    ·rfl
    ·rfl
    ·rfl
    ·rfl
    ·rfl
    ·rfl
    ·rfl
    ·rfl
    ·rfl
    ·rfl
    ·rfl
    ·rfl
    ·rfl
    ·rfl
    ·rfl
    ·exact absurd (hdi.symm.trans hdj) (by simp)
    ·rfl
    ·rfl
    ·rfl
    ·rfl
    ·rfl
    ·rfl
    ·rfl) ((hP.but bA).s18 w.heap.size (txts3_new w t1 t2 t3)))
  ·obtain rfl:=Option.some.inj ((show opFas[19]? = some opFa19 from rfl).symm.trans ho)
   exact wp_value (run_mvK a w _ _ _ _ _ _ _ e9') (hK N _ _ (fun _=>rfl) (fun _ _ _ _=>rfl) hH)
  ·obtain rfl:=Option.some.inj ((show opFas[20]? = some opFa20 from rfl).symm.trans ho)
   exact wp_value (run_mvK a w _ _ _ _ _ _ _ e11') (hK N _ _ (fun _=>rfl) (fun _ _ _ _=>rfl) hH)
  ·obtain rfl:=Option.some.inj ((show opFas[21]? = some opFa21 from rfl).symm.trans ho)
   exact wp_value (run_Fl6 a w _ _ _ _ _ _ _ gr (0) (n) (m) (k) (k) (by omega) hk hn ((hD 19 (by simp)).2 rfl) ((hD 20 (by simp)).2 rfl)) (hK N _ _ (fun _=>rfl) (fun _ _ _ _=>rfl) hH)
  ·obtain rfl:=Option.some.inj ((show opFas[22]? = some opFa22 from rfl).symm.trans ho)
   have hP:=hH
   have hW:=hP.mem
   exact wp_value (run_Fl7 a w _ _ _ _ _ _ gr (k) _ ((hD 21 (by simp)).2 rfl) (hW.cell_some cr (by simp))) (hK N _ _ (fun _=>rfl) (fun _ _ _ _=>rfl) hH)
  ·obtain rfl:=Option.some.inj ((show opFas[23]? = some opFa23 from rfl).symm.trans ho)
   have hP:=hH
   have hW:=hP.mem
   exact wp_enter (run_Fl8 a w _ _ _ _ _ _ _ ((hD 22 (by simp)).2 rfl)) (R:=fun w' u=>∃ v,u=v∧(TxtsAt w' v [t1,t2,t3])∧But [] w w') ((TX w hW).mono fun e w' ⟨v,he,hf,hb⟩=>⟨_,he,v,rfl,hf,hb⟩) (fun u w' ⟨v,hu,hf,hb⟩=>hK (N.1,v) _ _ (fun _=>hu) (fun j hj _ hdj=>by
    have:j=0∨j=1∨j=2∨j=3∨j=4∨j=5∨j=6∨j=7∨j=8∨j=9∨j=10∨j=11∨j=12∨j=13∨j=14∨j=15∨j=16∨j=17∨j=18∨j=19∨j=20∨j=21∨j=22∨j=23∨j=24∨j=25:=by omega
    rcases this with rfl | rfl | rfl | rfl | rfl | rfl | rfl | rfl | rfl | rfl | rfl | rfl | rfl | rfl | rfl | rfl | rfl | rfl | rfl | rfl | rfl | rfl | rfl | rfl | rfl | rfl
    ·rfl
    ·rfl
    ·rfl
    ·rfl
    ·rfl
    ·rfl
    ·rfl
    ·rfl
    ·rfl
    ·rfl
    ·rfl
    ·rfl
    ·rfl
    ·rfl
    ·rfl
    ·rfl
    ·rfl
    ·rfl
    ·rfl
    ·rfl
    ·rfl
    ·rfl
    ·rfl
    ·exact absurd (hdi.symm.trans hdj) (by simp)
    ·rfl
    ·rfl) ((hP.but hb).s23 v hf))
  ·obtain rfl:=Option.some.inj ((show opFas[24]? = some opFa24 from rfl).symm.trans ho)
   have hP:=hH
   have hW:=hP.mem
   have t18:d 18=true:=(hD 18 (by simp)).1
   have t23:d 23=true:=(hD 23 (by simp)).1
   exact wp_enter (run_Fl9 a w _ _ _ _ _ _ _ _ _ ((hD 18 (by simp)).2 rfl) ((hD 23 (by simp)).2 rfl)) (R:=fun w' v=>v=opFaV gp gr gi n m k t1 t2 t3 s1 x1 y1 p1 s2 x2 y2 p2 s3 x3 y3 p3 N.1 N.2 24∧But [] w w') ((SM w N.1 N.2 hW (hP.f18 t18) (hP.f23 t23)).mono fun e w' ⟨he,hb⟩=>⟨_,he,rfl,hb⟩) (fun v w' hv=>hK N _ _ (fun _=>hv.1) (fun _ _ _ _=>rfl) (hP.but hv.2))
  ·obtain rfl:=Option.some.inj ((show opFas[25]? = some opFa25 from rfl).symm.trans ho)
   exact wp_value (run_Fl10 a w _ _ _ _ _ _ _ ((hD 24 (by simp)).2 rfl)) (hK N _ _ (fun _=>rfl) (fun _ _ _ _=>rfl) hH)
 ·intro N d w hd hH
  have hP:opFaH W0 gp gr gi n m k t1 t2 t3 s1 x1 y1 p1 s2 x2 y2 p2 s3 x3 y3 p3 N.1 N.2 (d 18) (d 23) w:=hH
  rw [hd 18 (by omega),hd 23 (by omega)] at hP
  exact hQ N.1 N.2 w hP
end Go.Proofs.YtollloafckcogaaGreatDoor
