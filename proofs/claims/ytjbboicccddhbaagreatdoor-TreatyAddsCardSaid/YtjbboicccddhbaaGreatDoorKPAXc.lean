/- What plain.Treaty makes of lines: the st -/
import Derived.Test.YtjbboicccddhbaaGreatDoorKPAW
namespace Go.Proofs.YtjbboicccddhbaaGreatDoor
open Go.RowKit
set_option maxHeartbeats 8000000
set_option maxRecDepth 100000
theorem run_C0 (a:Act) (w:World) (d t:Nat) (u:TypeId) (ps:String) (ed:Array Edge) (gd:Option (Nat × Bool)) (b o o':Nat) (ho:o+0=o') (h1:a.eval (.tmp t)=.pointer (some ⟨b,o,none⟩)) :
  (execOp a.eval { dst:=some d,op:=Op.fieldAddr 65 (.tmp t) 0,type:=u,pos:=ps,after:=ed,guard:=gd }).run Tryz.prog w=.ok (.value (.pointer (some ⟨b,o',none⟩))) w:=by
 subst ho
 unfold execOp
 simp only [h1]
 go_simp
theorem run_C1 (a:Act) (w:World) (d t:Nat) (u:TypeId) (ps:String) (ed:Array Edge) (gd:Option (Nat × Bool)) (b o:Nat) (v:Value) (h1:a.eval (.tmp t)=.pointer (some ⟨b,o,none⟩)) (hc:w.cell? ⟨b,o,none⟩=some v) :
  (execOp a.eval { dst:=some d,op:=Op.load 3 (.tmp t),type:=u,pos:=ps,after:=ed,guard:=gd }).run Tryz.prog w=.ok (.value v) w:=by
 unfold execOp
 simp only [h1]
 go_simp
theorem run_C2 (a:Act) (w:World) (d t:Nat) (u:TypeId) (ps:String) (ed:Array Edge) (gd:Option (Nat × Bool)) (b o o':Nat) (ho:o+1=o') (h1:a.eval (.tmp t)=.pointer (some ⟨b,o,none⟩)) :
  (execOp a.eval { dst:=some d,op:=Op.fieldAddr 65 (.tmp t) 1,type:=u,pos:=ps,after:=ed,guard:=gd }).run Tryz.prog w=.ok (.value (.pointer (some ⟨b,o',none⟩))) w:=by
 subst ho
 unfold execOp
 simp only [h1]
 go_simp
theorem run_C3 (a:Act) (w:World) (d t:Nat) (u:TypeId) (ps:String) (ed:Array Edge) (gd:Option (Nat × Bool)) (b o:Nat) (v0 v1:Value) (h1:a.eval (.tmp t)=.pointer (some ⟨b,o,none⟩)) (c0:w.cell? ⟨b,o,none⟩=some v0) (c1:w.cell? ⟨b,o+1,none⟩=some v1) :
  (execOp a.eval { dst:=some d,op:=Op.load 23 (.tmp t),type:=u,pos:=ps,after:=ed,guard:=gd }).run Tryz.prog w=.ok (.value (.agg #[v0,v1])) w:=by
 unfold execOp
 simp only [h1]
 go_simp
theorem run_C4 (a:Act) (w:World) (d t0:Nat) (u:TypeId) (ps:String) (ed:Array Edge) (gd:Option (Nat × Bool)) (z0:Value) (h0:a.eval (.tmp t0)=z0) :
  (execOp a.eval { dst:=some d,op:=Op.call { callee:=Callee.value (Operand.func 9),args:=#[Operand.tmp t0],argTypes:=#[23] },type:=u,pos:=ps,after:=ed,guard:=gd }).run Tryz.prog w=.ok (.enter 9 #[z0]) w:=by
 unfold execOp
 go_simp
 rw [← h0]
 simp [Act.eval]
theorem run_C5 (a:Act) (w:World) (d t:Nat) (u:TypeId) (ps:String) (ed:Array Edge) (gd:Option (Nat × Bool)) (b o o':Nat) (ho:o+3=o') (h1:a.eval (.tmp t)=.pointer (some ⟨b,o,none⟩)) :
  (execOp a.eval { dst:=some d,op:=Op.fieldAddr 65 (.tmp t) 2,type:=u,pos:=ps,after:=ed,guard:=gd }).run Tryz.prog w=.ok (.value (.pointer (some ⟨b,o',none⟩))) w:=by
 subst ho
 unfold execOp
 simp only [h1]
 go_simp
theorem run_C6 (a:Act) (w:World) (d t:Nat) (u:TypeId) (ps:String) (ed:Array Edge) (gd:Option (Nat × Bool)) (b o o':Nat) (ho:o+4=o') (h1:a.eval (.tmp t)=.pointer (some ⟨b,o,none⟩)) :
  (execOp a.eval { dst:=some d,op:=Op.fieldAddr 65 (.tmp t) 3,type:=u,pos:=ps,after:=ed,guard:=gd }).run Tryz.prog w=.ok (.value (.pointer (some ⟨b,o',none⟩))) w:=by
 subst ho
 unfold execOp
 simp only [h1]
 go_simp
theorem run_C7 (a:Act) (w:World) (d t:Nat) (u:TypeId) (ps:String) (ed:Array Edge) (gd:Option (Nat × Bool)) (b o o':Nat) (ho:o+5=o') (h1:a.eval (.tmp t)=.pointer (some ⟨b,o,none⟩)) :
  (execOp a.eval { dst:=some d,op:=Op.fieldAddr 65 (.tmp t) 4,type:=u,pos:=ps,after:=ed,guard:=gd }).run Tryz.prog w=.ok (.value (.pointer (some ⟨b,o',none⟩))) w:=by
 subst ho
 unfold execOp
 simp only [h1]
 go_simp
theorem run_C8 (a:Act) (w:World) (d t:Nat) (u:TypeId) (ps:String) (ed:Array Edge) (gd:Option (Nat × Bool)) (b o o':Nat) (ho:o+6=o') (h1:a.eval (.tmp t)=.pointer (some ⟨b,o,none⟩)) :
  (execOp a.eval { dst:=some d,op:=Op.fieldAddr 65 (.tmp t) 5,type:=u,pos:=ps,after:=ed,guard:=gd }).run Tryz.prog w=.ok (.value (.pointer (some ⟨b,o',none⟩))) w:=by
 subst ho
 unfold execOp
 simp only [h1]
 go_simp
theorem run_C9 (a:Act) (w:World) (d t:Nat) (u:TypeId) (ps:String) (ed:Array Edge) (gd:Option (Nat × Bool)) (b o o':Nat) (ho:o+7=o') (h1:a.eval (.tmp t)=.pointer (some ⟨b,o,none⟩)) :
  (execOp a.eval { dst:=some d,op:=Op.fieldAddr 65 (.tmp t) 6,type:=u,pos:=ps,after:=ed,guard:=gd }).run Tryz.prog w=.ok (.value (.pointer (some ⟨b,o',none⟩))) w:=by
 subst ho
 unfold execOp
 simp only [h1]
 go_simp
theorem run_C10 (a:Act) (w:World) (d t:Nat) (u:TypeId) (ps:String) (ed:Array Edge) (gd:Option (Nat × Bool)) (b o:Nat) (v:Value) (h1:a.eval (.tmp t)=.pointer (some ⟨b,o,none⟩)) (hc:w.cell? ⟨b,o,none⟩=some v) :
  (execOp a.eval { dst:=some d,op:=Op.load 9 (.tmp t),type:=u,pos:=ps,after:=ed,guard:=gd }).run Tryz.prog w=.ok (.value v) w:=by
 unfold execOp
 simp only [h1]
 go_simp
theorem run_C11 (a:Act) (w:World) (d t0 t1 t2 t3 t4 t5 t6:Nat) (u:TypeId) (ps:String) (ed:Array Edge) (gd:Option (Nat × Bool)) (z0:Int) (s1:Bool) (x1 y1:Int) (p1:Option Addr) (z2:Int) (z3:Int) (z4:Int) (z5:Int) (z6:ByteArray) (h0:a.eval (.tmp t0)=.int .i64 z0) (h1:a.eval (.tmp t1)=.agg #[.bool s1,.int .u64 x1,.int .u64 y1,.pointer p1]) (h2:a.eval (.tmp t2)=.int .i64 z2) (h3:a.eval (.tmp t3)=.int .i64 z3) (h4:a.eval (.tmp t4)=.int .i64 z4) (h5:a.eval (.tmp t5)=.int .i64 z5) (h6:a.eval (.tmp t6)=.string z6) :
  (execOp a.eval { dst:=some d,op:=Op.build 71 #[(0,Operand.tmp t0),(1,Operand.tmp t1),(2,Operand.tmp t2),(3,Operand.tmp t3),(4,Operand.tmp t4),(5,Operand.tmp t5),(6,Operand.tmp t6)],type:=u,pos:=ps,after:=ed,guard:=gd }).run Tryz.prog w=.ok (.value (.agg #[.int .i64 z0,.bool s1,.int .u64 x1,.int .u64 y1,.pointer p1,.int .i64 z2,.int .i64 z3,.int .i64 z4,.int .i64 z5,.string z6])) w:=by
 unfold execOp
 simp only [List.map_toArray,List.map_cons,List.map_nil,h0,h1,h2,h3,h4,h5,h6]
 go_simp
theorem run_C12 (a:Act) (w:World) (d t:Nat) (u:TypeId) (ps:String) (ed:Array Edge) (gd:Option (Nat × Bool)) (z0:Int) (s1:Bool) (x1 y1:Int) (p1:Option Addr) (z2:Int) (z3:Int) (z4:Int) (z5:Int) (z6:ByteArray) (h1:a.eval (.tmp t)=.agg #[.int .i64 z0,.bool s1,.int .u64 x1,.int .u64 y1,.pointer p1,.int .i64 z2,.int .i64 z3,.int .i64 z4,.int .i64 z5,.string z6]) :
  (execOp a.eval { dst:=some d,op:=Op.buildSlice 58 1 #[(0,Operand.tmp t)],type:=u,pos:=ps,after:=ed,guard:=gd }).run Tryz.prog w=.ok (.value (.slice (some ⟨w.heap.size,0,none⟩) 1 1)) (w.alloc (.cells #[.int .i64 z0,.bool s1,.int .u64 x1,.int .u64 y1,.pointer p1,.int .i64 z2,.int .i64 z3,.int .i64 z4,.int .i64 z5,.string z6] 71)):=by
 unfold execOp
 simp only [List.map_toArray,List.map_cons,List.map_nil,h1]
 go_simp
theorem run_C13 (a:Act) (w:World) (d t1 t2:Nat) (ps:String) (ed:Array Edge) (gd:Option (Nat × Bool)) (v0 v1 v':Value) (w':World) (h1:a.eval (.tmp t1)=v0) (h2:a.eval (.tmp t2)=v1) (hr:(Builtin.append_ #[58,58] 58 #[v0,v1]).run Tryz.prog w=.ok v' w') :
  (execOp a.eval { dst:=some d,op:=Op.call { callee:=Callee.builtin Builtin.append,args:=#[Operand.tmp t1,Operand.tmp t2],argTypes:=#[58,58] },type := 58,pos:=ps,after:=ed,guard:=gd }).run Tryz.prog w=.ok (.value v') w':=by
 unfold execOp
 simp only [resolve,invoke,builtin,Sem.run_bind,Sem.run_pure,Result.andThen_ok,List.map_toArray,List.map_cons,List.map_nil,h1,h2,hr]
def opCa0:Oper:={ dst:=some 12,op:=Op.move (Operand.tmp 3),type := 58,pos := "plain.go:166",after:=#[],guard:=none }
def opCa1:Oper:={ dst:=some 13,op:=Op.fieldAddr 65 (Operand.tmp 5) 0,type:=0,pos := "plain.go:166",after:=#[],guard:=none }
def opCa2:Oper:={ dst:=some 14,op:=Op.load 3 (Operand.tmp 13),type := 3,pos := "plain.go:166",after:=#[⟨1,.data⟩],guard:=none }
def opCa3:Oper:={ dst:=some 15,op:=Op.fieldAddr 65 (Operand.tmp 5) 1,type:=0,pos := "plain.go:166",after:=#[],guard:=none }
def opCa4:Oper:={ dst:=some 16,op:=Op.load 23 (Operand.tmp 15),type := 23,pos := "plain.go:166",after:=#[⟨3,.data⟩],guard:=none }
def opCa5:Oper:={ dst:=some 17,op:=Op.call { callee:=Callee.value (Operand.func 9),args:=#[Operand.tmp 16],argTypes:=#[23] },type := 27,pos := "plain.go:166",after:=#[⟨4,.data⟩],guard:=none }
def opCa6:Oper:={ dst:=some 18,op:=Op.fieldAddr 65 (Operand.tmp 5) 2,type:=0,pos := "plain.go:166",after:=#[],guard:=none }
def opCa7:Oper:={ dst:=some 19,op:=Op.load 3 (Operand.tmp 18),type := 3,pos := "plain.go:166",after:=#[⟨6,.data⟩],guard:=none }
def opCa8:Oper:={ dst:=some 20,op:=Op.fieldAddr 65 (Operand.tmp 5) 3,type:=0,pos := "plain.go:166",after:=#[],guard:=none }
def opCa9:Oper:={ dst:=some 21,op:=Op.load 3 (Operand.tmp 20),type := 3,pos := "plain.go:166",after:=#[⟨8,.data⟩],guard:=none }
def opCa10:Oper:={ dst:=some 22,op:=Op.fieldAddr 65 (Operand.tmp 5) 4,type:=0,pos := "plain.go:166",after:=#[],guard:=none }
def opCa11:Oper:={ dst:=some 23,op:=Op.load 3 (Operand.tmp 22),type := 3,pos := "plain.go:166",after:=#[⟨10,.data⟩],guard:=none }
def opCa12:Oper:={ dst:=some 24,op:=Op.fieldAddr 65 (Operand.tmp 5) 5,type:=0,pos := "plain.go:166",after:=#[],guard:=none }
def opCa13:Oper:={ dst:=some 25,op:=Op.load 3 (Operand.tmp 24),type := 3,pos := "plain.go:166",after:=#[⟨12,.data⟩],guard:=none }
def opCa14:Oper:={ dst:=some 26,op:=Op.fieldAddr 65 (Operand.tmp 5) 6,type:=0,pos := "plain.go:166",after:=#[],guard:=none }
def opCa15:Oper:={ dst:=some 27,op:=Op.load 9 (Operand.tmp 26),type := 9,pos := "plain.go:166",after:=#[⟨14,.data⟩],guard:=none }
def opCa16:Oper:={ dst:=some 28,op:=Op.build 71 #[(0,Operand.tmp 14),(1,Operand.tmp 17),(2,Operand.tmp 19),(3,Operand.tmp 21),(4,Operand.tmp 23),(5,Operand.tmp 25),(6,Operand.tmp 27)],type := 71,pos := "plain.go:166",after:=#[⟨2,.data⟩,⟨5,.data⟩,⟨7,.data⟩,⟨9,.data⟩,⟨11,.data⟩,⟨13,.data⟩,⟨15,.data⟩],guard:=none }
def opCa17:Oper:={ dst:=some 29,op:=Op.buildSlice 58 1 #[(0,Operand.tmp 28)],type := 58,pos := "plain.go:166",after:=#[⟨16,.data⟩],guard:=none }
def opCa18:Oper:={ dst:=some 30,op:=Op.call { callee:=Callee.builtin Builtin.append,args:=#[Operand.tmp 12,Operand.tmp 29],argTypes:=#[58,58] },type := 58,pos := "plain.go:166",after:=#[⟨0,.data⟩,⟨17,.data⟩,⟨5,.chain⟩],guard:=none }
def opCa19:Oper:={ dst:=some 3,op:=Op.assign (Operand.tmp 30),type := 58,pos := "plain.go:166",after:=#[⟨18,.data⟩,⟨18,.chain⟩,⟨0,.phase⟩,⟨1,.phase⟩,⟨2,.phase⟩,⟨3,.phase⟩,⟨4,.phase⟩,⟨5,.phase⟩,⟨6,.phase⟩,⟨7,.phase⟩,⟨8,.phase⟩,⟨9,.phase⟩,⟨10,.phase⟩,⟨11,.phase⟩,⟨12,.phase⟩,⟨13,.phase⟩,⟨14,.phase⟩,⟨15,.phase⟩,⟨16,.phase⟩,⟨17,.phase⟩,⟨18,.phase⟩],guard:=none }
def opCas:Array Oper:=#[opCa0,opCa1,opCa2,opCa3,opCa4,opCa5,opCa6,opCa7,opCa8,opCa9,opCa10,opCa11,opCa12,opCa13,opCa14,opCa15,opCa16,opCa17,opCa18,opCa19]
structure opCaH (W0:World) (vo:Value) (g5:Nat) (kd:Int) (qu:Int) (qv:Int) (s1:Bool) (x1:Int) (y1:Int) (fq:Int) (li:Int) (ti:Int) (pq:Int) (tof:ByteArray) (g:Nat) (va:Value) (b17:Bool) (w:World):Prop where
 mem:But [] W0 w
 f17:b17=true→NewB W0.heap.size w g [.int .i64 kd,.bool s1,.int .u64 x1,.int .u64 y1,.pointer none,.int .i64 fq,.int .i64 li,.int .i64 ti,.int .i64 pq,.string tof]
theorem opCaH.but {W0:World} {vo:Value} {g5:Nat} {kd:Int} {qu:Int} {qv:Int} {s1:Bool} {x1:Int} {y1:Int} {fq:Int} {li:Int} {ti:Int} {pq:Int} {tof:ByteArray} {g:Nat} {va:Value} {b17:Bool} {w w':World} (h:opCaH W0 vo g5 kd qu qv s1 x1 y1 fq li ti pq tof g va b17 w) (hb:But [] w w'):opCaH W0 vo g5 kd qu qv s1 x1 y1 fq li ti pq tof g va b17 w' :=
 { mem:=h.mem.trans' hb,f17:=fun e=>(h.f17 e).but hb }
theorem opCaH.s17 {W0:World} {vo:Value} {g5:Nat} {kd:Int} {qu:Int} {qv:Int} {s1:Bool} {x1:Int} {y1:Int} {fq:Int} {li:Int} {ti:Int} {pq:Int} {tof:ByteArray} {g:Nat} {va:Value} {b17:Bool} {w:World} (h:opCaH W0 vo g5 kd qu qv s1 x1 y1 fq li ti pq tof g va b17 w) (g':Nat) (hf:NewB W0.heap.size w g' [.int .i64 kd,.bool s1,.int .u64 x1,.int .u64 y1,.pointer none,.int .i64 fq,.int .i64 li,.int .i64 ti,.int .i64 pq,.string tof]):opCaH W0 vo g5 kd qu qv s1 x1 y1 fq li ti pq tof g' va true w :=
 { mem:=h.mem,f17:=fun _=>hf }
def opCaT (i:Nat):Nat:=match i with
 | 0=>12
 | 1=>13
 | 2=>14
 | 3=>15
 | 4=>16
 | 5=>17
 | 6=>18
 | 7=>19
 | 8=>20
 | 9=>21
 | 10=>22
 | 11=>23
 | 12=>24
 | 13=>25
 | 14=>26
 | 15=>27
 | 16=>28
 | 17=>29
 | 18=>30
 | _=>3
def opCaW (i:Nat):Bool:=match i with
 | _=>true
def opCaV (vo:Value) (g5:Nat) (kd:Int) (qu:Int) (qv:Int) (s1:Bool) (x1:Int) (y1:Int) (fq:Int) (li:Int) (ti:Int) (pq:Int) (tof:ByteArray) (g:Nat) (va:Value) (i:Nat):Value:=match i with
 | 0=>vo
 | 1=>.pointer (some ⟨g5,0,none⟩)
 | 2=>.int .i64 kd
 | 3=>.pointer (some ⟨g5,1,none⟩)
 | 4=>.agg #[.int .i64 qu,.int .i64 qv]
 | 5=>.agg #[.bool s1,.int .u64 x1,.int .u64 y1,.pointer none]
 | 6=>.pointer (some ⟨g5,3,none⟩)
 | 7=>.int .i64 fq
 | 8=>.pointer (some ⟨g5,4,none⟩)
 | 9=>.int .i64 li
 | 10=>.pointer (some ⟨g5,5,none⟩)
 | 11=>.int .i64 ti
 | 12=>.pointer (some ⟨g5,6,none⟩)
 | 13=>.int .i64 pq
 | 14=>.pointer (some ⟨g5,7,none⟩)
 | 15=>.string tof
 | 16=>.agg #[.int .i64 kd,.bool s1,.int .u64 x1,.int .u64 y1,.pointer none,.int .i64 fq,.int .i64 li,.int .i64 ti,.int .i64 pq,.string tof]
 | 17=>.slice (some ⟨g,0,none⟩) 1 1
 | 18=>va
 | _=>va
theorem opCa_dep:depOps opCas [(2,1),(4,3),(5,4),(7,6),(9,8),(11,10),(13,12),(15,14),(16,2),(16,5),(16,7),(16,9),(16,11),(16,13),(16,15),(17,16),(18,0),(18,5),(18,17),(19,0),(19,1),(19,2),(19,3),(19,4),(19,5),(19,6),(19,7),(19,8),(19,9),(19,10),(19,11),(19,12),(19,13),(19,14),(19,15),(19,16),(19,17),(19,18)]=true:=by kernel_rfl
theorem opCaT_inj:∀ i j,i<20→j<20→opCaW i=true→opCaW j=true→opCaT i=opCaT j→i=j:=fun i j hi hj=>(by decide:∀ i,i<20→∀ j,j<20→opCaW i=true→opCaW j=true→opCaT i=opCaT j→i=j) i hi j hj
theorem treaty_region5 (id:Nat) (Q:Exit→Act→World→Prop) (base:Act) (W0:World) (vo:Value) (g5:Nat) (kd:Int) (qu:Int) (qv:Int) (s1:Bool) (x1:Int) (y1:Int) (fq:Int) (li:Int) (ti:Int) (pq:Int) (tof:ByteArray) (Post:Value→World→Prop) (hs:30<base.tmps.size) (e3:base.eval (.tmp 3)=vo) (e5:base.eval (.tmp 5)=.pointer (some ⟨g5,0,none⟩))
  (c0:W0.cell? ⟨g5,0,none⟩=some (.int .i64 kd)) (c3:W0.cell? ⟨g5,3,none⟩=some (.int .i64 fq)) (c4:W0.cell? ⟨g5,4,none⟩=some (.int .i64 li)) (c5:W0.cell? ⟨g5,5,none⟩=some (.int .i64 ti)) (c6:W0.cell? ⟨g5,6,none⟩=some (.int .i64 pq)) (c7:W0.cell? ⟨g5,7,none⟩=some (.string tof)) (c1:W0.cell? ⟨g5,1,none⟩=some (.int .i64 qu)) (c2:W0.cell? ⟨g5,2,none⟩=some (.int .i64 qv))
  (PF:∀ w,Calls Tryz.prog 9 #[.agg #[.int .i64 qu,.int .i64 qv]] w fun e w'=>e=.returned (.agg #[.bool s1,.int .u64 x1,.int .u64 y1,.pointer none])∧But [] w w')
  (AP:∀ w g,But [] W0 w→NewB W0.heap.size w g [.int .i64 kd,.bool s1,.int .u64 x1,.int .u64 y1,.pointer none,.int .i64 fq,.int .i64 li,.int .i64 ti,.int .i64 pq,.string tof]→∃ v' w',(Builtin.append_ #[58,58] 58 #[vo,.slice (some ⟨g,0,none⟩) 1 1]).run Tryz.prog w=.ok v' w'∧Post v' w')
  (hQ:∀ (g:Nat) (va:Value) w1,Post va w1→Q .normal (putted base [(12,vo),(13,.pointer (some ⟨g5,0,none⟩)),(14,.int .i64 kd),(15,.pointer (some ⟨g5,1,none⟩)),(16,.agg #[.int .i64 qu,.int .i64 qv]),(17,.agg #[.bool s1,.int .u64 x1,.int .u64 y1,.pointer none]),(18,.pointer (some ⟨g5,3,none⟩)),(19,.int .i64 fq),(20,.pointer (some ⟨g5,4,none⟩)),(21,.int .i64 li),(22,.pointer (some ⟨g5,5,none⟩)),(23,.int .i64 ti),(24,.pointer (some ⟨g5,6,none⟩)),(25,.int .i64 pq),(26,.pointer (some ⟨g5,7,none⟩)),(27,.string tof),(28,.agg #[.int .i64 kd,.bool s1,.int .u64 x1,.int .u64 y1,.pointer none,.int .i64 fq,.int .i64 li,.int .i64 ti,.int .i64 pq,.string tof]),(29,.slice (some ⟨g,0,none⟩) 1 1),(30,va),(3,va)]) w1) :
  (Code.region id opCas true).wp Tryz.prog Q base W0:=by
 have hT:∀ i,i<20→opCaW i=true→opCaT i<base.tmps.size:=fun i hi _=>by
  have h:opCaT i≤30:=by revert i;decide
  omega
 refine region_all (by kernel_rfl) (low_of (by kernel_rfl)) (bare_of (by kernel_rfl)) (fun (N:(Nat) × (Value)) d w=>∃ w1,opCaH W0 vo g5 kd qu qv s1 x1 y1 fq li ti pq tof N.1 N.2 (d 17) w1∧(d 18=false→w=w1)∧(d 18=true→Post N.2 w)) (fun N=>opCaV vo g5 kd qu qv s1 x1 y1 fq li ti pq tof N.1 N.2) opCaT opCaW 20 (by kernel_rfl) opCaT_inj hT (0,undef) ⟨_,{ mem:=(But.refl _ _).drew,f17:=fun h=>by simp at h },fun _=>rfl,fun h=>by simp at h⟩ ?_ ?_
 ·intro N d i o a w K hi ho hdi hcl hH he hdep hK
  have hD:=dep_is opCa_dep ho (fun j=>d j=true∧(opCaW j=true→a.eval (.tmp (opCaT j))=opCaV vo g5 kd qu qv s1 x1 y1 fq li ti pq tof N.1 N.2 j)) hdep
  have e5':=(he 5 (fun j hj _ _=>(by decide:∀ j,j<20→(5:Nat)≠opCaT j) j hj)).trans e5
  have:i=0∨i=1∨i=2∨i=3∨i=4∨i=5∨i=6∨i=7∨i=8∨i=9∨i=10∨i=11∨i=12∨i=13∨i=14∨i=15∨i=16∨i=17∨i=18∨i=19:=by omega
  rcases this with rfl | rfl | rfl | rfl | rfl | rfl | rfl | rfl | rfl | rfl | rfl | rfl | rfl | rfl | rfl | rfl | rfl | rfl | rfl | rfl
  ·obtain rfl:=Option.some.inj ((show opCas[0]? = some opCa0 from rfl).symm.trans ho)
   have e3':=(he 3 (fun j hj _ hdj e=>by
    by_cases hj2:j=19
    ·subst hj2;exact absurd ((hcl.not opCa_dep (i:=19) (j:=0) (by simp) hdi).symm.trans hdj) (by simp)
    ·exact absurd e ((by decide:∀ j,j<20→j≠19→(3:Nat)≠opCaT j) j hj hj2))).trans e3
   exact wp_value (run_mvK a w _ _ _ _ _ _ _ e3') (hK N _ _ (fun _=>rfl) (fun _ _ _ _=>rfl) hH)
  ·obtain rfl:=Option.some.inj ((show opCas[1]? = some opCa1 from rfl).symm.trans ho)
   exact wp_value (run_C0 a w _ _ _ _ _ _ g5 (0) (0) rfl e5') (hK N _ _ (fun _=>rfl) (fun _ _ _ _=>rfl) hH)
  ·obtain rfl:=Option.some.inj ((show opCas[2]? = some opCa2 from rfl).symm.trans ho)
   have hs0:d 18=false:=(hcl.not opCa_dep (i:=18) (j:=17) (by simp) (hcl.not opCa_dep (i:=17) (j:=16) (by simp) (hcl.not opCa_dep (i:=16) (j:=2) (by simp) hdi)))
   obtain ⟨w1,hP,h1,h2⟩:=hH
   obtain rfl:=h1 hs0
   have hW:=hP.mem
   exact wp_value (run_C1 a w _ _ _ _ _ _ g5 (0) _ ((hD 1 (by simp)).2 rfl) (hW.cell_some c0 (by simp))) (hK N _ _ (fun _=>rfl) (fun _ _ _ _=>rfl) ⟨_,hP,h1,h2⟩)
  ·obtain rfl:=Option.some.inj ((show opCas[3]? = some opCa3 from rfl).symm.trans ho)
   exact wp_value (run_C2 a w _ _ _ _ _ _ g5 (0) (1) rfl e5') (hK N _ _ (fun _=>rfl) (fun _ _ _ _=>rfl) hH)
  ·obtain rfl:=Option.some.inj ((show opCas[4]? = some opCa4 from rfl).symm.trans ho)
   have hs0:d 18=false:=(hcl.not opCa_dep (i:=18) (j:=5) (by simp) (hcl.not opCa_dep (i:=5) (j:=4) (by simp) hdi))
   obtain ⟨w1,hP,h1,h2⟩:=hH
   obtain rfl:=h1 hs0
   have hW:=hP.mem
   exact wp_value (run_C3 a w _ _ _ _ _ _ g5 (1) _ _ ((hD 3 (by simp)).2 rfl) (hW.cell_some c1 (by simp)) (hW.cell_some c2 (by simp))) (hK N _ _ (fun _=>rfl) (fun _ _ _ _=>rfl) ⟨_,hP,h1,h2⟩)
  ·obtain rfl:=Option.some.inj ((show opCas[5]? = some opCa5 from rfl).symm.trans ho)
   have hs0:d 18=false:=(hcl.not opCa_dep (i:=18) (j:=5) (by simp) hdi)
   obtain ⟨w1,hP,h1,h2⟩:=hH
   obtain rfl:=h1 hs0
   have hW:=hP.mem
   exact wp_enter (run_C4 a w _ _ _ _ _ _ _ ((hD 4 (by simp)).2 rfl)) (R:=fun w' v=>v=opCaV vo g5 kd qu qv s1 x1 y1 fq li ti pq tof N.1 N.2 5∧But [] w w') ((PF w).mono fun e w' ⟨he,hb⟩=>⟨_,he,rfl,hb⟩) (fun v w' hv=>hK N _ _ (fun _=>hv.1) (fun _ _ _ _=>rfl) ⟨_,(hP.but hv.2),fun _=>rfl,fun h=>absurd (hs0.symm.trans h) (by simp)⟩)
  ·obtain rfl:=Option.some.inj ((show opCas[6]? = some opCa6 from rfl).symm.trans ho)
   exact wp_value (run_C5 a w _ _ _ _ _ _ g5 (0) (3) rfl e5') (hK N _ _ (fun _=>rfl) (fun _ _ _ _=>rfl) hH)
  ·obtain rfl:=Option.some.inj ((show opCas[7]? = some opCa7 from rfl).symm.trans ho)
   have hs0:d 18=false:=(hcl.not opCa_dep (i:=18) (j:=17) (by simp) (hcl.not opCa_dep (i:=17) (j:=16) (by simp) (hcl.not opCa_dep (i:=16) (j:=7) (by simp) hdi)))
   obtain ⟨w1,hP,h1,h2⟩:=hH
   obtain rfl:=h1 hs0
   have hW:=hP.mem
   exact wp_value (run_C1 a w _ _ _ _ _ _ g5 (3) _ ((hD 6 (by simp)).2 rfl) (hW.cell_some c3 (by simp))) (hK N _ _ (fun _=>rfl) (fun _ _ _ _=>rfl) ⟨_,hP,h1,h2⟩)
  ·obtain rfl:=Option.some.inj ((show opCas[8]? = some opCa8 from rfl).symm.trans ho)
   exact wp_value (run_C6 a w _ _ _ _ _ _ g5 (0) (4) rfl e5') (hK N _ _ (fun _=>rfl) (fun _ _ _ _=>rfl) hH)
  ·obtain rfl:=Option.some.inj ((show opCas[9]? = some opCa9 from rfl).symm.trans ho)
   have hs0:d 18=false:=(hcl.not opCa_dep (i:=18) (j:=17) (by simp) (hcl.not opCa_dep (i:=17) (j:=16) (by simp) (hcl.not opCa_dep (i:=16) (j:=9) (by simp) hdi)))
   obtain ⟨w1,hP,h1,h2⟩:=hH
   obtain rfl:=h1 hs0
   have hW:=hP.mem
   exact wp_value (run_C1 a w _ _ _ _ _ _ g5 (4) _ ((hD 8 (by simp)).2 rfl) (hW.cell_some c4 (by simp))) (hK N _ _ (fun _=>rfl) (fun _ _ _ _=>rfl) ⟨_,hP,h1,h2⟩)
  ·obtain rfl:=Option.some.inj ((show opCas[10]? = some opCa10 from rfl).symm.trans ho)
   exact wp_value (run_C7 a w _ _ _ _ _ _ g5 (0) (5) rfl e5') (hK N _ _ (fun _=>rfl) (fun _ _ _ _=>rfl) hH)
  ·obtain rfl:=Option.some.inj ((show opCas[11]? = some opCa11 from rfl).symm.trans ho)
   have hs0:d 18=false:=(hcl.not opCa_dep (i:=18) (j:=17) (by simp) (hcl.not opCa_dep (i:=17) (j:=16) (by simp) (hcl.not opCa_dep (i:=16) (j:=11) (by simp) hdi)))
   obtain ⟨w1,hP,h1,h2⟩:=hH
   obtain rfl:=h1 hs0
   have hW:=hP.mem
   exact wp_value (run_C1 a w _ _ _ _ _ _ g5 (5) _ ((hD 10 (by simp)).2 rfl) (hW.cell_some c5 (by simp))) (hK N _ _ (fun _=>rfl) (fun _ _ _ _=>rfl) ⟨_,hP,h1,h2⟩)
  ·obtain rfl:=Option.some.inj ((show opCas[12]? = some opCa12 from rfl).symm.trans ho)
   exact wp_value (run_C8 a w _ _ _ _ _ _ g5 (0) (6) rfl e5') (hK N _ _ (fun _=>rfl) (fun _ _ _ _=>rfl) hH)
  ·obtain rfl:=Option.some.inj ((show opCas[13]? = some opCa13 from rfl).symm.trans ho)
   have hs0:d 18=false:=(hcl.not opCa_dep (i:=18) (j:=17) (by simp) (hcl.not opCa_dep (i:=17) (j:=16) (by simp) (hcl.not opCa_dep (i:=16) (j:=13) (by simp) hdi)))
   obtain ⟨w1,hP,h1,h2⟩:=hH
   obtain rfl:=h1 hs0
   have hW:=hP.mem
   exact wp_value (run_C1 a w _ _ _ _ _ _ g5 (6) _ ((hD 12 (by simp)).2 rfl) (hW.cell_some c6 (by simp))) (hK N _ _ (fun _=>rfl) (fun _ _ _ _=>rfl) ⟨_,hP,h1,h2⟩)
  ·obtain rfl:=Option.some.inj ((show opCas[14]? = some opCa14 from rfl).symm.trans ho)
   exact wp_value (run_C9 a w _ _ _ _ _ _ g5 (0) (7) rfl e5') (hK N _ _ (fun _=>rfl) (fun _ _ _ _=>rfl) hH)
  ·obtain rfl:=Option.some.inj ((show opCas[15]? = some opCa15 from rfl).symm.trans ho)
   have hs0:d 18=false:=(hcl.not opCa_dep (i:=18) (j:=17) (by simp) (hcl.not opCa_dep (i:=17) (j:=16) (by simp) (hcl.not opCa_dep (i:=16) (j:=15) (by simp) hdi)))
   obtain ⟨w1,hP,h1,h2⟩:=hH
   obtain rfl:=h1 hs0
   have hW:=hP.mem
   exact wp_value (run_C10 a w _ _ _ _ _ _ g5 (7) _ ((hD 14 (by simp)).2 rfl) (hW.cell_some c7 (by simp))) (hK N _ _ (fun _=>rfl) (fun _ _ _ _=>rfl) ⟨_,hP,h1,h2⟩)
  ·obtain rfl:=Option.some.inj ((show opCas[16]? = some opCa16 from rfl).symm.trans ho)
   exact wp_value (run_C11 a w _ _ _ _ _ _ _ _ _ _ _ _ _ _ _ _ _ _ _ _ _ _ ((hD 2 (by simp)).2 rfl) ((hD 5 (by simp)).2 rfl) ((hD 7 (by simp)).2 rfl) ((hD 9 (by simp)).2 rfl) ((hD 11 (by simp)).2 rfl) ((hD 13 (by simp)).2 rfl) ((hD 15 (by simp)).2 rfl)) (hK N _ _ (fun _=>rfl) (fun _ _ _ _=>rfl) hH)
  ·obtain rfl:=Option.some.inj ((show opCas[17]? = some opCa17 from rfl).symm.trans ho)
   have hs0:d 18=false:=(hcl.not opCa_dep (i:=18) (j:=17) (by simp) hdi)
   obtain ⟨w1,hP,h1,h2⟩:=hH
   obtain rfl:=h1 hs0
   have hW:=hP.mem
   have bA:But [] w (w.alloc (.cells #[.int .i64 kd,.bool s1,.int .u64 x1,.int .u64 y1,.pointer none,.int .i64 fq,.int .i64 li,.int .i64 ti,.int .i64 pq,.string tof] 71)):=(But.refl _ _).alloc _
   have hsz:=hW.size
   exact wp_value (run_C12 a w _ _ _ _ _ _ _ _ _ _ _ _ _ _ _ _ ((hD 16 (by simp)).2 rfl)) (hK (w.heap.size,N.2) _ _ (fun _=>rfl) (fun j hj _ hdj=>by
    have:j=0∨j=1∨j=2∨j=3∨j=4∨j=5∨j=6∨j=7∨j=8∨j=9∨j=10∨j=11∨j=12∨j=13∨j=14∨j=15∨j=16∨j=17∨j=18∨j=19:=by omega
    rcases this with rfl | rfl | rfl | rfl | rfl | rfl | rfl | rfl | rfl | rfl | rfl | rfl | rfl | rfl | rfl | rfl | rfl | rfl | rfl | rfl
    ·rfl
    ·rfl
    ·rfl
    ·rfl
    ·rfl
    ·rfl
    ·rfl
    ·rfl
    ·rfl
    ·rfl
    ·rfl
    ·rfl
    ·rfl
    ·rfl
    ·rfl
    ·rfl
    ·rfl
    ·exact absurd (hdi.symm.trans hdj) (by simp)
    ·rfl
    ·rfl) ⟨_,((hP.but bA).s17 w.heap.size (NewB.made _ w [.int .i64 kd,.bool s1,.int .u64 x1,.int .u64 y1,.pointer none,.int .i64 fq,.int .i64 li,.int .i64 ti,.int .i64 pq,.string tof] _ hsz)),fun _=>rfl,fun h=>absurd (hs0.symm.trans h) (by simp)⟩)
  ·obtain rfl:=Option.some.inj ((show opCas[18]? = some opCa18 from rfl).symm.trans ho)
   obtain ⟨w1,hP,h1,h2⟩:=hH
   obtain rfl:=h1 hdi
   have hW:=hP.mem
   have t17:d 17=true:=(hD 17 (by simp)).1
   obtain ⟨v',w',hr,hpost⟩:=AP w N.1 hW (hP.f17 t17)
   exact wp_value (run_C13 a w _ _ _ _ _ _ _ _ v' w' ((hD 0 (by simp)).2 rfl) ((hD 17 (by simp)).2 rfl) hr) (hK (N.1,v') _ _ (fun _=>rfl) (fun j hj _ hdj=>by
    have:j=0∨j=1∨j=2∨j=3∨j=4∨j=5∨j=6∨j=7∨j=8∨j=9∨j=10∨j=11∨j=12∨j=13∨j=14∨j=15∨j=16∨j=17∨j=18∨j=19:=by omega
    rcases this with rfl | rfl | rfl | rfl | rfl | rfl | rfl | rfl | rfl | rfl | rfl | rfl | rfl | rfl | rfl | rfl | rfl | rfl | rfl | rfl
    ·rfl
    ·rfl
    ·rfl
    ·rfl
    ·rfl
    ·rfl
    ·rfl
    ·rfl
    ·rfl
    ·rfl
    ·rfl
    ·rfl
    ·rfl
    ·rfl
    ·rfl
    ·rfl
    ·rfl
    ·rfl
    ·exact absurd (hdi.symm.trans hdj) (by simp)
    ·exact absurd ((hcl.not opCa_dep (i:=19) (j:=18) (by simp) hdi).symm.trans hdj) (by simp)) ⟨w,{ mem:=hP.mem,f17:=hP.f17 },fun h=>absurd h (by rw [came_self];simp),fun _=>hpost⟩)
  ·obtain rfl:=Option.some.inj ((show opCas[19]? = some opCa19 from rfl).symm.trans ho)
   exact wp_value (run_asK a w _ _ _ _ _ _ _ ((hD 18 (by simp)).2 rfl)) (hK N _ _ (fun _=>rfl) (fun _ _ _ _=>rfl) hH)
 ·intro N d w hd hH
  obtain ⟨w1,hP,h1,h2⟩:=hH
  exact hQ N.1 N.2 w (h2 (hd 18 (by omega)))
end Go.Proofs.YtjbboicccddhbaaGreatDoor

namespace Go.Proofs.YtjbboicccddhbaaGreatDoor
open Go.RowKit
set_option maxHeartbeats 16000000
set_option maxRecDepth 100000
theorem plainTreaty_any (q:Option Addr) (n c:Nat) (ps:List PL) (w:World) (hv:PLsAt w (.slice q n c) ps) (hn:n≤45) (hf:∀ p ∈ ps,Fits (p.qu,p.qv)) :
  Calls Tryz.prog 28 #[.slice q n c] w fun e w'=>∃ v,e=.returned v∧LRow w.heap.size w' v (ps.map lnOf)∧But [] w w':=by
 have hnl:n=ps.length:=by
  obtain ⟨a,cap,e,-⟩:=hv
  simp only [Value.slice.injEq] at e
  exact e.2.1
 have HV:=hide hv
 have HF:=hide hf
 have HNL:=hide hnl
 clear hv hf hnl
 go_enter Tryz.func28,Tryz.ntmps28
 go_wp2
 go_loopw [3,8] (fun v i wr=>∃ k:Nat,k≤n∧i=.int .i64 (k:Int)∧Hid (LRow w.heap.size wr v ((ps.take k).map lnOf))∧Hid (But [] w wr)) (fun _ i _=>n-(intOf i).toNat)
 case atStart=>exact ⟨0,Nat.zero_le _,rfl,LRow.nil _ _,But.refl _ _⟩
 case round =>
  obtain ⟨k,hk,rfl,HR,HB⟩:=hrel
  rename World=>wr
  by_cases hlt:k<n
  ·have hkl:k<ps.length:=by have:=unhide HNL;omega
   have hge:ps[k]? = some ps[k]:=List.getElem?_eq_getElem hkl
   have hmem:ps[k] ∈ ps:=List.getElem_mem hkl
   obtain ⟨a',cap',ea,-,hc⟩:=(unhide HV).but (unhide HB)
   simp only [Value.slice.injEq] at ea
   obtain ⟨rfl,-,rfl⟩:=ea
   obtain ⟨b,off,rfl,c0,c1,c2,c3,c4,c5,c6,c7⟩:=hc k _ hge
   obtain ⟨s1,x1,y1,lq,FQ,CQ⟩:=plainF_at (ps[k].qu,ps[k].qv) (unhide HF _ hmem)
   have htk:(ps.take (k+1)).map lnOf=(ps.take k).map lnOf++[lnOf ps[k]]:=by rw [List.take_add_one,hge,List.map_append];rfl
   have hlen:((ps.take k).map lnOf).length=k:=by simp;omega
   obtain ⟨p,hp⟩:∃ p,p=ps[k]:=⟨_,rfl⟩
   rw [← hp] at c0 c1 c2 c3 c4 c5 c6 c7 htk
   simp only [← hp] at FQ CQ
   have HTK:=hide htk
   have HLEN:=hide hlen
   have HFQ:=hide FQ
   have HCQ:=hide CQ
   have bB:But [] wr (wr.alloc (.cells #[.int .i64 p.kd,.int .i64 p.qu,.int .i64 p.qv,.int .i64 p.fr,.int .i64 p.li,.int .i64 p.ti,.int .i64 p.pr,.string p.to] 65)):=(But.refl [] wr).alloc _
   have D5:=hide (NewB.made wr.heap.size wr [.int .i64 p.kd,.int .i64 p.qu,.int .i64 p.qv,.int .i64 p.fr,.int .i64 p.li,.int .i64 p.ti,.int .i64 p.pr,.string p.to] 65 (Nat.le_refl _))
   have HR1:=hide ((unhide HR).but bB)
   have HB1:=hide ((unhide HB).trans' bB)
   clear hge hmem hc FQ CQ hp lq htk hlen bB HR HB
   go_wp2
   generalize wr.alloc (.cells #[.int .i64 p.kd,.int .i64 p.qu,.int .i64 p.qv,.int .i64 p.fr,.int .i64 p.li,.int .i64 p.ti,.int .i64 p.pr,.string p.to] 65)=V1 at *
   generalize wr.heap.size=g5 at D5 ⊢
   have d5:=unhide D5
   refine treaty_region5 5 _ _ V1 u3 g5 p.kd p.qu p.qv s1 x1 y1 p.fr p.li p.ti p.pr p.to (fun v' w'=>LRow w.heap.size w' v' ((ps.take k).map lnOf++[lnOf p])∧But [] w w') (by simp) (by simp [Act.eval]) (by simp [Act.eval]) (d5.cells 0 _ rfl) (d5.cells 3 _ rfl) (d5.cells 4 _ rfl) (d5.cells 5 _ rfl) (d5.cells 6 _ rfl) (d5.cells 7 _ rfl) (d5.cells 1 _ rfl) (d5.cells 2 _ rfl) (unhide HCQ) (fun W g hb hN=>by
    have hbw:=(unhide HB1).trans' hb
    obtain ⟨v',w',hr,h1,h2⟩:=((unhide HR1).but hb).app hbw.size (by have:=unhide HLEN;omega) (lnOf p) s1 x1 y1 (unhide HFQ) g (fun r u hu=>hN.cells r u hu)
    exact ⟨v',w',hr,h1,h2 w hbw (Nat.le_refl _)⟩) ?_
   intro g va w1 hP
   simp only [putted,List.foldl_cons,List.foldl_nil,Act.put,List.setIfInBounds_toArray,List.set_cons_zero,List.set_cons_succ]
   rw [← unhide HTK] at hP
   have HP1:=hide hP.1
   have HP2:=hide hP.2
   clear hP d5 D5 HR1 HB1 c0 c1 c2 c3 c4 c5 c6 c7
   go_wp2
   exact ⟨⟨k+1,by omega,by go_num,unhide HP1,unhide HP2⟩,by simp [intOf];omega⟩
  ·obtain rfl:k=n:=by omega
   have hall:(ps.take k).map lnOf=ps.map lnOf:=by rw [List.take_of_length_le (by have:=unhide HNL;omega)]
   rw [hall] at HR
   clear hall
   go_wp2
   exact bodyPost_ret (v:=u3) (by simp [results,Tryz.results28,go_sem]) rfl ⟨u3,rfl,unhide HR,unhide HB⟩
end Go.Proofs.YtjbboicccddhbaaGreatDoor
