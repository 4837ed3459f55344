/- The law CreditLines: the statements that -/
import Derived.Test.YtffghofheeleeaaGreatDoorKRLdqL
namespace Go.Proofs.YtffghofheeleeaaGreatDoor
open Go.Proofs.Tryz
open Go.RowKit
set_option maxHeartbeats 16000000
set_option maxRecDepth 100000
set_option linter.unusedVariables false
structure zjy (B:Nat) (r1 r2 r3:Rat) (w:World) (t:Nat × Nat × Nat × Nat):Prop where
 box:zbl B w t.1 [.pointer (some ⟨t.2.1,0,none⟩),.pointer (some ⟨t.2.2.1,0,none⟩),.pointer (some ⟨t.2.2.2,0,none⟩)]
 one:za w t.2.1 r1
 two:za w t.2.2.1 r2
 three:za w t.2.2.2 r3
theorem zjy.but {B:Nat} {r1 r2 r3:Rat} {w w':World} {t:Nat × Nat × Nat × Nat} (h:zjy B r1 r2 r3 w t) (hb:But [] w w'):zjy B r1 r2 r3 w' t:=⟨h.box.but hb,h.one.but hb,h.two.but hb,h.three.but hb⟩
theorem zjy.made {B:Nat} {r1 r2 r3:Rat} {w:World} {x y z:Nat} (h1:za w x r1) (h2:za w y r2) (h3:za w z r3) (hB:B≤w.heap.size) (t:TypeId):zjy B r1 r2 r3 (w.alloc (.cells #[.pointer (some ⟨x,0,none⟩),.pointer (some ⟨y,0,none⟩),.pointer (some ⟨z,0,none⟩)] t)) (w.heap.size,x,y,z) :=
 ⟨zbl.made B w [.pointer (some ⟨x,0,none⟩),.pointer (some ⟨y,0,none⟩),.pointer (some ⟨z,0,none⟩)] t hB,h1.but ((But.refl _ _).alloc _),h2.but ((But.refl _ _).alloc _),h3.but ((But.refl _ _).alloc _)⟩
theorem zjj (a:Act) (w:World) (d t1 t2:Nat) (u:TypeId) (ps:String) (ed:Array Edge) (gd:Option (Nat × Bool)) (b off n c k o':Nat) (ho:off+k*2=o') (hk:k<n) (h1:a.eval (.tmp t1)=.slice (some ⟨b,off,none⟩) n c) (h2:a.eval (.tmp t2)=.int .i64 (k:Int)) :
  (execOp a.eval { dst:=some d,op:=Op.indexAddr 41 (.tmp t1) (.tmp t2),type:=u,pos:=ps,after:=ed,guard:=gd }).run prog w=.ok (.value (.pointer (some ⟨b,o',none⟩))) w:=by
 subst ho
 unfold execOp
 simp only[h1,h2]
 go_simp
theorem zcq (a:Act) (w:World) (d t:Nat) (u:TypeId) (ps:String) (ed:Array Edge) (gd:Option (Nat × Bool)) (b o:Nat) (v0 v1:Value) (h1:a.eval (.tmp t)=.pointer (some ⟨b,o,none⟩)) (c0:w.cell? ⟨b,o,none⟩=some v0) (c1:w.cell? ⟨b,o+1,none⟩=some v1) :
  (execOp a.eval { dst:=some d,op:=Op.load 23 (.tmp t),type:=u,pos:=ps,after:=ed,guard:=gd }).run prog w=.ok (.value (.agg #[v0,v1])) w:=by
 unfold execOp
 simp only[h1]
 go_simp
theorem zlc (a:Act) (w:World) (d t0:Nat) (u:TypeId) (ps:String) (ed:Array Edge) (gd:Option (Nat × Bool)) (z0:Value) (h0:a.eval (.tmp t0)=z0) :
  (execOp a.eval { dst:=some d,op:=Op.call { callee:=Callee.value (Operand.func 7),args:=#[Operand.tmp t0],argTypes:=#[23] },type:=u,pos:=ps,after:=ed,guard:=gd }).run prog w=.ok (.enter 7 #[z0]) w:=by
 unfold execOp
 go_simp
 rw[← h0]
 simp[Act.eval]
theorem qqh (a:Act) (w:World) (d t0 t1 t2:Nat) (u:TypeId) (ps:String) (ed:Array Edge) (gd:Option (Nat × Bool)) (s0:Bool) (x0 y0:Int) (p0:Option Addr) (s1:Bool) (x1 y1:Int) (p1:Option Addr) (s2:Bool) (x2 y2:Int) (p2:Option Addr) (h0:a.eval (.tmp t0)=.agg #[.bool s0,.int .u64 x0,.int .u64 y0,.pointer p0]) (h1:a.eval (.tmp t1)=.agg #[.bool s1,.int .u64 x1,.int .u64 y1,.pointer p1]) (h2:a.eval (.tmp t2)=.agg #[.bool s2,.int .u64 x2,.int .u64 y2,.pointer p2]) :
  (execOp a.eval { dst:=some d,op:=Op.build 45 #[(0,Operand.tmp t0),(1,Operand.tmp t1),(2,Operand.tmp t2)],type:=u,pos:=ps,after:=ed,guard:=gd }).run prog w=.ok (.value (.agg #[.bool s0,.int .u64 x0,.int .u64 y0,.pointer p0,.bool s1,.int .u64 x1,.int .u64 y1,.pointer p1,.bool s2,.int .u64 x2,.int .u64 y2,.pointer p2])) w:=by
 unfold execOp
 simp only[List.map_toArray,List.map_cons,List.map_nil,h0,h1,h2]
 go_simp
theorem qqg (a:Act) (w:World) (d t:Nat) (u:TypeId) (ps:String) (ed:Array Edge) (gd:Option (Nat × Bool)) (s0:Bool) (x0 y0:Int) (p0:Option Addr) (s1:Bool) (x1 y1:Int) (p1:Option Addr) (s2:Bool) (x2 y2:Int) (p2:Option Addr) (h1:a.eval (.tmp t)=.agg #[.bool s0,.int .u64 x0,.int .u64 y0,.pointer p0,.bool s1,.int .u64 x1,.int .u64 y1,.pointer p1,.bool s2,.int .u64 x2,.int .u64 y2,.pointer p2]) :
  (execOp a.eval { dst:=some d,op:=Op.buildSlice 42 1 #[(0,Operand.tmp t)],type:=u,pos:=ps,after:=ed,guard:=gd }).run prog w=.ok (.value (.slice (some ⟨w.heap.size,0,none⟩) 1 1)) (w.alloc (.cells #[.bool s0,.int .u64 x0,.int .u64 y0,.pointer p0,.bool s1,.int .u64 x1,.int .u64 y1,.pointer p1,.bool s2,.int .u64 x2,.int .u64 y2,.pointer p2] 45)):=by
 unfold execOp
 simp only[List.map_toArray,List.map_cons,List.map_nil,h1]
 go_simp
theorem qqf (a:Act) (w:World) (d t1 t2:Nat) (ps:String) (ed:Array Edge) (gd:Option (Nat × Bool)) (v0 v1 v':Value) (w':World) (h1:a.eval (.tmp t1)=v0) (h2:a.eval (.tmp t2)=v1) (hr:(Builtin.append_ #[42,42] 42 #[v0,v1]).run prog w=.ok v' w') :
  (execOp a.eval { dst:=some d,op:=Op.call { callee:=Callee.builtin Builtin.append,args:=#[Operand.tmp t1,Operand.tmp t2],argTypes:=#[42,42] },type := 42,pos:=ps,after:=ed,guard:=gd }).run prog w=.ok (.value v') w':=by
 unfold execOp
 simp only[resolve,invoke,builtin,Sem.run_bind,Sem.run_pure,Result.andThen_ok,List.map_toArray,List.map_cons,List.map_nil,h1,h2,hr]
def qtl:Oper:=⟨some 46,.move (.tmp 14),42, "law.go:914",#[],none⟩
def qtk:Oper:=⟨some 47,.move (.tmp 0),41, "law.go:914",#[],none⟩
def qtj:Oper:=⟨some 48,.move (.tmp 16),3, "law.go:914",#[],none⟩
def qti:Oper:=⟨some 49,.indexAddr 41 (.tmp 47) (.tmp 48),0, "law.go:914",#[⟨1,.data⟩,⟨2,.data⟩],none⟩
def qth:Oper:=⟨some 50,.load 23 (.tmp 49),23, "law.go:914",#[⟨3,.data⟩],none⟩
def qtg:Oper:=⟨some 51,.call { callee:=.value (.func 7),args:=#[.tmp 50],argTypes:=#[23] },27, "law.go:914",#[⟨4,.data⟩],none⟩
def qtf:Oper:=⟨some 52,.move (.tmp 1),41, "law.go:914",#[],none⟩
def qte:Oper:=⟨some 53,.move (.tmp 16),3, "law.go:914",#[],none⟩
def qtd:Oper:=⟨some 54,.indexAddr 41 (.tmp 52) (.tmp 53),0, "law.go:914",#[⟨6,.data⟩,⟨7,.data⟩],none⟩
def qtc:Oper:=⟨some 55,.load 23 (.tmp 54),23, "law.go:914",#[⟨8,.data⟩],none⟩
def qmy:Oper:=⟨some 56,.call { callee:=.value (.func 7),args:=#[.tmp 55],argTypes:=#[23] },27, "law.go:914",#[⟨9,.data⟩,⟨5,.chain⟩],none⟩
def qmx:Oper:=⟨some 57,.move (.tmp 2),41, "law.go:914",#[],none⟩
def qmw:Oper:=⟨some 58,.move (.tmp 16),3, "law.go:914",#[],none⟩
def qmv:Oper:=⟨some 59,.indexAddr 41 (.tmp 57) (.tmp 58),0, "law.go:914",#[⟨11,.data⟩,⟨12,.data⟩],none⟩
def qmu:Oper:=⟨some 60,.load 23 (.tmp 59),23, "law.go:914",#[⟨13,.data⟩],none⟩
def qmt:Oper:=⟨some 61,.call { callee:=.value (.func 7),args:=#[.tmp 60],argTypes:=#[23] },27, "law.go:914",#[⟨14,.data⟩,⟨10,.chain⟩],none⟩
def qms:Oper:=⟨some 62,.build 45 #[(0,.tmp 51),(1,.tmp 56),(2,.tmp 61)],45, "law.go:914",#[⟨5,.data⟩,⟨10,.data⟩,⟨15,.data⟩],none⟩
def qmr:Oper:=⟨some 63,.buildSlice 42 1 #[(0,.tmp 62)],42, "law.go:914",#[⟨16,.data⟩],none⟩
def qmq:Oper:=⟨some 64,.call { callee:=.builtin .append,args:=#[.tmp 46,.tmp 63],argTypes:=#[42,42] },42, "law.go:914",#[⟨0,.data⟩,⟨17,.data⟩,⟨15,.chain⟩],none⟩
def qmp:Oper:=⟨some 14,.assign (.tmp 64),42, "law.go:914",#[⟨18,.data⟩,⟨18,.chain⟩,⟨0,.phase⟩,⟨1,.phase⟩,⟨2,.phase⟩,⟨3,.phase⟩,⟨4,.phase⟩,⟨5,.phase⟩,⟨6,.phase⟩,⟨7,.phase⟩,⟨8,.phase⟩,⟨9,.phase⟩,⟨10,.phase⟩,⟨11,.phase⟩,⟨12,.phase⟩,⟨13,.phase⟩,⟨14,.phase⟩,⟨15,.phase⟩,⟨16,.phase⟩,⟨17,.phase⟩,⟨18,.phase⟩],none⟩
def zam:Array Oper:=#[qtl,qtk,qtj,qti,qth,qtg,qtf,qte,qtd,qtc,qmy,qmx,qmw,qmv,qmu,qmt,qms,qmr,qmq,qmp]
structure zri (W0:World) (vo:Value) (k:Nat) (b1:Nat) (o1:Nat) (n1:Nat) (c1:Nat) (u1:Int) (v1:Int) (b2:Nat) (o2:Nat) (n2:Nat) (c2:Nat) (u2:Int) (v2:Int) (b3:Nat) (o3:Nat) (n3:Nat) (c3:Nat) (u3:Int) (v3:Int) (s1:Bool) (x1:Int) (y1:Int) (p1:Option Addr) (s2:Bool) (x2:Int) (y2:Int) (p2:Option Addr) (s3:Bool) (x3:Int) (y3:Int) (p3:Option Addr) (gb:Nat) (av:Value) (b17:Bool) (w:World):Prop where
 mem:But [] W0 w
 f17:b17=true→zbl W0.heap.size w gb [.bool s1,.int .u64 x1,.int .u64 y1,.pointer p1,.bool s2,.int .u64 x2,.int .u64 y2,.pointer p2,.bool s3,.int .u64 x3,.int .u64 y3,.pointer p3]
theorem zri.but {W0:World} {vo:Value} {k:Nat} {b1:Nat} {o1:Nat} {n1:Nat} {c1:Nat} {u1:Int} {v1:Int} {b2:Nat} {o2:Nat} {n2:Nat} {c2:Nat} {u2:Int} {v2:Int} {b3:Nat} {o3:Nat} {n3:Nat} {c3:Nat} {u3:Int} {v3:Int} {s1:Bool} {x1:Int} {y1:Int} {p1:Option Addr} {s2:Bool} {x2:Int} {y2:Int} {p2:Option Addr} {s3:Bool} {x3:Int} {y3:Int} {p3:Option Addr} {gb:Nat} {av:Value} {b17:Bool} {w w':World} (h:zri W0 vo k b1 o1 n1 c1 u1 v1 b2 o2 n2 c2 u2 v2 b3 o3 n3 c3 u3 v3 s1 x1 y1 p1 s2 x2 y2 p2 s3 x3 y3 p3 gb av b17 w) (hb:But [] w w'):zri W0 vo k b1 o1 n1 c1 u1 v1 b2 o2 n2 c2 u2 v2 b3 o3 n3 c3 u3 v3 s1 x1 y1 p1 s2 x2 y2 p2 s3 x3 y3 p3 gb av b17 w' :=
 { mem:=h.mem.trans' hb,f17:=fun e=>(h.f17 e).but hb }
theorem zri.s17 {W0:World} {vo:Value} {k:Nat} {b1:Nat} {o1:Nat} {n1:Nat} {c1:Nat} {u1:Int} {v1:Int} {b2:Nat} {o2:Nat} {n2:Nat} {c2:Nat} {u2:Int} {v2:Int} {b3:Nat} {o3:Nat} {n3:Nat} {c3:Nat} {u3:Int} {v3:Int} {s1:Bool} {x1:Int} {y1:Int} {p1:Option Addr} {s2:Bool} {x2:Int} {y2:Int} {p2:Option Addr} {s3:Bool} {x3:Int} {y3:Int} {p3:Option Addr} {gb:Nat} {av:Value} {b17:Bool} {w:World} (h:zri W0 vo k b1 o1 n1 c1 u1 v1 b2 o2 n2 c2 u2 v2 b3 o3 n3 c3 u3 v3 s1 x1 y1 p1 s2 x2 y2 p2 s3 x3 y3 p3 gb av b17 w) (gb':Nat) (hf:zbl W0.heap.size w gb' [.bool s1,.int .u64 x1,.int .u64 y1,.pointer p1,.bool s2,.int .u64 x2,.int .u64 y2,.pointer p2,.bool s3,.int .u64 x3,.int .u64 y3,.pointer p3]):zri W0 vo k b1 o1 n1 c1 u1 v1 b2 o2 n2 c2 u2 v2 b3 o3 n3 c3 u3 v3 s1 x1 y1 p1 s2 x2 y2 p2 s3 x3 y3 p3 gb' av true w :=
 { mem:=h.mem,f17:=fun _=>hf }
def zgh (i:Nat):Nat:=match i with
 | 0=>46
 | 1=>47
 | 2=>48
 | 3=>49
 | 4=>50
 | 5=>51
 | 6=>52
 | 7=>53
 | 8=>54
 | 9=>55
 | 10=>56
 | 11=>57
 | 12=>58
 | 13=>59
 | 14=>60
 | 15=>61
 | 16=>62
 | 17=>63
 | 18=>64
 | _=>14
def zrh (i:Nat):Bool:=match i with
 | _=>true
def zzi (vo:Value) (k:Nat) (b1:Nat) (o1:Nat) (n1:Nat) (c1:Nat) (u1:Int) (v1:Int) (b2:Nat) (o2:Nat) (n2:Nat) (c2:Nat) (u2:Int) (v2:Int) (b3:Nat) (o3:Nat) (n3:Nat) (c3:Nat) (u3:Int) (v3:Int) (s1:Bool) (x1:Int) (y1:Int) (p1:Option Addr) (s2:Bool) (x2:Int) (y2:Int) (p2:Option Addr) (s3:Bool) (x3:Int) (y3:Int) (p3:Option Addr) (gb:Nat) (av:Value) (i:Nat):Value:=match i with
 | 0=>vo
 | 1=>.slice (some ⟨b1,o1,none⟩) n1 c1
 | 2=>.int .i64 (k:Int)
 | 3=>.pointer (some ⟨b1,o1+k*2,none⟩)
 | 4=>.agg #[.int .i64 u1,.int .i64 v1]
 | 5=>.agg #[.bool s1,.int .u64 x1,.int .u64 y1,.pointer p1]
 | 6=>.slice (some ⟨b2,o2,none⟩) n2 c2
 | 7=>.int .i64 (k:Int)
 | 8=>.pointer (some ⟨b2,o2+k*2,none⟩)
 | 9=>.agg #[.int .i64 u2,.int .i64 v2]
 | 10=>.agg #[.bool s2,.int .u64 x2,.int .u64 y2,.pointer p2]
 | 11=>.slice (some ⟨b3,o3,none⟩) n3 c3
 | 12=>.int .i64 (k:Int)
 | 13=>.pointer (some ⟨b3,o3+k*2,none⟩)
 | 14=>.agg #[.int .i64 u3,.int .i64 v3]
 | 15=>.agg #[.bool s3,.int .u64 x3,.int .u64 y3,.pointer p3]
 | 16=>.agg #[.bool s1,.int .u64 x1,.int .u64 y1,.pointer p1,.bool s2,.int .u64 x2,.int .u64 y2,.pointer p2,.bool s3,.int .u64 x3,.int .u64 y3,.pointer p3]
 | 17=>.slice (some ⟨gb,0,none⟩) 1 1
 | 18=>av
 | _=>av
theorem xq:zab zam [(3,1),(3,2),(4,3),(5,4),(8,6),(8,7),(9,8),(10,5),(10,9),(13,11),(13,12),(14,13),(15,10),(15,14),(16,5),(16,10),(16,15),(17,16),(18,0),(18,15),(18,17),(19,0),(19,1),(19,2),(19,3),(19,4),(19,5),(19,6),(19,7),(19,8),(19,9),(19,10),(19,11),(19,12),(19,13),(19,14),(19,15),(19,16),(19,17),(19,18)]=true:=by kernel_rfl
theorem qhb:∀ i j,i<20→j<20→zrh i=true→zrh j=true→zgh i=zgh j→i=j:=fun i j hi hj=>(by decide:∀ i,i<20→∀ j,j<20→zrh i=true→zrh j=true→zgh i=zgh j→i=j) i hi j hj
theorem ztp (id:Nat) (Q:Exit→Act→World→Prop) (base:Act) (W0:World) (vo:Value) (k:Nat) (b1:Nat) (o1:Nat) (n1:Nat) (c1:Nat) (u1:Int) (v1:Int) (b2:Nat) (o2:Nat) (n2:Nat) (c2:Nat) (u2:Int) (v2:Int) (b3:Nat) (o3:Nat) (n3:Nat) (c3:Nat) (u3:Int) (v3:Int) (s1:Bool) (x1:Int) (y1:Int) (p1:Option Addr) (s2:Bool) (x2:Int) (y2:Int) (p2:Option Addr) (s3:Bool) (x3:Int) (y3:Int) (p3:Option Addr) (Post:Value→World→Prop) (hs:64<base.tmps.size) (e14:base.eval (.tmp 14)=vo) (e0:base.eval (.tmp 0)=.slice (some ⟨b1,o1,none⟩) n1 c1) (e1:base.eval (.tmp 1)=.slice (some ⟨b2,o2,none⟩) n2 c2) (e2:base.eval (.tmp 2)=.slice (some ⟨b3,o3,none⟩) n3 c3) (e16:base.eval (.tmp 16)=.int .i64 (k:Int))
  (hk1:k<n1) (ca1:W0.cell? ⟨b1,o1+k*2,none⟩=some (.int .i64 u1)) (cb1:W0.cell? ⟨b1,o1+k*2+1,none⟩=some (.int .i64 v1)) (hk2:k<n2) (ca2:W0.cell? ⟨b2,o2+k*2,none⟩=some (.int .i64 u2)) (cb2:W0.cell? ⟨b2,o2+k*2+1,none⟩=some (.int .i64 v2)) (hk3:k<n3) (ca3:W0.cell? ⟨b3,o3+k*2,none⟩=some (.int .i64 u3)) (cb3:W0.cell? ⟨b3,o3+k*2+1,none⟩=some (.int .i64 v3)) (PF1:∀ w,Calls prog 7 #[.agg #[.int .i64 u1,.int .i64 v1]] w fun e w'=>e=.returned (.agg #[.bool s1,.int .u64 x1,.int .u64 y1,.pointer p1])∧But [] w w') (PF2:∀ w,Calls prog 7 #[.agg #[.int .i64 u2,.int .i64 v2]] w fun e w'=>e=.returned (.agg #[.bool s2,.int .u64 x2,.int .u64 y2,.pointer p2])∧But [] w w') (PF3:∀ w,Calls prog 7 #[.agg #[.int .i64 u3,.int .i64 v3]] w fun e w'=>e=.returned (.agg #[.bool s3,.int .u64 x3,.int .u64 y3,.pointer p3])∧But [] w w') (AP:∀ w g,But [] W0 w→zbl W0.heap.size w g [.bool s1,.int .u64 x1,.int .u64 y1,.pointer p1,.bool s2,.int .u64 x2,.int .u64 y2,.pointer p2,.bool s3,.int .u64 x3,.int .u64 y3,.pointer p3]→∃ v' w',(Builtin.append_ #[42,42] 42 #[vo,.slice (some ⟨g,0,none⟩) 1 1]).run prog w=.ok v' w'∧Post v' w')
  (hQ:∀ (gb:Nat) (av:Value) w1,Post av w1→Q .normal (bk base [(46,vo),(47,.slice (some ⟨b1,o1,none⟩) n1 c1),(48,.int .i64 (k:Int)),(49,.pointer (some ⟨b1,o1+k*2,none⟩)),(50,.agg #[.int .i64 u1,.int .i64 v1]),(51,.agg #[.bool s1,.int .u64 x1,.int .u64 y1,.pointer p1]),(52,.slice (some ⟨b2,o2,none⟩) n2 c2),(53,.int .i64 (k:Int)),(54,.pointer (some ⟨b2,o2+k*2,none⟩)),(55,.agg #[.int .i64 u2,.int .i64 v2]),(56,.agg #[.bool s2,.int .u64 x2,.int .u64 y2,.pointer p2]),(57,.slice (some ⟨b3,o3,none⟩) n3 c3),(58,.int .i64 (k:Int)),(59,.pointer (some ⟨b3,o3+k*2,none⟩)),(60,.agg #[.int .i64 u3,.int .i64 v3]),(61,.agg #[.bool s3,.int .u64 x3,.int .u64 y3,.pointer p3]),(62,.agg #[.bool s1,.int .u64 x1,.int .u64 y1,.pointer p1,.bool s2,.int .u64 x2,.int .u64 y2,.pointer p2,.bool s3,.int .u64 x3,.int .u64 y3,.pointer p3]),(63,.slice (some ⟨gb,0,none⟩) 1 1),(64,av),(14,av)]) w1) :
  (Code.region id zam true).wp prog Q base W0:=by
 have hT:∀ i,i<20→zrh i=true→zgh i<base.tmps.size:=fun i hi _=>by
  have h:zgh i≤64:=by revert i;decide
  omega
 refine zay (by kernel_rfl) (xu (by kernel_rfl)) (zaw (by kernel_rfl)) (fun (N:(Nat) × (Value)) d w=>∃ w1,zri W0 vo k b1 o1 n1 c1 u1 v1 b2 o2 n2 c2 u2 v2 b3 o3 n3 c3 u3 v3 s1 x1 y1 p1 s2 x2 y2 p2 s3 x3 y3 p3 N.1 N.2 (d 17) w1∧(d 18=false→w=w1)∧(d 18=true→Post N.2 w)) (fun N=>zzi vo k b1 o1 n1 c1 u1 v1 b2 o2 n2 c2 u2 v2 b3 o3 n3 c3 u3 v3 s1 x1 y1 p1 s2 x2 y2 p2 s3 x3 y3 p3 N.1 N.2) zgh zrh 20 (by kernel_rfl) qhb hT (0,undef) ⟨_,{ mem:=(But.refl _ _).drew,f17:=fun h=>by simp at h },fun _=>rfl,fun h=>by simp at h⟩ ?_ ?_
 ·intro N d i o a w K hi ho hdi hcl hH he hdep hK
  have hD:=zco xq ho (fun j=>d j=true∧(zrh j=true→a.eval (.tmp (zgh j))=zzi vo k b1 o1 n1 c1 u1 v1 b2 o2 n2 c2 u2 v2 b3 o3 n3 c3 u3 v3 s1 x1 y1 p1 s2 x2 y2 p2 s3 x3 y3 p3 N.1 N.2 j)) hdep
  have e0':=(he 0 (fun j hj _ _=>(by decide:∀ j,j<20→(0:Nat)≠zgh j) j hj)).trans e0
  have e1':=(he 1 (fun j hj _ _=>(by decide:∀ j,j<20→(1:Nat)≠zgh j) j hj)).trans e1
  have e2':=(he 2 (fun j hj _ _=>(by decide:∀ j,j<20→(2:Nat)≠zgh j) j hj)).trans e2
  have e16':=(he 16 (fun j hj _ _=>(by decide:∀ j,j<20→(16:Nat)≠zgh j) j hj)).trans e16
  have:i=0∨i=1∨i=2∨i=3∨i=4∨i=5∨i=6∨i=7∨i=8∨i=9∨i=10∨i=11∨i=12∨i=13∨i=14∨i=15∨i=16∨i=17∨i=18∨i=19:=by omega
  rcases this with rfl|rfl|rfl|rfl|rfl|rfl|rfl|rfl|rfl|rfl|rfl|rfl|rfl|rfl|rfl|rfl|rfl|rfl|rfl|rfl
  ·obtain rfl:=so (show zam[0]? =some qtl from rfl) ho
   have e14':=(he 14 (fun j hj _ hdj e=>by
    by_cases hj2:j=19
    ·subst hj2;exact absurd ((hcl.not xq (i:=19) (j:=0) (by simp) hdi).symm.trans hdj) (by simp)
    ·exact absurd e ((by decide:∀ j,j<20→j≠19→(14:Nat)≠zgh j) j hj hj2))).trans e14
   exact an (bz a w _ _ _ _ _ _ _ e14') (hK N _ _ (fun _=>rfl) (fun _ _ _ _=>rfl) hH)
  ·obtain rfl:=so (show zam[1]? =some qtk from rfl) ho
   exact an (bz a w _ _ _ _ _ _ _ e0') (hK N _ _ (fun _=>rfl) (fun _ _ _ _=>rfl) hH)
  ·obtain rfl:=so (show zam[2]? =some qtj from rfl) ho
   exact an (bz a w _ _ _ _ _ _ _ e16') (hK N _ _ (fun _=>rfl) (fun _ _ _ _=>rfl) hH)
  ·obtain rfl:=so (show zam[3]? =some qti from rfl) ho
   exact an (zjj a w _ _ _ _ _ _ _ b1 (o1) (n1) (c1) (k) (o1+k*2) (by omega) hk1 ((hD 1 (by simp)).2 rfl) ((hD 2 (by simp)).2 rfl)) (hK N _ _ (fun _=>rfl) (fun _ _ _ _=>rfl) hH)
  ·obtain rfl:=so (show zam[4]? =some qth from rfl) ho
   have hs0:d 18=false:=(hcl.not xq (i:=18) (j:=15) (by simp) (hcl.not xq (i:=15) (j:=10) (by simp) (hcl.not xq (i:=10) (j:=5) (by simp) (hcl.not xq (i:=5) (j:=4) (by simp) hdi))))
   obtain⟨w1,hP,h1,h2⟩:=hH
   obtain rfl:=h1 hs0
   have hW:=hP.mem
   exact an (zcq a w _ _ _ _ _ _ b1 (o1+k*2) _ _ ((hD 3 (by simp)).2 rfl) (hW.ag ca1 (by simp)) (hW.ag cb1 (by simp))) (hK N _ _ (fun _=>rfl) (fun _ _ _ _=>rfl) ⟨_,hP,h1,h2⟩)
  ·obtain rfl:=so (show zam[5]? =some qtg from rfl) ho
   have hs0:d 18=false:=(hcl.not xq (i:=18) (j:=15) (by simp) (hcl.not xq (i:=15) (j:=10) (by simp) (hcl.not xq (i:=10) (j:=5) (by simp) hdi)))
   obtain⟨w1,hP,h1,h2⟩:=hH
   obtain rfl:=h1 hs0
   have hW:=hP.mem
   exact az (zlc a w _ _ _ _ _ _ _ ((hD 4 (by simp)).2 rfl)) (R:=fun w' v=>v=zzi vo k b1 o1 n1 c1 u1 v1 b2 o2 n2 c2 u2 v2 b3 o3 n3 c3 u3 v3 s1 x1 y1 p1 s2 x2 y2 p2 s3 x3 y3 p3 N.1 N.2 5∧But [] w w') ((PF1 w).mono fun e w' ⟨he,hb⟩=>⟨_,he,rfl,hb⟩) (fun v w' hv=>hK N _ _ (fun _=>hv.1) (fun _ _ _ _=>rfl) ⟨_,(hP.but hv.2),fun _=>rfl,fun h=>absurd (hs0.symm.trans h) (by simp)⟩)
  ·obtain rfl:=so (show zam[6]? =some qtf from rfl) ho
   exact an (bz a w _ _ _ _ _ _ _ e1') (hK N _ _ (fun _=>rfl) (fun _ _ _ _=>rfl) hH)
  ·obtain rfl:=so (show zam[7]? =some qte from rfl) ho
   exact an (bz a w _ _ _ _ _ _ _ e16') (hK N _ _ (fun _=>rfl) (fun _ _ _ _=>rfl) hH)
  ·obtain rfl:=so (show zam[8]? =some qtd from rfl) ho
   exact an (zjj a w _ _ _ _ _ _ _ b2 (o2) (n2) (c2) (k) (o2+k*2) (by omega) hk2 ((hD 6 (by simp)).2 rfl) ((hD 7 (by simp)).2 rfl)) (hK N _ _ (fun _=>rfl) (fun _ _ _ _=>rfl) hH)
  ·obtain rfl:=so (show zam[9]? =some qtc from rfl) ho
   have hs0:d 18=false:=(hcl.not xq (i:=18) (j:=15) (by simp) (hcl.not xq (i:=15) (j:=10) (by simp) (hcl.not xq (i:=10) (j:=9) (by simp) hdi)))
   obtain⟨w1,hP,h1,h2⟩:=hH
   obtain rfl:=h1 hs0
   have hW:=hP.mem
   exact an (zcq a w _ _ _ _ _ _ b2 (o2+k*2) _ _ ((hD 8 (by simp)).2 rfl) (hW.ag ca2 (by simp)) (hW.ag cb2 (by simp))) (hK N _ _ (fun _=>rfl) (fun _ _ _ _=>rfl) ⟨_,hP,h1,h2⟩)
  ·obtain rfl:=so (show zam[10]? =some qmy from rfl) ho
   have hs0:d 18=false:=(hcl.not xq (i:=18) (j:=15) (by simp) (hcl.not xq (i:=15) (j:=10) (by simp) hdi))
   obtain⟨w1,hP,h1,h2⟩:=hH
   obtain rfl:=h1 hs0
   have hW:=hP.mem
   exact az (zlc a w _ _ _ _ _ _ _ ((hD 9 (by simp)).2 rfl)) (R:=fun w' v=>v=zzi vo k b1 o1 n1 c1 u1 v1 b2 o2 n2 c2 u2 v2 b3 o3 n3 c3 u3 v3 s1 x1 y1 p1 s2 x2 y2 p2 s3 x3 y3 p3 N.1 N.2 10∧But [] w w') ((PF2 w).mono fun e w' ⟨he,hb⟩=>⟨_,he,rfl,hb⟩) (fun v w' hv=>hK N _ _ (fun _=>hv.1) (fun _ _ _ _=>rfl) ⟨_,(hP.but hv.2),fun _=>rfl,fun h=>absurd (hs0.symm.trans h) (by simp)⟩)
  ·obtain rfl:=so (show zam[11]? =some qmx from rfl) ho
   exact an (bz a w _ _ _ _ _ _ _ e2') (hK N _ _ (fun _=>rfl) (fun _ _ _ _=>rfl) hH)
  ·obtain rfl:=so (show zam[12]? =some qmw from rfl) ho
   exact an (bz a w _ _ _ _ _ _ _ e16') (hK N _ _ (fun _=>rfl) (fun _ _ _ _=>rfl) hH)
  ·obtain rfl:=so (show zam[13]? =some qmv from rfl) ho
   exact an (zjj a w _ _ _ _ _ _ _ b3 (o3) (n3) (c3) (k) (o3+k*2) (by omega) hk3 ((hD 11 (by simp)).2 rfl) ((hD 12 (by simp)).2 rfl)) (hK N _ _ (fun _=>rfl) (fun _ _ _ _=>rfl) hH)
  ·obtain rfl:=so (show zam[14]? =some qmu from rfl) ho
   have hs0:d 18=false:=(hcl.not xq (i:=18) (j:=15) (by simp) (hcl.not xq (i:=15) (j:=14) (by simp) hdi))
   obtain⟨w1,hP,h1,h2⟩:=hH
   obtain rfl:=h1 hs0
   have hW:=hP.mem
   exact an (zcq a w _ _ _ _ _ _ b3 (o3+k*2) _ _ ((hD 13 (by simp)).2 rfl) (hW.ag ca3 (by simp)) (hW.ag cb3 (by simp))) (hK N _ _ (fun _=>rfl) (fun _ _ _ _=>rfl) ⟨_,hP,h1,h2⟩)
  ·obtain rfl:=so (show zam[15]? =some qmt from rfl) ho
   have hs0:d 18=false:=(hcl.not xq (i:=18) (j:=15) (by simp) hdi)
   obtain⟨w1,hP,h1,h2⟩:=hH
   obtain rfl:=h1 hs0
   have hW:=hP.mem
   exact az (zlc a w _ _ _ _ _ _ _ ((hD 14 (by simp)).2 rfl)) (R:=fun w' v=>v=zzi vo k b1 o1 n1 c1 u1 v1 b2 o2 n2 c2 u2 v2 b3 o3 n3 c3 u3 v3 s1 x1 y1 p1 s2 x2 y2 p2 s3 x3 y3 p3 N.1 N.2 15∧But [] w w') ((PF3 w).mono fun e w' ⟨he,hb⟩=>⟨_,he,rfl,hb⟩) (fun v w' hv=>hK N _ _ (fun _=>hv.1) (fun _ _ _ _=>rfl) ⟨_,(hP.but hv.2),fun _=>rfl,fun h=>absurd (hs0.symm.trans h) (by simp)⟩)
  ·obtain rfl:=so (show zam[16]? =some qms from rfl) ho
   exact an (qqh a w _ _ _ _ _ _ _ _ _ _ _ _ _ _ _ _ _ _ _ _ ((hD 5 (by simp)).2 rfl) ((hD 10 (by simp)).2 rfl) ((hD 15 (by simp)).2 rfl)) (hK N _ _ (fun _=>rfl) (fun _ _ _ _=>rfl) hH)
  ·obtain rfl:=so (show zam[17]? =some qmr from rfl) ho
   have hs0:d 18=false:=(hcl.not xq (i:=18) (j:=17) (by simp) hdi)
   obtain⟨w1,hP,h1,h2⟩:=hH
   obtain rfl:=h1 hs0
   have hW:=hP.mem
   have bA:But [] w (w.alloc (.cells #[.bool s1,.int .u64 x1,.int .u64 y1,.pointer p1,.bool s2,.int .u64 x2,.int .u64 y2,.pointer p2,.bool s3,.int .u64 x3,.int .u64 y3,.pointer p3] 45)):=(But.refl _ _).alloc _
   have hsz:=hW.size
   exact an (qqg a w _ _ _ _ _ _ _ _ _ _ _ _ _ _ _ _ _ _ ((hD 16 (by simp)).2 rfl)) (hK (w.heap.size,N.2) _ _ (fun _=>rfl) (fun j hj _ hdj=>by
    have:j=0∨j=1∨j=2∨j=3∨j=4∨j=5∨j=6∨j=7∨j=8∨j=9∨j=10∨j=11∨j=12∨j=13∨j=14∨j=15∨j=16∨j=17∨j=18∨j=19:=by omega
    rcases this with rfl|rfl|rfl|rfl|rfl|rfl|rfl|rfl|rfl|rfl|rfl|rfl|rfl|rfl|rfl|rfl|rfl|rfl|rfl|rfl <;> first|rfl | exact absurd (hdi.symm.trans hdj) (by simp)) ⟨_,((hP.but bA).s17 w.heap.size (zbl.made _ w [.bool s1,.int .u64 x1,.int .u64 y1,.pointer p1,.bool s2,.int .u64 x2,.int .u64 y2,.pointer p2,.bool s3,.int .u64 x3,.int .u64 y3,.pointer p3] _ hsz)),fun _=>rfl,fun h=>absurd (hs0.symm.trans h) (by simp)⟩)
  ·obtain rfl:=so (show zam[18]? =some qmq from rfl) ho
   obtain⟨w1,hP,h1,h2⟩:=hH
   obtain rfl:=h1 hdi
   have hW:=hP.mem
   have t17:d 17=true:=(hD 17 (by simp)).1
   obtain⟨v',w',hr,hpost⟩:=AP w N.1 hW (hP.f17 t17)
   exact an (qqf a w _ _ _ _ _ _ _ _ v' w' ((hD 0 (by simp)).2 rfl) ((hD 17 (by simp)).2 rfl) hr) (hK (N.1,v') _ _ (fun _=>rfl) (fun j hj _ hdj=>by
    have:j=0∨j=1∨j=2∨j=3∨j=4∨j=5∨j=6∨j=7∨j=8∨j=9∨j=10∨j=11∨j=12∨j=13∨j=14∨j=15∨j=16∨j=17∨j=18∨j=19:=by omega
    rcases this with rfl|rfl|rfl|rfl|rfl|rfl|rfl|rfl|rfl|rfl|rfl|rfl|rfl|rfl|rfl|rfl|rfl|rfl|rfl|rfl <;> first|rfl | exact absurd (hdi.symm.trans hdj) (by simp) | exact absurd ((hcl.not xq (i:=19) (j:=18) (by simp) hdi).symm.trans hdj) (by simp)) ⟨w,{ mem:=hP.mem,f17:=hP.f17 },fun h=>absurd h (by rw[ko];simp),fun _=>hpost⟩)
  ·obtain rfl:=so (show zam[19]? =some qmp from rfl) ho
   exact an (zbr a w _ _ _ _ _ _ _ ((hD 18 (by simp)).2 rfl)) (hK N _ _ (fun _=>rfl) (fun _ _ _ _=>rfl) hH)
 ·intro N d w hd hH
  obtain⟨w1,hP,h1,h2⟩:=hH
  exact hQ N.1 N.2 w (h2 (hd 18 (by omega)))
theorem zlb (a:Act) (w:World) (d t0:Nat) (u:TypeId) (ps:String) (ed:Array Edge) (gd:Option (Nat × Bool)) (z0:Value) (h0:a.eval (.tmp t0)=z0) :
  (execOp a.eval { dst:=some d,op:=Op.call { callee:=Callee.value (Operand.func 12),args:=#[Operand.tmp t0],argTypes:=#[23] },type:=u,pos:=ps,after:=ed,guard:=gd }).run prog w=.ok (.enter 12 #[z0]) w:=by
 unfold execOp
 go_simp
 rw[← h0]
 simp[Act.eval]
theorem qqe (a:Act) (w:World) (d t0 t1 t2:Nat) (u:TypeId) (ps:String) (ed:Array Edge) (gd:Option (Nat × Bool)) (q0:Option Addr) (q1:Option Addr) (q2:Option Addr) (h0:a.eval (.tmp t0)=.pointer q0) (h1:a.eval (.tmp t1)=.pointer q1) (h2:a.eval (.tmp t2)=.pointer q2) :
  (execOp a.eval { dst:=some d,op:=Op.build 47 #[(0,Operand.tmp t0),(1,Operand.tmp t1),(2,Operand.tmp t2)],type:=u,pos:=ps,after:=ed,guard:=gd }).run prog w=.ok (.value (.agg #[.pointer q0,.pointer q1,.pointer q2])) w:=by
 unfold execOp
 simp only[List.map_toArray,List.map_cons,List.map_nil,h0,h1,h2]
 go_simp
theorem qqd (a:Act) (w:World) (d t:Nat) (u:TypeId) (ps:String) (ed:Array Edge) (gd:Option (Nat × Bool)) (q0:Option Addr) (q1:Option Addr) (q2:Option Addr) (h1:a.eval (.tmp t)=.agg #[.pointer q0,.pointer q1,.pointer q2]) :
  (execOp a.eval { dst:=some d,op:=Op.buildSlice 43 1 #[(0,Operand.tmp t)],type:=u,pos:=ps,after:=ed,guard:=gd }).run prog w=.ok (.value (.slice (some ⟨w.heap.size,0,none⟩) 1 1)) (w.alloc (.cells #[.pointer q0,.pointer q1,.pointer q2] 47)):=by
 unfold execOp
 simp only[List.map_toArray,List.map_cons,List.map_nil,h1]
 go_simp
theorem qqc (a:Act) (w:World) (d t1 t2:Nat) (ps:String) (ed:Array Edge) (gd:Option (Nat × Bool)) (v0 v1 v':Value) (w':World) (h1:a.eval (.tmp t1)=v0) (h2:a.eval (.tmp t2)=v1) (hr:(Builtin.append_ #[43,43] 43 #[v0,v1]).run prog w=.ok v' w') :
  (execOp a.eval { dst:=some d,op:=Op.call { callee:=Callee.builtin Builtin.append,args:=#[Operand.tmp t1,Operand.tmp t2],argTypes:=#[43,43] },type := 43,pos:=ps,after:=ed,guard:=gd }).run prog w=.ok (.value v') w':=by
 unfold execOp
 simp only[resolve,invoke,builtin,Sem.run_bind,Sem.run_pure,Result.andThen_ok,List.map_toArray,List.map_cons,List.map_nil,h1,h2,hr]
def qtb:Oper:=⟨some 65,.move (.tmp 15),43, "law.go:915",#[],none⟩
def qta:Oper:=⟨some 66,.move (.tmp 0),41, "law.go:915",#[],none⟩
def qsz:Oper:=⟨some 67,.move (.tmp 16),3, "law.go:915",#[],none⟩
def qsy:Oper:=⟨some 68,.indexAddr 41 (.tmp 66) (.tmp 67),0, "law.go:915",#[⟨1,.data⟩,⟨2,.data⟩],none⟩
def qsx:Oper:=⟨some 69,.load 23 (.tmp 68),23, "law.go:915",#[⟨3,.data⟩],none⟩
def qsw:Oper:=⟨some 70,.call { callee:=.value (.func 12),args:=#[.tmp 69],argTypes:=#[23] },37, "law.go:915",#[⟨4,.data⟩],none⟩
def qsv:Oper:=⟨some 71,.move (.tmp 1),41, "law.go:915",#[],none⟩
def qsu:Oper:=⟨some 72,.move (.tmp 16),3, "law.go:915",#[],none⟩
def qst:Oper:=⟨some 73,.indexAddr 41 (.tmp 71) (.tmp 72),0, "law.go:915",#[⟨6,.data⟩,⟨7,.data⟩],none⟩
def qss:Oper:=⟨some 74,.load 23 (.tmp 73),23, "law.go:915",#[⟨8,.data⟩],none⟩
def qmo:Oper:=⟨some 75,.call { callee:=.value (.func 12),args:=#[.tmp 74],argTypes:=#[23] },37, "law.go:915",#[⟨9,.data⟩,⟨5,.chain⟩],none⟩
def qmn:Oper:=⟨some 76,.move (.tmp 2),41, "law.go:915",#[],none⟩
def qmm:Oper:=⟨some 77,.move (.tmp 16),3, "law.go:915",#[],none⟩
def qml:Oper:=⟨some 78,.indexAddr 41 (.tmp 76) (.tmp 77),0, "law.go:915",#[⟨11,.data⟩,⟨12,.data⟩],none⟩
def qmk:Oper:=⟨some 79,.load 23 (.tmp 78),23, "law.go:915",#[⟨13,.data⟩],none⟩
def qmj:Oper:=⟨some 80,.call { callee:=.value (.func 12),args:=#[.tmp 79],argTypes:=#[23] },37, "law.go:915",#[⟨14,.data⟩,⟨10,.chain⟩],none⟩
def qmi:Oper:=⟨some 81,.build 47 #[(0,.tmp 70),(1,.tmp 75),(2,.tmp 80)],47, "law.go:915",#[⟨5,.data⟩,⟨10,.data⟩,⟨15,.data⟩],none⟩
def qmh:Oper:=⟨some 82,.buildSlice 43 1 #[(0,.tmp 81)],43, "law.go:915",#[⟨16,.data⟩],none⟩
def qmg:Oper:=⟨some 83,.call { callee:=.builtin .append,args:=#[.tmp 65,.tmp 82],argTypes:=#[43,43] },43, "law.go:915",#[⟨0,.data⟩,⟨17,.data⟩,⟨15,.chain⟩],none⟩
def qmf:Oper:=⟨some 15,.assign (.tmp 83),43, "law.go:915",#[⟨18,.data⟩,⟨18,.chain⟩,⟨0,.phase⟩,⟨1,.phase⟩,⟨2,.phase⟩,⟨3,.phase⟩,⟨4,.phase⟩,⟨5,.phase⟩,⟨6,.phase⟩,⟨7,.phase⟩,⟨8,.phase⟩,⟨9,.phase⟩,⟨10,.phase⟩,⟨11,.phase⟩,⟨12,.phase⟩,⟨13,.phase⟩,⟨14,.phase⟩,⟨15,.phase⟩,⟨16,.phase⟩,⟨17,.phase⟩,⟨18,.phase⟩],none⟩
def zal:Array Oper:=#[qtb,qta,qsz,qsy,qsx,qsw,qsv,qsu,qst,qss,qmo,qmn,qmm,qml,qmk,qmj,qmi,qmh,qmg,qmf]
structure zdu (W0:World) (vo:Value) (k:Nat) (b1:Nat) (o1:Nat) (n1:Nat) (c1:Nat) (u1:Int) (v1:Int) (b2:Nat) (o2:Nat) (n2:Nat) (c2:Nat) (u2:Int) (v2:Int) (b3:Nat) (o3:Nat) (n3:Nat) (c3:Nat) (u3:Int) (v3:Int) (r1:Rat) (r2:Rat) (r3:Rat) (x:Nat) (y:Nat) (z:Nat) (gb:Nat × Nat × Nat × Nat) (av:Value) (b5:Bool) (b10:Bool) (b15:Bool) (b17:Bool) (w:World):Prop where
 mem:But [] W0 w
 f5:b5=true→za w x r1
 f10:b10=true→za w y r2
 f15:b15=true→za w z r3
 f17:b17=true→zjy W0.heap.size r1 r2 r3 w gb
theorem zdu.but {W0:World} {vo:Value} {k:Nat} {b1:Nat} {o1:Nat} {n1:Nat} {c1:Nat} {u1:Int} {v1:Int} {b2:Nat} {o2:Nat} {n2:Nat} {c2:Nat} {u2:Int} {v2:Int} {b3:Nat} {o3:Nat} {n3:Nat} {c3:Nat} {u3:Int} {v3:Int} {r1:Rat} {r2:Rat} {r3:Rat} {x:Nat} {y:Nat} {z:Nat} {gb:Nat × Nat × Nat × Nat} {av:Value} {b5 b10 b15 b17:Bool} {w w':World} (h:zdu W0 vo k b1 o1 n1 c1 u1 v1 b2 o2 n2 c2 u2 v2 b3 o3 n3 c3 u3 v3 r1 r2 r3 x y z gb av b5 b10 b15 b17 w) (hb:But [] w w'):zdu W0 vo k b1 o1 n1 c1 u1 v1 b2 o2 n2 c2 u2 v2 b3 o3 n3 c3 u3 v3 r1 r2 r3 x y z gb av b5 b10 b15 b17 w' :=
 { mem:=h.mem.trans' hb,f5:=fun e=>(h.f5 e).but hb,f10:=fun e=>(h.f10 e).but hb,f15:=fun e=>(h.f15 e).but hb,f17:=fun e=>(h.f17 e).but hb }
theorem zdu.s5 {W0:World} {vo:Value} {k:Nat} {b1:Nat} {o1:Nat} {n1:Nat} {c1:Nat} {u1:Int} {v1:Int} {b2:Nat} {o2:Nat} {n2:Nat} {c2:Nat} {u2:Int} {v2:Int} {b3:Nat} {o3:Nat} {n3:Nat} {c3:Nat} {u3:Int} {v3:Int} {r1:Rat} {r2:Rat} {r3:Rat} {x:Nat} {y:Nat} {z:Nat} {gb:Nat × Nat × Nat × Nat} {av:Value} {b5 b10 b15 b17:Bool} {w:World} (h:zdu W0 vo k b1 o1 n1 c1 u1 v1 b2 o2 n2 c2 u2 v2 b3 o3 n3 c3 u3 v3 r1 r2 r3 x y z gb av b5 b10 b15 b17 w) (x':Nat) (hf:za w x' r1):zdu W0 vo k b1 o1 n1 c1 u1 v1 b2 o2 n2 c2 u2 v2 b3 o3 n3 c3 u3 v3 r1 r2 r3 x' y z gb av true b10 b15 b17 w :=
 { mem:=h.mem,f5:=fun _=>hf,f10:=h.f10,f15:=h.f15,f17:=h.f17 }
theorem zdu.s10 {W0:World} {vo:Value} {k:Nat} {b1:Nat} {o1:Nat} {n1:Nat} {c1:Nat} {u1:Int} {v1:Int} {b2:Nat} {o2:Nat} {n2:Nat} {c2:Nat} {u2:Int} {v2:Int} {b3:Nat} {o3:Nat} {n3:Nat} {c3:Nat} {u3:Int} {v3:Int} {r1:Rat} {r2:Rat} {r3:Rat} {x:Nat} {y:Nat} {z:Nat} {gb:Nat × Nat × Nat × Nat} {av:Value} {b5 b10 b15 b17:Bool} {w:World} (h:zdu W0 vo k b1 o1 n1 c1 u1 v1 b2 o2 n2 c2 u2 v2 b3 o3 n3 c3 u3 v3 r1 r2 r3 x y z gb av b5 b10 b15 b17 w) (y':Nat) (hf:za w y' r2):zdu W0 vo k b1 o1 n1 c1 u1 v1 b2 o2 n2 c2 u2 v2 b3 o3 n3 c3 u3 v3 r1 r2 r3 x y' z gb av b5 true b15 b17 w :=
 { mem:=h.mem,f5:=h.f5,f10:=fun _=>hf,f15:=h.f15,f17:=h.f17 }
theorem zdu.s15 {W0:World} {vo:Value} {k:Nat} {b1:Nat} {o1:Nat} {n1:Nat} {c1:Nat} {u1:Int} {v1:Int} {b2:Nat} {o2:Nat} {n2:Nat} {c2:Nat} {u2:Int} {v2:Int} {b3:Nat} {o3:Nat} {n3:Nat} {c3:Nat} {u3:Int} {v3:Int} {r1:Rat} {r2:Rat} {r3:Rat} {x:Nat} {y:Nat} {z:Nat} {gb:Nat × Nat × Nat × Nat} {av:Value} {b5 b10 b15 b17:Bool} {w:World} (h:zdu W0 vo k b1 o1 n1 c1 u1 v1 b2 o2 n2 c2 u2 v2 b3 o3 n3 c3 u3 v3 r1 r2 r3 x y z gb av b5 b10 b15 b17 w) (z':Nat) (hf:za w z' r3):zdu W0 vo k b1 o1 n1 c1 u1 v1 b2 o2 n2 c2 u2 v2 b3 o3 n3 c3 u3 v3 r1 r2 r3 x y z' gb av b5 b10 true b17 w :=
 { mem:=h.mem,f5:=h.f5,f10:=h.f10,f15:=fun _=>hf,f17:=h.f17 }
theorem zdu.s17 {W0:World} {vo:Value} {k:Nat} {b1:Nat} {o1:Nat} {n1:Nat} {c1:Nat} {u1:Int} {v1:Int} {b2:Nat} {o2:Nat} {n2:Nat} {c2:Nat} {u2:Int} {v2:Int} {b3:Nat} {o3:Nat} {n3:Nat} {c3:Nat} {u3:Int} {v3:Int} {r1:Rat} {r2:Rat} {r3:Rat} {x:Nat} {y:Nat} {z:Nat} {gb:Nat × Nat × Nat × Nat} {av:Value} {b5 b10 b15 b17:Bool} {w:World} (h:zdu W0 vo k b1 o1 n1 c1 u1 v1 b2 o2 n2 c2 u2 v2 b3 o3 n3 c3 u3 v3 r1 r2 r3 x y z gb av b5 b10 b15 b17 w) (gb':Nat × Nat × Nat × Nat) (hf:zjy W0.heap.size r1 r2 r3 w gb'):zdu W0 vo k b1 o1 n1 c1 u1 v1 b2 o2 n2 c2 u2 v2 b3 o3 n3 c3 u3 v3 r1 r2 r3 x y z gb' av b5 b10 b15 true w :=
 { mem:=h.mem,f5:=h.f5,f10:=h.f10,f15:=h.f15,f17:=fun _=>hf }
def zgg (i:Nat):Nat:=match i with
 | 0=>65
 | 1=>66
 | 2=>67
 | 3=>68
 | 4=>69
 | 5=>70
 | 6=>71
 | 7=>72
 | 8=>73
 | 9=>74
 | 10=>75
 | 11=>76
 | 12=>77
 | 13=>78
 | 14=>79
 | 15=>80
 | 16=>81
 | 17=>82
 | 18=>83
 | _=>15
def zrg (i:Nat):Bool:=match i with
 | _=>true
def qsr (vo:Value) (k:Nat) (b1:Nat) (o1:Nat) (n1:Nat) (c1:Nat) (u1:Int) (v1:Int) (b2:Nat) (o2:Nat) (n2:Nat) (c2:Nat) (u2:Int) (v2:Int) (b3:Nat) (o3:Nat) (n3:Nat) (c3:Nat) (u3:Int) (v3:Int) (r1:Rat) (r2:Rat) (r3:Rat) (x:Nat) (y:Nat) (z:Nat) (gb:Nat × Nat × Nat × Nat) (av:Value) (i:Nat):Value:=match i with
 | 0=>vo
 | 1=>.slice (some ⟨b1,o1,none⟩) n1 c1
 | 2=>.int .i64 (k:Int)
 | 3=>.pointer (some ⟨b1,o1+k*2,none⟩)
 | 4=>.agg #[.int .i64 u1,.int .i64 v1]
 | 5=>.pointer (some ⟨x,0,none⟩)
 | 6=>.slice (some ⟨b2,o2,none⟩) n2 c2
 | 7=>.int .i64 (k:Int)
 | 8=>.pointer (some ⟨b2,o2+k*2,none⟩)
 | 9=>.agg #[.int .i64 u2,.int .i64 v2]
 | 10=>.pointer (some ⟨y,0,none⟩)
 | 11=>.slice (some ⟨b3,o3,none⟩) n3 c3
 | 12=>.int .i64 (k:Int)
 | 13=>.pointer (some ⟨b3,o3+k*2,none⟩)
 | 14=>.agg #[.int .i64 u3,.int .i64 v3]
 | 15=>.pointer (some ⟨z,0,none⟩)
 | 16=>.agg #[.pointer (some ⟨x,0,none⟩),.pointer (some ⟨y,0,none⟩),.pointer (some ⟨z,0,none⟩)]
 | 17=>.slice (some ⟨gb.1,0,none⟩) 1 1
 | 18=>av
 | _=>av
theorem ja:zab zal [(3,1),(3,2),(4,3),(5,4),(8,6),(8,7),(9,8),(10,5),(10,9),(13,11),(13,12),(14,13),(15,10),(15,14),(16,5),(16,10),(16,15),(17,16),(18,0),(18,15),(18,17),(19,0),(19,1),(19,2),(19,3),(19,4),(19,5),(19,6),(19,7),(19,8),(19,9),(19,10),(19,11),(19,12),(19,13),(19,14),(19,15),(19,16),(19,17),(19,18)]=true:=by kernel_rfl
theorem qha:∀ i j,i<20→j<20→zrg i=true→zrg j=true→zgg i=zgg j→i=j:=fun i j hi hj=>(by decide:∀ i,i<20→∀ j,j<20→zrg i=true→zrg j=true→zgg i=zgg j→i=j) i hi j hj
theorem zrt (id:Nat) (Q:Exit→Act→World→Prop) (base:Act) (W0:World) (vo:Value) (k:Nat) (b1:Nat) (o1:Nat) (n1:Nat) (c1:Nat) (u1:Int) (v1:Int) (b2:Nat) (o2:Nat) (n2:Nat) (c2:Nat) (u2:Int) (v2:Int) (b3:Nat) (o3:Nat) (n3:Nat) (c3:Nat) (u3:Int) (v3:Int) (r1:Rat) (r2:Rat) (r3:Rat) (Post:Value→World→Prop) (hs:83<base.tmps.size) (e15:base.eval (.tmp 15)=vo) (e0:base.eval (.tmp 0)=.slice (some ⟨b1,o1,none⟩) n1 c1) (e1:base.eval (.tmp 1)=.slice (some ⟨b2,o2,none⟩) n2 c2) (e2:base.eval (.tmp 2)=.slice (some ⟨b3,o3,none⟩) n3 c3) (e16:base.eval (.tmp 16)=.int .i64 (k:Int))
  (hk1:k<n1) (ca1:W0.cell? ⟨b1,o1+k*2,none⟩=some (.int .i64 u1)) (cb1:W0.cell? ⟨b1,o1+k*2+1,none⟩=some (.int .i64 v1)) (hk2:k<n2) (ca2:W0.cell? ⟨b2,o2+k*2,none⟩=some (.int .i64 u2)) (cb2:W0.cell? ⟨b2,o2+k*2+1,none⟩=some (.int .i64 v2)) (hk3:k<n3) (ca3:W0.cell? ⟨b3,o3+k*2,none⟩=some (.int .i64 u3)) (cb3:W0.cell? ⟨b3,o3+k*2+1,none⟩=some (.int .i64 v3)) (RO1:∀ w,Calls prog 12 #[.agg #[.int .i64 u1,.int .i64 v1]] w fun e w'=>∃ b,e=.returned (.pointer (some ⟨b,0,none⟩))∧za w' b r1∧But [] w w') (RO2:∀ w,Calls prog 12 #[.agg #[.int .i64 u2,.int .i64 v2]] w fun e w'=>∃ b,e=.returned (.pointer (some ⟨b,0,none⟩))∧za w' b r2∧But [] w w') (RO3:∀ w,Calls prog 12 #[.agg #[.int .i64 u3,.int .i64 v3]] w fun e w'=>∃ b,e=.returned (.pointer (some ⟨b,0,none⟩))∧za w' b r3∧But [] w w') (AP:∀ w t,But [] W0 w→zjy W0.heap.size r1 r2 r3 w t→∃ v' w',(Builtin.append_ #[43,43] 43 #[vo,.slice (some ⟨t.1,0,none⟩) 1 1]).run prog w=.ok v' w'∧Post v' w')
  (hQ:∀ (x:Nat) (y:Nat) (z:Nat) (gb:Nat × Nat × Nat × Nat) (av:Value) w1,Post av w1→Q .normal (bk base [(65,vo),(66,.slice (some ⟨b1,o1,none⟩) n1 c1),(67,.int .i64 (k:Int)),(68,.pointer (some ⟨b1,o1+k*2,none⟩)),(69,.agg #[.int .i64 u1,.int .i64 v1]),(70,.pointer (some ⟨x,0,none⟩)),(71,.slice (some ⟨b2,o2,none⟩) n2 c2),(72,.int .i64 (k:Int)),(73,.pointer (some ⟨b2,o2+k*2,none⟩)),(74,.agg #[.int .i64 u2,.int .i64 v2]),(75,.pointer (some ⟨y,0,none⟩)),(76,.slice (some ⟨b3,o3,none⟩) n3 c3),(77,.int .i64 (k:Int)),(78,.pointer (some ⟨b3,o3+k*2,none⟩)),(79,.agg #[.int .i64 u3,.int .i64 v3]),(80,.pointer (some ⟨z,0,none⟩)),(81,.agg #[.pointer (some ⟨x,0,none⟩),.pointer (some ⟨y,0,none⟩),.pointer (some ⟨z,0,none⟩)]),(82,.slice (some ⟨gb.1,0,none⟩) 1 1),(83,av),(15,av)]) w1) :
  (Code.region id zal true).wp prog Q base W0:=by
 have hT:∀ i,i<20→zrg i=true→zgg i<base.tmps.size:=fun i hi _=>by
  have h:zgg i≤83:=by revert i;decide
  omega
 refine zay (by kernel_rfl) (xu (by kernel_rfl)) (zaw (by kernel_rfl)) (fun (N:(Nat) × (Nat) × (Nat) × (Nat × Nat × Nat × Nat) × (Value)) d w=>∃ w1,zdu W0 vo k b1 o1 n1 c1 u1 v1 b2 o2 n2 c2 u2 v2 b3 o3 n3 c3 u3 v3 r1 r2 r3 N.1 N.2.1 N.2.2.1 N.2.2.2.1 N.2.2.2.2 (d 5) (d 10) (d 15) (d 17) w1∧(d 18=false→w=w1)∧(d 18=true→Post N.2.2.2.2 w)) (fun N=>qsr vo k b1 o1 n1 c1 u1 v1 b2 o2 n2 c2 u2 v2 b3 o3 n3 c3 u3 v3 r1 r2 r3 N.1 N.2.1 N.2.2.1 N.2.2.2.1 N.2.2.2.2) zgg zrg 20 (by kernel_rfl) qha hT (0,0,0,(0,0,0,0),undef) ⟨_,{ mem:=(But.refl _ _).drew,f5:=fun h=>by simp at h,f10:=fun h=>by simp at h,f15:=fun h=>by simp at h,f17:=fun h=>by simp at h },fun _=>rfl,fun h=>by simp at h⟩ ?_ ?_
 ·intro N d i o a w K hi ho hdi hcl hH he hdep hK
  have hD:=zco ja ho (fun j=>d j=true∧(zrg j=true→a.eval (.tmp (zgg j))=qsr vo k b1 o1 n1 c1 u1 v1 b2 o2 n2 c2 u2 v2 b3 o3 n3 c3 u3 v3 r1 r2 r3 N.1 N.2.1 N.2.2.1 N.2.2.2.1 N.2.2.2.2 j)) hdep
  have e0':=(he 0 (fun j hj _ _=>(by decide:∀ j,j<20→(0:Nat)≠zgg j) j hj)).trans e0
  have e1':=(he 1 (fun j hj _ _=>(by decide:∀ j,j<20→(1:Nat)≠zgg j) j hj)).trans e1
  have e2':=(he 2 (fun j hj _ _=>(by decide:∀ j,j<20→(2:Nat)≠zgg j) j hj)).trans e2
  have e16':=(he 16 (fun j hj _ _=>(by decide:∀ j,j<20→(16:Nat)≠zgg j) j hj)).trans e16
  have:i=0∨i=1∨i=2∨i=3∨i=4∨i=5∨i=6∨i=7∨i=8∨i=9∨i=10∨i=11∨i=12∨i=13∨i=14∨i=15∨i=16∨i=17∨i=18∨i=19:=by omega
  rcases this with rfl|rfl|rfl|rfl|rfl|rfl|rfl|rfl|rfl|rfl|rfl|rfl|rfl|rfl|rfl|rfl|rfl|rfl|rfl|rfl
  ·obtain rfl:=so (show zal[0]? =some qtb from rfl) ho
   have e15':=(he 15 (fun j hj _ hdj e=>by
    by_cases hj2:j=19
    ·subst hj2;exact absurd ((hcl.not ja (i:=19) (j:=0) (by simp) hdi).symm.trans hdj) (by simp)
    ·exact absurd e ((by decide:∀ j,j<20→j≠19→(15:Nat)≠zgg j) j hj hj2))).trans e15
   exact an (bz a w _ _ _ _ _ _ _ e15') (hK N _ _ (fun _=>rfl) (fun _ _ _ _=>rfl) hH)
  ·obtain rfl:=so (show zal[1]? =some qta from rfl) ho
   exact an (bz a w _ _ _ _ _ _ _ e0') (hK N _ _ (fun _=>rfl) (fun _ _ _ _=>rfl) hH)
  ·obtain rfl:=so (show zal[2]? =some qsz from rfl) ho
   exact an (bz a w _ _ _ _ _ _ _ e16') (hK N _ _ (fun _=>rfl) (fun _ _ _ _=>rfl) hH)
  ·obtain rfl:=so (show zal[3]? =some qsy from rfl) ho
   exact an (zjj a w _ _ _ _ _ _ _ b1 (o1) (n1) (c1) (k) (o1+k*2) (by omega) hk1 ((hD 1 (by simp)).2 rfl) ((hD 2 (by simp)).2 rfl)) (hK N _ _ (fun _=>rfl) (fun _ _ _ _=>rfl) hH)
  ·obtain rfl:=so (show zal[4]? =some qsx from rfl) ho
   have hs0:d 18=false:=(hcl.not ja (i:=18) (j:=15) (by simp) (hcl.not ja (i:=15) (j:=10) (by simp) (hcl.not ja (i:=10) (j:=5) (by simp) (hcl.not ja (i:=5) (j:=4) (by simp) hdi))))
   obtain⟨w1,hP,h1,h2⟩:=hH
   obtain rfl:=h1 hs0
   have hW:=hP.mem
   exact an (zcq a w _ _ _ _ _ _ b1 (o1+k*2) _ _ ((hD 3 (by simp)).2 rfl) (hW.ag ca1 (by simp)) (hW.ag cb1 (by simp))) (hK N _ _ (fun _=>rfl) (fun _ _ _ _=>rfl) ⟨_,hP,h1,h2⟩)
  ·obtain rfl:=so (show zal[5]? =some qsw from rfl) ho
   have hs0:d 18=false:=(hcl.not ja (i:=18) (j:=15) (by simp) (hcl.not ja (i:=15) (j:=10) (by simp) (hcl.not ja (i:=10) (j:=5) (by simp) hdi)))
   obtain⟨w1,hP,h1,h2⟩:=hH
   obtain rfl:=h1 hs0
   have hW:=hP.mem
   exact az (zlb a w _ _ _ _ _ _ _ ((hD 4 (by simp)).2 rfl)) (R:=fun w' u=>∃ v,u=.pointer (some ⟨v,0,none⟩)∧(za w' v r1)∧But [] w w') ((RO1 w).mono fun e w' ⟨v,he,hf,hb⟩=>⟨_,he,v,rfl,hf,hb⟩) (fun u w' ⟨v,hu,hf,hb⟩=>hK (v,N.2.1,N.2.2.1,N.2.2.2.1,N.2.2.2.2) _ _ (fun _=>hu) (fun j hj _ hdj=>by
    have:j=0∨j=1∨j=2∨j=3∨j=4∨j=5∨j=6∨j=7∨j=8∨j=9∨j=10∨j=11∨j=12∨j=13∨j=14∨j=15∨j=16∨j=17∨j=18∨j=19:=by omega
    rcases this with rfl|rfl|rfl|rfl|rfl|rfl|rfl|rfl|rfl|rfl|rfl|rfl|rfl|rfl|rfl|rfl|rfl|rfl|rfl|rfl <;> first|rfl | exact absurd (hdi.symm.trans hdj) (by simp) | exact absurd ((hcl.not ja (i:=16) (j:=5) (by simp) hdi).symm.trans hdj) (by simp)) ⟨_,((hP.but hb).s5 v hf),fun _=>rfl,fun h=>absurd (hs0.symm.trans h) (by simp)⟩)
  ·obtain rfl:=so (show zal[6]? =some qsv from rfl) ho
   exact an (bz a w _ _ _ _ _ _ _ e1') (hK N _ _ (fun _=>rfl) (fun _ _ _ _=>rfl) hH)
  ·obtain rfl:=so (show zal[7]? =some qsu from rfl) ho
   exact an (bz a w _ _ _ _ _ _ _ e16') (hK N _ _ (fun _=>rfl) (fun _ _ _ _=>rfl) hH)
  ·obtain rfl:=so (show zal[8]? =some qst from rfl) ho
   exact an (zjj a w _ _ _ _ _ _ _ b2 (o2) (n2) (c2) (k) (o2+k*2) (by omega) hk2 ((hD 6 (by simp)).2 rfl) ((hD 7 (by simp)).2 rfl)) (hK N _ _ (fun _=>rfl) (fun _ _ _ _=>rfl) hH)
  ·obtain rfl:=so (show zal[9]? =some qss from rfl) ho
   have hs0:d 18=false:=(hcl.not ja (i:=18) (j:=15) (by simp) (hcl.not ja (i:=15) (j:=10) (by simp) (hcl.not ja (i:=10) (j:=9) (by simp) hdi)))
   obtain⟨w1,hP,h1,h2⟩:=hH
   obtain rfl:=h1 hs0
   have hW:=hP.mem
   exact an (zcq a w _ _ _ _ _ _ b2 (o2+k*2) _ _ ((hD 8 (by simp)).2 rfl) (hW.ag ca2 (by simp)) (hW.ag cb2 (by simp))) (hK N _ _ (fun _=>rfl) (fun _ _ _ _=>rfl) ⟨_,hP,h1,h2⟩)
  ·obtain rfl:=so (show zal[10]? =some qmo from rfl) ho
   have hs0:d 18=false:=(hcl.not ja (i:=18) (j:=15) (by simp) (hcl.not ja (i:=15) (j:=10) (by simp) hdi))
   obtain⟨w1,hP,h1,h2⟩:=hH
   obtain rfl:=h1 hs0
   have hW:=hP.mem
   exact az (zlb a w _ _ _ _ _ _ _ ((hD 9 (by simp)).2 rfl)) (R:=fun w' u=>∃ v,u=.pointer (some ⟨v,0,none⟩)∧(za w' v r2)∧But [] w w') ((RO2 w).mono fun e w' ⟨v,he,hf,hb⟩=>⟨_,he,v,rfl,hf,hb⟩) (fun u w' ⟨v,hu,hf,hb⟩=>hK (N.1,v,N.2.2.1,N.2.2.2.1,N.2.2.2.2) _ _ (fun _=>hu) (fun j hj _ hdj=>by
    have:j=0∨j=1∨j=2∨j=3∨j=4∨j=5∨j=6∨j=7∨j=8∨j=9∨j=10∨j=11∨j=12∨j=13∨j=14∨j=15∨j=16∨j=17∨j=18∨j=19:=by omega
    rcases this with rfl|rfl|rfl|rfl|rfl|rfl|rfl|rfl|rfl|rfl|rfl|rfl|rfl|rfl|rfl|rfl|rfl|rfl|rfl|rfl <;> first|rfl | exact absurd (hdi.symm.trans hdj) (by simp) | exact absurd ((hcl.not ja (i:=16) (j:=10) (by simp) hdi).symm.trans hdj) (by simp)) ⟨_,((hP.but hb).s10 v hf),fun _=>rfl,fun h=>absurd (hs0.symm.trans h) (by simp)⟩)
  ·obtain rfl:=so (show zal[11]? =some qmn from rfl) ho
   exact an (bz a w _ _ _ _ _ _ _ e2') (hK N _ _ (fun _=>rfl) (fun _ _ _ _=>rfl) hH)
  ·obtain rfl:=so (show zal[12]? =some qmm from rfl) ho
   exact an (bz a w _ _ _ _ _ _ _ e16') (hK N _ _ (fun _=>rfl) (fun _ _ _ _=>rfl) hH)
  ·obtain rfl:=so (show zal[13]? =some qml from rfl) ho
   exact an (zjj a w _ _ _ _ _ _ _ b3 (o3) (n3) (c3) (k) (o3+k*2) (by omega) hk3 ((hD 11 (by simp)).2 rfl) ((hD 12 (by simp)).2 rfl)) (hK N _ _ (fun _=>rfl) (fun _ _ _ _=>rfl) hH)
  ·obtain rfl:=so (show zal[14]? =some qmk from rfl) ho
   have hs0:d 18=false:=(hcl.not ja (i:=18) (j:=15) (by simp) (hcl.not ja (i:=15) (j:=14) (by simp) hdi))
   obtain⟨w1,hP,h1,h2⟩:=hH
   obtain rfl:=h1 hs0
   have hW:=hP.mem
   exact an (zcq a w _ _ _ _ _ _ b3 (o3+k*2) _ _ ((hD 13 (by simp)).2 rfl) (hW.ag ca3 (by simp)) (hW.ag cb3 (by simp))) (hK N _ _ (fun _=>rfl) (fun _ _ _ _=>rfl) ⟨_,hP,h1,h2⟩)
  ·obtain rfl:=so (show zal[15]? =some qmj from rfl) ho
   have hs0:d 18=false:=(hcl.not ja (i:=18) (j:=15) (by simp) hdi)
   obtain⟨w1,hP,h1,h2⟩:=hH
   obtain rfl:=h1 hs0
   have hW:=hP.mem
   exact az (zlb a w _ _ _ _ _ _ _ ((hD 14 (by simp)).2 rfl)) (R:=fun w' u=>∃ v,u=.pointer (some ⟨v,0,none⟩)∧(za w' v r3)∧But [] w w') ((RO3 w).mono fun e w' ⟨v,he,hf,hb⟩=>⟨_,he,v,rfl,hf,hb⟩) (fun u w' ⟨v,hu,hf,hb⟩=>hK (N.1,N.2.1,v,N.2.2.2.1,N.2.2.2.2) _ _ (fun _=>hu) (fun j hj _ hdj=>by
    have:j=0∨j=1∨j=2∨j=3∨j=4∨j=5∨j=6∨j=7∨j=8∨j=9∨j=10∨j=11∨j=12∨j=13∨j=14∨j=15∨j=16∨j=17∨j=18∨j=19:=by omega
    rcases this with rfl|rfl|rfl|rfl|rfl|rfl|rfl|rfl|rfl|rfl|rfl|rfl|rfl|rfl|rfl|rfl|rfl|rfl|rfl|rfl <;> first|rfl | exact absurd (hdi.symm.trans hdj) (by simp) | exact absurd ((hcl.not ja (i:=16) (j:=15) (by simp) hdi).symm.trans hdj) (by simp)) ⟨_,((hP.but hb).s15 v hf),fun _=>rfl,fun h=>absurd (hs0.symm.trans h) (by simp)⟩)
  ·obtain rfl:=so (show zal[16]? =some qmi from rfl) ho
   exact an (qqe a w _ _ _ _ _ _ _ _ _ _ _ ((hD 5 (by simp)).2 rfl) ((hD 10 (by simp)).2 rfl) ((hD 15 (by simp)).2 rfl)) (hK N _ _ (fun _=>rfl) (fun _ _ _ _=>rfl) hH)
  ·obtain rfl:=so (show zal[17]? =some qmh from rfl) ho
   have hs0:d 18=false:=(hcl.not ja (i:=18) (j:=17) (by simp) hdi)
   obtain⟨w1,hP,h1,h2⟩:=hH
   obtain rfl:=h1 hs0
   have hW:=hP.mem
   have t5:d 5=true:=(hcl.dep ja (i:=16) (j:=5) (by simp) (hD 16 (by simp)).1)
   have t10:d 10=true:=(hcl.dep ja (i:=16) (j:=10) (by simp) (hD 16 (by simp)).1)
   have t15:d 15=true:=(hcl.dep ja (i:=16) (j:=15) (by simp) (hD 16 (by simp)).1)
   have bA:But [] w (w.alloc (.cells #[.pointer (some ⟨N.1,0,none⟩),.pointer (some ⟨N.2.1,0,none⟩),.pointer (some ⟨N.2.2.1,0,none⟩)] 47)):=(But.refl _ _).alloc _
   have hsz:=hW.size
   exact an (qqd a w _ _ _ _ _ _ _ _ _ ((hD 16 (by simp)).2 rfl)) (hK (N.1,N.2.1,N.2.2.1,(w.heap.size,N.1,N.2.1,N.2.2.1),N.2.2.2.2) _ _ (fun _=>rfl) (fun j hj _ hdj=>by
    have:j=0∨j=1∨j=2∨j=3∨j=4∨j=5∨j=6∨j=7∨j=8∨j=9∨j=10∨j=11∨j=12∨j=13∨j=14∨j=15∨j=16∨j=17∨j=18∨j=19:=by omega
    rcases this with rfl|rfl|rfl|rfl|rfl|rfl|rfl|rfl|rfl|rfl|rfl|rfl|rfl|rfl|rfl|rfl|rfl|rfl|rfl|rfl <;> first|rfl | exact absurd (hdi.symm.trans hdj) (by simp)) ⟨_,((hP.but bA).s17 (w.heap.size,N.1,N.2.1,N.2.2.1) (zjy.made (hP.f5 t5) (hP.f10 t10) (hP.f15 t15) hsz _)),fun _=>rfl,fun h=>absurd (hs0.symm.trans h) (by simp)⟩)
  ·obtain rfl:=so (show zal[18]? =some qmg from rfl) ho
   obtain⟨w1,hP,h1,h2⟩:=hH
   obtain rfl:=h1 hdi
   have hW:=hP.mem
   have t5:d 5=true:=(hcl.dep ja (i:=10) (j:=5) (by simp) (hcl.dep ja (i:=15) (j:=10) (by simp) (hD 15 (by simp)).1))
   have t10:d 10=true:=(hcl.dep ja (i:=15) (j:=10) (by simp) (hD 15 (by simp)).1)
   have t15:d 15=true:=(hD 15 (by simp)).1
   have t17:d 17=true:=(hD 17 (by simp)).1
   obtain⟨v',w',hr,hpost⟩:=AP w N.2.2.2.1 hW (hP.f17 t17)
   exact an (qqc a w _ _ _ _ _ _ _ _ v' w' ((hD 0 (by simp)).2 rfl) ((hD 17 (by simp)).2 rfl) hr) (hK (N.1,N.2.1,N.2.2.1,N.2.2.2.1,v') _ _ (fun _=>rfl) (fun j hj _ hdj=>by
    have:j=0∨j=1∨j=2∨j=3∨j=4∨j=5∨j=6∨j=7∨j=8∨j=9∨j=10∨j=11∨j=12∨j=13∨j=14∨j=15∨j=16∨j=17∨j=18∨j=19:=by omega
    rcases this with rfl|rfl|rfl|rfl|rfl|rfl|rfl|rfl|rfl|rfl|rfl|rfl|rfl|rfl|rfl|rfl|rfl|rfl|rfl|rfl <;> first|rfl | exact absurd (hdi.symm.trans hdj) (by simp) | exact absurd ((hcl.not ja (i:=19) (j:=18) (by simp) hdi).symm.trans hdj) (by simp)) ⟨w,{ mem:=hP.mem,f5:=hP.f5,f10:=hP.f10,f15:=hP.f15,f17:=hP.f17 },fun h=>absurd h (by rw[ko];simp),fun _=>hpost⟩)
  ·obtain rfl:=so (show zal[19]? =some qmf from rfl) ho
   exact an (zbr a w _ _ _ _ _ _ _ ((hD 18 (by simp)).2 rfl)) (hK N _ _ (fun _=>rfl) (fun _ _ _ _=>rfl) hH)
 ·intro N d w hd hH
  obtain⟨w1,hP,h1,h2⟩:=hH
  exact hQ N.1 N.2.1 N.2.2.1 N.2.2.2.1 N.2.2.2.2 w (h2 (hd 18 (by omega)))
theorem qku (a:Act) (w:World) (d t0 t1:Nat) (u:TypeId) (ps:String) (ed:Array Edge) (gd:Option (Nat × Bool)) (s0:Bool) (x0 y0:Int) (p0:Option Addr) (s1:Bool) (x1 y1:Int) (p1:Option Addr) (h0:a.eval (.tmp t0)=.agg #[.bool s0,.int .u64 x0,.int .u64 y0,.pointer p0]) (h1:a.eval (.tmp t1)=.agg #[.bool s1,.int .u64 x1,.int .u64 y1,.pointer p1]) :
  (execOp a.eval { dst:=some d,op:=Op.build 50 #[(0,Operand.tmp t0),(1,Operand.tmp t1)],type:=u,pos:=ps,after:=ed,guard:=gd }).run prog w=.ok (.value (.agg #[.bool s0,.int .u64 x0,.int .u64 y0,.pointer p0,.bool s1,.int .u64 x1,.int .u64 y1,.pointer p1])) w:=by
 unfold execOp
 simp only[List.map_toArray,List.map_cons,List.map_nil,h0,h1]
 go_simp
theorem qkt (a:Act) (w:World) (d t0 t1 t2:Nat) (u:TypeId) (ps:String) (ed:Array Edge) (gd:Option (Nat × Bool)) (z0 z1 z2:Value) (h0:a.eval (.tmp t0)=z0) (h1:a.eval (.tmp t1)=z1) (h2:a.eval (.tmp t2)=z2) :
  (execOp a.eval { dst:=some d,op:=Op.call { callee:=Callee.value (Operand.func 15),args:=#[Operand.tmp t0,Operand.tmp t1,Operand.tmp t2],argTypes:=#[42,3,50] },type:=u,pos:=ps,after:=ed,guard:=gd }).run prog w=.ok (.enter 15 #[z0,z1,z2]) w:=by
 unfold execOp
 go_simp
 rw[← h0,← h1,← h2]
 simp[Act.eval]
theorem qks (a:Act) (w:World) (d:Nat) (u:TypeId) (ps:String) (ed:Array Edge) (gd:Option (Nat × Bool)) :
  (execOp a.eval { dst:=some d,op:=Op.alloc 27,type:=u,pos:=ps,after:=ed,guard:=gd }).run prog w=.ok (.value (.pointer (some ⟨w.heap.size,0,none⟩))) (w.alloc (.cells #[.bool false,.int .u64 0,.int .u64 0,.pointer none] 27)):=by
 unfold execOp
 go_simp
theorem qkr (a:Act) (w:World) (t1 t2:Nat) (u:TypeId) (ps:String) (ed:Array Edge) (b o:Nat) (s0:Bool) (x0 y0:Int) (p0:Option Addr) (h1:a.eval (.tmp t1)=.pointer (some ⟨b,o,none⟩)) (h2:a.eval (.tmp t2)=.agg #[.bool s0,.int .u64 x0,.int .u64 y0,.pointer p0]) (k0:∃ u,w.cell? ⟨b,o,none⟩=some u) (k1:∃ u,w.cell? ⟨b,o+1,none⟩=some u) (k2:∃ u,w.cell? ⟨b,o+2,none⟩=some u) (k3:∃ u,w.cell? ⟨b,o+3,none⟩=some u) (fz:∀ j,w.frozen? ⟨b,j,none⟩=false) :
  (execOp a.eval { dst:=none,op:=Op.store 27 (.tmp t1) (.tmp t2),type:=u,pos:=ps,after:=ed,guard:=none }).run prog w=.ok .skip (w.setCells b o [.bool s0,.int .u64 x0,.int .u64 y0,.pointer p0]):=by
 obtain⟨u0,e0⟩:=k0
 obtain⟨u1,e1⟩:=k1
 obtain⟨u2,e2⟩:=k2
 obtain⟨u3,e3⟩:=k3
 unfold execOp
 simp only[h1,h2]
 go_simp
 try rfl
def qsq:Oper:=⟨some 94,.move (.tmp 14),42, "law.go:919",#[],none⟩
def qsp:Oper:=⟨some 95,.move (.tmp 3),3, "law.go:919",#[],none⟩
def qso:Oper:=⟨some 96,.load 23 (.tmp 10),23, "law.go:919",#[],none⟩
def qsn:Oper:=⟨some 97,.call { callee:=.value (.func 7),args:=#[.tmp 96],argTypes:=#[23] },27, "law.go:919",#[⟨2,.data⟩],none⟩
def qsm:Oper:=⟨some 98,.load 23 (.tmp 11),23, "law.go:919",#[],none⟩
def qsl:Oper:=⟨some 99,.call { callee:=.value (.func 7),args:=#[.tmp 98],argTypes:=#[23] },27, "law.go:919",#[⟨4,.data⟩,⟨3,.chain⟩],none⟩
def qsk:Oper:=⟨some 100,.build 50 #[(0,.tmp 97),(1,.tmp 99)],50, "law.go:919",#[⟨3,.data⟩,⟨5,.data⟩],none⟩
def qsj:Oper:=⟨some 101,.call { callee:=.value (.func 15),args:=#[.tmp 94,.tmp 95,.tmp 100],argTypes:=#[42,3,50] },30, "law.go:919",#[⟨0,.data⟩,⟨1,.data⟩,⟨6,.data⟩,⟨5,.chain⟩],none⟩
def qsi:Oper:=⟨some 93,.move (.tmp 101),30, "law.go:919",#[⟨7,.data⟩],none⟩
def qsh:Oper:=⟨some 102,.extract (.tmp 93) 0,27, "law.go:919",#[⟨8,.data⟩],none⟩
def qme:Oper:=⟨some 103,.extract (.tmp 93) 1,29, "law.go:919",#[⟨8,.data⟩,{ on:=12,ground:=.gcOnly Departure.lateStores }],none⟩
def qmd:Oper:=⟨some 20,.alloc 27,0, "law.go:919",#[],none⟩
def qmc:Oper:=⟨none,.store 27 (.tmp 20) (.tmp 102),0, "law.go:919",#[⟨11,.data⟩,⟨9,.data⟩,⟨7,.chain⟩,⟨0,.phase⟩,⟨1,.phase⟩,⟨2,.phase⟩,⟨3,.phase⟩,⟨4,.phase⟩,⟨5,.phase⟩,⟨6,.phase⟩,⟨7,.phase⟩,⟨8,.phase⟩,⟨9,.phase⟩,{ on:=10,ground:=.textOnly Departure.lateStores },⟨11,.phase⟩],none⟩
def qmb:Oper:=⟨some 21,.assign (.tmp 103),29, "law.go:919",#[⟨10,.data⟩,⟨12,.chain⟩,⟨0,.phase⟩,⟨1,.phase⟩,⟨2,.phase⟩,⟨3,.phase⟩,⟨4,.phase⟩,⟨5,.phase⟩,⟨6,.phase⟩,⟨7,.phase⟩,⟨8,.phase⟩,⟨9,.phase⟩,⟨10,.phase⟩,⟨11,.phase⟩,⟨12,.phase⟩],none⟩
def zdt:Array Oper:=#[qsq,qsp,qso,qsn,qsm,qsl,qsk,qsj,qsi,qsh,qme,qmd,qmc,qmb]
structure zin (W0:World) (g10:Nat) (g11:Nat) (vl:Value) (yr:Int) (r:Rat) (ev:Value) (u1:Int) (v1:Int) (u2:Int) (v2:Int) (s1:Bool) (x1:Int) (y1:Int) (p1:Option Addr) (s2:Bool) (x2:Int) (y2:Int) (p2:Option Addr) (z:FZ) (g20:Nat) (b7:Bool) (b11:Bool) (w:World):Prop where
 mem:But [] W0 w
 f7:b7=true→aq w (.agg #[.bool z.1,.int .u64 z.2.1,.int .u64 z.2.2.1,.pointer z.2.2.2]) r
 f11:b11=true→zbl W0.heap.size w g20 [.bool false,.int .u64 0,.int .u64 0,.pointer none]
theorem zin.but {W0:World} {g10:Nat} {g11:Nat} {vl:Value} {yr:Int} {r:Rat} {ev:Value} {u1:Int} {v1:Int} {u2:Int} {v2:Int} {s1:Bool} {x1:Int} {y1:Int} {p1:Option Addr} {s2:Bool} {x2:Int} {y2:Int} {p2:Option Addr} {z:FZ} {g20:Nat} {b7 b11:Bool} {w w':World} (h:zin W0 g10 g11 vl yr r ev u1 v1 u2 v2 s1 x1 y1 p1 s2 x2 y2 p2 z g20 b7 b11 w) (hb:But [] w w'):zin W0 g10 g11 vl yr r ev u1 v1 u2 v2 s1 x1 y1 p1 s2 x2 y2 p2 z g20 b7 b11 w' :=
 { mem:=h.mem.trans' hb,f7:=fun e=>(h.f7 e).but hb,f11:=fun e=>(h.f11 e).but hb }
theorem zin.s7 {W0:World} {g10:Nat} {g11:Nat} {vl:Value} {yr:Int} {r:Rat} {ev:Value} {u1:Int} {v1:Int} {u2:Int} {v2:Int} {s1:Bool} {x1:Int} {y1:Int} {p1:Option Addr} {s2:Bool} {x2:Int} {y2:Int} {p2:Option Addr} {z:FZ} {g20:Nat} {b7 b11:Bool} {w:World} (h:zin W0 g10 g11 vl yr r ev u1 v1 u2 v2 s1 x1 y1 p1 s2 x2 y2 p2 z g20 b7 b11 w) (z':FZ) (hf:aq w (.agg #[.bool z'.1,.int .u64 z'.2.1,.int .u64 z'.2.2.1,.pointer z'.2.2.2]) r):zin W0 g10 g11 vl yr r ev u1 v1 u2 v2 s1 x1 y1 p1 s2 x2 y2 p2 z' g20 true b11 w :=
 { mem:=h.mem,f7:=fun _=>hf,f11:=h.f11 }
theorem zin.s11 {W0:World} {g10:Nat} {g11:Nat} {vl:Value} {yr:Int} {r:Rat} {ev:Value} {u1:Int} {v1:Int} {u2:Int} {v2:Int} {s1:Bool} {x1:Int} {y1:Int} {p1:Option Addr} {s2:Bool} {x2:Int} {y2:Int} {p2:Option Addr} {z:FZ} {g20:Nat} {b7 b11:Bool} {w:World} (h:zin W0 g10 g11 vl yr r ev u1 v1 u2 v2 s1 x1 y1 p1 s2 x2 y2 p2 z g20 b7 b11 w) (g20':Nat) (hf:zbl W0.heap.size w g20' [.bool false,.int .u64 0,.int .u64 0,.pointer none]):zin W0 g10 g11 vl yr r ev u1 v1 u2 v2 s1 x1 y1 p1 s2 x2 y2 p2 z g20' b7 true w :=
 { mem:=h.mem,f7:=h.f7,f11:=fun _=>hf }
def zhp (i:Nat):Nat:=match i with
 | 0=>94
 | 1=>95
 | 2=>96
 | 3=>97
 | 4=>98
 | 5=>99
 | 6=>100
 | 7=>101
 | 8=>93
 | 9=>102
 | 10=>103
 | 11=>20
 | 12=>94
 | _=>21
def zrf (i:Nat):Bool:=match i with
 | 12=>false
 | _=>true
def qfi (g10:Nat) (g11:Nat) (vl:Value) (yr:Int) (r:Rat) (ev:Value) (u1:Int) (v1:Int) (u2:Int) (v2:Int) (s1:Bool) (x1:Int) (y1:Int) (p1:Option Addr) (s2:Bool) (x2:Int) (y2:Int) (p2:Option Addr) (z:FZ) (g20:Nat) (i:Nat):Value:=match i with
 | 0=>vl
 | 1=>.int .i64 yr
 | 2=>.agg #[.int .i64 u1,.int .i64 v1]
 | 3=>.agg #[.bool s1,.int .u64 x1,.int .u64 y1,.pointer p1]
 | 4=>.agg #[.int .i64 u2,.int .i64 v2]
 | 5=>.agg #[.bool s2,.int .u64 x2,.int .u64 y2,.pointer p2]
 | 6=>.agg #[.bool s1,.int .u64 x1,.int .u64 y1,.pointer p1,.bool s2,.int .u64 x2,.int .u64 y2,.pointer p2]
 | 7=>.tuple #[.agg #[.bool z.1,.int .u64 z.2.1,.int .u64 z.2.2.1,.pointer z.2.2.2],ev]
 | 8=>.tuple #[.agg #[.bool z.1,.int .u64 z.2.1,.int .u64 z.2.2.1,.pointer z.2.2.2],ev]
 | 9=>.agg #[.bool z.1,.int .u64 z.2.1,.int .u64 z.2.2.1,.pointer z.2.2.2]
 | 10=>ev
 | 11=>.pointer (some ⟨g20,0,none⟩)
 | 12=>undef
 | _=>ev
theorem zas:zab zdt [(3,2),(5,3),(5,4),(6,3),(6,5),(7,0),(7,1),(7,5),(7,6),(8,7),(9,8),(10,8),(12,0),(12,1),(12,2),(12,3),(12,4),(12,5),(12,6),(12,7),(12,8),(12,9),(12,11),(13,0),(13,1),(13,2),(13,3),(13,4),(13,5),(13,6),(13,7),(13,8),(13,9),(13,10),(13,11),(13,12)]=true:=by kernel_rfl
theorem qgz:∀ i j,i<14→j<14→zrf i=true→zrf j=true→zhp i=zhp j→i=j:=fun i j hi hj=>(by decide:∀ i,i<14→∀ j,j<14→zrf i=true→zrf j=true→zhp i=zhp j→i=j) i hi j hj
theorem zrs (id:Nat) (Q:Exit→Act→World→Prop) (base:Act) (W0:World) (g10:Nat) (g11:Nat) (vl:Value) (yr:Int) (r:Rat) (ev:Value) (u1:Int) (v1:Int) (u2:Int) (v2:Int) (s1:Bool) (x1:Int) (y1:Int) (p1:Option Addr) (s2:Bool) (x2:Int) (y2:Int) (p2:Option Addr) (hs:103<base.tmps.size) (e10:base.eval (.tmp 10)=.pointer (some ⟨g10,0,none⟩)) (e11:base.eval (.tmp 11)=.pointer (some ⟨g11,0,none⟩)) (e14:base.eval (.tmp 14)=vl) (e3:base.eval (.tmp 3)=.int .i64 yr)
  (ca1:W0.cell? ⟨g10,0,none⟩=some (.int .i64 u1)) (cb1:W0.cell? ⟨g10,0+1,none⟩=some (.int .i64 v1)) (ca2:W0.cell? ⟨g11,0,none⟩=some (.int .i64 u2)) (cb2:W0.cell? ⟨g11,0+1,none⟩=some (.int .i64 v2)) (PF1:∀ w,Calls prog 7 #[.agg #[.int .i64 u1,.int .i64 v1]] w fun e w'=>e=.returned (.agg #[.bool s1,.int .u64 x1,.int .u64 y1,.pointer p1])∧But [] w w') (PF2:∀ w,Calls prog 7 #[.agg #[.int .i64 u2,.int .i64 v2]] w fun e w'=>e=.returned (.agg #[.bool s2,.int .u64 x2,.int .u64 y2,.pointer p2])∧But [] w w') (AM:∀ w,But [] W0 w→Calls prog 15 #[vl,.int .i64 yr,.agg #[.bool s1,.int .u64 x1,.int .u64 y1,.pointer p1,.bool s2,.int .u64 x2,.int .u64 y2,.pointer p2]] w fun e w'=>∃ z:FZ,e=.returned (.tuple #[.agg #[.bool z.1,.int .u64 z.2.1,.int .u64 z.2.2.1,.pointer z.2.2.2],ev])∧aq w' (.agg #[.bool z.1,.int .u64 z.2.1,.int .u64 z.2.2.1,.pointer z.2.2.2]) r∧But [] w w')
  (hQ:∀ (z:FZ) (g20:Nat) w1,zin W0 g10 g11 vl yr r ev u1 v1 u2 v2 s1 x1 y1 p1 s2 x2 y2 p2 z g20 true true w1→Q .normal (bk base [(94,vl),(95,.int .i64 yr),(96,.agg #[.int .i64 u1,.int .i64 v1]),(97,.agg #[.bool s1,.int .u64 x1,.int .u64 y1,.pointer p1]),(98,.agg #[.int .i64 u2,.int .i64 v2]),(99,.agg #[.bool s2,.int .u64 x2,.int .u64 y2,.pointer p2]),(100,.agg #[.bool s1,.int .u64 x1,.int .u64 y1,.pointer p1,.bool s2,.int .u64 x2,.int .u64 y2,.pointer p2]),(101,.tuple #[.agg #[.bool z.1,.int .u64 z.2.1,.int .u64 z.2.2.1,.pointer z.2.2.2],ev]),(93,.tuple #[.agg #[.bool z.1,.int .u64 z.2.1,.int .u64 z.2.2.1,.pointer z.2.2.2],ev]),(102,.agg #[.bool z.1,.int .u64 z.2.1,.int .u64 z.2.2.1,.pointer z.2.2.2]),(103,ev),(20,.pointer (some ⟨g20,0,none⟩)),(21,ev)]) (w1.setCells g20 (0) [.bool z.1,.int .u64 z.2.1,.int .u64 z.2.2.1,.pointer z.2.2.2])) :
  (Code.region id zdt true).wp prog Q base W0:=by
 have hT:∀ i,i<14→zrf i=true→zhp i<base.tmps.size:=fun i hi _=>by
  have h:zhp i≤103:=by revert i;decide
  omega
 refine zay (by kernel_rfl) (xu (by kernel_rfl)) (zaw (by kernel_rfl)) (fun (N:(FZ) × (Nat)) d w=>∃ w1,zin W0 g10 g11 vl yr r ev u1 v1 u2 v2 s1 x1 y1 p1 s2 x2 y2 p2 N.1 N.2 (d 7) (d 11) w1∧(d 12=false→w=w1)∧(d 12=true→w=(w1.setCells N.2 (0) [.bool N.1.1,.int .u64 N.1.2.1,.int .u64 N.1.2.2.1,.pointer N.1.2.2.2]))) (fun N=>qfi g10 g11 vl yr r ev u1 v1 u2 v2 s1 x1 y1 p1 s2 x2 y2 p2 N.1 N.2) zhp zrf 14 (by kernel_rfl) qgz hT ((false,0,0,none),0) ⟨_,{ mem:=(But.refl _ _).drew,f7:=fun h=>by simp at h,f11:=fun h=>by simp at h },fun _=>rfl,fun h=>by simp at h⟩ ?_ ?_
 ·intro N d i o a w K hi ho hdi hcl hH he hdep hK
  have hD:=zco zas ho (fun j=>d j=true∧(zrf j=true→a.eval (.tmp (zhp j))=qfi g10 g11 vl yr r ev u1 v1 u2 v2 s1 x1 y1 p1 s2 x2 y2 p2 N.1 N.2 j)) hdep
  have e10':=(he 10 (fun j hj _ _=>(by decide:∀ j,j<14→(10:Nat)≠zhp j) j hj)).trans e10
  have e11':=(he 11 (fun j hj _ _=>(by decide:∀ j,j<14→(11:Nat)≠zhp j) j hj)).trans e11
  have e14':=(he 14 (fun j hj _ _=>(by decide:∀ j,j<14→(14:Nat)≠zhp j) j hj)).trans e14
  have e3':=(he 3 (fun j hj _ _=>(by decide:∀ j,j<14→(3:Nat)≠zhp j) j hj)).trans e3
  have:i=0∨i=1∨i=2∨i=3∨i=4∨i=5∨i=6∨i=7∨i=8∨i=9∨i=10∨i=11∨i=12∨i=13:=by omega
  rcases this with rfl|rfl|rfl|rfl|rfl|rfl|rfl|rfl|rfl|rfl|rfl|rfl|rfl|rfl
  ·obtain rfl:=so (show zdt[0]? =some qsq from rfl) ho
   exact an (bz a w _ _ _ _ _ _ _ e14') (hK N _ _ (fun _=>rfl) (fun _ _ _ _=>rfl) hH)
  ·obtain rfl:=so (show zdt[1]? =some qsp from rfl) ho
   exact an (bz a w _ _ _ _ _ _ _ e3') (hK N _ _ (fun _=>rfl) (fun _ _ _ _=>rfl) hH)
  ·obtain rfl:=so (show zdt[2]? =some qso from rfl) ho
   have hs0:d 12=false:=(hcl.not zas (i:=12) (j:=2) (by simp) hdi)
   obtain⟨w1,hP,h1,h2⟩:=hH
   obtain rfl:=h1 hs0
   have hW:=hP.mem
   exact an (zcq a w _ _ _ _ _ _ g10 (0) _ _ e10' (hW.ag ca1 (by simp)) (hW.ag cb1 (by simp))) (hK N _ _ (fun _=>rfl) (fun _ _ _ _=>rfl) ⟨_,hP,h1,h2⟩)
  ·obtain rfl:=so (show zdt[3]? =some qsn from rfl) ho
   have hs0:d 12=false:=(hcl.not zas (i:=12) (j:=3) (by simp) hdi)
   obtain⟨w1,hP,h1,h2⟩:=hH
   obtain rfl:=h1 hs0
   have hW:=hP.mem
   exact az (zlc a w _ _ _ _ _ _ _ ((hD 2 (by simp)).2 rfl)) (R:=fun w' v=>v=qfi g10 g11 vl yr r ev u1 v1 u2 v2 s1 x1 y1 p1 s2 x2 y2 p2 N.1 N.2 3∧But [] w w') ((PF1 w).mono fun e w' ⟨he,hb⟩=>⟨_,he,rfl,hb⟩) (fun v w' hv=>hK N _ _ (fun _=>hv.1) (fun _ _ _ _=>rfl) ⟨_,(hP.but hv.2),fun _=>rfl,fun h=>absurd (hs0.symm.trans h) (by simp)⟩)
  ·obtain rfl:=so (show zdt[4]? =some qsm from rfl) ho
   have hs0:d 12=false:=(hcl.not zas (i:=12) (j:=4) (by simp) hdi)
   obtain⟨w1,hP,h1,h2⟩:=hH
   obtain rfl:=h1 hs0
   have hW:=hP.mem
   exact an (zcq a w _ _ _ _ _ _ g11 (0) _ _ e11' (hW.ag ca2 (by simp)) (hW.ag cb2 (by simp))) (hK N _ _ (fun _=>rfl) (fun _ _ _ _=>rfl) ⟨_,hP,h1,h2⟩)
  ·obtain rfl:=so (show zdt[5]? =some qsl from rfl) ho
   have hs0:d 12=false:=(hcl.not zas (i:=12) (j:=5) (by simp) hdi)
   obtain⟨w1,hP,h1,h2⟩:=hH
   obtain rfl:=h1 hs0
   have hW:=hP.mem
   exact az (zlc a w _ _ _ _ _ _ _ ((hD 4 (by simp)).2 rfl)) (R:=fun w' v=>v=qfi g10 g11 vl yr r ev u1 v1 u2 v2 s1 x1 y1 p1 s2 x2 y2 p2 N.1 N.2 5∧But [] w w') ((PF2 w).mono fun e w' ⟨he,hb⟩=>⟨_,he,rfl,hb⟩) (fun v w' hv=>hK N _ _ (fun _=>hv.1) (fun _ _ _ _=>rfl) ⟨_,(hP.but hv.2),fun _=>rfl,fun h=>absurd (hs0.symm.trans h) (by simp)⟩)
  ·obtain rfl:=so (show zdt[6]? =some qsk from rfl) ho
   exact an (qku a w _ _ _ _ _ _ _ _ _ _ _ _ _ _ _ ((hD 3 (by simp)).2 rfl) ((hD 5 (by simp)).2 rfl)) (hK N _ _ (fun _=>rfl) (fun _ _ _ _=>rfl) hH)
  ·obtain rfl:=so (show zdt[7]? =some qsj from rfl) ho
   have hs0:d 12=false:=(hcl.not zas (i:=12) (j:=7) (by simp) hdi)
   obtain⟨w1,hP,h1,h2⟩:=hH
   obtain rfl:=h1 hs0
   have hW:=hP.mem
   exact az (qkt a w _ _ _ _ _ _ _ _ _ _ _ ((hD 0 (by simp)).2 rfl) ((hD 1 (by simp)).2 rfl) ((hD 6 (by simp)).2 rfl)) (R:=fun w' u=>∃ v,u=.tuple #[.agg #[.bool v.1,.int .u64 v.2.1,.int .u64 v.2.2.1,.pointer v.2.2.2],ev]∧(aq w' (.agg #[.bool v.1,.int .u64 v.2.1,.int .u64 v.2.2.1,.pointer v.2.2.2]) r)∧But [] w w') ((AM w hW).mono fun e w' ⟨v,he,hf,hb⟩=>⟨_,he,v,rfl,hf,hb⟩) (fun u w' ⟨v,hu,hf,hb⟩=>hK (v,N.2) _ _ (fun _=>hu) (fun j hj _ hdj=>by
    have:j=0∨j=1∨j=2∨j=3∨j=4∨j=5∨j=6∨j=7∨j=8∨j=9∨j=10∨j=11∨j=12∨j=13:=by omega
    rcases this with rfl|rfl|rfl|rfl|rfl|rfl|rfl|rfl|rfl|rfl|rfl|rfl|rfl|rfl <;> first|rfl | exact absurd (hdi.symm.trans hdj) (by simp) | exact absurd ((hcl.not zas (i:=8) (j:=7) (by simp) hdi).symm.trans hdj) (by simp) | exact absurd ((hcl.not zas (i:=9) (j:=8) (by simp) (hcl.not zas (i:=8) (j:=7) (by simp) hdi)).symm.trans hdj) (by simp)) ⟨_,((hP.but hb).s7 v hf),fun _=>rfl,fun h=>absurd (hs0.symm.trans h) (by simp)⟩)
  ·obtain rfl:=so (show zdt[8]? =some qsi from rfl) ho
   exact an (bz a w _ _ _ _ _ _ _ ((hD 7 (by simp)).2 rfl)) (hK N _ _ (fun _=>rfl) (fun _ _ _ _=>rfl) hH)
  ·obtain rfl:=so (show zdt[9]? =some qsh from rfl) ho
   exact an (zbq a w _ _ _ _ _ _ _ _ _ ((hD 8 (by simp)).2 rfl) rfl) (hK N _ _ (fun _=>rfl) (fun _ _ _ _=>rfl) hH)
  ·obtain rfl:=so (show zdt[10]? =some qme from rfl) ho
   exact an (zbq a w _ _ _ _ _ _ _ _ _ ((hD 8 (by simp)).2 rfl) rfl) (hK N _ _ (fun _=>rfl) (fun _ _ _ _=>rfl) hH)
  ·obtain rfl:=so (show zdt[11]? =some qmd from rfl) ho
   have hs0:d 12=false:=(hcl.not zas (i:=12) (j:=11) (by simp) hdi)
   obtain⟨w1,hP,h1,h2⟩:=hH
   obtain rfl:=h1 hs0
   have hW:=hP.mem
   have bA:But [] w (w.alloc (.cells #[.bool false,.int .u64 0,.int .u64 0,.pointer none] 27)):=(But.refl _ _).alloc _
   have hsz:=hW.size
   exact an (qks a w _ _ _ _ _) (hK (N.1,w.heap.size) _ _ (fun _=>rfl) (fun j hj _ hdj=>by
    have:j=0∨j=1∨j=2∨j=3∨j=4∨j=5∨j=6∨j=7∨j=8∨j=9∨j=10∨j=11∨j=12∨j=13:=by omega
    rcases this with rfl|rfl|rfl|rfl|rfl|rfl|rfl|rfl|rfl|rfl|rfl|rfl|rfl|rfl <;> first|rfl | exact absurd (hdi.symm.trans hdj) (by simp)) ⟨_,((hP.but bA).s11 w.heap.size (zbl.made _ w [.bool false,.int .u64 0,.int .u64 0,.pointer none] _ hsz)),fun _=>rfl,fun h=>absurd (hs0.symm.trans h) (by simp)⟩)
  ·obtain rfl:=so (show zdt[12]? =some qmc from rfl) ho
   obtain⟨w1,hP,h1,h2⟩:=hH
   obtain rfl:=h1 hdi
   have hW:=hP.mem
   have t7:d 7=true:=(hD 7 (by simp)).1
   have t11:d 11=true:=(hD 11 (by simp)).1
   exact jo (qkr a w _ _ _ _ _ N.2 (0) _ _ _ _ ((hD 11 (by simp)).2 rfl) ((hD 9 (by simp)).2 rfl) (⟨_,(hP.f11 t11).cells 0 _ rfl⟩) (⟨_,(hP.f11 t11).cells 1 _ rfl⟩) (⟨_,(hP.f11 t11).cells 2 _ rfl⟩) (⟨_,(hP.f11 t11).cells 3 _ rfl⟩) ((hP.f11 t11).loose)) (hK N undef _ (fun h=>absurd h (by decide)) (fun _ _ _ _=>rfl) ⟨w,hP,fun h=>absurd h (by rw[ko];simp),fun _=>rfl⟩)
  ·obtain rfl:=so (show zdt[13]? =some qmb from rfl) ho
   exact an (zbr a w _ _ _ _ _ _ _ ((hD 10 (by simp)).2 rfl)) (hK N _ _ (fun _=>rfl) (fun _ _ _ _=>rfl) hH)
 ·intro N d w hd hH
  obtain⟨w1,hP,h1,h2⟩:=hH
  rw[h2 (hd 12 (by omega))]
  rw[hd 7 (by omega),hd 11 (by omega)] at hP
  exact hQ N.1 N.2 w1 hP
theorem qkq (a:Act) (w:World) (d t0 t1 t2 t3:Nat) (u:TypeId) (ps:String) (ed:Array Edge) (gd:Option (Nat × Bool)) (z0 z1 z2 z3:Value) (h0:a.eval (.tmp t0)=z0) (h1:a.eval (.tmp t1)=z1) (h2:a.eval (.tmp t2)=z2) (h3:a.eval (.tmp t3)=z3) :
  (execOp a.eval { dst:=some d,op:=Op.call { callee:=Callee.value (Operand.func 18),args:=#[Operand.tmp t0,Operand.tmp t1,Operand.tmp t2,Operand.tmp t3],argTypes:=#[43,3,37,37] },type:=u,pos:=ps,after:=ed,guard:=gd }).run prog w=.ok (.enter 18 #[z0,z1,z2,z3]) w:=by
 unfold execOp
 go_simp
 rw[← h0,← h1,← h2,← h3]
 simp[Act.eval]
def qsg:Oper:=⟨some 115,.move (.tmp 15),43, "law.go:923",#[],none⟩
def qsf:Oper:=⟨some 116,.move (.tmp 3),3, "law.go:923",#[],none⟩
def qse:Oper:=⟨some 117,.load 23 (.tmp 10),23, "law.go:923",#[],none⟩
def qsd:Oper:=⟨some 118,.call { callee:=.value (.func 12),args:=#[.tmp 117],argTypes:=#[23] },37, "law.go:923",#[⟨2,.data⟩],none⟩
def qsc:Oper:=⟨some 119,.load 23 (.tmp 11),23, "law.go:923",#[],none⟩
def qsb:Oper:=⟨some 120,.call { callee:=.value (.func 12),args:=#[.tmp 119],argTypes:=#[23] },37, "law.go:923",#[⟨4,.data⟩,⟨3,.chain⟩],none⟩
def qsa:Oper:=⟨some 121,.call { callee:=.value (.func 18),args:=#[.tmp 115,.tmp 116,.tmp 118,.tmp 120],argTypes:=#[43,3,37,37] },37, "law.go:923",#[⟨0,.data⟩,⟨1,.data⟩,⟨3,.data⟩,⟨5,.data⟩,⟨5,.chain⟩],none⟩
def qrz:Oper:=⟨some 24,.assign (.tmp 121),37, "law.go:923",#[⟨6,.data⟩,⟨6,.chain⟩,⟨0,.phase⟩,⟨1,.phase⟩,⟨2,.phase⟩,⟨3,.phase⟩,⟨4,.phase⟩,⟨5,.phase⟩,⟨6,.phase⟩],none⟩
def zjr:Array Oper:=#[qsg,qsf,qse,qsd,qsc,qsb,qsa,qrz]
structure zeu (W0:World) (g10:Nat) (g11:Nat) (vl:Value) (yr:Int) (r1:Rat) (r2:Rat) (r:Rat) (u1:Int) (v1:Int) (u2:Int) (v2:Int) (x:Nat) (y:Nat) (z:Nat) (b3:Bool) (b5:Bool) (b6:Bool) (w:World):Prop where
 mem:But [] W0 w
 f3:b3=true→za w x r1
 f5:b5=true→za w y r2
 f6:b6=true→za w z r
theorem zeu.but {W0:World} {g10:Nat} {g11:Nat} {vl:Value} {yr:Int} {r1:Rat} {r2:Rat} {r:Rat} {u1:Int} {v1:Int} {u2:Int} {v2:Int} {x:Nat} {y:Nat} {z:Nat} {b3 b5 b6:Bool} {w w':World} (h:zeu W0 g10 g11 vl yr r1 r2 r u1 v1 u2 v2 x y z b3 b5 b6 w) (hb:But [] w w'):zeu W0 g10 g11 vl yr r1 r2 r u1 v1 u2 v2 x y z b3 b5 b6 w' :=
 { mem:=h.mem.trans' hb,f3:=fun e=>(h.f3 e).but hb,f5:=fun e=>(h.f5 e).but hb,f6:=fun e=>(h.f6 e).but hb }
theorem zeu.s3 {W0:World} {g10:Nat} {g11:Nat} {vl:Value} {yr:Int} {r1:Rat} {r2:Rat} {r:Rat} {u1:Int} {v1:Int} {u2:Int} {v2:Int} {x:Nat} {y:Nat} {z:Nat} {b3 b5 b6:Bool} {w:World} (h:zeu W0 g10 g11 vl yr r1 r2 r u1 v1 u2 v2 x y z b3 b5 b6 w) (x':Nat) (hf:za w x' r1):zeu W0 g10 g11 vl yr r1 r2 r u1 v1 u2 v2 x' y z true b5 b6 w :=
 { mem:=h.mem,f3:=fun _=>hf,f5:=h.f5,f6:=h.f6 }
theorem zeu.s5 {W0:World} {g10:Nat} {g11:Nat} {vl:Value} {yr:Int} {r1:Rat} {r2:Rat} {r:Rat} {u1:Int} {v1:Int} {u2:Int} {v2:Int} {x:Nat} {y:Nat} {z:Nat} {b3 b5 b6:Bool} {w:World} (h:zeu W0 g10 g11 vl yr r1 r2 r u1 v1 u2 v2 x y z b3 b5 b6 w) (y':Nat) (hf:za w y' r2):zeu W0 g10 g11 vl yr r1 r2 r u1 v1 u2 v2 x y' z b3 true b6 w :=
 { mem:=h.mem,f3:=h.f3,f5:=fun _=>hf,f6:=h.f6 }
theorem zeu.s6 {W0:World} {g10:Nat} {g11:Nat} {vl:Value} {yr:Int} {r1:Rat} {r2:Rat} {r:Rat} {u1:Int} {v1:Int} {u2:Int} {v2:Int} {x:Nat} {y:Nat} {z:Nat} {b3 b5 b6:Bool} {w:World} (h:zeu W0 g10 g11 vl yr r1 r2 r u1 v1 u2 v2 x y z b3 b5 b6 w) (z':Nat) (hf:za w z' r):zeu W0 g10 g11 vl yr r1 r2 r u1 v1 u2 v2 x y z' b3 b5 true w :=
 { mem:=h.mem,f3:=h.f3,f5:=h.f5,f6:=fun _=>hf }
def zho (i:Nat):Nat:=match i with
 | 0=>115
 | 1=>116
 | 2=>117
 | 3=>118
 | 4=>119
 | 5=>120
 | 6=>121
 | _=>24
def zre (i:Nat):Bool:=match i with
 | _=>true
def qry (g10:Nat) (g11:Nat) (vl:Value) (yr:Int) (r1:Rat) (r2:Rat) (r:Rat) (u1:Int) (v1:Int) (u2:Int) (v2:Int) (x:Nat) (y:Nat) (z:Nat) (i:Nat):Value:=match i with
 | 0=>vl
 | 1=>.int .i64 yr
 | 2=>.agg #[.int .i64 u1,.int .i64 v1]
 | 3=>.pointer (some ⟨x,0,none⟩)
 | 4=>.agg #[.int .i64 u2,.int .i64 v2]
 | 5=>.pointer (some ⟨y,0,none⟩)
 | 6=>.pointer (some ⟨z,0,none⟩)
 | _=>.pointer (some ⟨z,0,none⟩)
theorem zzh:zab zjr [(3,2),(5,3),(5,4),(6,0),(6,1),(6,3),(6,5),(7,0),(7,1),(7,2),(7,3),(7,4),(7,5),(7,6)]=true:=by kernel_rfl
theorem qgy:∀ i j,i<8→j<8→zre i=true→zre j=true→zho i=zho j→i=j:=fun i j hi hj=>(by decide:∀ i,i<8→∀ j,j<8→zre i=true→zre j=true→zho i=zho j→i=j) i hi j hj
theorem zrr (id:Nat) (Q:Exit→Act→World→Prop) (base:Act) (W0:World) (g10:Nat) (g11:Nat) (vl:Value) (yr:Int) (r1:Rat) (r2:Rat) (r:Rat) (u1:Int) (v1:Int) (u2:Int) (v2:Int) (hs:121<base.tmps.size) (e10:base.eval (.tmp 10)=.pointer (some ⟨g10,0,none⟩)) (e11:base.eval (.tmp 11)=.pointer (some ⟨g11,0,none⟩)) (e15:base.eval (.tmp 15)=vl) (e3:base.eval (.tmp 3)=.int .i64 yr)
  (ca1:W0.cell? ⟨g10,0,none⟩=some (.int .i64 u1)) (cb1:W0.cell? ⟨g10,0+1,none⟩=some (.int .i64 v1)) (ca2:W0.cell? ⟨g11,0,none⟩=some (.int .i64 u2)) (cb2:W0.cell? ⟨g11,0+1,none⟩=some (.int .i64 v2)) (RO1:∀ w,Calls prog 12 #[.agg #[.int .i64 u1,.int .i64 v1]] w fun e w'=>∃ b,e=.returned (.pointer (some ⟨b,0,none⟩))∧za w' b r1∧But [] w w') (RO2:∀ w,Calls prog 12 #[.agg #[.int .i64 u2,.int .i64 v2]] w fun e w'=>∃ b,e=.returned (.pointer (some ⟨b,0,none⟩))∧za w' b r2∧But [] w w') (AM:∀ w x y,But [] W0 w→za w x r1→za w y r2→Calls prog 18 #[vl,.int .i64 yr,.pointer (some ⟨x,0,none⟩),.pointer (some ⟨y,0,none⟩)] w fun e w'=>∃ b,e=.returned (.pointer (some ⟨b,0,none⟩))∧za w' b r∧But [] w w')
  (hQ:∀ (x:Nat) (y:Nat) (z:Nat) w1,zeu W0 g10 g11 vl yr r1 r2 r u1 v1 u2 v2 x y z true true true w1→Q .normal (bk base [(115,vl),(116,.int .i64 yr),(117,.agg #[.int .i64 u1,.int .i64 v1]),(118,.pointer (some ⟨x,0,none⟩)),(119,.agg #[.int .i64 u2,.int .i64 v2]),(120,.pointer (some ⟨y,0,none⟩)),(121,.pointer (some ⟨z,0,none⟩)),(24,.pointer (some ⟨z,0,none⟩))]) w1) :
  (Code.region id zjr true).wp prog Q base W0:=by
 have hT:∀ i,i<8→zre i=true→zho i<base.tmps.size:=fun i hi _=>by
  have h:zho i≤121:=by revert i;decide
  omega
 refine zay (by kernel_rfl) (xu (by kernel_rfl)) (zaw (by kernel_rfl)) (fun (N:(Nat) × (Nat) × (Nat)) d w=>zeu W0 g10 g11 vl yr r1 r2 r u1 v1 u2 v2 N.1 N.2.1 N.2.2 (d 3) (d 5) (d 6) w) (fun N=>qry g10 g11 vl yr r1 r2 r u1 v1 u2 v2 N.1 N.2.1 N.2.2) zho zre 8 (by kernel_rfl) qgy hT (0,0,0) { mem:=(But.refl _ _).drew,f3:=fun h=>by simp at h,f5:=fun h=>by simp at h,f6:=fun h=>by simp at h } ?_ ?_
 ·intro N d i o a w K hi ho hdi hcl hH he hdep hK
  have hD:=zco zzh ho (fun j=>d j=true∧(zre j=true→a.eval (.tmp (zho j))=qry g10 g11 vl yr r1 r2 r u1 v1 u2 v2 N.1 N.2.1 N.2.2 j)) hdep
  have e10':=(he 10 (fun j hj _ _=>(by decide:∀ j,j<8→(10:Nat)≠zho j) j hj)).trans e10
  have e11':=(he 11 (fun j hj _ _=>(by decide:∀ j,j<8→(11:Nat)≠zho j) j hj)).trans e11
  have e15':=(he 15 (fun j hj _ _=>(by decide:∀ j,j<8→(15:Nat)≠zho j) j hj)).trans e15
  have e3':=(he 3 (fun j hj _ _=>(by decide:∀ j,j<8→(3:Nat)≠zho j) j hj)).trans e3
  have:i=0∨i=1∨i=2∨i=3∨i=4∨i=5∨i=6∨i=7:=by omega
  rcases this with rfl|rfl|rfl|rfl|rfl|rfl|rfl|rfl
  ·obtain rfl:=so (show zjr[0]? =some qsg from rfl) ho
   exact an (bz a w _ _ _ _ _ _ _ e15') (hK N _ _ (fun _=>rfl) (fun _ _ _ _=>rfl) hH)
  ·obtain rfl:=so (show zjr[1]? =some qsf from rfl) ho
   exact an (bz a w _ _ _ _ _ _ _ e3') (hK N _ _ (fun _=>rfl) (fun _ _ _ _=>rfl) hH)
  ·obtain rfl:=so (show zjr[2]? =some qse from rfl) ho
   have hP:=hH
   have hW:=hP.mem
   exact an (zcq a w _ _ _ _ _ _ g10 (0) _ _ e10' (hW.ag ca1 (by simp)) (hW.ag cb1 (by simp))) (hK N _ _ (fun _=>rfl) (fun _ _ _ _=>rfl) hH)
  ·obtain rfl:=so (show zjr[3]? =some qsd from rfl) ho
   have hP:=hH
   have hW:=hP.mem
   exact az (zlb a w _ _ _ _ _ _ _ ((hD 2 (by simp)).2 rfl)) (R:=fun w' u=>∃ v,u=.pointer (some ⟨v,0,none⟩)∧(za w' v r1)∧But [] w w') ((RO1 w).mono fun e w' ⟨v,he,hf,hb⟩=>⟨_,he,v,rfl,hf,hb⟩) (fun u w' ⟨v,hu,hf,hb⟩=>hK (v,N.2.1,N.2.2) _ _ (fun _=>hu) (fun j hj _ hdj=>by
    have:j=0∨j=1∨j=2∨j=3∨j=4∨j=5∨j=6∨j=7:=by omega
    rcases this with rfl|rfl|rfl|rfl|rfl|rfl|rfl|rfl <;> first|rfl | exact absurd (hdi.symm.trans hdj) (by simp)) ((hP.but hb).s3 v hf))
  ·obtain rfl:=so (show zjr[4]? =some qsc from rfl) ho
   have hP:=hH
   have hW:=hP.mem
   exact an (zcq a w _ _ _ _ _ _ g11 (0) _ _ e11' (hW.ag ca2 (by simp)) (hW.ag cb2 (by simp))) (hK N _ _ (fun _=>rfl) (fun _ _ _ _=>rfl) hH)
  ·obtain rfl:=so (show zjr[5]? =some qsb from rfl) ho
   have hP:=hH
   have hW:=hP.mem
   exact az (zlb a w _ _ _ _ _ _ _ ((hD 4 (by simp)).2 rfl)) (R:=fun w' u=>∃ v,u=.pointer (some ⟨v,0,none⟩)∧(za w' v r2)∧But [] w w') ((RO2 w).mono fun e w' ⟨v,he,hf,hb⟩=>⟨_,he,v,rfl,hf,hb⟩) (fun u w' ⟨v,hu,hf,hb⟩=>hK (N.1,v,N.2.2) _ _ (fun _=>hu) (fun j hj _ hdj=>by
    have:j=0∨j=1∨j=2∨j=3∨j=4∨j=5∨j=6∨j=7:=by omega
    rcases this with rfl|rfl|rfl|rfl|rfl|rfl|rfl|rfl <;> first|rfl | exact absurd (hdi.symm.trans hdj) (by simp)) ((hP.but hb).s5 v hf))
  ·obtain rfl:=so (show zjr[6]? =some qsa from rfl) ho
   have hP:=hH
   have hW:=hP.mem
   have t3:d 3=true:=(hD 3 (by simp)).1
   have t5:d 5=true:=(hD 5 (by simp)).1
   exact az (qkq a w _ _ _ _ _ _ _ _ _ _ _ _ _ ((hD 0 (by simp)).2 rfl) ((hD 1 (by simp)).2 rfl) ((hD 3 (by simp)).2 rfl) ((hD 5 (by simp)).2 rfl)) (R:=fun w' u=>∃ v,u=.pointer (some ⟨v,0,none⟩)∧(za w' v r)∧But [] w w') ((AM w N.1 N.2.1 hW (hP.f3 t3) (hP.f5 t5)).mono fun e w' ⟨v,he,hf,hb⟩=>⟨_,he,v,rfl,hf,hb⟩) (fun u w' ⟨v,hu,hf,hb⟩=>hK (N.1,N.2.1,v) _ _ (fun _=>hu) (fun j hj _ hdj=>by
    have:j=0∨j=1∨j=2∨j=3∨j=4∨j=5∨j=6∨j=7:=by omega
    rcases this with rfl|rfl|rfl|rfl|rfl|rfl|rfl|rfl <;> first|rfl | exact absurd (hdi.symm.trans hdj) (by simp) | exact absurd ((hcl.not zzh (i:=7) (j:=6) (by simp) hdi).symm.trans hdj) (by simp)) ((hP.but hb).s6 v hf))
  ·obtain rfl:=so (show zjr[7]? =some qrz from rfl) ho
   exact an (zbr a w _ _ _ _ _ _ _ ((hD 6 (by simp)).2 rfl)) (hK N _ _ (fun _=>rfl) (fun _ _ _ _=>rfl) hH)
 ·intro N d w hd hH
  have hP:zeu W0 g10 g11 vl yr r1 r2 r u1 v1 u2 v2 N.1 N.2.1 N.2.2 (d 3) (d 5) (d 6) w:=hH
  rw[hd 3 (by omega),hd 5 (by omega),hd 6 (by omega)] at hP
  exact hQ N.1 N.2.1 N.2.2 w hP
theorem qde (v:Value) (r:Rat) (b:Nat) (w:World) (hv:aq w v r) (hb:za w b r) (lr:Len r 1000000) (htab:Lib.TabIs prog w "internal/strconv.uint64pow10" .u64 Lib.pow10Tab) :
  Calls prog 19 #[v,.nilIface,.pointer (some ⟨b,0,none⟩),.int .i64 0] w fun e w'=>e=.returned (.bool true)∧But [] w w':=by
 obtain⟨t,ht⟩:∃ t,t=zcx (decide (r.num<0)) r.num.natAbs r.den:=⟨_,rfl⟩
 have T1:=af (fun W (h:But [] w W)=>zbz v r W (hv.but h) (lr.mono (by omega)) (TabIs.but htab h) t ht)
 have T2:=af (fun W (h:But [] w W)=>zoe b r W (hb.but h) ((zo lr).mono (by omega)) t (ht.trans (zpx r)))
 obtain⟨x,y,p,rfl,-⟩:=id hv.agg
 clear hv hb lr htab ht
 generalize decide (r.num<0)=s at *
 obtain⟨V,hV⟩:∃ V,V=w.alloc (.cells #[.bool s,.int .u64 x,.int .u64 y,.pointer p] 27):=⟨_,rfl⟩
 obtain⟨g,hg⟩:∃ g,g=w.heap.size:=⟨_,rfl⟩
 have c0:V.cell? ⟨g,0,none⟩=some (.bool s):=by rw[hV,hg];simp
 have c1:V.cell? ⟨g,1,none⟩=some (.int .u64 x):=by rw[hV,hg];simp
 have c2:V.cell? ⟨g,2,none⟩=some (.int .u64 y):=by rw[hV,hg];simp
 have c3:V.cell? ⟨g,3,none⟩=some (.pointer p):=by rw[hV,hg];simp
 have bV:But [] w V:=by rw[hV];exact (But.refl _ _).alloc _
 have BV:=af bV
 have HV:=af hV
 clear bV hV
 go_enter func19,ntmps19
 go_wp2_with fail
 rw[← ae HV]
 try rw[← hg]
 clear hg HV
 refine (ae T1 V (ae BV)).mono ?_
 rintro e w1 ⟨rfl,B1⟩
 have K1:=af ((ae BV).trans' B1)
 clear B1 c0 c1 c2 c3
 go_wp2_with fail
 refine (ae T2 w1 (ae K1)).mono ?_
 rintro e w2 ⟨rfl,B2⟩
 have K2:=af ((ae K1).trans' B2)
 clear B2
 go_wp2
 go_ret
 exact⟨rfl,ae K2⟩
theorem zwg (n:Int) (v b:Value) (w:World) (hv:aq w v 0) (h0:(n != 0)=true) (htab:Lib.TabIs prog w "internal/strconv.uint64pow10" .u64 Lib.pow10Tab) (hg:w.cell? ⟨0,0,none⟩=some (.iface 183 (.agg #[.pointer (some ⟨6,29,none⟩)]))) :
  Calls prog 19 #[v,.iface 33 (.int .i64 n),b,.int .i64 n] w fun e w'=>e=.returned (.bool true)∧But [] w w':=by
 have TZ:=af (fun W (h:But [] w W)=>zbz v 0 W (hv.but h) zuq (TabIs.but htab h) ⟨#[48]⟩ zya.symm)
 have TE:=af (fun W (h:But [] w W)=>zqc n W (h.ag hg (by simp)))
 obtain⟨x,y,p,rfl,-⟩:=id hv.agg
 clear htab hg hv
 generalize decide ((0:Rat).num<0)=s at *
 obtain⟨V,hV⟩:∃ V,V=w.alloc (.cells #[.bool s,.int .u64 x,.int .u64 y,.pointer p] 27):=⟨_,rfl⟩
 obtain⟨g,hg⟩:∃ g,g=w.heap.size:=⟨_,rfl⟩
 have c0:V.cell? ⟨g,0,none⟩=some (.bool s):=by rw[hV,hg];simp
 have c1:V.cell? ⟨g,1,none⟩=some (.int .u64 x):=by rw[hV,hg];simp
 have c2:V.cell? ⟨g,2,none⟩=some (.int .u64 y):=by rw[hV,hg];simp
 have c3:V.cell? ⟨g,3,none⟩=some (.pointer p):=by rw[hV,hg];simp
 have bV:But [] w V:=by rw[hV];exact (But.refl _ _).alloc _
 have BV:=af bV
 have HV:=af hV
 clear bV hV
 go_enter func19,ntmps19
 go_wp2_with fail
 rw[← ae HV]
 try rw[← hg]
 clear hg HV
 refine (ae TE V (ae BV)).mono ?_
 rintro e w2 ⟨rfl,B3⟩
 replace c0:=B3.ag c0 (by simp)
 replace c1:=B3.ag c1 (by simp)
 replace c2:=B3.ag c2 (by simp)
 replace c3:=B3.ag c3 (by simp)
 have B4:=af ((ae BV).trans' B3)
 clear B3
 go_wp2_with fail
 refine (ae TZ _ (ae B4)).mono ?_
 rintro e w3 ⟨rfl,B5⟩
 have B6:=af ((ae B4).trans' B5)
 clear B5
 go_wp2
 go_ret
 exact⟨rfl,ae B6⟩
theorem qie (v:Value) (b:Nat) (w:World) (hv:aq w v 0) (hb:qz w b) (htab:Lib.TabIs prog w "internal/strconv.uint64pow10" .u64 Lib.pow10Tab) :
  Calls prog 19 #[v,.nilIface,.pointer (some ⟨b,0,none⟩),.int .i64 0] w fun e w'=>e=.returned (.bool true)∧But [] w w':=by
 have T1:=af (fun W (h:But [] w W)=>zbz v 0 W (hv.but h) zuq (TabIs.but htab h) ⟨#[48]⟩ zya.symm)
 have T2:=af (fun W (h:But [] w W)=>ztf b W (hb.but h))
 obtain⟨x,y,p,rfl,-⟩:=id hv.agg
 clear hv hb htab
 generalize decide ((0:Rat).num<0)=s at *
 obtain⟨V,hV⟩:∃ V,V=w.alloc (.cells #[.bool s,.int .u64 x,.int .u64 y,.pointer p] 27):=⟨_,rfl⟩
 obtain⟨g,hg⟩:∃ g,g=w.heap.size:=⟨_,rfl⟩
 have c0:V.cell? ⟨g,0,none⟩=some (.bool s):=by rw[hV,hg];simp
 have c1:V.cell? ⟨g,1,none⟩=some (.int .u64 x):=by rw[hV,hg];simp
 have c2:V.cell? ⟨g,2,none⟩=some (.int .u64 y):=by rw[hV,hg];simp
 have c3:V.cell? ⟨g,3,none⟩=some (.pointer p):=by rw[hV,hg];simp
 have bV:But [] w V:=by rw[hV];exact (But.refl _ _).alloc _
 have BV:=af bV
 have HV:=af hV
 clear bV hV
 go_enter func19,ntmps19
 go_wp2_with fail
 rw[← ae HV]
 try rw[← hg]
 clear hg HV
 refine (ae T1 V (ae BV)).mono ?_
 rintro e w1 ⟨rfl,B1⟩
 have K1:=af ((ae BV).trans' B1)
 clear B1 c0 c1 c2 c3
 go_wp2_with fail
 refine (ae T2 w1 (ae K1)).mono ?_
 rintro e w2 ⟨rfl,B2⟩
 have K2:=af ((ae K1).trans' B2)
 clear B2
 go_wp2
 go_ret
 exact⟨rfl,ae K2⟩
theorem qqx (v:Value) (r:Rat) (b:Nat) (w:World) (hv:aq w v r) (hb:rz w b r) (lr:Len r 1000000) (htab:Lib.TabIs prog w "internal/strconv.uint64pow10" .u64 Lib.pow10Tab) :
  Calls prog 19 #[v,.nilIface,.pointer (some ⟨b,0,none⟩),.int .i64 0] w fun e w'=>e=.returned (.bool true)∧But [] w w':=by
 rcases hb with h|⟨rfl,h⟩
 ·exact qde v r b w hv h lr htab
 ·exact qie v b w hv h htab
end Go.Proofs.YtffghofheeleeaaGreatDoor
