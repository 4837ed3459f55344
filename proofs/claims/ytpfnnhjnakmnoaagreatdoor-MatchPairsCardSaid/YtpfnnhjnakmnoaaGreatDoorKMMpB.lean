/- The law MatchPairs: its statements that  -/
import Derived.Test.YtpfnnhjnakmnoaaGreatDoorKMHSr
import Derived.Test.YtpfnnhjnakmnoaaGreatDoorKMVR
namespace Go.Proofs.YtpfnnhjnakmnoaaGreatDoor
open Go.RowKit
set_option maxHeartbeats 8000000
set_option maxRecDepth 100000
set_option linter.unusedVariables false
def TwoF (w:World) (q:FZ × FZ) (r1 r2:Rat):Prop:=FracAt w (.agg #[.bool q.1.1,.int .u64 q.1.2.1,.int .u64 q.1.2.2.1,.pointer q.1.2.2.2]) r1∧FracAt w (.agg #[.bool q.2.1,.int .u64 q.2.2.1,.int .u64 q.2.2.2.1,.pointer q.2.2.2.2]) r2
theorem TwoF.but {w w':World} {q:FZ × FZ} {r1 r2:Rat} (h:TwoF w q r1 r2) (hb:But [] w w'):TwoF w' q r1 r2:=⟨h.1.but hb,h.2.but hb⟩
def TwoR (w:World) (q:Value × Value) (r1 r2:Rat) (ok:Bool):Prop:=ok=true→∃ x y,q.1=.pointer (some ⟨x,0,none⟩)∧q.2=.pointer (some ⟨y,0,none⟩)∧RatIs w x r1∧RatIs w y r2
theorem TwoR.but {w w':World} {q:Value × Value} {r1 r2:Rat} {ok:Bool} (h:TwoR w q r1 r2 ok) (hb:But [] w w'):TwoR w' q r1 r2 ok:=fun e=>(h e).elim fun x ⟨y,h1,h2,h3,h4⟩=>⟨x,y,h1,h2,h3.but hb,h4.but hb⟩
theorem run_Mp0 (a:Act) (w:World) (d t:Nat) (u:TypeId) (ps:String) (ed:Array Edge) (gd:Option (Nat × Bool)) (b o:Nat) (v0 v1:Value) (h1:a.eval (.tmp t)=.pointer (some ⟨b,o,none⟩)) (c0:w.cell? ⟨b,o,none⟩=some v0) (c1:w.cell? ⟨b,o+1,none⟩=some v1) :
  (execOp a.eval { dst:=some d,op:=Op.load 23 (.tmp t),type:=u,pos:=ps,after:=ed,guard:=gd }).run Tryz.prog w=.ok (.value (.agg #[v0,v1])) w:=by
 unfold execOp
 simp only [h1]
 go_simp
theorem run_Mp1 (a:Act) (w:World) (d t0:Nat) (u:TypeId) (ps:String) (ed:Array Edge) (gd:Option (Nat × Bool)) (z0:Value) (h0:a.eval (.tmp t0)=z0) :
  (execOp a.eval { dst:=some d,op:=Op.call { callee:=Callee.value (Operand.func 7),args:=#[Operand.tmp t0],argTypes:=#[23] },type:=u,pos:=ps,after:=ed,guard:=gd }).run Tryz.prog w=.ok (.enter 7 #[z0]) w:=by
 unfold execOp
 go_simp
 rw [← h0]
 simp [Act.eval]
theorem run_Mp2 (a:Act) (w:World) (d t0 t1 t2 t3 t4:Nat) (u:TypeId) (ps:String) (ed:Array Edge) (gd:Option (Nat × Bool)) (z0 z1 z2 z3 z4:Value) (h0:a.eval (.tmp t0)=z0) (h1:a.eval (.tmp t1)=z1) (h2:a.eval (.tmp t2)=z2) (h3:a.eval (.tmp t3)=z3) (h4:a.eval (.tmp t4)=z4) :
  (execOp a.eval { dst:=some d,op:=Op.call { callee:=Callee.value (Operand.func 13),args:=#[Operand.tmp t0,Operand.tmp t1,Operand.tmp t2,Operand.tmp t3,Operand.tmp t4],argTypes:=#[27,3,3,3,27] },type:=u,pos:=ps,after:=ed,guard:=gd }).run Tryz.prog w=.ok (.enter 13 #[z0,z1,z2,z3,z4]) w:=by
 unfold execOp
 go_simp
 rw [← h0,← h1,← h2,← h3,← h4]
 simp [Act.eval]
theorem run_Mp3 (a:Act) (w:World) (d:Nat) (u:TypeId) (ps:String) (ed:Array Edge) (gd:Option (Nat × Bool)) :
  (execOp a.eval { dst:=some d,op:=Op.alloc 27,type:=u,pos:=ps,after:=ed,guard:=gd }).run Tryz.prog w=.ok (.value (.pointer (some ⟨w.heap.size,0,none⟩))) (w.alloc (.cells #[.bool false,.int .u64 0,.int .u64 0,.pointer none] 27)):=by
 unfold execOp
 go_simp
theorem run_Mp4 (a:Act) (w:World) (t1 t2:Nat) (u:TypeId) (ps:String) (ed:Array Edge) (b o:Nat) (s0:Bool) (x0 y0:Int) (p0:Option Addr) (h1:a.eval (.tmp t1)=.pointer (some ⟨b,o,none⟩)) (h2:a.eval (.tmp t2)=.agg #[.bool s0,.int .u64 x0,.int .u64 y0,.pointer p0]) (k0:∃ u,w.cell? ⟨b,o,none⟩=some u) (k1:∃ u,w.cell? ⟨b,o+1,none⟩=some u) (k2:∃ u,w.cell? ⟨b,o+2,none⟩=some u) (k3:∃ u,w.cell? ⟨b,o+3,none⟩=some u) (fz:∀ j,w.frozen? ⟨b,j,none⟩=false) :
  (execOp a.eval { dst:=none,op:=Op.store 27 (.tmp t1) (.tmp t2),type:=u,pos:=ps,after:=ed,guard:=none }).run Tryz.prog w=.ok .skip (w.setCells b o [.bool s0,.int .u64 x0,.int .u64 y0,.pointer p0]):=by
 obtain ⟨u0,e0⟩:=k0
 obtain ⟨u1,e1⟩:=k1
 obtain ⟨u2,e2⟩:=k2
 obtain ⟨u3,e3⟩:=k3
 unfold execOp
 simp only [h1,h2]
 go_simp
 try rfl
def opMa0:Oper:={ dst:=some 18,op:=Op.load 23 (Operand.tmp 5),type := 23,pos := "plays.go:169",after:=#[],guard:=none }
def opMa1:Oper:={ dst:=some 19,op:=Op.call { callee:=Callee.value (Operand.func 7),args:=#[Operand.tmp 18],argTypes:=#[23] },type := 27,pos := "plays.go:169",after:=#[⟨0,.data⟩],guard:=none }
def opMa2:Oper:={ dst:=some 20,op:=Op.move (Operand.tmp 1),type := 3,pos := "plays.go:169",after:=#[],guard:=none }
def opMa3:Oper:={ dst:=some 21,op:=Op.move (Operand.tmp 2),type := 3,pos := "plays.go:169",after:=#[],guard:=none }
def opMa4:Oper:={ dst:=some 22,op:=Op.move (Operand.tmp 3),type := 3,pos := "plays.go:169",after:=#[],guard:=none }
def opMa5:Oper:={ dst:=some 23,op:=Op.load 23 (Operand.tmp 9),type := 23,pos := "plays.go:169",after:=#[],guard:=none }
def opMa6:Oper:={ dst:=some 24,op:=Op.call { callee:=Callee.value (Operand.func 7),args:=#[Operand.tmp 23],argTypes:=#[23] },type := 27,pos := "plays.go:169",after:=#[⟨5,.data⟩,⟨1,.chain⟩],guard:=none }
def opMa7:Oper:={ dst:=some 25,op:=Op.call { callee:=Callee.value (Operand.func 13),args:=#[Operand.tmp 19,Operand.tmp 20,Operand.tmp 21,Operand.tmp 22,Operand.tmp 24],argTypes:=#[27,3,3,3,27] },type := 41,pos := "plays.go:169",after:=#[⟨1,.data⟩,⟨2,.data⟩,⟨3,.data⟩,⟨4,.data⟩,⟨6,.data⟩,⟨6,.chain⟩],guard:=none }
def opMa8:Oper:={ dst:=some 17,op:=Op.move (Operand.tmp 25),type := 41,pos := "plays.go:169",after:=#[⟨7,.data⟩],guard:=none }
def opMa9:Oper:={ dst:=some 26,op:=Op.extract (Operand.tmp 17) 0,type := 27,pos := "plays.go:169",after:=#[⟨8,.data⟩],guard:=none }
def opMa10:Oper:={ dst:=some 27,op:=Op.extract (Operand.tmp 17) 1,type := 27,pos := "plays.go:169",after:=#[⟨8,.data⟩,{ on:=14,ground:=Ground.gcOnly Departure.lateStores }],guard:=none }
def opMa11:Oper:={ dst:=some 28,op:=Op.extract (Operand.tmp 17) 2,type := 29,pos := "plays.go:169",after:=#[⟨8,.data⟩,{ on:=15,ground:=Ground.gcOnly Departure.lateStores }],guard:=none }
def opMa12:Oper:={ dst:=some 11,op:=Op.alloc 27,type:=0,pos := "plays.go:169",after:=#[],guard:=none }
def opMa13:Oper:={ dst:=some 12,op:=Op.alloc 27,type:=0,pos := "plays.go:169",after:=#[],guard:=none }
def opMa14:Oper:={ dst:=none,op:=Op.store 27 (Operand.tmp 11) (Operand.tmp 26),type:=0,pos := "plays.go:169",after:=#[⟨12,.data⟩,⟨9,.data⟩,⟨7,.chain⟩,⟨0,.phase⟩,⟨1,.phase⟩,⟨2,.phase⟩,⟨3,.phase⟩,⟨4,.phase⟩,⟨5,.phase⟩,⟨6,.phase⟩,⟨7,.phase⟩,⟨8,.phase⟩,⟨9,.phase⟩,{ on:=10,ground:=Ground.textOnly Departure.lateStores },{ on:=11,ground:=Ground.textOnly Departure.lateStores },⟨12,.phase⟩,⟨13,.phase⟩],guard:=none }
def opMa15:Oper:={ dst:=none,op:=Op.store 27 (Operand.tmp 12) (Operand.tmp 27),type:=0,pos := "plays.go:169",after:=#[⟨13,.data⟩,⟨10,.data⟩,⟨14,.chain⟩,⟨0,.phase⟩,⟨1,.phase⟩,⟨2,.phase⟩,⟨3,.phase⟩,⟨4,.phase⟩,⟨5,.phase⟩,⟨6,.phase⟩,⟨7,.phase⟩,⟨8,.phase⟩,⟨9,.phase⟩,⟨10,.phase⟩,{ on:=11,ground:=Ground.textOnly Departure.lateStores },⟨12,.phase⟩,⟨13,.phase⟩,⟨14,.phase⟩],guard:=none }
def opMa16:Oper:={ dst:=some 13,op:=Op.assign (Operand.tmp 28),type := 29,pos := "plays.go:169",after:=#[⟨11,.data⟩,⟨15,.chain⟩,⟨0,.phase⟩,⟨1,.phase⟩,⟨2,.phase⟩,⟨3,.phase⟩,⟨4,.phase⟩,⟨5,.phase⟩,⟨6,.phase⟩,⟨7,.phase⟩,⟨8,.phase⟩,⟨9,.phase⟩,⟨10,.phase⟩,⟨11,.phase⟩,⟨12,.phase⟩,⟨13,.phase⟩,⟨14,.phase⟩,⟨15,.phase⟩],guard:=none }
def opMas:Array Oper:=#[opMa0,opMa1,opMa2,opMa3,opMa4,opMa5,opMa6,opMa7,opMa8,opMa9,opMa10,opMa11,opMa12,opMa13,opMa14,opMa15,opMa16]
structure opMaH (W0:World) (g5:Nat) (g9:Nat) (d1:Int) (u1:Int) (d2:Int) (u2:Int) (ta:Int) (th:Int) (tb:Int) (r1:Rat) (r2:Rat) (ev:Value) (s1:Bool) (x1:Int) (y1:Int) (p1:Option Addr) (s2:Bool) (x2:Int) (y2:Int) (p2:Option Addr) (q:FZ × FZ) (g11:Nat) (g12:Nat) (b7:Bool) (b12:Bool) (b13:Bool) (w:World):Prop where
 mem:But [] W0 w
 f7:b7=true→TwoF w q r1 r2
 f12:b12=true→NewB W0.heap.size w g11 [.bool false,.int .u64 0,.int .u64 0,.pointer none]
 f13:b13=true→NewB W0.heap.size w g12 [.bool false,.int .u64 0,.int .u64 0,.pointer none]
 x12_13:b12=true→b13=true→g11≠g12
theorem opMaH.but {W0:World} {g5:Nat} {g9:Nat} {d1:Int} {u1:Int} {d2:Int} {u2:Int} {ta:Int} {th:Int} {tb:Int} {r1:Rat} {r2:Rat} {ev:Value} {s1:Bool} {x1:Int} {y1:Int} {p1:Option Addr} {s2:Bool} {x2:Int} {y2:Int} {p2:Option Addr} {q:FZ × FZ} {g11:Nat} {g12:Nat} {b7 b12 b13:Bool} {w w':World} (h:opMaH W0 g5 g9 d1 u1 d2 u2 ta th tb r1 r2 ev s1 x1 y1 p1 s2 x2 y2 p2 q g11 g12 b7 b12 b13 w) (hb:But [] w w'):opMaH W0 g5 g9 d1 u1 d2 u2 ta th tb r1 r2 ev s1 x1 y1 p1 s2 x2 y2 p2 q g11 g12 b7 b12 b13 w' :=
 { mem:=h.mem.trans' hb,f7:=fun e=>(h.f7 e).but hb,f12:=fun e=>(h.f12 e).but hb,f13:=fun e=>(h.f13 e).but hb,x12_13:=h.x12_13 }
theorem opMaH.s7 {W0:World} {g5:Nat} {g9:Nat} {d1:Int} {u1:Int} {d2:Int} {u2:Int} {ta:Int} {th:Int} {tb:Int} {r1:Rat} {r2:Rat} {ev:Value} {s1:Bool} {x1:Int} {y1:Int} {p1:Option Addr} {s2:Bool} {x2:Int} {y2:Int} {p2:Option Addr} {q:FZ × FZ} {g11:Nat} {g12:Nat} {b7 b12 b13:Bool} {w:World} (h:opMaH W0 g5 g9 d1 u1 d2 u2 ta th tb r1 r2 ev s1 x1 y1 p1 s2 x2 y2 p2 q g11 g12 b7 b12 b13 w) (q':FZ × FZ) (hf:TwoF w q' r1 r2):opMaH W0 g5 g9 d1 u1 d2 u2 ta th tb r1 r2 ev s1 x1 y1 p1 s2 x2 y2 p2 q' g11 g12 true b12 b13 w :=
 { mem:=h.mem,f7:=fun _=>hf,f12:=h.f12,f13:=h.f13,x12_13:=h.x12_13 }
theorem opMaH.s12 {W0:World} {g5:Nat} {g9:Nat} {d1:Int} {u1:Int} {d2:Int} {u2:Int} {ta:Int} {th:Int} {tb:Int} {r1:Rat} {r2:Rat} {ev:Value} {s1:Bool} {x1:Int} {y1:Int} {p1:Option Addr} {s2:Bool} {x2:Int} {y2:Int} {p2:Option Addr} {q:FZ × FZ} {g11:Nat} {g12:Nat} {b7 b12 b13:Bool} {w:World} (h:opMaH W0 g5 g9 d1 u1 d2 u2 ta th tb r1 r2 ev s1 x1 y1 p1 s2 x2 y2 p2 q g11 g12 b7 b12 b13 w) (g11':Nat) (hf:NewB W0.heap.size w g11' [.bool false,.int .u64 0,.int .u64 0,.pointer none]) (k12_13:b13=true→g11'≠g12):opMaH W0 g5 g9 d1 u1 d2 u2 ta th tb r1 r2 ev s1 x1 y1 p1 s2 x2 y2 p2 q g11' g12 b7 true b13 w :=
 { mem:=h.mem,f7:=h.f7,f12:=fun _=>hf,f13:=h.f13,x12_13:=fun _ e=>k12_13 e }
theorem opMaH.s13 {W0:World} {g5:Nat} {g9:Nat} {d1:Int} {u1:Int} {d2:Int} {u2:Int} {ta:Int} {th:Int} {tb:Int} {r1:Rat} {r2:Rat} {ev:Value} {s1:Bool} {x1:Int} {y1:Int} {p1:Option Addr} {s2:Bool} {x2:Int} {y2:Int} {p2:Option Addr} {q:FZ × FZ} {g11:Nat} {g12:Nat} {b7 b12 b13:Bool} {w:World} (h:opMaH W0 g5 g9 d1 u1 d2 u2 ta th tb r1 r2 ev s1 x1 y1 p1 s2 x2 y2 p2 q g11 g12 b7 b12 b13 w) (g12':Nat) (hf:NewB W0.heap.size w g12' [.bool false,.int .u64 0,.int .u64 0,.pointer none]) (k12_13:b12=true→g11≠g12'):opMaH W0 g5 g9 d1 u1 d2 u2 ta th tb r1 r2 ev s1 x1 y1 p1 s2 x2 y2 p2 q g11 g12' b7 b12 true w :=
 { mem:=h.mem,f7:=h.f7,f12:=h.f12,f13:=fun _=>hf,x12_13:=fun e _=>k12_13 e }
def opMaT (i:Nat):Nat:=match i with
 | 0=>18
 | 1=>19
 | 2=>20
 | 3=>21
 | 4=>22
 | 5=>23
 | 6=>24
 | 7=>25
 | 8=>17
 | 9=>26
 | 10=>27
 | 11=>28
 | 12=>11
 | 13=>12
 | 14=>18
 | 15=>18
 | _=>13
def opMaW (i:Nat):Bool:=match i with
 | 14=>false
 | 15=>false
 | _=>true
def opMaV (g5:Nat) (g9:Nat) (d1:Int) (u1:Int) (d2:Int) (u2:Int) (ta:Int) (th:Int) (tb:Int) (r1:Rat) (r2:Rat) (ev:Value) (s1:Bool) (x1:Int) (y1:Int) (p1:Option Addr) (s2:Bool) (x2:Int) (y2:Int) (p2:Option Addr) (q:FZ × FZ) (g11:Nat) (g12:Nat) (i:Nat):Value:=match i with
 | 0=>.agg #[.int .i64 d1,.int .i64 u1]
 | 1=>.agg #[.bool s1,.int .u64 x1,.int .u64 y1,.pointer p1]
 | 2=>.int .i64 ta
 | 3=>.int .i64 th
 | 4=>.int .i64 tb
 | 5=>.agg #[.int .i64 d2,.int .i64 u2]
 | 6=>.agg #[.bool s2,.int .u64 x2,.int .u64 y2,.pointer p2]
 | 7=>.tuple #[.agg #[.bool q.1.1,.int .u64 q.1.2.1,.int .u64 q.1.2.2.1,.pointer q.1.2.2.2],.agg #[.bool q.2.1,.int .u64 q.2.2.1,.int .u64 q.2.2.2.1,.pointer q.2.2.2.2],ev]
 | 8=>.tuple #[.agg #[.bool q.1.1,.int .u64 q.1.2.1,.int .u64 q.1.2.2.1,.pointer q.1.2.2.2],.agg #[.bool q.2.1,.int .u64 q.2.2.1,.int .u64 q.2.2.2.1,.pointer q.2.2.2.2],ev]
 | 9=>.agg #[.bool q.1.1,.int .u64 q.1.2.1,.int .u64 q.1.2.2.1,.pointer q.1.2.2.2]
 | 10=>.agg #[.bool q.2.1,.int .u64 q.2.2.1,.int .u64 q.2.2.2.1,.pointer q.2.2.2.2]
 | 11=>ev
 | 12=>.pointer (some ⟨g11,0,none⟩)
 | 13=>.pointer (some ⟨g12,0,none⟩)
 | 14=>undef
 | 15=>undef
 | _=>ev
theorem opMa_dep:depOps opMas [(1,0),(6,1),(6,5),(7,1),(7,2),(7,3),(7,4),(7,6),(8,7),(9,8),(10,8),(11,8),(14,0),(14,1),(14,2),(14,3),(14,4),(14,5),(14,6),(14,7),(14,8),(14,9),(14,12),(14,13),(15,0),(15,1),(15,2),(15,3),(15,4),(15,5),(15,6),(15,7),(15,8),(15,9),(15,10),(15,12),(15,13),(15,14),(16,0),(16,1),(16,2),(16,3),(16,4),(16,5),(16,6),(16,7),(16,8),(16,9),(16,10),(16,11),(16,12),(16,13),(16,14),(16,15)]=true:=by kernel_rfl
theorem opMaT_inj:∀ i j,i<17→j<17→opMaW i=true→opMaW j=true→opMaT i=opMaT j→i=j:=fun i j hi hj=>(by decide:∀ i,i<17→∀ j,j<17→opMaW i=true→opMaW j=true→opMaT i=opMaT j→i=j) i hi j hj
theorem pairs_region1 (id:Nat) (Q:Exit→Act→World→Prop) (base:Act) (W0:World) (g5:Nat) (g9:Nat) (d1:Int) (u1:Int) (d2:Int) (u2:Int) (ta:Int) (th:Int) (tb:Int) (r1:Rat) (r2:Rat) (ev:Value) (s1:Bool) (x1:Int) (y1:Int) (p1:Option Addr) (s2:Bool) (x2:Int) (y2:Int) (p2:Option Addr) (hs:28<base.tmps.size) (e5:base.eval (.tmp 5)=.pointer (some ⟨g5,0,none⟩)) (e9:base.eval (.tmp 9)=.pointer (some ⟨g9,0,none⟩)) (e1:base.eval (.tmp 1)=.int .i64 ta) (e2:base.eval (.tmp 2)=.int .i64 th) (e3:base.eval (.tmp 3)=.int .i64 tb)
  (q1a:W0.cell? ⟨g5,0,none⟩=some (.int .i64 d1)) (q1b:W0.cell? ⟨g5,1,none⟩=some (.int .i64 u1)) (q2a:W0.cell? ⟨g9,0,none⟩=some (.int .i64 d2)) (q2b:W0.cell? ⟨g9,1,none⟩=some (.int .i64 u2)) (FA:∀ w,Calls Tryz.prog 7 #[.agg #[.int .i64 d1,.int .i64 u1]] w fun e w'=>e=.returned (.agg #[.bool s1,.int .u64 x1,.int .u64 y1,.pointer p1])∧But [] w w') (FB:∀ w,Calls Tryz.prog 7 #[.agg #[.int .i64 d2,.int .i64 u2]] w fun e w'=>e=.returned (.agg #[.bool s2,.int .u64 x2,.int .u64 y2,.pointer p2])∧But [] w w') (PA:∀ w,But [] W0 w→Calls Tryz.prog 13 #[.agg #[.bool s1,.int .u64 x1,.int .u64 y1,.pointer p1],.int .i64 ta,.int .i64 th,.int .i64 tb,.agg #[.bool s2,.int .u64 x2,.int .u64 y2,.pointer p2]] w fun e w'=>∃ q:FZ × FZ,e=.returned (.tuple #[.agg #[.bool q.1.1,.int .u64 q.1.2.1,.int .u64 q.1.2.2.1,.pointer q.1.2.2.2],.agg #[.bool q.2.1,.int .u64 q.2.2.1,.int .u64 q.2.2.2.1,.pointer q.2.2.2.2],ev])∧TwoF w' q r1 r2∧But [] w w')
  (hQ:∀ (q:FZ × FZ) (g11:Nat) (g12:Nat) w1,opMaH W0 g5 g9 d1 u1 d2 u2 ta th tb r1 r2 ev s1 x1 y1 p1 s2 x2 y2 p2 q g11 g12 true true true w1→Q .normal (putted base [(18,.agg #[.int .i64 d1,.int .i64 u1]),(19,.agg #[.bool s1,.int .u64 x1,.int .u64 y1,.pointer p1]),(20,.int .i64 ta),(21,.int .i64 th),(22,.int .i64 tb),(23,.agg #[.int .i64 d2,.int .i64 u2]),(24,.agg #[.bool s2,.int .u64 x2,.int .u64 y2,.pointer p2]),(25,.tuple #[.agg #[.bool q.1.1,.int .u64 q.1.2.1,.int .u64 q.1.2.2.1,.pointer q.1.2.2.2],.agg #[.bool q.2.1,.int .u64 q.2.2.1,.int .u64 q.2.2.2.1,.pointer q.2.2.2.2],ev]),(17,.tuple #[.agg #[.bool q.1.1,.int .u64 q.1.2.1,.int .u64 q.1.2.2.1,.pointer q.1.2.2.2],.agg #[.bool q.2.1,.int .u64 q.2.2.1,.int .u64 q.2.2.2.1,.pointer q.2.2.2.2],ev]),(26,.agg #[.bool q.1.1,.int .u64 q.1.2.1,.int .u64 q.1.2.2.1,.pointer q.1.2.2.2]),(27,.agg #[.bool q.2.1,.int .u64 q.2.2.1,.int .u64 q.2.2.2.1,.pointer q.2.2.2.2]),(28,ev),(11,.pointer (some ⟨g11,0,none⟩)),(12,.pointer (some ⟨g12,0,none⟩)),(13,ev)]) ((w1.setCells g11 (0) [.bool q.1.1,.int .u64 q.1.2.1,.int .u64 q.1.2.2.1,.pointer q.1.2.2.2]).setCells g12 (0) [.bool q.2.1,.int .u64 q.2.2.1,.int .u64 q.2.2.2.1,.pointer q.2.2.2.2])) :
  (Code.region id opMas true).wp Tryz.prog Q base W0:=by
 have hT:∀ i,i<17→opMaW i=true→opMaT i<base.tmps.size:=fun i hi _=>by
  have h:opMaT i≤28:=by revert i;decide
  omega
 refine region_all (by kernel_rfl) (low_of (by kernel_rfl)) (bare_of (by kernel_rfl)) (fun (N:(FZ × FZ) × (Nat) × (Nat)) d w=>∃ w1,opMaH W0 g5 g9 d1 u1 d2 u2 ta th tb r1 r2 ev s1 x1 y1 p1 s2 x2 y2 p2 N.1 N.2.1 N.2.2 (d 7) (d 12) (d 13) w1∧(d 14=false→w=w1)∧(d 14=true→d 15=false→w=(w1.setCells N.2.1 (0) [.bool N.1.1.1,.int .u64 N.1.1.2.1,.int .u64 N.1.1.2.2.1,.pointer N.1.1.2.2.2]))∧(d 15=true→w=((w1.setCells N.2.1 (0) [.bool N.1.1.1,.int .u64 N.1.1.2.1,.int .u64 N.1.1.2.2.1,.pointer N.1.1.2.2.2]).setCells N.2.2 (0) [.bool N.1.2.1,.int .u64 N.1.2.2.1,.int .u64 N.1.2.2.2.1,.pointer N.1.2.2.2.2]))) (fun N=>opMaV g5 g9 d1 u1 d2 u2 ta th tb r1 r2 ev s1 x1 y1 p1 s2 x2 y2 p2 N.1 N.2.1 N.2.2) opMaT opMaW 17 (by kernel_rfl) opMaT_inj hT (((false,0,0,none),(false,0,0,none)),0,0) ⟨_,{ mem:=(But.refl _ _).drew,f7:=fun h=>by simp at h,f12:=fun h=>by simp at h,f13:=fun h=>by simp at h,x12_13:=fun h=>by simp at h },fun _=>rfl,fun h=>by simp at h,fun h=>by simp at h⟩ ?_ ?_
 ·intro N d i o a w K hi ho hdi hcl hH he hdep hK
  have hD:=dep_is opMa_dep ho (fun j=>d j=true∧(opMaW j=true→a.eval (.tmp (opMaT j))=opMaV g5 g9 d1 u1 d2 u2 ta th tb r1 r2 ev s1 x1 y1 p1 s2 x2 y2 p2 N.1 N.2.1 N.2.2 j)) hdep
  have e5':=(he 5 (fun j hj _ _=>(by decide:∀ j,j<17→(5:Nat)≠opMaT j) j hj)).trans e5
  have e9':=(he 9 (fun j hj _ _=>(by decide:∀ j,j<17→(9:Nat)≠opMaT j) j hj)).trans e9
  have e1':=(he 1 (fun j hj _ _=>(by decide:∀ j,j<17→(1:Nat)≠opMaT j) j hj)).trans e1
  have e2':=(he 2 (fun j hj _ _=>(by decide:∀ j,j<17→(2:Nat)≠opMaT j) j hj)).trans e2
  have e3':=(he 3 (fun j hj _ _=>(by decide:∀ j,j<17→(3:Nat)≠opMaT j) j hj)).trans e3
  have:i=0∨i=1∨i=2∨i=3∨i=4∨i=5∨i=6∨i=7∨i=8∨i=9∨i=10∨i=11∨i=12∨i=13∨i=14∨i=15∨i=16:=by omega
  rcases this with rfl | rfl | rfl | rfl | rfl | rfl | rfl | rfl | rfl | rfl | rfl | rfl | rfl | rfl | rfl | rfl | rfl
  ·obtain rfl:=Option.some.inj ((show opMas[0]? = some opMa0 from rfl).symm.trans ho)
   have hs0:d 14=false:=(hcl.not opMa_dep (i:=14) (j:=0) (by simp) hdi)
   have hs1:d 15=false:=(hcl.not opMa_dep (i:=15) (j:=0) (by simp) hdi)
   obtain ⟨w1,hP,h1,h2,h3⟩:=hH
   obtain rfl:=h1 hs0
   have hW:=hP.mem
   exact wp_value (run_Mp0 a w _ _ _ _ _ _ g5 (0) _ _ e5' (hW.cell_some q1a (by simp)) (hW.cell_some q1b (by simp))) (hK N _ _ (fun _=>rfl) (fun _ _ _ _=>rfl) ⟨_,hP,h1,h2,h3⟩)
  ·obtain rfl:=Option.some.inj ((show opMas[1]? = some opMa1 from rfl).symm.trans ho)
   have hs0:d 14=false:=(hcl.not opMa_dep (i:=14) (j:=1) (by simp) hdi)
   have hs1:d 15=false:=(hcl.not opMa_dep (i:=15) (j:=1) (by simp) hdi)
   obtain ⟨w1,hP,h1,h2,h3⟩:=hH
   obtain rfl:=h1 hs0
   have hW:=hP.mem
   exact wp_enter (run_Mp1 a w _ _ _ _ _ _ _ ((hD 0 (by simp)).2 rfl)) (R:=fun w' v=>v=opMaV g5 g9 d1 u1 d2 u2 ta th tb r1 r2 ev s1 x1 y1 p1 s2 x2 y2 p2 N.1 N.2.1 N.2.2 1∧But [] w w') ((FA w).mono fun e w' ⟨he,hb⟩=>⟨_,he,rfl,hb⟩) (fun v w' hv=>hK N _ _ (fun _=>hv.1) (fun _ _ _ _=>rfl) ⟨_,(hP.but hv.2),fun _=>rfl,fun h=>absurd (hs0.symm.trans h) (by simp),fun h=>absurd (hs1.symm.trans h) (by simp)⟩)
  ·obtain rfl:=Option.some.inj ((show opMas[2]? = some opMa2 from rfl).symm.trans ho)
   exact wp_value (run_mvK a w _ _ _ _ _ _ _ e1') (hK N _ _ (fun _=>rfl) (fun _ _ _ _=>rfl) hH)
  ·obtain rfl:=Option.some.inj ((show opMas[3]? = some opMa3 from rfl).symm.trans ho)
   exact wp_value (run_mvK a w _ _ _ _ _ _ _ e2') (hK N _ _ (fun _=>rfl) (fun _ _ _ _=>rfl) hH)
  ·obtain rfl:=Option.some.inj ((show opMas[4]? = some opMa4 from rfl).symm.trans ho)
   exact wp_value (run_mvK a w _ _ _ _ _ _ _ e3') (hK N _ _ (fun _=>rfl) (fun _ _ _ _=>rfl) hH)
  ·obtain rfl:=Option.some.inj ((show opMas[5]? = some opMa5 from rfl).symm.trans ho)
   have hs0:d 14=false:=(hcl.not opMa_dep (i:=14) (j:=5) (by simp) hdi)
   have hs1:d 15=false:=(hcl.not opMa_dep (i:=15) (j:=5) (by simp) hdi)
   obtain ⟨w1,hP,h1,h2,h3⟩:=hH
   obtain rfl:=h1 hs0
   have hW:=hP.mem
   exact wp_value (run_Mp0 a w _ _ _ _ _ _ g9 (0) _ _ e9' (hW.cell_some q2a (by simp)) (hW.cell_some q2b (by simp))) (hK N _ _ (fun _=>rfl) (fun _ _ _ _=>rfl) ⟨_,hP,h1,h2,h3⟩)
  ·obtain rfl:=Option.some.inj ((show opMas[6]? = some opMa6 from rfl).symm.trans ho)
   have hs0:d 14=false:=(hcl.not opMa_dep (i:=14) (j:=6) (by simp) hdi)
   have hs1:d 15=false:=(hcl.not opMa_dep (i:=15) (j:=6) (by simp) hdi)
   obtain ⟨w1,hP,h1,h2,h3⟩:=hH
   obtain rfl:=h1 hs0
   have hW:=hP.mem
   exact wp_enter (run_Mp1 a w _ _ _ _ _ _ _ ((hD 5 (by simp)).2 rfl)) (R:=fun w' v=>v=opMaV g5 g9 d1 u1 d2 u2 ta th tb r1 r2 ev s1 x1 y1 p1 s2 x2 y2 p2 N.1 N.2.1 N.2.2 6∧But [] w w') ((FB w).mono fun e w' ⟨he,hb⟩=>⟨_,he,rfl,hb⟩) (fun v w' hv=>hK N _ _ (fun _=>hv.1) (fun _ _ _ _=>rfl) ⟨_,(hP.but hv.2),fun _=>rfl,fun h=>absurd (hs0.symm.trans h) (by simp),fun h=>absurd (hs1.symm.trans h) (by simp)⟩)
  ·obtain rfl:=Option.some.inj ((show opMas[7]? = some opMa7 from rfl).symm.trans ho)
   have hs0:d 14=false:=(hcl.not opMa_dep (i:=14) (j:=7) (by simp) hdi)
   have hs1:d 15=false:=(hcl.not opMa_dep (i:=15) (j:=7) (by simp) hdi)
   obtain ⟨w1,hP,h1,h2,h3⟩:=hH
   obtain rfl:=h1 hs0
   have hW:=hP.mem
   exact wp_enter (run_Mp2 a w _ _ _ _ _ _ _ _ _ _ _ _ _ _ _ ((hD 1 (by simp)).2 rfl) ((hD 2 (by simp)).2 rfl) ((hD 3 (by simp)).2 rfl) ((hD 4 (by simp)).2 rfl) ((hD 6 (by simp)).2 rfl)) (R:=fun w' u=>∃ v,u=.tuple #[.agg #[.bool v.1.1,.int .u64 v.1.2.1,.int .u64 v.1.2.2.1,.pointer v.1.2.2.2],.agg #[.bool v.2.1,.int .u64 v.2.2.1,.int .u64 v.2.2.2.1,.pointer v.2.2.2.2],ev]∧(TwoF w' v r1 r2)∧But [] w w') ((PA w hW).mono fun e w' ⟨v,he,hf,hb⟩=>⟨_,he,v,rfl,hf,hb⟩) (fun u w' ⟨v,hu,hf,hb⟩=>hK (v,N.2.1,N.2.2) _ _ (fun _=>hu) (fun j hj _ hdj=>by
    have:j=0∨j=1∨j=2∨j=3∨j=4∨j=5∨j=6∨j=7∨j=8∨j=9∨j=10∨j=11∨j=12∨j=13∨j=14∨j=15∨j=16:=by omega
    rcases this with rfl | rfl | rfl | rfl | rfl | rfl | rfl | rfl | rfl | rfl | rfl | rfl | rfl | rfl | rfl | rfl | rfl
    ·rfl
    ·rfl
    ·rfl
    ·rfl
    ·rfl
    ·rfl
    ·rfl
    ·exact absurd (hdi.symm.trans hdj) (by simp)
    ·exact absurd ((hcl.not opMa_dep (i:=8) (j:=7) (by simp) hdi).symm.trans hdj) (by simp)
    ·exact absurd ((hcl.not opMa_dep (i:=9) (j:=8) (by simp) (hcl.not opMa_dep (i:=8) (j:=7) (by simp) hdi)).symm.trans hdj) (by simp)
    ·exact absurd ((hcl.not opMa_dep (i:=10) (j:=8) (by simp) (hcl.not opMa_dep (i:=8) (j:=7) (by simp) hdi)).symm.trans hdj) (by simp)
    ·rfl
    ·rfl
    ·rfl
    ·rfl
    ·rfl
    ·rfl) ⟨_,((hP.but hb).s7 v hf),fun _=>rfl,fun h=>absurd (hs0.symm.trans h) (by simp),fun h=>absurd (hs1.symm.trans h) (by simp)⟩)
  ·obtain rfl:=Option.some.inj ((show opMas[8]? = some opMa8 from rfl).symm.trans ho)
   exact wp_value (run_mvK a w _ _ _ _ _ _ _ ((hD 7 (by simp)).2 rfl)) (hK N _ _ (fun _=>rfl) (fun _ _ _ _=>rfl) hH)
  ·obtain rfl:=Option.some.inj ((show opMas[9]? = some opMa9 from rfl).symm.trans ho)
   exact wp_value (run_exK a w _ _ _ _ _ _ _ _ _ ((hD 8 (by simp)).2 rfl) rfl) (hK N _ _ (fun _=>rfl) (fun _ _ _ _=>rfl) hH)
  ·obtain rfl:=Option.some.inj ((show opMas[10]? = some opMa10 from rfl).symm.trans ho)
   exact wp_value (run_exK a w _ _ _ _ _ _ _ _ _ ((hD 8 (by simp)).2 rfl) rfl) (hK N _ _ (fun _=>rfl) (fun _ _ _ _=>rfl) hH)
  ·obtain rfl:=Option.some.inj ((show opMas[11]? = some opMa11 from rfl).symm.trans ho)
   exact wp_value (run_exK a w _ _ _ _ _ _ _ _ _ ((hD 8 (by simp)).2 rfl) rfl) (hK N _ _ (fun _=>rfl) (fun _ _ _ _=>rfl) hH)
  ·obtain rfl:=Option.some.inj ((show opMas[12]? = some opMa12 from rfl).symm.trans ho)
   have hs0:d 14=false:=(hcl.not opMa_dep (i:=14) (j:=12) (by simp) hdi)
   have hs1:d 15=false:=(hcl.not opMa_dep (i:=15) (j:=12) (by simp) hdi)
   obtain ⟨w1,hP,h1,h2,h3⟩:=hH
   obtain rfl:=h1 hs0
   have hW:=hP.mem
   have bA:But [] w (w.alloc (.cells #[.bool false,.int .u64 0,.int .u64 0,.pointer none] 27)):=(But.refl _ _).alloc _
   have hsz:=hW.size
   exact wp_value (run_Mp3 a w _ _ _ _ _) (hK (N.1,w.heap.size,N.2.2) _ _ (fun _=>rfl) (fun j hj _ hdj=>by
    have:j=0∨j=1∨j=2∨j=3∨j=4∨j=5∨j=6∨j=7∨j=8∨j=9∨j=10∨j=11∨j=12∨j=13∨j=14∨j=15∨j=16:=by omega
    rcases this with rfl | rfl | rfl | rfl | rfl | rfl | rfl | rfl | rfl | rfl | rfl | rfl | rfl | rfl | rfl | rfl | rfl
    ·rfl
    ·rfl
    ·rfl
    ·rfl
    ·rfl
    ·rfl
    ·rfl
    ·rfl
    ·rfl
    ·rfl
    ·rfl
    ·rfl
    ·exact absurd (hdi.symm.trans hdj) (by simp)
    ·rfl
    ·rfl
    ·rfl
    ·rfl) ⟨_,((hP.but bA).s12 w.heap.size (NewB.made _ w [.bool false,.int .u64 0,.int .u64 0,.pointer none] _ hsz) (fun e=>(Nat.ne_of_lt (hP.f13 e).lt).symm)),fun _=>rfl,fun h=>absurd (hs0.symm.trans h) (by simp),fun h=>absurd (hs1.symm.trans h) (by simp)⟩)
  ·obtain rfl:=Option.some.inj ((show opMas[13]? = some opMa13 from rfl).symm.trans ho)
   have hs0:d 14=false:=(hcl.not opMa_dep (i:=14) (j:=13) (by simp) hdi)
   have hs1:d 15=false:=(hcl.not opMa_dep (i:=15) (j:=13) (by simp) hdi)
   obtain ⟨w1,hP,h1,h2,h3⟩:=hH
   obtain rfl:=h1 hs0
   have hW:=hP.mem
   have bA:But [] w (w.alloc (.cells #[.bool false,.int .u64 0,.int .u64 0,.pointer none] 27)):=(But.refl _ _).alloc _
   have hsz:=hW.size
   exact wp_value (run_Mp3 a w _ _ _ _ _) (hK (N.1,N.2.1,w.heap.size) _ _ (fun _=>rfl) (fun j hj _ hdj=>by
    have:j=0∨j=1∨j=2∨j=3∨j=4∨j=5∨j=6∨j=7∨j=8∨j=9∨j=10∨j=11∨j=12∨j=13∨j=14∨j=15∨j=16:=by omega
    rcases this with rfl | rfl | rfl | rfl | rfl | rfl | rfl | rfl | rfl | rfl | rfl | rfl | rfl | rfl | rfl | rfl | rfl
    ·rfl
    ·rfl
    ·rfl
    ·rfl
    ·rfl
    ·rfl
    ·rfl
    ·rfl
    ·rfl
    ·rfl
    ·rfl
    ·rfl
    ·rfl
    ·exact absurd (hdi.symm.trans hdj) (by simp)
    ·rfl
    ·rfl
    ·rfl) ⟨_,((hP.but bA).s13 w.heap.size (NewB.made _ w [.bool false,.int .u64 0,.int .u64 0,.pointer none] _ hsz) (fun e=>Nat.ne_of_lt (hP.f12 e).lt)),fun _=>rfl,fun h=>absurd (hs0.symm.trans h) (by simp),fun h=>absurd (hs1.symm.trans h) (by simp)⟩)
  ·obtain rfl:=Option.some.inj ((show opMas[14]? = some opMa14 from rfl).symm.trans ho)
   obtain ⟨w1,hP,h1,h2,h3⟩:=hH
   obtain rfl:=h1 hdi
   have hW:=hP.mem
   have t7:d 7=true:=(hD 7 (by simp)).1
   have t12:d 12=true:=(hD 12 (by simp)).1
   have t13:d 13=true:=(hD 13 (by simp)).1
   exact wp_skipped (run_Mp4 a w _ _ _ _ _ N.2.1 (0) _ _ _ _ ((hD 12 (by simp)).2 rfl) ((hD 9 (by simp)).2 rfl) (⟨_,(hP.f12 t12).cells 0 _ rfl⟩) (⟨_,(hP.f12 t12).cells 1 _ rfl⟩) (⟨_,(hP.f12 t12).cells 2 _ rfl⟩) (⟨_,(hP.f12 t12).cells 3 _ rfl⟩) ((hP.f12 t12).loose)) (hK N undef _ (fun h=>absurd h (by decide)) (fun _ _ _ _=>rfl) ⟨w,hP,fun h=>absurd h (by rw [came_self];simp),fun _ _=>rfl,fun h=>absurd ((hcl.not opMa_dep (i:=15) (j:=14) (by simp) hdi).symm.trans h) (by simp)⟩)
  ·obtain rfl:=Option.some.inj ((show opMas[15]? = some opMa15 from rfl).symm.trans ho)
   obtain ⟨w1,hP,h1,h2,h3⟩:=hH
   have ta_:d 14=true:=(hD 14 (by simp)).1
   have hW:=hP.mem
   obtain rfl:=h2 ta_ hdi
   have t7:d 7=true:=(hD 7 (by simp)).1
   have t12:d 12=true:=(hD 12 (by simp)).1
   have t13:d 13=true:=(hD 13 (by simp)).1
   have bs:=but_setCells w1 N.2.1 [.bool N.1.1.1,.int .u64 N.1.1.2.1,.int .u64 N.1.1.2.2.1,.pointer N.1.1.2.2.2] 0
   have n12:N.2.2 ∉ [N.2.1]:=by simpa using (hP.x12_13 t12 t13).symm
   exact wp_skipped (run_Mp4 a _ _ _ _ _ _ N.2.2 (0) _ _ _ _ ((hD 13 (by simp)).2 rfl) ((hD 10 (by simp)).2 rfl) (⟨_,bs.cell_some ((hP.f13 t13).cells 0 _ rfl) n12⟩) (⟨_,bs.cell_some ((hP.f13 t13).cells 1 _ rfl) n12⟩) (⟨_,bs.cell_some ((hP.f13 t13).cells 2 _ rfl) n12⟩) (⟨_,bs.cell_some ((hP.f13 t13).cells 3 _ rfl) n12⟩) (fun j=>(bs.frozen (p:=⟨N.2.2,j,none⟩) (hP.f13 t13).lt n12).trans ((hP.f13 t13).loose j))) (hK N undef _ (fun h=>absurd h (by decide)) (fun _ _ _ _=>rfl) ⟨w1,hP,fun h=>absurd (ta_.symm.trans h) (by simp),fun _ h=>absurd h (by rw [came_self];simp),fun _=>rfl⟩)
  ·obtain rfl:=Option.some.inj ((show opMas[16]? = some opMa16 from rfl).symm.trans ho)
   exact wp_value (run_asK a w _ _ _ _ _ _ _ ((hD 11 (by simp)).2 rfl)) (hK N _ _ (fun _=>rfl) (fun _ _ _ _=>rfl) hH)
 ·intro N d w hd hH
  obtain ⟨w1,hP,h1,h2,h3⟩:=hH
  rw [h3 (hd 15 (by omega))]
  rw [hd 7 (by omega),hd 12 (by omega),hd 13 (by omega)] at hP
  exact hQ N.1 N.2.1 N.2.2 w1 hP
theorem run_Mp5 (a:Act) (w:World) (d t0:Nat) (u:TypeId) (ps:String) (ed:Array Edge) (gd:Option (Nat × Bool)) (z0:Value) (h0:a.eval (.tmp t0)=z0) :
  (execOp a.eval { dst:=some d,op:=Op.call { callee:=Callee.value (Operand.func 12),args:=#[Operand.tmp t0],argTypes:=#[23] },type:=u,pos:=ps,after:=ed,guard:=gd }).run Tryz.prog w=.ok (.enter 12 #[z0]) w:=by
 unfold execOp
 go_simp
 rw [← h0]
 simp [Act.eval]
theorem run_Mp6 (a:Act) (w:World) (d t0 t1 t2 t3 t4:Nat) (u:TypeId) (ps:String) (ed:Array Edge) (gd:Option (Nat × Bool)) (z0 z1 z2 z3 z4:Value) (h0:a.eval (.tmp t0)=z0) (h1:a.eval (.tmp t1)=z1) (h2:a.eval (.tmp t2)=z2) (h3:a.eval (.tmp t3)=z3) (h4:a.eval (.tmp t4)=z4) :
  (execOp a.eval { dst:=some d,op:=Op.call { callee:=Callee.value (Operand.func 14),args:=#[Operand.tmp t0,Operand.tmp t1,Operand.tmp t2,Operand.tmp t3,Operand.tmp t4],argTypes:=#[37,3,3,3,37] },type:=u,pos:=ps,after:=ed,guard:=gd }).run Tryz.prog w=.ok (.enter 14 #[z0,z1,z2,z3,z4]) w:=by
 unfold execOp
 go_simp
 rw [← h0,← h1,← h2,← h3,← h4]
 simp [Act.eval]
def opMb0:Oper:={ dst:=some 30,op:=Op.load 23 (Operand.tmp 5),type := 23,pos := "plays.go:170",after:=#[],guard:=none }
def opMb1:Oper:={ dst:=some 31,op:=Op.call { callee:=Callee.value (Operand.func 12),args:=#[Operand.tmp 30],argTypes:=#[23] },type := 37,pos := "plays.go:170",after:=#[⟨0,.data⟩],guard:=none }
def opMb2:Oper:={ dst:=some 32,op:=Op.move (Operand.tmp 1),type := 3,pos := "plays.go:170",after:=#[],guard:=none }
def opMb3:Oper:={ dst:=some 33,op:=Op.move (Operand.tmp 2),type := 3,pos := "plays.go:170",after:=#[],guard:=none }
def opMb4:Oper:={ dst:=some 34,op:=Op.move (Operand.tmp 3),type := 3,pos := "plays.go:170",after:=#[],guard:=none }
def opMb5:Oper:={ dst:=some 35,op:=Op.load 23 (Operand.tmp 9),type := 23,pos := "plays.go:170",after:=#[],guard:=none }
def opMb6:Oper:={ dst:=some 36,op:=Op.call { callee:=Callee.value (Operand.func 12),args:=#[Operand.tmp 35],argTypes:=#[23] },type := 37,pos := "plays.go:170",after:=#[⟨5,.data⟩,⟨1,.chain⟩],guard:=none }
def opMb7:Oper:={ dst:=some 37,op:=Op.call { callee:=Callee.value (Operand.func 14),args:=#[Operand.tmp 31,Operand.tmp 32,Operand.tmp 33,Operand.tmp 34,Operand.tmp 36],argTypes:=#[37,3,3,3,37] },type := 43,pos := "plays.go:170",after:=#[⟨1,.data⟩,⟨2,.data⟩,⟨3,.data⟩,⟨4,.data⟩,⟨6,.data⟩,⟨6,.chain⟩],guard:=none }
def opMb8:Oper:={ dst:=some 29,op:=Op.move (Operand.tmp 37),type := 43,pos := "plays.go:170",after:=#[⟨7,.data⟩],guard:=none }
def opMb9:Oper:={ dst:=some 38,op:=Op.extract (Operand.tmp 29) 0,type := 37,pos := "plays.go:170",after:=#[⟨8,.data⟩],guard:=none }
def opMb10:Oper:={ dst:=some 39,op:=Op.extract (Operand.tmp 29) 1,type := 37,pos := "plays.go:170",after:=#[⟨8,.data⟩,{ on:=12,ground:=Ground.gcOnly Departure.lateStores }],guard:=none }
def opMb11:Oper:={ dst:=some 40,op:=Op.extract (Operand.tmp 29) 2,type := 33,pos := "plays.go:170",after:=#[⟨8,.data⟩,{ on:=13,ground:=Ground.gcOnly Departure.lateStores }],guard:=none }
def opMb12:Oper:={ dst:=some 14,op:=Op.assign (Operand.tmp 38),type := 37,pos := "plays.go:170",after:=#[⟨9,.data⟩,⟨7,.chain⟩,⟨0,.phase⟩,⟨1,.phase⟩,⟨2,.phase⟩,⟨3,.phase⟩,⟨4,.phase⟩,⟨5,.phase⟩,⟨6,.phase⟩,⟨7,.phase⟩,⟨8,.phase⟩,⟨9,.phase⟩,{ on:=10,ground:=Ground.textOnly Departure.lateStores },{ on:=11,ground:=Ground.textOnly Departure.lateStores }],guard:=none }
def opMb13:Oper:={ dst:=some 15,op:=Op.assign (Operand.tmp 39),type := 37,pos := "plays.go:170",after:=#[⟨10,.data⟩,⟨12,.chain⟩,⟨0,.phase⟩,⟨1,.phase⟩,⟨2,.phase⟩,⟨3,.phase⟩,⟨4,.phase⟩,⟨5,.phase⟩,⟨6,.phase⟩,⟨7,.phase⟩,⟨8,.phase⟩,⟨9,.phase⟩,⟨10,.phase⟩,{ on:=11,ground:=Ground.textOnly Departure.lateStores },⟨12,.phase⟩],guard:=none }
def opMb14:Oper:={ dst:=some 16,op:=Op.assign (Operand.tmp 40),type := 33,pos := "plays.go:170",after:=#[⟨11,.data⟩,⟨13,.chain⟩,⟨0,.phase⟩,⟨1,.phase⟩,⟨2,.phase⟩,⟨3,.phase⟩,⟨4,.phase⟩,⟨5,.phase⟩,⟨6,.phase⟩,⟨7,.phase⟩,⟨8,.phase⟩,⟨9,.phase⟩,⟨10,.phase⟩,⟨11,.phase⟩,⟨12,.phase⟩,⟨13,.phase⟩],guard:=none }
def opMbs:Array Oper:=#[opMb0,opMb1,opMb2,opMb3,opMb4,opMb5,opMb6,opMb7,opMb8,opMb9,opMb10,opMb11,opMb12,opMb13,opMb14]
structure opMbH (W0:World) (g5:Nat) (g9:Nat) (d1:Int) (u1:Int) (d2:Int) (u2:Int) (ta:Int) (th:Int) (tb:Int) (r1:Rat) (r2:Rat) (s1:Rat) (s2:Rat) (ok:Bool) (ve:Value) (x:Nat) (y:Nat) (q:Value × Value) (b1:Bool) (b6:Bool) (b7:Bool) (w:World):Prop where
 mem:But [] W0 w
 f1:b1=true→RatIs w x r1
 f6:b6=true→RatIs w y r2
 f7:b7=true→TwoR w q s1 s2 ok
theorem opMbH.but {W0:World} {g5:Nat} {g9:Nat} {d1:Int} {u1:Int} {d2:Int} {u2:Int} {ta:Int} {th:Int} {tb:Int} {r1:Rat} {r2:Rat} {s1:Rat} {s2:Rat} {ok:Bool} {ve:Value} {x:Nat} {y:Nat} {q:Value × Value} {b1 b6 b7:Bool} {w w':World} (h:opMbH W0 g5 g9 d1 u1 d2 u2 ta th tb r1 r2 s1 s2 ok ve x y q b1 b6 b7 w) (hb:But [] w w'):opMbH W0 g5 g9 d1 u1 d2 u2 ta th tb r1 r2 s1 s2 ok ve x y q b1 b6 b7 w' :=
 { mem:=h.mem.trans' hb,f1:=fun e=>(h.f1 e).but hb,f6:=fun e=>(h.f6 e).but hb,f7:=fun e=>(h.f7 e).but hb }
theorem opMbH.s1 {W0:World} {g5:Nat} {g9:Nat} {d1:Int} {u1:Int} {d2:Int} {u2:Int} {ta:Int} {th:Int} {tb:Int} {r1:Rat} {r2:Rat} {s1:Rat} {s2:Rat} {ok:Bool} {ve:Value} {x:Nat} {y:Nat} {q:Value × Value} {b1 b6 b7:Bool} {w:World} (h:opMbH W0 g5 g9 d1 u1 d2 u2 ta th tb r1 r2 s1 s2 ok ve x y q b1 b6 b7 w) (x':Nat) (hf:RatIs w x' r1):opMbH W0 g5 g9 d1 u1 d2 u2 ta th tb r1 r2 s1 s2 ok ve x' y q true b6 b7 w :=
 { mem:=h.mem,f1:=fun _=>hf,f6:=h.f6,f7:=h.f7 }
theorem opMbH.s6 {W0:World} {g5:Nat} {g9:Nat} {d1:Int} {u1:Int} {d2:Int} {u2:Int} {ta:Int} {th:Int} {tb:Int} {r1:Rat} {r2:Rat} {s1:Rat} {s2:Rat} {ok:Bool} {ve:Value} {x:Nat} {y:Nat} {q:Value × Value} {b1 b6 b7:Bool} {w:World} (h:opMbH W0 g5 g9 d1 u1 d2 u2 ta th tb r1 r2 s1 s2 ok ve x y q b1 b6 b7 w) (y':Nat) (hf:RatIs w y' r2):opMbH W0 g5 g9 d1 u1 d2 u2 ta th tb r1 r2 s1 s2 ok ve x y' q b1 true b7 w :=
 { mem:=h.mem,f1:=h.f1,f6:=fun _=>hf,f7:=h.f7 }
theorem opMbH.s7 {W0:World} {g5:Nat} {g9:Nat} {d1:Int} {u1:Int} {d2:Int} {u2:Int} {ta:Int} {th:Int} {tb:Int} {r1:Rat} {r2:Rat} {s1:Rat} {s2:Rat} {ok:Bool} {ve:Value} {x:Nat} {y:Nat} {q:Value × Value} {b1 b6 b7:Bool} {w:World} (h:opMbH W0 g5 g9 d1 u1 d2 u2 ta th tb r1 r2 s1 s2 ok ve x y q b1 b6 b7 w) (q':Value × Value) (hf:TwoR w q' s1 s2 ok):opMbH W0 g5 g9 d1 u1 d2 u2 ta th tb r1 r2 s1 s2 ok ve x y q' b1 b6 true w :=
 { mem:=h.mem,f1:=h.f1,f6:=h.f6,f7:=fun _=>hf }
def opMbT (i:Nat):Nat:=match i with
 | 0=>30
 | 1=>31
 | 2=>32
 | 3=>33
 | 4=>34
 | 5=>35
 | 6=>36
 | 7=>37
 | 8=>29
 | 9=>38
 | 10=>39
 | 11=>40
 | 12=>14
 | 13=>15
 | _=>16
def opMbW (i:Nat):Bool:=match i with
 | _=>true
def opMbV (g5:Nat) (g9:Nat) (d1:Int) (u1:Int) (d2:Int) (u2:Int) (ta:Int) (th:Int) (tb:Int) (r1:Rat) (r2:Rat) (s1:Rat) (s2:Rat) (ok:Bool) (ve:Value) (x:Nat) (y:Nat) (q:Value × Value) (i:Nat):Value:=match i with
 | 0=>.agg #[.int .i64 d1,.int .i64 u1]
 | 1=>.pointer (some ⟨x,0,none⟩)
 | 2=>.int .i64 ta
 | 3=>.int .i64 th
 | 4=>.int .i64 tb
 | 5=>.agg #[.int .i64 d2,.int .i64 u2]
 | 6=>.pointer (some ⟨y,0,none⟩)
 | 7=>.tuple #[q.1,q.2,ve]
 | 8=>.tuple #[q.1,q.2,ve]
 | 9=>q.1
 | 10=>q.2
 | 11=>ve
 | 12=>q.1
 | 13=>q.2
 | _=>ve
theorem opMb_dep:depOps opMbs [(1,0),(6,1),(6,5),(7,1),(7,2),(7,3),(7,4),(7,6),(8,7),(9,8),(10,8),(11,8),(12,0),(12,1),(12,2),(12,3),(12,4),(12,5),(12,6),(12,7),(12,8),(12,9),(13,0),(13,1),(13,2),(13,3),(13,4),(13,5),(13,6),(13,7),(13,8),(13,9),(13,10),(13,12),(14,0),(14,1),(14,2),(14,3),(14,4),(14,5),(14,6),(14,7),(14,8),(14,9),(14,10),(14,11),(14,12),(14,13)]=true:=by kernel_rfl
theorem opMbT_inj:∀ i j,i<15→j<15→opMbW i=true→opMbW j=true→opMbT i=opMbT j→i=j:=fun i j hi hj=>(by decide:∀ i,i<15→∀ j,j<15→opMbW i=true→opMbW j=true→opMbT i=opMbT j→i=j) i hi j hj
theorem pairs_region2 (id:Nat) (Q:Exit→Act→World→Prop) (base:Act) (W0:World) (g5:Nat) (g9:Nat) (d1:Int) (u1:Int) (d2:Int) (u2:Int) (ta:Int) (th:Int) (tb:Int) (r1:Rat) (r2:Rat) (s1:Rat) (s2:Rat) (ok:Bool) (ve:Value) (hs:40<base.tmps.size) (e5:base.eval (.tmp 5)=.pointer (some ⟨g5,0,none⟩)) (e9:base.eval (.tmp 9)=.pointer (some ⟨g9,0,none⟩)) (e1:base.eval (.tmp 1)=.int .i64 ta) (e2:base.eval (.tmp 2)=.int .i64 th) (e3:base.eval (.tmp 3)=.int .i64 tb)
  (q1a:W0.cell? ⟨g5,0,none⟩=some (.int .i64 d1)) (q1b:W0.cell? ⟨g5,1,none⟩=some (.int .i64 u1)) (q2a:W0.cell? ⟨g9,0,none⟩=some (.int .i64 d2)) (q2b:W0.cell? ⟨g9,1,none⟩=some (.int .i64 u2)) (OA:∀ w,Calls Tryz.prog 12 #[.agg #[.int .i64 d1,.int .i64 u1]] w fun e w'=>∃ b,e=.returned (.pointer (some ⟨b,0,none⟩))∧RatIs w' b r1∧But [] w w') (OB:∀ w,Calls Tryz.prog 12 #[.agg #[.int .i64 d2,.int .i64 u2]] w fun e w'=>∃ b,e=.returned (.pointer (some ⟨b,0,none⟩))∧RatIs w' b r2∧But [] w w') (PA:∀ w x y,But [] W0 w→RatIs w x r1→RatIs w y r2→Calls Tryz.prog 14 #[.pointer (some ⟨x,0,none⟩),.int .i64 ta,.int .i64 th,.int .i64 tb,.pointer (some ⟨y,0,none⟩)] w fun e w'=>∃ q:Value × Value,e=.returned (.tuple #[q.1,q.2,ve])∧TwoR w' q s1 s2 ok∧But [] w w')
  (hQ:∀ (x:Nat) (y:Nat) (q:Value × Value) w1,opMbH W0 g5 g9 d1 u1 d2 u2 ta th tb r1 r2 s1 s2 ok ve x y q true true true w1→Q .normal (putted base [(30,.agg #[.int .i64 d1,.int .i64 u1]),(31,.pointer (some ⟨x,0,none⟩)),(32,.int .i64 ta),(33,.int .i64 th),(34,.int .i64 tb),(35,.agg #[.int .i64 d2,.int .i64 u2]),(36,.pointer (some ⟨y,0,none⟩)),(37,.tuple #[q.1,q.2,ve]),(29,.tuple #[q.1,q.2,ve]),(38,q.1),(39,q.2),(40,ve),(14,q.1),(15,q.2),(16,ve)]) w1) :
  (Code.region id opMbs true).wp Tryz.prog Q base W0:=by
 have hT:∀ i,i<15→opMbW i=true→opMbT i<base.tmps.size:=fun i hi _=>by
  have h:opMbT i≤40:=by revert i;decide
  omega
 refine region_all (by kernel_rfl) (low_of (by kernel_rfl)) (bare_of (by kernel_rfl)) (fun (N:(Nat) × (Nat) × (Value × Value)) d w=>opMbH W0 g5 g9 d1 u1 d2 u2 ta th tb r1 r2 s1 s2 ok ve N.1 N.2.1 N.2.2 (d 1) (d 6) (d 7) w) (fun N=>opMbV g5 g9 d1 u1 d2 u2 ta th tb r1 r2 s1 s2 ok ve N.1 N.2.1 N.2.2) opMbT opMbW 15 (by kernel_rfl) opMbT_inj hT (0,0,(.pointer none,.pointer none)) { mem:=(But.refl _ _).drew,f1:=fun h=>by simp at h,f6:=fun h=>by simp at h,f7:=fun h=>by simp at h } ?_ ?_
 ·intro N d i o a w K hi ho hdi hcl hH he hdep hK
  have hD:=dep_is opMb_dep ho (fun j=>d j=true∧(opMbW j=true→a.eval (.tmp (opMbT j))=opMbV g5 g9 d1 u1 d2 u2 ta th tb r1 r2 s1 s2 ok ve N.1 N.2.1 N.2.2 j)) hdep
  have e5':=(he 5 (fun j hj _ _=>(by decide:∀ j,j<15→(5:Nat)≠opMbT j) j hj)).trans e5
  have e9':=(he 9 (fun j hj _ _=>(by decide:∀ j,j<15→(9:Nat)≠opMbT j) j hj)).trans e9
  have e1':=(he 1 (fun j hj _ _=>(by decide:∀ j,j<15→(1:Nat)≠opMbT j) j hj)).trans e1
  have e2':=(he 2 (fun j hj _ _=>(by decide:∀ j,j<15→(2:Nat)≠opMbT j) j hj)).trans e2
  have e3':=(he 3 (fun j hj _ _=>(by decide:∀ j,j<15→(3:Nat)≠opMbT j) j hj)).trans e3
  have:i=0∨i=1∨i=2∨i=3∨i=4∨i=5∨i=6∨i=7∨i=8∨i=9∨i=10∨i=11∨i=12∨i=13∨i=14:=by omega
  rcases this with rfl | rfl | rfl | rfl | rfl | rfl | rfl | rfl | rfl | rfl | rfl | rfl | rfl | rfl | rfl
  ·obtain rfl:=Option.some.inj ((show opMbs[0]? = some opMb0 from rfl).symm.trans ho)
   have hP:=hH
   have hW:=hP.mem
   exact wp_value (run_Mp0 a w _ _ _ _ _ _ g5 (0) _ _ e5' (hW.cell_some q1a (by simp)) (hW.cell_some q1b (by simp))) (hK N _ _ (fun _=>rfl) (fun _ _ _ _=>rfl) hH)
  ·obtain rfl:=Option.some.inj ((show opMbs[1]? = some opMb1 from rfl).symm.trans ho)
   have hP:=hH
   have hW:=hP.mem
   exact wp_enter (run_Mp5 a w _ _ _ _ _ _ _ ((hD 0 (by simp)).2 rfl)) (R:=fun w' u=>∃ v,u=.pointer (some ⟨v,0,none⟩)∧(RatIs w' v r1)∧But [] w w') ((OA w).mono fun e w' ⟨v,he,hf,hb⟩=>⟨_,he,v,rfl,hf,hb⟩) (fun u w' ⟨v,hu,hf,hb⟩=>hK (v,N.2.1,N.2.2) _ _ (fun _=>hu) (fun j hj _ hdj=>by
    have:j=0∨j=1∨j=2∨j=3∨j=4∨j=5∨j=6∨j=7∨j=8∨j=9∨j=10∨j=11∨j=12∨j=13∨j=14:=by omega
    rcases this with rfl | rfl | rfl | rfl | rfl | rfl | rfl | rfl | rfl | rfl | rfl | rfl | rfl | rfl | rfl
    ·rfl
    ·exact absurd (hdi.symm.trans hdj) (by simp)
    ·rfl
    ·rfl
    ·rfl
    ·rfl
    ·rfl
    ·rfl
    ·rfl
    ·rfl
    ·rfl
    ·rfl
    ·rfl
    ·rfl
    ·rfl) ((hP.but hb).s1 v hf))
  ·obtain rfl:=Option.some.inj ((show opMbs[2]? = some opMb2 from rfl).symm.trans ho)
   exact wp_value (run_mvK a w _ _ _ _ _ _ _ e1') (hK N _ _ (fun _=>rfl) (fun _ _ _ _=>rfl) hH)
  ·obtain rfl:=Option.some.inj ((show opMbs[3]? = some opMb3 from rfl).symm.trans ho)
   exact wp_value (run_mvK a w _ _ _ _ _ _ _ e2') (hK N _ _ (fun _=>rfl) (fun _ _ _ _=>rfl) hH)
  ·obtain rfl:=Option.some.inj ((show opMbs[4]? = some opMb4 from rfl).symm.trans ho)
   exact wp_value (run_mvK a w _ _ _ _ _ _ _ e3') (hK N _ _ (fun _=>rfl) (fun _ _ _ _=>rfl) hH)
  ·obtain rfl:=Option.some.inj ((show opMbs[5]? = some opMb5 from rfl).symm.trans ho)
   have hP:=hH
   have hW:=hP.mem
   exact wp_value (run_Mp0 a w _ _ _ _ _ _ g9 (0) _ _ e9' (hW.cell_some q2a (by simp)) (hW.cell_some q2b (by simp))) (hK N _ _ (fun _=>rfl) (fun _ _ _ _=>rfl) hH)
  ·obtain rfl:=Option.some.inj ((show opMbs[6]? = some opMb6 from rfl).symm.trans ho)
   have hP:=hH
   have hW:=hP.mem
   exact wp_enter (run_Mp5 a w _ _ _ _ _ _ _ ((hD 5 (by simp)).2 rfl)) (R:=fun w' u=>∃ v,u=.pointer (some ⟨v,0,none⟩)∧(RatIs w' v r2)∧But [] w w') ((OB w).mono fun e w' ⟨v,he,hf,hb⟩=>⟨_,he,v,rfl,hf,hb⟩) (fun u w' ⟨v,hu,hf,hb⟩=>hK (N.1,v,N.2.2) _ _ (fun _=>hu) (fun j hj _ hdj=>by
    have:j=0∨j=1∨j=2∨j=3∨j=4∨j=5∨j=6∨j=7∨j=8∨j=9∨j=10∨j=11∨j=12∨j=13∨j=14:=by omega
    rcases this with rfl | rfl | rfl | rfl | rfl | rfl | rfl | rfl | rfl | rfl | rfl | rfl | rfl | rfl | rfl
    ·rfl
    ·rfl
    ·rfl
    ·rfl
    ·rfl
    ·rfl
    ·exact absurd (hdi.symm.trans hdj) (by simp)
    ·rfl
    ·rfl
    ·rfl
    ·rfl
    ·rfl
    ·rfl
    ·rfl
    ·rfl) ((hP.but hb).s6 v hf))
  ·obtain rfl:=Option.some.inj ((show opMbs[7]? = some opMb7 from rfl).symm.trans ho)
   have hP:=hH
   have hW:=hP.mem
   have t1:d 1=true:=(hD 1 (by simp)).1
   have t6:d 6=true:=(hD 6 (by simp)).1
   exact wp_enter (run_Mp6 a w _ _ _ _ _ _ _ _ _ _ _ _ _ _ _ ((hD 1 (by simp)).2 rfl) ((hD 2 (by simp)).2 rfl) ((hD 3 (by simp)).2 rfl) ((hD 4 (by simp)).2 rfl) ((hD 6 (by simp)).2 rfl)) (R:=fun w' u=>∃ v,u=.tuple #[v.1,v.2,ve]∧(TwoR w' v s1 s2 ok)∧But [] w w') ((PA w N.1 N.2.1 hW (hP.f1 t1) (hP.f6 t6)).mono fun e w' ⟨v,he,hf,hb⟩=>⟨_,he,v,rfl,hf,hb⟩) (fun u w' ⟨v,hu,hf,hb⟩=>hK (N.1,N.2.1,v) _ _ (fun _=>hu) (fun j hj _ hdj=>by
    have:j=0∨j=1∨j=2∨j=3∨j=4∨j=5∨j=6∨j=7∨j=8∨j=9∨j=10∨j=11∨j=12∨j=13∨j=14:=by omega
    rcases this with rfl | rfl | rfl | rfl | rfl | rfl | rfl | rfl | rfl | rfl | rfl | rfl | rfl | rfl | rfl
    ·rfl
    ·rfl
    ·rfl
    ·rfl
    ·rfl
    ·rfl
    ·rfl
    ·exact absurd (hdi.symm.trans hdj) (by simp)
    ·exact absurd ((hcl.not opMb_dep (i:=8) (j:=7) (by simp) hdi).symm.trans hdj) (by simp)
    ·exact absurd ((hcl.not opMb_dep (i:=9) (j:=8) (by simp) (hcl.not opMb_dep (i:=8) (j:=7) (by simp) hdi)).symm.trans hdj) (by simp)
    ·exact absurd ((hcl.not opMb_dep (i:=10) (j:=8) (by simp) (hcl.not opMb_dep (i:=8) (j:=7) (by simp) hdi)).symm.trans hdj) (by simp)
    ·rfl
    ·exact absurd ((hcl.not opMb_dep (i:=12) (j:=7) (by simp) hdi).symm.trans hdj) (by simp)
    ·exact absurd ((hcl.not opMb_dep (i:=13) (j:=7) (by simp) hdi).symm.trans hdj) (by simp)
    ·rfl) ((hP.but hb).s7 v hf))
  ·obtain rfl:=Option.some.inj ((show opMbs[8]? = some opMb8 from rfl).symm.trans ho)
   exact wp_value (run_mvK a w _ _ _ _ _ _ _ ((hD 7 (by simp)).2 rfl)) (hK N _ _ (fun _=>rfl) (fun _ _ _ _=>rfl) hH)
  ·obtain rfl:=Option.some.inj ((show opMbs[9]? = some opMb9 from rfl).symm.trans ho)
   exact wp_value (run_exK a w _ _ _ _ _ _ _ _ _ ((hD 8 (by simp)).2 rfl) rfl) (hK N _ _ (fun _=>rfl) (fun _ _ _ _=>rfl) hH)
  ·obtain rfl:=Option.some.inj ((show opMbs[10]? = some opMb10 from rfl).symm.trans ho)
   exact wp_value (run_exK a w _ _ _ _ _ _ _ _ _ ((hD 8 (by simp)).2 rfl) rfl) (hK N _ _ (fun _=>rfl) (fun _ _ _ _=>rfl) hH)
  ·obtain rfl:=Option.some.inj ((show opMbs[11]? = some opMb11 from rfl).symm.trans ho)
   exact wp_value (run_exK a w _ _ _ _ _ _ _ _ _ ((hD 8 (by simp)).2 rfl) rfl) (hK N _ _ (fun _=>rfl) (fun _ _ _ _=>rfl) hH)
  ·obtain rfl:=Option.some.inj ((show opMbs[12]? = some opMb12 from rfl).symm.trans ho)
   exact wp_value (run_asK a w _ _ _ _ _ _ _ ((hD 9 (by simp)).2 rfl)) (hK N _ _ (fun _=>rfl) (fun _ _ _ _=>rfl) hH)
  ·obtain rfl:=Option.some.inj ((show opMbs[13]? = some opMb13 from rfl).symm.trans ho)
   exact wp_value (run_asK a w _ _ _ _ _ _ _ ((hD 10 (by simp)).2 rfl)) (hK N _ _ (fun _=>rfl) (fun _ _ _ _=>rfl) hH)
  ·obtain rfl:=Option.some.inj ((show opMbs[14]? = some opMb14 from rfl).symm.trans ho)
   exact wp_value (run_asK a w _ _ _ _ _ _ _ ((hD 11 (by simp)).2 rfl)) (hK N _ _ (fun _=>rfl) (fun _ _ _ _=>rfl) hH)
 ·intro N d w hd hH
  have hP:opMbH W0 g5 g9 d1 u1 d2 u2 ta th tb r1 r2 s1 s2 ok ve N.1 N.2.1 N.2.2 (d 1) (d 6) (d 7) w:=hH
  rw [hd 1 (by omega),hd 6 (by omega),hd 7 (by omega)] at hP
  exact hQ N.1 N.2.1 N.2.2 w hP
end Go.Proofs.YtpfnnhjnakmnoaaGreatDoor
