/- Rows and columns of a matrix held against two laws: the statements that draw their order, as the Go text of package tontinekeep has them. -/
import Derived.Test.YtikgmhpbdcdogaaGreatDoorYOB
namespace Go.Proofs.YtikgmhpbdcdogaaGreatDoor
open Go.RowKit

theorem run_lenRK (a : Act) (w : World) (d t : Nat) (u : TypeId) (ps : String) (ed : Array Edge) (gd : Option (Nat × Bool)) (q : Option Addr) (m c : Nat) (h : a.eval (.tmp t) = .slice q m c) :
  (execOp a.eval { dst:=some d,op:=Op.call { callee:=Callee.builtin Builtin.len,args:=#[Operand.tmp t],argTypes:=#[33] },type:=u,pos:=ps,after:=ed,guard:=gd }).run Tryz.prog w = .ok (.value (.int .i64 (m : Int))) w:=by
 have e : a.tmps[t]?.getD undef = .slice q m c:=by rw [← h]; simp [Act.eval]
 unfold execOp
 go_simp
theorem run_lenLK (a : Act) (w : World) (d t : Nat) (u : TypeId) (ps : String) (ed : Array Edge) (gd : Option (Nat × Bool)) (q : Option Addr) (m c : Nat) (h : a.eval (.tmp t) = .slice q m c) :
  (execOp a.eval { dst:=some d,op:=Op.call { callee:=Callee.builtin Builtin.len,args:=#[Operand.tmp t],argTypes:=#[38] },type:=u,pos:=ps,after:=ed,guard:=gd }).run Tryz.prog w = .ok (.value (.int .i64 (m : Int))) w:=by
 have e : a.tmps[t]?.getD undef = .slice q m c:=by rw [← h]; simp [Act.eval]
 unfold execOp
 go_simp
theorem run_neqIK (a : Act) (w : World) (d t1 t2 : Nat) (u : TypeId) (ps : String) (ed : Array Edge) (gd : Option (Nat × Bool)) (x : Int) (h1 : a.eval (.tmp t1) = .int .i64 x) (h2 : a.eval (.tmp t2) = .int .i64 x) :
  (execOp a.eval { dst:=some d,op:=Op.binOp BinOp.neq 3 (.tmp t1) (.tmp t2) 3,type:=u,pos:=ps,after:=ed,guard:=gd }).run Tryz.prog w = .ok (.value (.bool false)) w:=by
 unfold execOp
 simp only [h1,h2]
 go_simp
theorem run_sumK (a : Act) (w : World) (d t1 : Nat) (u : TypeId) (ps : String) (ed : Array Edge) (gd : Option (Nat × Bool)) (x1 : Value) (h1 : a.eval (.tmp t1) = x1) :
  (execOp a.eval { dst:=some d,op:=Op.call { callee:=Callee.value (Operand.func 70),args:=#[Operand.tmp t1],argTypes:=#[33] },type:=u,pos:=ps,after:=ed,guard:=gd }).run Tryz.prog w = .ok (.enter 70 #[x1]) w:=by
 unfold execOp
 go_simp
 rw [← h1]
 simp [Act.eval]
def opOg0 : Oper:={ dst:=some 24,op:=Op.move (Operand.tmp 0),type:=63,pos:= "keep.go:519",after:=#[],guard:=none }
def opOg1 : Oper:={ dst:=some 25,op:=Op.move (Operand.tmp 8),type:=3,pos:= "keep.go:519",after:=#[],guard:=none }
def opOg2 : Oper:={ dst:=some 26,op:=Op.indexAddr 63 (Operand.tmp 24) (Operand.tmp 25),type:=0,pos:= "keep.go:519",after:=#[{ on:=0,ground:=Ground.data },{ on:=1,ground:=Ground.data }],guard:=none }
def opOg3 : Oper:={ dst:=some 27,op:=Op.load 33 (Operand.tmp 26),type:=33,pos:= "keep.go:519",after:=#[{ on:=2,ground:=Ground.data }],guard:=none }
def opOg4 : Oper:={ dst:=some 28,op:=Op.call { callee:=Callee.builtin Builtin.len,args:=#[Operand.tmp 27],argTypes:=#[33] },type:=3,pos:= "keep.go:519",after:=#[{ on:=3,ground:=Ground.data }],guard:=none }
def opOg5 : Oper:={ dst:=some 29,op:=Op.move (Operand.tmp 2),type:=38,pos:= "keep.go:519",after:=#[],guard:=none }
def opOg6 : Oper:={ dst:=some 30,op:=Op.call { callee:=Callee.builtin Builtin.len,args:=#[Operand.tmp 29],argTypes:=#[38] },type:=3,pos:= "keep.go:519",after:=#[{ on:=5,ground:=Ground.data }],guard:=none }
def opOg7 : Oper:={ dst:=some 31,op:=Op.binOp BinOp.neq 3 (Operand.tmp 28) (Operand.tmp 30) 3,type:=4,pos:= "keep.go:519",after:=#[{ on:=4,ground:=Ground.data },{ on:=6,ground:=Ground.data }],guard:=none }
def opOg8 : Oper:={ dst:=some 32,op:=Op.move (Operand.tmp 31),type:=4,pos:= "keep.go:519",after:=#[{ on:=7,ground:=Ground.data }],guard:=none }
def opOg9 : Oper:={ dst:=some 33,op:=Op.move (Operand.tmp 0),type:=63,pos:= "keep.go:519",after:=#[{ on:=8,ground:=Ground.guard }],guard:=some (8,false) }
def opOg10 : Oper:={ dst:=some 34,op:=Op.move (Operand.tmp 8),type:=3,pos:= "keep.go:519",after:=#[{ on:=8,ground:=Ground.guard }],guard:=some (8,false) }
def opOg11 : Oper:={ dst:=some 35,op:=Op.indexAddr 63 (Operand.tmp 33) (Operand.tmp 34),type:=0,pos:= "keep.go:519",after:=#[{ on:=9,ground:=Ground.data },{ on:=10,ground:=Ground.data },{ on:=8,ground:=Ground.guard }],guard:=some (8,false) }
def opOg12 : Oper:={ dst:=some 36,op:=Op.load 33 (Operand.tmp 35),type:=33,pos:= "keep.go:519",after:=#[{ on:=11,ground:=Ground.data },{ on:=8,ground:=Ground.guard }],guard:=some (8,false) }
def opOg13 : Oper:={ dst:=some 37,op:=Op.call { callee:=Callee.value (Operand.func 70),args:=#[Operand.tmp 36],argTypes:=#[33] },type:=29,pos:= "keep.go:519",after:=#[{ on:=12,ground:=Ground.data },{ on:=8,ground:=Ground.chain },{ on:=8,ground:=Ground.guard }],guard:=some (8,false) }
def opOg14 : Oper:={ dst:=some 38,op:=Op.move (Operand.tmp 1),type:=38,pos:= "keep.go:519",after:=#[{ on:=8,ground:=Ground.guard }],guard:=some (8,false) }
def opOg15 : Oper:={ dst:=some 39,op:=Op.move (Operand.tmp 8),type:=3,pos:= "keep.go:519",after:=#[{ on:=8,ground:=Ground.guard }],guard:=some (8,false) }
def opOg16 : Oper:={ dst:=some 40,op:=Op.indexAddr 38 (Operand.tmp 38) (Operand.tmp 39),type:=0,pos:= "keep.go:519",after:=#[{ on:=14,ground:=Ground.data },{ on:=15,ground:=Ground.data },{ on:=8,ground:=Ground.guard }],guard:=some (8,false) }
def opOg17 : Oper:={ dst:=some 41,op:=Op.load 29 (Operand.tmp 40),type:=29,pos:= "keep.go:519",after:=#[{ on:=16,ground:=Ground.data },{ on:=8,ground:=Ground.guard }],guard:=some (8,false) }
def opOg18 : Oper:={ dst:=some 42,op:=Op.call { callee:=Callee.value (Operand.func 18),args:=#[Operand.tmp 37,Operand.tmp 41],argTypes:=#[29,29] },type:=4,pos:= "keep.go:519",after:=#[{ on:=13,ground:=Ground.data },{ on:=17,ground:=Ground.data },{ on:=13,ground:=Ground.chain },{ on:=8,ground:=Ground.guard }],guard:=some (8,false) }
def opOg19 : Oper:={ dst:=some 43,op:=Op.unOp UnOp.not 4 (Operand.tmp 42),type:=4,pos:= "keep.go:519",after:=#[{ on:=18,ground:=Ground.data },{ on:=8,ground:=Ground.guard }],guard:=some (8,false) }
def opOg20 : Oper:={ dst:=some 44,op:=Op.pick (Operand.tmp 32) (Operand.const (Value.bool true)) (Operand.tmp 43),type:=4,pos:= "keep.go:519",after:=#[{ on:=8,ground:=Ground.data },{ on:=19,ground:=Ground.data }],guard:=none }
def opOgs : Array Oper:=#[opOg0,opOg1,opOg2,opOg3,opOg4,opOg5,opOg6,opOg7,opOg8,opOg9,opOg10,opOg11,opOg12,opOg13,opOg14,opOg15,opOg16,opOg17,opOg18,opOg19,opOg20]
def opOgT (i : Nat) : Nat:=match i with
 | 0 => 24
 | 1 => 25
 | 2 => 26
 | 3 => 27
 | 4 => 28
 | 5 => 29
 | 6 => 30
 | 7 => 31
 | 8 => 32
 | 9 => 33
 | 10 => 34
 | 11 => 35
 | 12 => 36
 | 13 => 37
 | 14 => 38
 | 15 => 39
 | 16 => 40
 | 17 => 41
 | 18 => 42
 | 19 => 43
 | _ => 44
/-- what each operation's value is -/
def opOgC (go : Nat) (n : Nat) (ii : Nat) (q : Option Addr) (m : Nat) (c : Nat) (b1 : Nat) (o1 : Nat) (c1 : Nat) (q2 : Option Addr) (c2 : Nat) (s1 : Bool) (x1 : Int) (y1 : Int) (p1 : Option Addr) (f1 : Rat) (i : Nat) (w : World) (v : Value) : Prop:=match i with
 | 0 => v = .slice (some ⟨go,0,none⟩) n n
 | 1 => v = .int .i64 (ii : Int)
 | 2 => v = .pointer (some ⟨go,0 + ii,none⟩)
 | 3 => v = .slice q m c
 | 4 => v = .int .i64 (m : Int)
 | 5 => v = .slice q2 m c2
 | 6 => v = .int .i64 (m : Int)
 | 7 => v = .bool false
 | 8 => v = .bool false
 | 9 => v = .slice (some ⟨go,0,none⟩) n n
 | 10 => v = .int .i64 (ii : Int)
 | 11 => v = .pointer (some ⟨go,0 + ii,none⟩)
 | 12 => v = .slice q m c
 | 13 => FracAt w v f1
 | 14 => v = .slice (some ⟨b1,o1,none⟩) n c1
 | 15 => v = .int .i64 (ii : Int)
 | 16 => v = .pointer (some ⟨b1,o1 + ii * 4,none⟩)
 | 17 => v = .agg #[.bool s1,.int .u64 x1,.int .u64 y1,.pointer p1]
 | 18 => v = .bool true
 | 19 => v = .bool false
 | _ => v = .bool false
theorem opOgC_but {go : Nat} {n : Nat} {ii : Nat} {q : Option Addr} {m : Nat} {c : Nat} {b1 : Nat} {o1 : Nat} {c1 : Nat} {q2 : Option Addr} {c2 : Nat} {s1 : Bool} {x1 : Int} {y1 : Int} {p1 : Option Addr} {f1 : Rat} {i : Nat} {w w' : World} {v : Value} (h : opOgC go n ii q m c b1 o1 c1 q2 c2 s1 x1 y1 p1 f1 i w v) (hi : i < 21) (hb : But [] w w') : opOgC go n ii q m c b1 o1 c1 q2 c2 s1 x1 y1 p1 f1 i w' v:=by
 have : i = 0 ∨ i = 1 ∨ i = 2 ∨ i = 3 ∨ i = 4 ∨ i = 5 ∨ i = 6 ∨ i = 7 ∨ i = 8 ∨ i = 9 ∨ i = 10 ∨ i = 11 ∨ i = 12 ∨ i = 13 ∨ i = 14 ∨ i = 15 ∨ i = 16 ∨ i = 17 ∨ i = 18 ∨ i = 19 ∨ i = 20:=by omega
 rcases this with rfl | rfl | rfl | rfl | rfl | rfl | rfl | rfl | rfl | rfl | rfl | rfl | rfl | rfl | rfl | rfl | rfl | rfl | rfl | rfl | rfl
 all_goals first | exact h | exact FracAt.but h hb | exact FracsAt.but h hb
theorem opOgT_inj : ∀ i j,i < 21→j < 21→opOgT i = opOgT j→i = j:=fun i j hi hj => (by decide : ∀ i,i < 21→∀ j,j < 21→opOgT i = opOgT j→i = j) i hi j hj
set_option maxHeartbeats 16000000 in
set_option maxRecDepth 100000 in
theorem marg_region7 (id : Nat) (Q : Exit→Act→World→Prop) (base : Act) (W0 : World) (go : Nat) (n : Nat) (ii : Nat) (q : Option Addr) (m : Nat) (c : Nat) (b1 : Nat) (o1 : Nat) (c1 : Nat) (q2 : Option Addr) (c2 : Nat) (s1 : Bool) (x1 : Int) (y1 : Int) (p1 : Option Addr) (f1 : Rat) (hs : 44 < base.tmps.size) (e0 : base.eval (.tmp 0) = .slice (some ⟨go,0,none⟩) n n) (e8 : base.eval (.tmp 8) = .int .i64 (ii : Int)) (e2 : base.eval (.tmp 2) = .slice q2 m c2) (e1 : base.eval (.tmp 1) = .slice (some ⟨b1,o1,none⟩) n c1)
  (hi' : ii < n) (hn2 : n < 1000000) (cr : W0.cell? ⟨go,0 + ii,none⟩ = some (.slice q m c)) (k1 : P4o W0 b1 (o1 + ii * 4) s1 x1 y1 p1)
  (SM : ∀ w,But [] W0 w→Calls Tryz.prog 70 #[.slice q m c] w fun e w' => ∃ v,e = .returned v∧FracAt w' v f1∧But [] w w')
  (LK : ∀ w v,But [] W0 w→FracAt w v f1→Calls Tryz.prog 18 #[v,.agg #[.bool s1,.int .u64 x1,.int .u64 y1,.pointer p1]] w fun e w' => e = .returned (.bool true)∧But [] w w')
  (hQ : ∀ w (v13 : Value),But [] W0 w→Q .normal (putted base [(24,.slice (some ⟨go,0,none⟩) n n),(25,.int .i64 (ii : Int)),(26,.pointer (some ⟨go,0 + ii,none⟩)),(27,.slice q m c),(28,.int .i64 (m : Int)),(29,.slice q2 m c2),(30,.int .i64 (m : Int)),(31,.bool false),(32,.bool false),(33,.slice (some ⟨go,0,none⟩) n n),(34,.int .i64 (ii : Int)),(35,.pointer (some ⟨go,0 + ii,none⟩)),(36,.slice q m c),(37,v13),(38,.slice (some ⟨b1,o1,none⟩) n c1),(39,.int .i64 (ii : Int)),(40,.pointer (some ⟨b1,o1 + ii * 4,none⟩)),(41,.agg #[.bool s1,.int .u64 x1,.int .u64 y1,.pointer p1]),(42,.bool true),(43,.bool false),(44,.bool false)]) w) :
  (Code.region id opOgs true).wp Tryz.prog Q base W0:=by
 have hdr : ∀ {w},But [] W0.drew w→But [] W0 w:=fun h => (But.refl _ _).drew.trans' h
 have hT : ∀ i,i < 21→opOgT i < base.tmps.size:=fun i hi => by
  have h : opOgT i ≤ 44:=by revert i; decide
  omega
 refine region_go (by kernel_rfl) (low_of (by kernel_rfl)) (opOgC go n ii q m c b1 o1 c1 q2 c2 s1 x1 y1 p1 f1) opOgT (by kernel_rfl) ?_ opOgT_inj hT (fun i w w' v hi h hb => opOgC_but h hi hb) ?_ ?_
 ·intro i o j want ho hg w v hv
  have hi : i < 21:=(Array.getElem?_eq_some_iff.1 ho).1
  have : i = 0 ∨ i = 1 ∨ i = 2 ∨ i = 3 ∨ i = 4 ∨ i = 5 ∨ i = 6 ∨ i = 7 ∨ i = 8 ∨ i = 9 ∨ i = 10 ∨ i = 11 ∨ i = 12 ∨ i = 13 ∨ i = 14 ∨ i = 15 ∨ i = 16 ∨ i = 17 ∨ i = 18 ∨ i = 19 ∨ i = 20:=by omega
  rcases this with rfl | rfl | rfl | rfl | rfl | rfl | rfl | rfl | rfl | rfl | rfl | rfl | rfl | rfl | rfl | rfl | rfl | rfl | rfl | rfl | rfl
  ·obtain rfl:=Option.some.inj ((show opOgs[0]? = some opOg0 from rfl).symm.trans ho)
   exact absurd (show (none : Option (Nat × Bool)) = some (j,want) from hg) (by simp)
  ·obtain rfl:=Option.some.inj ((show opOgs[1]? = some opOg1 from rfl).symm.trans ho)
   exact absurd (show (none : Option (Nat × Bool)) = some (j,want) from hg) (by simp)
  ·obtain rfl:=Option.some.inj ((show opOgs[2]? = some opOg2 from rfl).symm.trans ho)
   exact absurd (show (none : Option (Nat × Bool)) = some (j,want) from hg) (by simp)
  ·obtain rfl:=Option.some.inj ((show opOgs[3]? = some opOg3 from rfl).symm.trans ho)
   exact absurd (show (none : Option (Nat × Bool)) = some (j,want) from hg) (by simp)
  ·obtain rfl:=Option.some.inj ((show opOgs[4]? = some opOg4 from rfl).symm.trans ho)
   exact absurd (show (none : Option (Nat × Bool)) = some (j,want) from hg) (by simp)
  ·obtain rfl:=Option.some.inj ((show opOgs[5]? = some opOg5 from rfl).symm.trans ho)
   exact absurd (show (none : Option (Nat × Bool)) = some (j,want) from hg) (by simp)
  ·obtain rfl:=Option.some.inj ((show opOgs[6]? = some opOg6 from rfl).symm.trans ho)
   exact absurd (show (none : Option (Nat × Bool)) = some (j,want) from hg) (by simp)
  ·obtain rfl:=Option.some.inj ((show opOgs[7]? = some opOg7 from rfl).symm.trans ho)
   exact absurd (show (none : Option (Nat × Bool)) = some (j,want) from hg) (by simp)
  ·obtain rfl:=Option.some.inj ((show opOgs[8]? = some opOg8 from rfl).symm.trans ho)
   exact absurd (show (none : Option (Nat × Bool)) = some (j,want) from hg) (by simp)
  ·obtain rfl:=Option.some.inj ((show opOgs[9]? = some opOg9 from rfl).symm.trans ho)
   obtain ⟨rfl,rfl⟩:=Prod.mk.inj (Option.some.inj (show some (8,false) = some (j,want) from hg))
   exact hv
  ·obtain rfl:=Option.some.inj ((show opOgs[10]? = some opOg10 from rfl).symm.trans ho)
   obtain ⟨rfl,rfl⟩:=Prod.mk.inj (Option.some.inj (show some (8,false) = some (j,want) from hg))
   exact hv
  ·obtain rfl:=Option.some.inj ((show opOgs[11]? = some opOg11 from rfl).symm.trans ho)
   obtain ⟨rfl,rfl⟩:=Prod.mk.inj (Option.some.inj (show some (8,false) = some (j,want) from hg))
   exact hv
  ·obtain rfl:=Option.some.inj ((show opOgs[12]? = some opOg12 from rfl).symm.trans ho)
   obtain ⟨rfl,rfl⟩:=Prod.mk.inj (Option.some.inj (show some (8,false) = some (j,want) from hg))
   exact hv
  ·obtain rfl:=Option.some.inj ((show opOgs[13]? = some opOg13 from rfl).symm.trans ho)
   obtain ⟨rfl,rfl⟩:=Prod.mk.inj (Option.some.inj (show some (8,false) = some (j,want) from hg))
   exact hv
  ·obtain rfl:=Option.some.inj ((show opOgs[14]? = some opOg14 from rfl).symm.trans ho)
   obtain ⟨rfl,rfl⟩:=Prod.mk.inj (Option.some.inj (show some (8,false) = some (j,want) from hg))
   exact hv
  ·obtain rfl:=Option.some.inj ((show opOgs[15]? = some opOg15 from rfl).symm.trans ho)
   obtain ⟨rfl,rfl⟩:=Prod.mk.inj (Option.some.inj (show some (8,false) = some (j,want) from hg))
   exact hv
  ·obtain rfl:=Option.some.inj ((show opOgs[16]? = some opOg16 from rfl).symm.trans ho)
   obtain ⟨rfl,rfl⟩:=Prod.mk.inj (Option.some.inj (show some (8,false) = some (j,want) from hg))
   exact hv
  ·obtain rfl:=Option.some.inj ((show opOgs[17]? = some opOg17 from rfl).symm.trans ho)
   obtain ⟨rfl,rfl⟩:=Prod.mk.inj (Option.some.inj (show some (8,false) = some (j,want) from hg))
   exact hv
  ·obtain rfl:=Option.some.inj ((show opOgs[18]? = some opOg18 from rfl).symm.trans ho)
   obtain ⟨rfl,rfl⟩:=Prod.mk.inj (Option.some.inj (show some (8,false) = some (j,want) from hg))
   exact hv
  ·obtain rfl:=Option.some.inj ((show opOgs[19]? = some opOg19 from rfl).symm.trans ho)
   obtain ⟨rfl,rfl⟩:=Prod.mk.inj (Option.some.inj (show some (8,false) = some (j,want) from hg))
   exact hv
  ·obtain rfl:=Option.some.inj ((show opOgs[20]? = some opOg20 from rfl).symm.trans ho)
   exact absurd (show (none : Option (Nat × Bool)) = some (j,want) from hg) (by simp)
 ·intro i o a w K ho hH he hdep hk
  have hi : i < 21:=(Array.getElem?_eq_some_iff.1 ho).1
  have hD:=dep_have (ps:=[(2,0),(2,1),(3,2),(4,3),(6,5),(7,4),(7,6),(8,7),(9,8),(10,8),(11,8),(11,9),(11,10),(12,8),(12,11),(13,8),(13,12),(14,8),(15,8),(16,8),(16,14),(16,15),(17,8),(17,16),(18,8),(18,13),(18,17),(19,8),(19,18),(20,8),(20,19)]) (by kernel_rfl) ho (fun j => opOgC go n ii q m c b1 o1 c1 q2 c2 s1 x1 y1 p1 f1 j w (a.eval (.tmp (opOgT j)))) hdep
  have e0':=(he 0 (fun j hj e => absurd e.symm (by revert j; decide))).trans e0
  have e8':=(he 8 (fun j hj e => absurd e.symm (by revert j; decide))).trans e8
  have e2':=(he 2 (fun j hj e => absurd e.symm (by revert j; decide))).trans e2
  have e1':=(he 1 (fun j hj e => absurd e.symm (by revert j; decide))).trans e1
  have : i = 0 ∨ i = 1 ∨ i = 2 ∨ i = 3 ∨ i = 4 ∨ i = 5 ∨ i = 6 ∨ i = 7 ∨ i = 8 ∨ i = 9 ∨ i = 10 ∨ i = 11 ∨ i = 12 ∨ i = 13 ∨ i = 14 ∨ i = 15 ∨ i = 16 ∨ i = 17 ∨ i = 18 ∨ i = 19 ∨ i = 20:=by omega
  rcases this with rfl | rfl | rfl | rfl | rfl | rfl | rfl | rfl | rfl | rfl | rfl | rfl | rfl | rfl | rfl | rfl | rfl | rfl | rfl | rfl | rfl
  ·obtain rfl:=Option.some.inj ((show opOgs[0]? = some opOg0 from rfl).symm.trans ho)
   exact wp_value (run_mvK a w _ _ _ _ _ _ _ e0') (hk _ _ (But.refl _ _) rfl)
  ·obtain rfl:=Option.some.inj ((show opOgs[1]? = some opOg1 from rfl).symm.trans ho)
   exact wp_value (run_mvK a w _ _ _ _ _ _ _ e8') (hk _ _ (But.refl _ _) rfl)
  ·obtain rfl:=Option.some.inj ((show opOgs[2]? = some opOg2 from rfl).symm.trans ho)
   exact wp_value (run_indexRK a w _ _ _ _ _ _ _ go 0 n n ii hi' hn2 (hD 0 (by simp)) (hD 1 (by simp))) (hk _ _ (But.refl _ _) rfl)
  ·obtain rfl:=Option.some.inj ((show opOgs[3]? = some opOg3 from rfl).symm.trans ho)
   exact wp_value (run_loadRK a w _ _ _ _ _ _ go _ _ _ _ (hD 2 (by simp)) ((hdr hH).cell_some cr (by simp))) (hk _ _ (But.refl _ _) rfl)
  ·obtain rfl:=Option.some.inj ((show opOgs[4]? = some opOg4 from rfl).symm.trans ho)
   exact wp_value (run_lenRK a w _ _ _ _ _ _ _ _ _ (hD 3 (by simp))) (hk _ _ (But.refl _ _) rfl)
  ·obtain rfl:=Option.some.inj ((show opOgs[5]? = some opOg5 from rfl).symm.trans ho)
   exact wp_value (run_mvK a w _ _ _ _ _ _ _ e2') (hk _ _ (But.refl _ _) rfl)
  ·obtain rfl:=Option.some.inj ((show opOgs[6]? = some opOg6 from rfl).symm.trans ho)
   exact wp_value (run_lenLK a w _ _ _ _ _ _ _ _ _ (hD 5 (by simp))) (hk _ _ (But.refl _ _) rfl)
  ·obtain rfl:=Option.some.inj ((show opOgs[7]? = some opOg7 from rfl).symm.trans ho)
   exact wp_value (run_neqIK a w _ _ _ _ _ _ _ _ (hD 4 (by simp)) (hD 6 (by simp))) (hk _ _ (But.refl _ _) rfl)
  ·obtain rfl:=Option.some.inj ((show opOgs[8]? = some opOg8 from rfl).symm.trans ho)
   exact wp_value (run_mvK a w _ _ _ _ _ _ _ (hD 7 (by simp))) (hk _ _ (But.refl _ _) rfl)
  ·obtain rfl:=Option.some.inj ((show opOgs[9]? = some opOg9 from rfl).symm.trans ho)
   exact wp_value (run_mvK a w _ _ _ _ _ _ _ e0') (hk _ _ (But.refl _ _) rfl)
  ·obtain rfl:=Option.some.inj ((show opOgs[10]? = some opOg10 from rfl).symm.trans ho)
   exact wp_value (run_mvK a w _ _ _ _ _ _ _ e8') (hk _ _ (But.refl _ _) rfl)
  ·obtain rfl:=Option.some.inj ((show opOgs[11]? = some opOg11 from rfl).symm.trans ho)
   exact wp_value (run_indexRK a w _ _ _ _ _ _ _ go 0 n n ii hi' hn2 (hD 9 (by simp)) (hD 10 (by simp))) (hk _ _ (But.refl _ _) rfl)
  ·obtain rfl:=Option.some.inj ((show opOgs[12]? = some opOg12 from rfl).symm.trans ho)
   exact wp_value (run_loadRK a w _ _ _ _ _ _ go _ _ _ _ (hD 11 (by simp)) ((hdr hH).cell_some cr (by simp))) (hk _ _ (But.refl _ _) rfl)
  ·obtain rfl:=Option.some.inj ((show opOgs[13]? = some opOg13 from rfl).symm.trans ho)
   exact wp_enter (run_sumK a w _ _ _ _ _ _ _ (hD 12 (by simp))) (R:=fun w' v => FracAt w' v (f1)∧But [] w w') (SM w (hdr hH)) (fun v w' hv => hk v w' hv.2 hv.1)
  ·obtain rfl:=Option.some.inj ((show opOgs[14]? = some opOg14 from rfl).symm.trans ho)
   exact wp_value (run_mvK a w _ _ _ _ _ _ _ e1') (hk _ _ (But.refl _ _) rfl)
  ·obtain rfl:=Option.some.inj ((show opOgs[15]? = some opOg15 from rfl).symm.trans ho)
   exact wp_value (run_mvK a w _ _ _ _ _ _ _ e8') (hk _ _ (But.refl _ _) rfl)
  ·obtain rfl:=Option.some.inj ((show opOgs[16]? = some opOg16 from rfl).symm.trans ho)
   exact wp_value (run_indexLK a w _ _ _ _ _ _ _ b1 o1 n c1 ii hi' hn2 (hD 14 (by simp)) (hD 15 (by simp))) (hk _ _ (But.refl _ _) rfl)
  ·obtain rfl:=Option.some.inj ((show opOgs[17]? = some opOg17 from rfl).symm.trans ho)
   exact wp_value (run_loadK a w _ _ _ _ _ _ b1 _ _ _ _ _ (hD 16 (by simp)) (k1.but (hdr hH) (by simp))) (hk _ _ (But.refl _ _) rfl)
  ·obtain rfl:=Option.some.inj ((show opOgs[18]? = some opOg18 from rfl).symm.trans ho)
   exact wp_enter (run_likeK a w _ _ _ _ _ _ _ _ _ rfl (hD 17 (by simp))) (R:=fun w' v => But [] w w'∧v = _) ((LK w _ (hdr hH) (hD 13 (by simp))).mono fun e w' ⟨he,hb⟩ => ⟨_,he,hb,rfl⟩) (fun v w' hv => hk v w' hv.1 hv.2)
  ·obtain rfl:=Option.some.inj ((show opOgs[19]? = some opOg19 from rfl).symm.trans ho)
   exact wp_value (run_notK a w _ _ _ _ _ _ true (hD 18 (by simp))) (hk _ _ (But.refl _ _) rfl)
  ·obtain rfl:=Option.some.inj ((show opOgs[20]? = some opOg20 from rfl).symm.trans ho)
   exact wp_value (run_orFK a w _ _ _ _ _ _ _ _ (hD 8 (by simp)) (hD 19 (by simp))) (hk _ _ (But.refl _ _) rfl)
 ·intro a w h
  have ea:=h.puts hT (fun i => match i with
   | 0 => .slice (some ⟨go,0,none⟩) n n
   | 1 => .int .i64 (ii : Int)
   | 2 => .pointer (some ⟨go,0 + ii,none⟩)
   | 3 => .slice q m c
   | 4 => .int .i64 (m : Int)
   | 5 => .slice q2 m c2
   | 6 => .int .i64 (m : Int)
   | 7 => .bool false
   | 8 => .bool false
   | 9 => .slice (some ⟨go,0,none⟩) n n
   | 10 => .int .i64 (ii : Int)
   | 11 => .pointer (some ⟨go,0 + ii,none⟩)
   | 12 => .slice q m c
   | 13 => a.eval (.tmp 37)
   | 14 => .slice (some ⟨b1,o1,none⟩) n c1
   | 15 => .int .i64 (ii : Int)
   | 16 => .pointer (some ⟨b1,o1 + ii * 4,none⟩)
   | 17 => .agg #[.bool s1,.int .u64 x1,.int .u64 y1,.pointer p1]
   | 18 => .bool true
   | 19 => .bool false
   | _ => .bool false) (fun i hi => by
   have hi' : i < 21:=hi
   have hc:=h.has i hi rfl
   have : i = 0 ∨ i = 1 ∨ i = 2 ∨ i = 3 ∨ i = 4 ∨ i = 5 ∨ i = 6 ∨ i = 7 ∨ i = 8 ∨ i = 9 ∨ i = 10 ∨ i = 11 ∨ i = 12 ∨ i = 13 ∨ i = 14 ∨ i = 15 ∨ i = 16 ∨ i = 17 ∨ i = 18 ∨ i = 19 ∨ i = 20:=by omega
   rcases this with rfl | rfl | rfl | rfl | rfl | rfl | rfl | rfl | rfl | rfl | rfl | rfl | rfl | rfl | rfl | rfl | rfl | rfl | rfl | rfl | rfl
   all_goals first | exact hc | rfl)
  rw [ea]
  exact hQ w (a.eval (.tmp 37)) (hdr h.but)
def opOh0 : Oper:={ dst:=some 60,op:=Op.move (Operand.tmp 7),type:=33,pos:= "keep.go:526",after:=#[],guard:=none }
def opOh1 : Oper:={ dst:=some 61,op:=Op.move (Operand.tmp 9),type:=3,pos:= "keep.go:526",after:=#[],guard:=none }
def opOh2 : Oper:={ dst:=some 62,op:=Op.move (Operand.tmp 7),type:=33,pos:= "keep.go:526",after:=#[],guard:=none }
def opOh3 : Oper:={ dst:=some 63,op:=Op.move (Operand.tmp 9),type:=3,pos:= "keep.go:526",after:=#[],guard:=none }
def opOh4 : Oper:={ dst:=some 64,op:=Op.indexAddr 33 (Operand.tmp 62) (Operand.tmp 63),type:=0,pos:= "keep.go:526",after:=#[{ on:=2,ground:=Ground.data },{ on:=3,ground:=Ground.data }],guard:=none }
def opOh5 : Oper:={ dst:=some 65,op:=Op.load 29 (Operand.tmp 64),type:=29,pos:= "keep.go:526",after:=#[{ on:=4,ground:=Ground.data }],guard:=none }
def opOh6 : Oper:={ dst:=some 66,op:=Op.move (Operand.tmp 0),type:=63,pos:= "keep.go:526",after:=#[],guard:=none }
def opOh7 : Oper:={ dst:=some 67,op:=Op.move (Operand.tmp 8),type:=3,pos:= "keep.go:526",after:=#[],guard:=none }
def opOh8 : Oper:={ dst:=some 68,op:=Op.indexAddr 63 (Operand.tmp 66) (Operand.tmp 67),type:=0,pos:= "keep.go:526",after:=#[{ on:=6,ground:=Ground.data },{ on:=7,ground:=Ground.data }],guard:=none }
def opOh9 : Oper:={ dst:=some 69,op:=Op.load 33 (Operand.tmp 68),type:=33,pos:= "keep.go:526",after:=#[{ on:=8,ground:=Ground.data }],guard:=none }
def opOh10 : Oper:={ dst:=some 70,op:=Op.move (Operand.tmp 9),type:=3,pos:= "keep.go:526",after:=#[],guard:=none }
def opOh11 : Oper:={ dst:=some 71,op:=Op.indexAddr 33 (Operand.tmp 69) (Operand.tmp 70),type:=0,pos:= "keep.go:526",after:=#[{ on:=9,ground:=Ground.data },{ on:=10,ground:=Ground.data }],guard:=none }
def opOh12 : Oper:={ dst:=some 72,op:=Op.load 29 (Operand.tmp 71),type:=29,pos:= "keep.go:526",after:=#[{ on:=11,ground:=Ground.data }],guard:=none }
def opOh13 : Oper:={ dst:=some 73,op:=Op.call { callee:=Callee.value (Operand.func 19),args:=#[Operand.tmp 65,Operand.tmp 72],argTypes:=#[29,29] },type:=29,pos:= "keep.go:526",after:=#[{ on:=5,ground:=Ground.data },{ on:=12,ground:=Ground.data }],guard:=none }
def opOh14 : Oper:={ dst:=some 74,op:=Op.indexAddr 33 (Operand.tmp 60) (Operand.tmp 61),type:=0,pos:= "keep.go:526",after:=#[{ on:=0,ground:=Ground.data },{ on:=1,ground:=Ground.data },{ on:=0,ground:=Ground.phase },{ on:=1,ground:=Ground.phase },{ on:=2,ground:=Ground.phase },{ on:=3,ground:=Ground.phase },{ on:=4,ground:=Ground.phase },{ on:=5,ground:=Ground.phase },{ on:=6,ground:=Ground.phase },{ on:=7,ground:=Ground.phase },{ on:=8,ground:=Ground.phase },{ on:=9,ground:=Ground.phase },{ on:=10,ground:=Ground.phase },{ on:=11,ground:=Ground.phase },{ on:=12,ground:=Ground.phase },{ on:=13,ground:=Ground.phase }],guard:=none }
def opOh15 : Oper:={ dst:=none,op:=Op.store 29 (Operand.tmp 74) (Operand.tmp 73),type:=0,pos:= "keep.go:526",after:=#[{ on:=14,ground:=Ground.data },{ on:=13,ground:=Ground.data },{ on:=13,ground:=Ground.chain },{ on:=0,ground:=Ground.phase },{ on:=1,ground:=Ground.phase },{ on:=2,ground:=Ground.phase },{ on:=3,ground:=Ground.phase },{ on:=4,ground:=Ground.phase },{ on:=5,ground:=Ground.phase },{ on:=6,ground:=Ground.phase },{ on:=7,ground:=Ground.phase },{ on:=8,ground:=Ground.phase },{ on:=9,ground:=Ground.phase },{ on:=10,ground:=Ground.phase },{ on:=11,ground:=Ground.phase },{ on:=12,ground:=Ground.phase },{ on:=13,ground:=Ground.phase }],guard:=none }
def opOhs : Array Oper:=#[opOh0,opOh1,opOh2,opOh3,opOh4,opOh5,opOh6,opOh7,opOh8,opOh9,opOh10,opOh11,opOh12,opOh13,opOh14,opOh15]
def opOhT (i : Nat) : Nat:=match i with
 | 0 => 60
 | 1 => 61
 | 2 => 62
 | 3 => 63
 | 4 => 64
 | 5 => 65
 | 6 => 66
 | 7 => 67
 | 8 => 68
 | 9 => 69
 | 10 => 70
 | 11 => 71
 | 12 => 72
 | 13 => 73
 | _ => 74
/-- what each operation's value is -/
def opOhC (gb : Nat) (go : Nat) (gm : Nat) (n : Nat) (ii : Nat) (b1 : Nat) (o1 : Nat) (m : Nat) (c : Nat) (ka : Nat) (s1 : Bool) (x1 : Int) (y1 : Int) (p1 : Option Addr) (s2 : Bool) (x2 : Int) (y2 : Int) (p2 : Option Addr) (f1 : Rat) (f2 : Rat) (i : Nat) (w : World) (v : Value) : Prop:=match i with
 | 0 => v = .slice (some ⟨gb,0,none⟩) m m
 | 1 => v = .int .i64 (ka : Int)
 | 2 => v = .slice (some ⟨gb,0,none⟩) m m
 | 3 => v = .int .i64 (ka : Int)
 | 4 => v = .pointer (some ⟨gb,go,none⟩)
 | 5 => v = .agg #[.bool s1,.int .u64 x1,.int .u64 y1,.pointer p1]
 | 6 => v = .slice (some ⟨gm,0,none⟩) n n
 | 7 => v = .int .i64 (ii : Int)
 | 8 => v = .pointer (some ⟨gm,0 + ii,none⟩)
 | 9 => v = .slice (some ⟨b1,o1,none⟩) m c
 | 10 => v = .int .i64 (ka : Int)
 | 11 => v = .pointer (some ⟨b1,o1 + ka * 4,none⟩)
 | 12 => v = .agg #[.bool s2,.int .u64 x2,.int .u64 y2,.pointer p2]
 | 13 => FracAt w v (f1 + f2)
 | _ => v = .pointer (some ⟨gb,go,none⟩)
theorem opOhC_but {gb : Nat} {go : Nat} {gm : Nat} {n : Nat} {ii : Nat} {b1 : Nat} {o1 : Nat} {m : Nat} {c : Nat} {ka : Nat} {s1 : Bool} {x1 : Int} {y1 : Int} {p1 : Option Addr} {s2 : Bool} {x2 : Int} {y2 : Int} {p2 : Option Addr} {f1 : Rat} {f2 : Rat} {i : Nat} {w w' : World} {v : Value} (h : opOhC gb go gm n ii b1 o1 m c ka s1 x1 y1 p1 s2 x2 y2 p2 f1 f2 i w v) (hi : i < 15) (hb : But [] w w') : opOhC gb go gm n ii b1 o1 m c ka s1 x1 y1 p1 s2 x2 y2 p2 f1 f2 i w' v:=by
 have : i = 0 ∨ i = 1 ∨ i = 2 ∨ i = 3 ∨ i = 4 ∨ i = 5 ∨ i = 6 ∨ i = 7 ∨ i = 8 ∨ i = 9 ∨ i = 10 ∨ i = 11 ∨ i = 12 ∨ i = 13 ∨ i = 14:=by omega
 rcases this with rfl | rfl | rfl | rfl | rfl | rfl | rfl | rfl | rfl | rfl | rfl | rfl | rfl | rfl | rfl
 all_goals first | exact h | exact FracAt.but h hb | exact FracsAt.but h hb
theorem opOhT_inj : ∀ i j,i < 15→j < 15→opOhT i = opOhT j→i = j:=fun i j hi hj => (by decide : ∀ i,i < 15→∀ j,j < 15→opOhT i = opOhT j→i = j) i hi j hj
set_option maxHeartbeats 16000000 in
set_option maxRecDepth 100000 in
theorem marg_region14 (id : Nat) (Q : Exit→Act→World→Prop) (base : Act) (W0 : World) (gb : Nat) (go : Nat) (gm : Nat) (n : Nat) (ii : Nat) (b1 : Nat) (o1 : Nat) (m : Nat) (c : Nat) (ka : Nat) (s1 : Bool) (x1 : Int) (y1 : Int) (p1 : Option Addr) (s2 : Bool) (x2 : Int) (y2 : Int) (p2 : Option Addr) (f1 : Rat) (f2 : Rat) {sb : Bool} {xb yb : Int} {pb : Option Addr} (hs : 74 < base.tmps.size) (cb : P4o W0 gb go sb xb yb pb) (fzb : ∀ j,W0.frozen? ⟨gb,j,none⟩ = false) (e7 : base.eval (.tmp 7) = .slice (some ⟨gb,0,none⟩) m m) (e9 : base.eval (.tmp 9) = .int .i64 (ka : Int)) (e0 : base.eval (.tmp 0) = .slice (some ⟨gm,0,none⟩) n n) (e8 : base.eval (.tmp 8) = .int .i64 (ii : Int))
  (hgo : go = ka * 4) (hka : ka < m) (hm2 : m < 1000000) (hi' : ii < n) (hn2 : n < 1000000) (k1 : P4o W0 gb go s1 x1 y1 p1) (cr : W0.cell? ⟨gm,0 + ii,none⟩ = some (.slice (some ⟨b1,o1,none⟩) m c)) (k2 : P4o W0 b1 (o1 + ka * 4) s2 x2 y2 p2)
  (AD : ∀ w,But [] W0 w→Calls Tryz.prog 19 #[.agg #[.bool s1,.int .u64 x1,.int .u64 y1,.pointer p1],.agg #[.bool s2,.int .u64 x2,.int .u64 y2,.pointer p2]] w fun e w' => ∃ v,e = .returned v∧FracAt w' v (f1 + f2)∧But [] w w')
  (hQ : ∀ w1 s' x' y' p',But [] W0 w1→FracAt w1 (.agg #[.bool s',.int .u64 x',.int .u64 y',.pointer p']) (f1 + f2)→Q .normal (putted base [(60,.slice (some ⟨gb,0,none⟩) m m),(61,.int .i64 (ka : Int)),(62,.slice (some ⟨gb,0,none⟩) m m),(63,.int .i64 (ka : Int)),(64,.pointer (some ⟨gb,go,none⟩)),(65,.agg #[.bool s1,.int .u64 x1,.int .u64 y1,.pointer p1]),(66,.slice (some ⟨gm,0,none⟩) n n),(67,.int .i64 (ii : Int)),(68,.pointer (some ⟨gm,0 + ii,none⟩)),(69,.slice (some ⟨b1,o1,none⟩) m c),(70,.int .i64 (ka : Int)),(71,.pointer (some ⟨b1,o1 + ka * 4,none⟩)),(72,.agg #[.bool s2,.int .u64 x2,.int .u64 y2,.pointer p2]),(73,(.agg #[.bool s',.int .u64 x',.int .u64 y',.pointer p'])),(74,.pointer (some ⟨gb,go,none⟩))]) (w1.setCells gb go [.bool s',.int .u64 x',.int .u64 y',.pointer p'])) :
  (Code.region id opOhs true).wp Tryz.prog Q base W0:=by
 have hdr : ∀ {w},But [] W0.drew w→But [] W0 w:=fun h => (But.refl _ _).drew.trans' h
 have lgb : gb < W0.heap.size:=lt_of_cell cb.1
 have hT : ∀ i,i < 15→opOhT i < base.tmps.size:=fun i hi => by
  have h : opOhT i ≤ 74:=by revert i; decide
  omega
 refine region_flow (by kernel_rfl) (low_of (by kernel_rfl)) (fun i o ho => (calm_of (ops:=opOhs) (by kernel_rfl) i o ho).1)
  (fun _ w => But [] W0.drew w) (opOhC gb go gm n ii b1 o1 m c ka s1 x1 y1 p1 s2 x2 y2 p2 f1 f2) opOhT 15 rfl opOhT_inj hT (But.refl _ _)
  (fun i hi => ?_) ?_ (fun a w => ∃ w1 s' x' y' p',a = putted base [(60,.slice (some ⟨gb,0,none⟩) m m),(61,.int .i64 (ka : Int)),(62,.slice (some ⟨gb,0,none⟩) m m),(63,.int .i64 (ka : Int)),(64,.pointer (some ⟨gb,go,none⟩)),(65,.agg #[.bool s1,.int .u64 x1,.int .u64 y1,.pointer p1]),(66,.slice (some ⟨gm,0,none⟩) n n),(67,.int .i64 (ii : Int)),(68,.pointer (some ⟨gm,0 + ii,none⟩)),(69,.slice (some ⟨b1,o1,none⟩) m c),(70,.int .i64 (ka : Int)),(71,.pointer (some ⟨b1,o1 + ka * 4,none⟩)),(72,.agg #[.bool s2,.int .u64 x2,.int .u64 y2,.pointer p2]),(73,(.agg #[.bool s',.int .u64 x',.int .u64 y',.pointer p'])),(74,.pointer (some ⟨gb,go,none⟩))]∧w = w1.setCells gb go [.bool s',.int .u64 x',.int .u64 y',.pointer p']∧But [] W0 w1∧FracAt w1 (.agg #[.bool s',.int .u64 x',.int .u64 y',.pointer p']) (f1 + f2)) ?_ ?_
 ·exact dep_of (ops:=opOhs) (ps:=[(15,0),(15,1),(15,2),(15,3),(15,4),(15,5),(15,6),(15,7),(15,8),(15,9),(15,10),(15,11),(15,12),(15,13),(15,14)]) (by kernel_rfl) 15 i (by
   have : i = 0 ∨ i = 1 ∨ i = 2 ∨ i = 3 ∨ i = 4 ∨ i = 5 ∨ i = 6 ∨ i = 7 ∨ i = 8 ∨ i = 9 ∨ i = 10 ∨ i = 11 ∨ i = 12 ∨ i = 13 ∨ i = 14:=by omega
   rcases this with rfl | rfl | rfl | rfl | rfl | rfl | rfl | rfl | rfl | rfl | rfl | rfl | rfl | rfl | rfl <;> simp)
 ·intro dn i o a w K hi ho hdi hH he hdep hK
  have hD:=fun j hj => (dep_have (ps:=[(4,2),(4,3),(5,4),(8,6),(8,7),(9,8),(11,9),(11,10),(12,11),(13,5),(13,12),(14,0),(14,1),(14,2),(14,3),(14,4),(14,5),(14,6),(14,7),(14,8),(14,9),(14,10),(14,11),(14,12),(14,13)]) (by kernel_rfl) ho (fun j => dn j = true∧opOhC gb go gm n ii b1 o1 m c ka s1 x1 y1 p1 s2 x2 y2 p2 f1 f2 j w (a.eval (.tmp (opOhT j)))) hdep j hj).2
  have hk : ∀ v w',But [] w w'→opOhC gb go gm n ii b1 o1 m c ka s1 x1 y1 p1 s2 x2 y2 p2 f1 f2 i w' v→K (a.put (some (opOhT i)) v) w':=fun v w' hb hv => hK v w' (hH.trans' hb) (fun j hj _ u hu => opOhC_but hu hj hb) hv
  have e7':=(he 7 (fun j hj e => absurd e.symm (by revert j; decide))).trans e7
  have e9':=(he 9 (fun j hj e => absurd e.symm (by revert j; decide))).trans e9
  have e0':=(he 0 (fun j hj e => absurd e.symm (by revert j; decide))).trans e0
  have e8':=(he 8 (fun j hj e => absurd e.symm (by revert j; decide))).trans e8
  have : i = 0 ∨ i = 1 ∨ i = 2 ∨ i = 3 ∨ i = 4 ∨ i = 5 ∨ i = 6 ∨ i = 7 ∨ i = 8 ∨ i = 9 ∨ i = 10 ∨ i = 11 ∨ i = 12 ∨ i = 13 ∨ i = 14:=by omega
  rcases this with rfl | rfl | rfl | rfl | rfl | rfl | rfl | rfl | rfl | rfl | rfl | rfl | rfl | rfl | rfl
  ·obtain rfl:=Option.some.inj ((show opOhs[0]? = some opOh0 from rfl).symm.trans ho)
   exact wp_value (run_mvK a w _ _ _ _ _ _ _ e7') (hk _ _ (But.refl _ _) rfl)
  ·obtain rfl:=Option.some.inj ((show opOhs[1]? = some opOh1 from rfl).symm.trans ho)
   exact wp_value (run_mvK a w _ _ _ _ _ _ _ e9') (hk _ _ (But.refl _ _) rfl)
  ·obtain rfl:=Option.some.inj ((show opOhs[2]? = some opOh2 from rfl).symm.trans ho)
   exact wp_value (run_mvK a w _ _ _ _ _ _ _ e7') (hk _ _ (But.refl _ _) rfl)
  ·obtain rfl:=Option.some.inj ((show opOhs[3]? = some opOh3 from rfl).symm.trans ho)
   exact wp_value (run_mvK a w _ _ _ _ _ _ _ e9') (hk _ _ (But.refl _ _) rfl)
  ·obtain rfl:=Option.some.inj ((show opOhs[4]? = some opOh4 from rfl).symm.trans ho)
   refine wp_value (run_indexK a w _ _ _ _ _ _ _ gb 0 m m ka hka hm2 (hD 2 (by simp)) (hD 3 (by simp))) (hk _ _ (But.refl _ _) ?_)
   show Value.pointer _ = Value.pointer _
   rw [hgo,Nat.zero_add]
  ·obtain rfl:=Option.some.inj ((show opOhs[5]? = some opOh5 from rfl).symm.trans ho)
   exact wp_value (run_loadK a w _ _ _ _ _ _ gb go _ _ _ _ (hD 4 (by simp)) (k1.but (hdr hH) (by simp))) (hk _ _ (But.refl _ _) rfl)
  ·obtain rfl:=Option.some.inj ((show opOhs[6]? = some opOh6 from rfl).symm.trans ho)
   exact wp_value (run_mvK a w _ _ _ _ _ _ _ e0') (hk _ _ (But.refl _ _) rfl)
  ·obtain rfl:=Option.some.inj ((show opOhs[7]? = some opOh7 from rfl).symm.trans ho)
   exact wp_value (run_mvK a w _ _ _ _ _ _ _ e8') (hk _ _ (But.refl _ _) rfl)
  ·obtain rfl:=Option.some.inj ((show opOhs[8]? = some opOh8 from rfl).symm.trans ho)
   exact wp_value (run_indexRK a w _ _ _ _ _ _ _ gm 0 n n ii hi' hn2 (hD 6 (by simp)) (hD 7 (by simp))) (hk _ _ (But.refl _ _) rfl)
  ·obtain rfl:=Option.some.inj ((show opOhs[9]? = some opOh9 from rfl).symm.trans ho)
   exact wp_value (run_loadRK a w _ _ _ _ _ _ gm _ _ _ _ (hD 8 (by simp)) ((hdr hH).cell_some cr (by simp))) (hk _ _ (But.refl _ _) rfl)
  ·obtain rfl:=Option.some.inj ((show opOhs[10]? = some opOh10 from rfl).symm.trans ho)
   exact wp_value (run_mvK a w _ _ _ _ _ _ _ e9') (hk _ _ (But.refl _ _) rfl)
  ·obtain rfl:=Option.some.inj ((show opOhs[11]? = some opOh11 from rfl).symm.trans ho)
   exact wp_value (run_indexK a w _ _ _ _ _ _ _ b1 o1 m c ka hka hm2 (hD 9 (by simp)) (hD 10 (by simp))) (hk _ _ (But.refl _ _) rfl)
  ·obtain rfl:=Option.some.inj ((show opOhs[12]? = some opOh12 from rfl).symm.trans ho)
   exact wp_value (run_loadK a w _ _ _ _ _ _ b1 _ _ _ _ _ (hD 11 (by simp)) (k2.but (hdr hH) (by simp))) (hk _ _ (But.refl _ _) rfl)
  ·obtain rfl:=Option.some.inj ((show opOhs[13]? = some opOh13 from rfl).symm.trans ho)
   exact wp_enter (run_addK a w _ _ _ _ _ _ _ _ _ (hD 5 (by simp)) (hD 12 (by simp))) (R:=fun w' v => FracAt w' v (f1 + f2)∧But [] w w') (AD w (hdr hH)) (fun v w' hv => hk v w' hv.2 hv.1)
  ·obtain rfl:=Option.some.inj ((show opOhs[14]? = some opOh14 from rfl).symm.trans ho)
   refine wp_value (run_indexK a w _ _ _ _ _ _ _ gb 0 m m ka hka hm2 (hD 0 (by simp)) (hD 1 (by simp))) (hk _ _ (But.refl _ _) ?_)
   show Value.pointer _ = Value.pointer _
   rw [hgo,Nat.zero_add]
 ·intro dn o a w K ho hall h hK
  obtain rfl:=Option.some.inj ((show opOhs[15]? = some opOh15 from rfl).symm.trans ho)
  have eb' : a.eval (.tmp 74) = .pointer (some ⟨gb,go,none⟩):=h.has 14 (by omega) (hall 14 (by omega))
  have cl : FracAt w (a.eval (.tmp 73)) (f1 + f2):=h.has 13 (by omega) (hall 13 (by omega))
  have cl':=cl
  obtain ⟨x',y',p',ev,-⟩:=cl.agg
  rw [ev] at cl'
  have ea:=h.puts hT (fun i => match i with
   | 0 => .slice (some ⟨gb,0,none⟩) m m
   | 1 => .int .i64 (ka : Int)
   | 2 => .slice (some ⟨gb,0,none⟩) m m
   | 3 => .int .i64 (ka : Int)
   | 4 => .pointer (some ⟨gb,go,none⟩)
   | 5 => .agg #[.bool s1,.int .u64 x1,.int .u64 y1,.pointer p1]
   | 6 => .slice (some ⟨gm,0,none⟩) n n
   | 7 => .int .i64 (ii : Int)
   | 8 => .pointer (some ⟨gm,0 + ii,none⟩)
   | 9 => .slice (some ⟨b1,o1,none⟩) m c
   | 10 => .int .i64 (ka : Int)
   | 11 => .pointer (some ⟨b1,o1 + ka * 4,none⟩)
   | 12 => .agg #[.bool s2,.int .u64 x2,.int .u64 y2,.pointer p2]
   | 13 => .agg #[.bool (decide ((f1 + f2).num < 0)),.int .u64 x',.int .u64 y',.pointer p']
   | _ => .pointer (some ⟨gb,go,none⟩)) (fun i hi => by
   have hc:=h.has i hi (hall i hi)
   have : i = 0 ∨ i = 1 ∨ i = 2 ∨ i = 3 ∨ i = 4 ∨ i = 5 ∨ i = 6 ∨ i = 7 ∨ i = 8 ∨ i = 9 ∨ i = 10 ∨ i = 11 ∨ i = 12 ∨ i = 13 ∨ i = 14:=by omega
   rcases this with rfl | rfl | rfl | rfl | rfl | rfl | rfl | rfl | rfl | rfl | rfl | rfl | rfl | rfl | rfl
   all_goals first | exact ev | exact hc | rfl)
  exact wp_skipped (run_store4o a w _ _ _ _ _ gb go _ x' y' p' eb' ev (cb.but (hdr h.mem) (by simp)) (fun j => ((hdr h.mem).frozen (p:=⟨gb,j,none⟩) lgb (by simp)).trans (fzb j))) (hK _ _ ⟨w,_,x',y',p',ea,rfl,hdr h.mem,cl'⟩)
 ·rintro a w ⟨w1,s',x',y',p',rfl,rfl,h1,h2⟩
  exact hQ  w1 s' x' y' p' h1 h2
end Go.Proofs.YtikgmhpbdcdogaaGreatDoor
