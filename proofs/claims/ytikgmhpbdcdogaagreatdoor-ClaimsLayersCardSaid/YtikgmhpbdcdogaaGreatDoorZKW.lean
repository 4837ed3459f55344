/- Layers, one upon the other: the statements of the law that draw their order, as the Go text of package tontinekeep has them. -/
import Derived.Test.YtikgmhpbdcdogaaGreatDoorZKN
namespace Go.Proofs.YtikgmhpbdcdogaaGreatDoor
open Go.RowKit

theorem run_nenilK (a : Act) (w : World) (d t : Nat) (u : TypeId) (ps : String) (ed : Array Edge) (gd : Option (Nat × Bool)) (h : a.eval (.tmp t) = .nilIface) :
  (execOp a.eval { dst:=some d,op:=Op.binOp BinOp.neq 35 (.tmp t) (Operand.const Value.nilIface) 35,type:=u,pos:=ps,after:=ed,guard:=gd }).run Tryz.prog w = .ok (.value (.bool false)) w:=by
 have e : a.eval (.const .nilIface) = .nilIface:=rfl
 unfold execOp
 simp only [h,e]
 go_simp
theorem run_notK (a : Act) (w : World) (d t : Nat) (u : TypeId) (ps : String) (ed : Array Edge) (gd : Option (Nat × Bool)) (b : Bool) (h : a.eval (.tmp t) = .bool b) :
  (execOp a.eval { dst:=some d,op:=Op.unOp UnOp.not 4 (.tmp t),type:=u,pos:=ps,after:=ed,guard:=gd }).run Tryz.prog w = .ok (.value (.bool (!b))) w:=by
 unfold execOp
 simp only [h]
 go_simp
theorem run_likeK (a : Act) (w : World) (d t1 t2 : Nat) (u : TypeId) (ps : String) (ed : Array Edge) (gd : Option (Nat × Bool)) (x1 x2 : Value) (h1 : a.eval (.tmp t1) = x1) (h2 : a.eval (.tmp t2) = x2) :
  (execOp a.eval { dst:=some d,op:=Op.call { callee:=Callee.value (Operand.func 18),args:=#[Operand.tmp t1,Operand.tmp t2],argTypes:=#[29,29] },type:=u,pos:=ps,after:=ed,guard:=gd }).run Tryz.prog w = .ok (.enter 18 #[x1,x2]) w:=by
 unfold execOp
 go_simp
 rw [← h1,← h2]
 simp [Act.eval]
def opKt0 : Oper:={ dst:=some 81,op:=Op.move (Operand.tmp 13),type:=35,pos:= "keep.go:495",after:=#[],guard:=none }
def opKt1 : Oper:={ dst:=some 82,op:=Op.binOp BinOp.neq 35 (Operand.tmp 81) (Operand.const Value.nilIface) 35,type:=4,pos:= "keep.go:495",after:=#[{ on:=0,ground:=Ground.data }],guard:=none }
def opKt2 : Oper:={ dst:=some 83,op:=Op.move (Operand.tmp 82),type:=4,pos:= "keep.go:495",after:=#[{ on:=1,ground:=Ground.data }],guard:=none }
def opKt3 : Oper:={ dst:=some 84,op:=Op.move (Operand.tmp 15),type:=35,pos:= "keep.go:495",after:=#[{ on:=2,ground:=Ground.guard }],guard:=some (2,false) }
def opKt4 : Oper:={ dst:=some 85,op:=Op.binOp BinOp.neq 35 (Operand.tmp 84) (Operand.const Value.nilIface) 35,type:=4,pos:= "keep.go:495",after:=#[{ on:=3,ground:=Ground.data },{ on:=2,ground:=Ground.guard }],guard:=some (2,false) }
def opKt5 : Oper:={ dst:=some 86,op:=Op.pick (Operand.tmp 83) (Operand.const (Value.bool true)) (Operand.tmp 85),type:=4,pos:= "keep.go:495",after:=#[{ on:=2,ground:=Ground.data },{ on:=4,ground:=Ground.data }],guard:=none }
def opKt6 : Oper:={ dst:=some 87,op:=Op.move (Operand.tmp 86),type:=4,pos:= "keep.go:495",after:=#[{ on:=5,ground:=Ground.data },{ on:=2,ground:=Ground.chain }],guard:=none }
def opKt7 : Oper:={ dst:=some 88,op:=Op.move (Operand.tmp 17),type:=35,pos:= "keep.go:495",after:=#[{ on:=6,ground:=Ground.guard }],guard:=some (6,false) }
def opKt8 : Oper:={ dst:=some 89,op:=Op.binOp BinOp.neq 35 (Operand.tmp 88) (Operand.const Value.nilIface) 35,type:=4,pos:= "keep.go:495",after:=#[{ on:=7,ground:=Ground.data },{ on:=6,ground:=Ground.guard }],guard:=some (6,false) }
def opKt9 : Oper:={ dst:=some 90,op:=Op.pick (Operand.tmp 87) (Operand.const (Value.bool true)) (Operand.tmp 89),type:=4,pos:= "keep.go:495",after:=#[{ on:=6,ground:=Ground.data },{ on:=8,ground:=Ground.data }],guard:=none }
def opKt10 : Oper:={ dst:=some 91,op:=Op.move (Operand.tmp 90),type:=4,pos:= "keep.go:495",after:=#[{ on:=9,ground:=Ground.data },{ on:=6,ground:=Ground.chain }],guard:=none }
def opKt11 : Oper:={ dst:=some 92,op:=Op.move (Operand.tmp 19),type:=35,pos:= "keep.go:495",after:=#[{ on:=10,ground:=Ground.guard }],guard:=some (10,false) }
def opKt12 : Oper:={ dst:=some 93,op:=Op.binOp BinOp.neq 35 (Operand.tmp 92) (Operand.const Value.nilIface) 35,type:=4,pos:= "keep.go:495",after:=#[{ on:=11,ground:=Ground.data },{ on:=10,ground:=Ground.guard }],guard:=some (10,false) }
def opKt13 : Oper:={ dst:=some 94,op:=Op.pick (Operand.tmp 91) (Operand.const (Value.bool true)) (Operand.tmp 93),type:=4,pos:= "keep.go:495",after:=#[{ on:=10,ground:=Ground.data },{ on:=12,ground:=Ground.data }],guard:=none }
def opKt14 : Oper:={ dst:=some 95,op:=Op.move (Operand.tmp 94),type:=4,pos:= "keep.go:495",after:=#[{ on:=13,ground:=Ground.data },{ on:=10,ground:=Ground.chain }],guard:=none }
def opKt15 : Oper:={ dst:=some 96,op:=Op.move (Operand.tmp 21),type:=35,pos:= "keep.go:495",after:=#[{ on:=14,ground:=Ground.guard }],guard:=some (14,false) }
def opKt16 : Oper:={ dst:=some 97,op:=Op.binOp BinOp.neq 35 (Operand.tmp 96) (Operand.const Value.nilIface) 35,type:=4,pos:= "keep.go:495",after:=#[{ on:=15,ground:=Ground.data },{ on:=14,ground:=Ground.guard }],guard:=some (14,false) }
def opKt17 : Oper:={ dst:=some 98,op:=Op.pick (Operand.tmp 95) (Operand.const (Value.bool true)) (Operand.tmp 97),type:=4,pos:= "keep.go:495",after:=#[{ on:=14,ground:=Ground.data },{ on:=16,ground:=Ground.data }],guard:=none }
def opKt18 : Oper:={ dst:=some 99,op:=Op.move (Operand.tmp 98),type:=4,pos:= "keep.go:495",after:=#[{ on:=17,ground:=Ground.data },{ on:=14,ground:=Ground.chain }],guard:=none }
def opKt19 : Oper:={ dst:=some 100,op:=Op.load 29 (Operand.tmp 18),type:=29,pos:= "keep.go:495",after:=#[{ on:=18,ground:=Ground.guard }],guard:=some (18,false) }
def opKt20 : Oper:={ dst:=some 101,op:=Op.load 29 (Operand.tmp 20),type:=29,pos:= "keep.go:495",after:=#[{ on:=18,ground:=Ground.guard }],guard:=some (18,false) }
def opKt21 : Oper:={ dst:=some 102,op:=Op.call { callee:=Callee.value (Operand.func 19),args:=#[Operand.tmp 100,Operand.tmp 101],argTypes:=#[29,29] },type:=29,pos:= "keep.go:495",after:=#[{ on:=19,ground:=Ground.data },{ on:=20,ground:=Ground.data },{ on:=18,ground:=Ground.chain },{ on:=18,ground:=Ground.guard }],guard:=some (18,false) }
def opKt22 : Oper:={ dst:=some 103,op:=Op.load 29 (Operand.tmp 16),type:=29,pos:= "keep.go:495",after:=#[{ on:=18,ground:=Ground.guard }],guard:=some (18,false) }
def opKt23 : Oper:={ dst:=some 104,op:=Op.call { callee:=Callee.value (Operand.func 19),args:=#[Operand.tmp 102,Operand.tmp 103],argTypes:=#[29,29] },type:=29,pos:= "keep.go:495",after:=#[{ on:=21,ground:=Ground.data },{ on:=22,ground:=Ground.data },{ on:=21,ground:=Ground.chain },{ on:=18,ground:=Ground.guard }],guard:=some (18,false) }
def opKt24 : Oper:={ dst:=some 105,op:=Op.load 29 (Operand.tmp 10),type:=29,pos:= "keep.go:495",after:=#[{ on:=18,ground:=Ground.guard }],guard:=some (18,false) }
def opKt25 : Oper:={ dst:=some 106,op:=Op.call { callee:=Callee.value (Operand.func 18),args:=#[Operand.tmp 104,Operand.tmp 105],argTypes:=#[29,29] },type:=4,pos:= "keep.go:495",after:=#[{ on:=23,ground:=Ground.data },{ on:=24,ground:=Ground.data },{ on:=23,ground:=Ground.chain },{ on:=18,ground:=Ground.guard }],guard:=some (18,false) }
def opKt26 : Oper:={ dst:=some 107,op:=Op.unOp UnOp.not 4 (Operand.tmp 106),type:=4,pos:= "keep.go:495",after:=#[{ on:=25,ground:=Ground.data },{ on:=18,ground:=Ground.guard }],guard:=some (18,false) }
def opKt27 : Oper:={ dst:=some 108,op:=Op.pick (Operand.tmp 99) (Operand.const (Value.bool true)) (Operand.tmp 107),type:=4,pos:= "keep.go:495",after:=#[{ on:=18,ground:=Ground.data },{ on:=26,ground:=Ground.data }],guard:=none }
def opKts : Array Oper:=#[opKt0,opKt1,opKt2,opKt3,opKt4,opKt5,opKt6,opKt7,opKt8,opKt9,opKt10,opKt11,opKt12,opKt13,opKt14,opKt15,opKt16,opKt17,opKt18,opKt19,opKt20,opKt21,opKt22,opKt23,opKt24,opKt25,opKt26,opKt27]
def opKtT (i : Nat) : Nat:=match i with
 | 0 => 81
 | 1 => 82
 | 2 => 83
 | 3 => 84
 | 4 => 85
 | 5 => 86
 | 6 => 87
 | 7 => 88
 | 8 => 89
 | 9 => 90
 | 10 => 91
 | 11 => 92
 | 12 => 93
 | 13 => 94
 | 14 => 95
 | 15 => 96
 | 16 => 97
 | 17 => 98
 | 18 => 99
 | 19 => 100
 | 20 => 101
 | 21 => 102
 | 22 => 103
 | 23 => 104
 | 24 => 105
 | 25 => 106
 | 26 => 107
 | _ => 108
/-- what each operation's value is -/
def opKtC (s1 : Bool) (x1 : Int) (y1 : Int) (p1 : Option Addr) (s2 : Bool) (x2 : Int) (y2 : Int) (p2 : Option Addr) (s3 : Bool) (x3 : Int) (y3 : Int) (p3 : Option Addr) (s4 : Bool) (x4 : Int) (y4 : Int) (p4 : Option Addr) (f1 : Rat) (f2 : Rat) (f3 : Rat) (i : Nat) (w : World) (v : Value) : Prop:=match i with
 | 0 => v = .nilIface
 | 1 => v = .bool false
 | 2 => v = .bool false
 | 3 => v = .nilIface
 | 4 => v = .bool false
 | 5 => v = .bool false
 | 6 => v = .bool false
 | 7 => v = .nilIface
 | 8 => v = .bool false
 | 9 => v = .bool false
 | 10 => v = .bool false
 | 11 => v = .nilIface
 | 12 => v = .bool false
 | 13 => v = .bool false
 | 14 => v = .bool false
 | 15 => v = .nilIface
 | 16 => v = .bool false
 | 17 => v = .bool false
 | 18 => v = .bool false
 | 19 => v = .agg #[.bool s1,.int .u64 x1,.int .u64 y1,.pointer p1]
 | 20 => v = .agg #[.bool s2,.int .u64 x2,.int .u64 y2,.pointer p2]
 | 21 => FracAt w v (f1 + f2)
 | 22 => v = .agg #[.bool s3,.int .u64 x3,.int .u64 y3,.pointer p3]
 | 23 => FracAt w v (f1 + f2 + f3)
 | 24 => v = .agg #[.bool s4,.int .u64 x4,.int .u64 y4,.pointer p4]
 | 25 => v = .bool true
 | 26 => v = .bool false
 | _ => v = .bool false
theorem opKtC_but {s1 : Bool} {x1 : Int} {y1 : Int} {p1 : Option Addr} {s2 : Bool} {x2 : Int} {y2 : Int} {p2 : Option Addr} {s3 : Bool} {x3 : Int} {y3 : Int} {p3 : Option Addr} {s4 : Bool} {x4 : Int} {y4 : Int} {p4 : Option Addr} {f1 : Rat} {f2 : Rat} {f3 : Rat} {i : Nat} {w w' : World} {v : Value} (h : opKtC s1 x1 y1 p1 s2 x2 y2 p2 s3 x3 y3 p3 s4 x4 y4 p4 f1 f2 f3 i w v) (hi : i < 28) (hb : But [] w w') : opKtC s1 x1 y1 p1 s2 x2 y2 p2 s3 x3 y3 p3 s4 x4 y4 p4 f1 f2 f3 i w' v:=by
 have : i = 0 ∨ i = 1 ∨ i = 2 ∨ i = 3 ∨ i = 4 ∨ i = 5 ∨ i = 6 ∨ i = 7 ∨ i = 8 ∨ i = 9 ∨ i = 10 ∨ i = 11 ∨ i = 12 ∨ i = 13 ∨ i = 14 ∨ i = 15 ∨ i = 16 ∨ i = 17 ∨ i = 18 ∨ i = 19 ∨ i = 20 ∨ i = 21 ∨ i = 22 ∨ i = 23 ∨ i = 24 ∨ i = 25 ∨ i = 26 ∨ i = 27:=by omega
 rcases this with rfl | rfl | rfl | rfl | rfl | rfl | rfl | rfl | rfl | rfl | rfl | rfl | rfl | rfl | rfl | rfl | rfl | rfl | rfl | rfl | rfl | rfl | rfl | rfl | rfl | rfl | rfl | rfl
 all_goals first | exact h | exact FracAt.but h hb | exact FracsAt.but h hb
theorem opKtT_inj : ∀ i j,i < 28→j < 28→opKtT i = opKtT j→i = j:=fun i j hi hj => (by decide : ∀ i,i < 28→∀ j,j < 28→opKtT i = opKtT j→i = j) i hi j hj
set_option maxHeartbeats 16000000 in
set_option maxRecDepth 100000 in
theorem layers_region13 (id : Nat) (Q : Exit→Act→World→Prop) (base : Act) (W0 : World) (s1 : Bool) (x1 : Int) (y1 : Int) (p1 : Option Addr) (s2 : Bool) (x2 : Int) (y2 : Int) (p2 : Option Addr) (s3 : Bool) (x3 : Int) (y3 : Int) (p3 : Option Addr) (s4 : Bool) (x4 : Int) (y4 : Int) (p4 : Option Addr) (f1 : Rat) (f2 : Rat) (f3 : Rat) (hs : 108 < base.tmps.size) (g18 g20 g16 g10 : Nat) (e13 : base.eval (.tmp 13) = .nilIface) (e15 : base.eval (.tmp 15) = .nilIface) (e17 : base.eval (.tmp 17) = .nilIface) (e19 : base.eval (.tmp 19) = .nilIface) (e21 : base.eval (.tmp 21) = .nilIface) (e18 : base.eval (.tmp 18) = .pointer (some ⟨g18,0,none⟩)) (e20 : base.eval (.tmp 20) = .pointer (some ⟨g20,0,none⟩)) (e16 : base.eval (.tmp 16) = .pointer (some ⟨g16,0,none⟩)) (e10 : base.eval (.tmp 10) = .pointer (some ⟨g10,0,none⟩))
  (c1 : P4 W0 g18 s1 x1 y1 p1) (c2 : P4 W0 g20 s2 x2 y2 p2) (c3 : P4 W0 g16 s3 x3 y3 p3) (c4 : P4 W0 g10 s4 x4 y4 p4)
  (AD : ∀ w,But [] W0 w→Calls Tryz.prog 19 #[.agg #[.bool s1,.int .u64 x1,.int .u64 y1,.pointer p1],.agg #[.bool s2,.int .u64 x2,.int .u64 y2,.pointer p2]] w fun e w' => ∃ v,e = .returned v∧FracAt w' v (f1 + f2)∧But [] w w')
  (AE : ∀ w v,But [] W0 w→FracAt w v (f1 + f2)→Calls Tryz.prog 19 #[v,.agg #[.bool s3,.int .u64 x3,.int .u64 y3,.pointer p3]] w fun e w' => ∃ v,e = .returned v∧FracAt w' v (f1 + f2 + f3)∧But [] w w')
  (LK : ∀ w v,But [] W0 w→FracAt w v (f1 + f2 + f3)→Calls Tryz.prog 18 #[v,.agg #[.bool s4,.int .u64 x4,.int .u64 y4,.pointer p4]] w fun e w' => e = .returned (.bool true)∧But [] w w')
  (hQ : ∀ w (v21 : Value) (v23 : Value),But [] W0 w→Q .normal (putted base [(81,.nilIface),(82,.bool false),(83,.bool false),(84,.nilIface),(85,.bool false),(86,.bool false),(87,.bool false),(88,.nilIface),(89,.bool false),(90,.bool false),(91,.bool false),(92,.nilIface),(93,.bool false),(94,.bool false),(95,.bool false),(96,.nilIface),(97,.bool false),(98,.bool false),(99,.bool false),(100,.agg #[.bool s1,.int .u64 x1,.int .u64 y1,.pointer p1]),(101,.agg #[.bool s2,.int .u64 x2,.int .u64 y2,.pointer p2]),(102,v21),(103,.agg #[.bool s3,.int .u64 x3,.int .u64 y3,.pointer p3]),(104,v23),(105,.agg #[.bool s4,.int .u64 x4,.int .u64 y4,.pointer p4]),(106,.bool true),(107,.bool false),(108,.bool false)]) w) :
  (Code.region id opKts true).wp Tryz.prog Q base W0:=by
 have hdr : ∀ {w},But [] W0.drew w→But [] W0 w:=fun h => (But.refl _ _).drew.trans' h
 have hT : ∀ i,i < 28→opKtT i < base.tmps.size:=fun i hi => by
  have h : opKtT i ≤ 108:=by revert i; decide
  omega
 refine region_go (by kernel_rfl) (low_of (by kernel_rfl)) (opKtC s1 x1 y1 p1 s2 x2 y2 p2 s3 x3 y3 p3 s4 x4 y4 p4 f1 f2 f3) opKtT (by kernel_rfl) ?_ opKtT_inj hT (fun i w w' v hi h hb => opKtC_but h hi hb) ?_ ?_
 ·intro i o j want ho hg w v hv
  have hi : i < 28:=(Array.getElem?_eq_some_iff.1 ho).1
  have : i = 0 ∨ i = 1 ∨ i = 2 ∨ i = 3 ∨ i = 4 ∨ i = 5 ∨ i = 6 ∨ i = 7 ∨ i = 8 ∨ i = 9 ∨ i = 10 ∨ i = 11 ∨ i = 12 ∨ i = 13 ∨ i = 14 ∨ i = 15 ∨ i = 16 ∨ i = 17 ∨ i = 18 ∨ i = 19 ∨ i = 20 ∨ i = 21 ∨ i = 22 ∨ i = 23 ∨ i = 24 ∨ i = 25 ∨ i = 26 ∨ i = 27:=by omega
  rcases this with rfl | rfl | rfl | rfl | rfl | rfl | rfl | rfl | rfl | rfl | rfl | rfl | rfl | rfl | rfl | rfl | rfl | rfl | rfl | rfl | rfl | rfl | rfl | rfl | rfl | rfl | rfl | rfl
  ·obtain rfl:=Option.some.inj ((show opKts[0]? = some opKt0 from rfl).symm.trans ho)
   exact absurd (show (none : Option (Nat × Bool)) = some (j,want) from hg) (by simp)
  ·obtain rfl:=Option.some.inj ((show opKts[1]? = some opKt1 from rfl).symm.trans ho)
   exact absurd (show (none : Option (Nat × Bool)) = some (j,want) from hg) (by simp)
  ·obtain rfl:=Option.some.inj ((show opKts[2]? = some opKt2 from rfl).symm.trans ho)
   exact absurd (show (none : Option (Nat × Bool)) = some (j,want) from hg) (by simp)
  ·obtain rfl:=Option.some.inj ((show opKts[3]? = some opKt3 from rfl).symm.trans ho)
   obtain ⟨rfl,rfl⟩:=Prod.mk.inj (Option.some.inj (show some (2,false) = some (j,want) from hg))
   exact hv
  ·obtain rfl:=Option.some.inj ((show opKts[4]? = some opKt4 from rfl).symm.trans ho)
   obtain ⟨rfl,rfl⟩:=Prod.mk.inj (Option.some.inj (show some (2,false) = some (j,want) from hg))
   exact hv
  ·obtain rfl:=Option.some.inj ((show opKts[5]? = some opKt5 from rfl).symm.trans ho)
   exact absurd (show (none : Option (Nat × Bool)) = some (j,want) from hg) (by simp)
  ·obtain rfl:=Option.some.inj ((show opKts[6]? = some opKt6 from rfl).symm.trans ho)
   exact absurd (show (none : Option (Nat × Bool)) = some (j,want) from hg) (by simp)
  ·obtain rfl:=Option.some.inj ((show opKts[7]? = some opKt7 from rfl).symm.trans ho)
   obtain ⟨rfl,rfl⟩:=Prod.mk.inj (Option.some.inj (show some (6,false) = some (j,want) from hg))
   exact hv
  ·obtain rfl:=Option.some.inj ((show opKts[8]? = some opKt8 from rfl).symm.trans ho)
   obtain ⟨rfl,rfl⟩:=Prod.mk.inj (Option.some.inj (show some (6,false) = some (j,want) from hg))
   exact hv
  ·obtain rfl:=Option.some.inj ((show opKts[9]? = some opKt9 from rfl).symm.trans ho)
   exact absurd (show (none : Option (Nat × Bool)) = some (j,want) from hg) (by simp)
  ·obtain rfl:=Option.some.inj ((show opKts[10]? = some opKt10 from rfl).symm.trans ho)
   exact absurd (show (none : Option (Nat × Bool)) = some (j,want) from hg) (by simp)
  ·obtain rfl:=Option.some.inj ((show opKts[11]? = some opKt11 from rfl).symm.trans ho)
   obtain ⟨rfl,rfl⟩:=Prod.mk.inj (Option.some.inj (show some (10,false) = some (j,want) from hg))
   exact hv
  ·obtain rfl:=Option.some.inj ((show opKts[12]? = some opKt12 from rfl).symm.trans ho)
   obtain ⟨rfl,rfl⟩:=Prod.mk.inj (Option.some.inj (show some (10,false) = some (j,want) from hg))
   exact hv
  ·obtain rfl:=Option.some.inj ((show opKts[13]? = some opKt13 from rfl).symm.trans ho)
   exact absurd (show (none : Option (Nat × Bool)) = some (j,want) from hg) (by simp)
  ·obtain rfl:=Option.some.inj ((show opKts[14]? = some opKt14 from rfl).symm.trans ho)
   exact absurd (show (none : Option (Nat × Bool)) = some (j,want) from hg) (by simp)
  ·obtain rfl:=Option.some.inj ((show opKts[15]? = some opKt15 from rfl).symm.trans ho)
   obtain ⟨rfl,rfl⟩:=Prod.mk.inj (Option.some.inj (show some (14,false) = some (j,want) from hg))
   exact hv
  ·obtain rfl:=Option.some.inj ((show opKts[16]? = some opKt16 from rfl).symm.trans ho)
   obtain ⟨rfl,rfl⟩:=Prod.mk.inj (Option.some.inj (show some (14,false) = some (j,want) from hg))
   exact hv
  ·obtain rfl:=Option.some.inj ((show opKts[17]? = some opKt17 from rfl).symm.trans ho)
   exact absurd (show (none : Option (Nat × Bool)) = some (j,want) from hg) (by simp)
  ·obtain rfl:=Option.some.inj ((show opKts[18]? = some opKt18 from rfl).symm.trans ho)
   exact absurd (show (none : Option (Nat × Bool)) = some (j,want) from hg) (by simp)
  ·obtain rfl:=Option.some.inj ((show opKts[19]? = some opKt19 from rfl).symm.trans ho)
   obtain ⟨rfl,rfl⟩:=Prod.mk.inj (Option.some.inj (show some (18,false) = some (j,want) from hg))
   exact hv
  ·obtain rfl:=Option.some.inj ((show opKts[20]? = some opKt20 from rfl).symm.trans ho)
   obtain ⟨rfl,rfl⟩:=Prod.mk.inj (Option.some.inj (show some (18,false) = some (j,want) from hg))
   exact hv
  ·obtain rfl:=Option.some.inj ((show opKts[21]? = some opKt21 from rfl).symm.trans ho)
   obtain ⟨rfl,rfl⟩:=Prod.mk.inj (Option.some.inj (show some (18,false) = some (j,want) from hg))
   exact hv
  ·obtain rfl:=Option.some.inj ((show opKts[22]? = some opKt22 from rfl).symm.trans ho)
   obtain ⟨rfl,rfl⟩:=Prod.mk.inj (Option.some.inj (show some (18,false) = some (j,want) from hg))
   exact hv
  ·obtain rfl:=Option.some.inj ((show opKts[23]? = some opKt23 from rfl).symm.trans ho)
   obtain ⟨rfl,rfl⟩:=Prod.mk.inj (Option.some.inj (show some (18,false) = some (j,want) from hg))
   exact hv
  ·obtain rfl:=Option.some.inj ((show opKts[24]? = some opKt24 from rfl).symm.trans ho)
   obtain ⟨rfl,rfl⟩:=Prod.mk.inj (Option.some.inj (show some (18,false) = some (j,want) from hg))
   exact hv
  ·obtain rfl:=Option.some.inj ((show opKts[25]? = some opKt25 from rfl).symm.trans ho)
   obtain ⟨rfl,rfl⟩:=Prod.mk.inj (Option.some.inj (show some (18,false) = some (j,want) from hg))
   exact hv
  ·obtain rfl:=Option.some.inj ((show opKts[26]? = some opKt26 from rfl).symm.trans ho)
   obtain ⟨rfl,rfl⟩:=Prod.mk.inj (Option.some.inj (show some (18,false) = some (j,want) from hg))
   exact hv
  ·obtain rfl:=Option.some.inj ((show opKts[27]? = some opKt27 from rfl).symm.trans ho)
   exact absurd (show (none : Option (Nat × Bool)) = some (j,want) from hg) (by simp)
 ·intro i o a w K ho hH he hdep hk
  have hi : i < 28:=(Array.getElem?_eq_some_iff.1 ho).1
  have hD:=dep_have (ps:=[(1,0),(2,1),(3,2),(4,2),(4,3),(5,2),(5,4),(6,2),(6,5),(7,6),(8,6),(8,7),(9,6),(9,8),(10,6),(10,9),(11,10),(12,10),(12,11),(13,10),(13,12),(14,10),(14,13),(15,14),(16,14),(16,15),(17,14),(17,16),(18,14),(18,17),(19,18),(20,18),(21,18),(21,19),(21,20),(22,18),(23,18),(23,21),(23,22),(24,18),(25,18),(25,23),(25,24),(26,18),(26,25),(27,18),(27,26)]) (by kernel_rfl) ho (fun j => opKtC s1 x1 y1 p1 s2 x2 y2 p2 s3 x3 y3 p3 s4 x4 y4 p4 f1 f2 f3 j w (a.eval (.tmp (opKtT j)))) hdep
  have e13':=(he 13 (fun j hj e => absurd e.symm (by revert j; decide))).trans e13
  have e15':=(he 15 (fun j hj e => absurd e.symm (by revert j; decide))).trans e15
  have e17':=(he 17 (fun j hj e => absurd e.symm (by revert j; decide))).trans e17
  have e19':=(he 19 (fun j hj e => absurd e.symm (by revert j; decide))).trans e19
  have e21':=(he 21 (fun j hj e => absurd e.symm (by revert j; decide))).trans e21
  have e18':=(he 18 (fun j hj e => absurd e.symm (by revert j; decide))).trans e18
  have e20':=(he 20 (fun j hj e => absurd e.symm (by revert j; decide))).trans e20
  have e16':=(he 16 (fun j hj e => absurd e.symm (by revert j; decide))).trans e16
  have e10':=(he 10 (fun j hj e => absurd e.symm (by revert j; decide))).trans e10
  have : i = 0 ∨ i = 1 ∨ i = 2 ∨ i = 3 ∨ i = 4 ∨ i = 5 ∨ i = 6 ∨ i = 7 ∨ i = 8 ∨ i = 9 ∨ i = 10 ∨ i = 11 ∨ i = 12 ∨ i = 13 ∨ i = 14 ∨ i = 15 ∨ i = 16 ∨ i = 17 ∨ i = 18 ∨ i = 19 ∨ i = 20 ∨ i = 21 ∨ i = 22 ∨ i = 23 ∨ i = 24 ∨ i = 25 ∨ i = 26 ∨ i = 27:=by omega
  rcases this with rfl | rfl | rfl | rfl | rfl | rfl | rfl | rfl | rfl | rfl | rfl | rfl | rfl | rfl | rfl | rfl | rfl | rfl | rfl | rfl | rfl | rfl | rfl | rfl | rfl | rfl | rfl | rfl
  ·obtain rfl:=Option.some.inj ((show opKts[0]? = some opKt0 from rfl).symm.trans ho)
   exact wp_value (run_mvK a w _ _ _ _ _ _ _ e13') (hk _ _ (But.refl _ _) rfl)
  ·obtain rfl:=Option.some.inj ((show opKts[1]? = some opKt1 from rfl).symm.trans ho)
   exact wp_value (run_nenilK a w _ _ _ _ _ _ (hD 0 (by simp))) (hk _ _ (But.refl _ _) rfl)
  ·obtain rfl:=Option.some.inj ((show opKts[2]? = some opKt2 from rfl).symm.trans ho)
   exact wp_value (run_mvK a w _ _ _ _ _ _ _ (hD 1 (by simp))) (hk _ _ (But.refl _ _) rfl)
  ·obtain rfl:=Option.some.inj ((show opKts[3]? = some opKt3 from rfl).symm.trans ho)
   exact wp_value (run_mvK a w _ _ _ _ _ _ _ e15') (hk _ _ (But.refl _ _) rfl)
  ·obtain rfl:=Option.some.inj ((show opKts[4]? = some opKt4 from rfl).symm.trans ho)
   exact wp_value (run_nenilK a w _ _ _ _ _ _ (hD 3 (by simp))) (hk _ _ (But.refl _ _) rfl)
  ·obtain rfl:=Option.some.inj ((show opKts[5]? = some opKt5 from rfl).symm.trans ho)
   exact wp_value (run_orFK a w _ _ _ _ _ _ _ _ (hD 2 (by simp)) (hD 4 (by simp))) (hk _ _ (But.refl _ _) rfl)
  ·obtain rfl:=Option.some.inj ((show opKts[6]? = some opKt6 from rfl).symm.trans ho)
   exact wp_value (run_mvK a w _ _ _ _ _ _ _ (hD 5 (by simp))) (hk _ _ (But.refl _ _) rfl)
  ·obtain rfl:=Option.some.inj ((show opKts[7]? = some opKt7 from rfl).symm.trans ho)
   exact wp_value (run_mvK a w _ _ _ _ _ _ _ e17') (hk _ _ (But.refl _ _) rfl)
  ·obtain rfl:=Option.some.inj ((show opKts[8]? = some opKt8 from rfl).symm.trans ho)
   exact wp_value (run_nenilK a w _ _ _ _ _ _ (hD 7 (by simp))) (hk _ _ (But.refl _ _) rfl)
  ·obtain rfl:=Option.some.inj ((show opKts[9]? = some opKt9 from rfl).symm.trans ho)
   exact wp_value (run_orFK a w _ _ _ _ _ _ _ _ (hD 6 (by simp)) (hD 8 (by simp))) (hk _ _ (But.refl _ _) rfl)
  ·obtain rfl:=Option.some.inj ((show opKts[10]? = some opKt10 from rfl).symm.trans ho)
   exact wp_value (run_mvK a w _ _ _ _ _ _ _ (hD 9 (by simp))) (hk _ _ (But.refl _ _) rfl)
  ·obtain rfl:=Option.some.inj ((show opKts[11]? = some opKt11 from rfl).symm.trans ho)
   exact wp_value (run_mvK a w _ _ _ _ _ _ _ e19') (hk _ _ (But.refl _ _) rfl)
  ·obtain rfl:=Option.some.inj ((show opKts[12]? = some opKt12 from rfl).symm.trans ho)
   exact wp_value (run_nenilK a w _ _ _ _ _ _ (hD 11 (by simp))) (hk _ _ (But.refl _ _) rfl)
  ·obtain rfl:=Option.some.inj ((show opKts[13]? = some opKt13 from rfl).symm.trans ho)
   exact wp_value (run_orFK a w _ _ _ _ _ _ _ _ (hD 10 (by simp)) (hD 12 (by simp))) (hk _ _ (But.refl _ _) rfl)
  ·obtain rfl:=Option.some.inj ((show opKts[14]? = some opKt14 from rfl).symm.trans ho)
   exact wp_value (run_mvK a w _ _ _ _ _ _ _ (hD 13 (by simp))) (hk _ _ (But.refl _ _) rfl)
  ·obtain rfl:=Option.some.inj ((show opKts[15]? = some opKt15 from rfl).symm.trans ho)
   exact wp_value (run_mvK a w _ _ _ _ _ _ _ e21') (hk _ _ (But.refl _ _) rfl)
  ·obtain rfl:=Option.some.inj ((show opKts[16]? = some opKt16 from rfl).symm.trans ho)
   exact wp_value (run_nenilK a w _ _ _ _ _ _ (hD 15 (by simp))) (hk _ _ (But.refl _ _) rfl)
  ·obtain rfl:=Option.some.inj ((show opKts[17]? = some opKt17 from rfl).symm.trans ho)
   exact wp_value (run_orFK a w _ _ _ _ _ _ _ _ (hD 14 (by simp)) (hD 16 (by simp))) (hk _ _ (But.refl _ _) rfl)
  ·obtain rfl:=Option.some.inj ((show opKts[18]? = some opKt18 from rfl).symm.trans ho)
   exact wp_value (run_mvK a w _ _ _ _ _ _ _ (hD 17 (by simp))) (hk _ _ (But.refl _ _) rfl)
  ·obtain rfl:=Option.some.inj ((show opKts[19]? = some opKt19 from rfl).symm.trans ho)
   exact wp_value (run_loadK a w _ _ _ _ _ _ g18 0 _ _ _ _ e18' (c1.but (hdr hH) (by simp))) (hk _ _ (But.refl _ _) rfl)
  ·obtain rfl:=Option.some.inj ((show opKts[20]? = some opKt20 from rfl).symm.trans ho)
   exact wp_value (run_loadK a w _ _ _ _ _ _ g20 0 _ _ _ _ e20' (c2.but (hdr hH) (by simp))) (hk _ _ (But.refl _ _) rfl)
  ·obtain rfl:=Option.some.inj ((show opKts[21]? = some opKt21 from rfl).symm.trans ho)
   exact wp_enter (run_addK a w _ _ _ _ _ _ _ _ _ (hD 19 (by simp)) (hD 20 (by simp))) (R:=fun w' v => FracAt w' v (f1 + f2)∧But [] w w') (AD w (hdr hH)) (fun v w' hv => hk v w' hv.2 hv.1)
  ·obtain rfl:=Option.some.inj ((show opKts[22]? = some opKt22 from rfl).symm.trans ho)
   exact wp_value (run_loadK a w _ _ _ _ _ _ g16 0 _ _ _ _ e16' (c3.but (hdr hH) (by simp))) (hk _ _ (But.refl _ _) rfl)
  ·obtain rfl:=Option.some.inj ((show opKts[23]? = some opKt23 from rfl).symm.trans ho)
   exact wp_enter (run_addK a w _ _ _ _ _ _ _ _ _ rfl (hD 22 (by simp))) (R:=fun w' v => FracAt w' v (f1 + f2 + f3)∧But [] w w') (AE w _ (hdr hH) (hD 21 (by simp))) (fun v w' hv => hk v w' hv.2 hv.1)
  ·obtain rfl:=Option.some.inj ((show opKts[24]? = some opKt24 from rfl).symm.trans ho)
   exact wp_value (run_loadK a w _ _ _ _ _ _ g10 0 _ _ _ _ e10' (c4.but (hdr hH) (by simp))) (hk _ _ (But.refl _ _) rfl)
  ·obtain rfl:=Option.some.inj ((show opKts[25]? = some opKt25 from rfl).symm.trans ho)
   exact wp_enter (run_likeK a w _ _ _ _ _ _ _ _ _ rfl (hD 24 (by simp))) (R:=fun w' v => But [] w w'∧v = _) ((LK w _ (hdr hH) (hD 23 (by simp))).mono fun e w' ⟨he,hb⟩ => ⟨_,he,hb,rfl⟩) (fun v w' hv => hk v w' hv.1 hv.2)
  ·obtain rfl:=Option.some.inj ((show opKts[26]? = some opKt26 from rfl).symm.trans ho)
   exact wp_value (run_notK a w _ _ _ _ _ _ true (hD 25 (by simp))) (hk _ _ (But.refl _ _) rfl)
  ·obtain rfl:=Option.some.inj ((show opKts[27]? = some opKt27 from rfl).symm.trans ho)
   exact wp_value (run_orFK a w _ _ _ _ _ _ _ _ (hD 18 (by simp)) (hD 26 (by simp))) (hk _ _ (But.refl _ _) rfl)
 ·intro a w h
  have ea:=h.puts hT (fun i => match i with
   | 0 => .nilIface
   | 1 => .bool false
   | 2 => .bool false
   | 3 => .nilIface
   | 4 => .bool false
   | 5 => .bool false
   | 6 => .bool false
   | 7 => .nilIface
   | 8 => .bool false
   | 9 => .bool false
   | 10 => .bool false
   | 11 => .nilIface
   | 12 => .bool false
   | 13 => .bool false
   | 14 => .bool false
   | 15 => .nilIface
   | 16 => .bool false
   | 17 => .bool false
   | 18 => .bool false
   | 19 => .agg #[.bool s1,.int .u64 x1,.int .u64 y1,.pointer p1]
   | 20 => .agg #[.bool s2,.int .u64 x2,.int .u64 y2,.pointer p2]
   | 21 => a.eval (.tmp 102)
   | 22 => .agg #[.bool s3,.int .u64 x3,.int .u64 y3,.pointer p3]
   | 23 => a.eval (.tmp 104)
   | 24 => .agg #[.bool s4,.int .u64 x4,.int .u64 y4,.pointer p4]
   | 25 => .bool true
   | 26 => .bool false
   | _ => .bool false) (fun i hi => by
   have hi' : i < 28:=hi
   have hc:=h.has i hi rfl
   have : i = 0 ∨ i = 1 ∨ i = 2 ∨ i = 3 ∨ i = 4 ∨ i = 5 ∨ i = 6 ∨ i = 7 ∨ i = 8 ∨ i = 9 ∨ i = 10 ∨ i = 11 ∨ i = 12 ∨ i = 13 ∨ i = 14 ∨ i = 15 ∨ i = 16 ∨ i = 17 ∨ i = 18 ∨ i = 19 ∨ i = 20 ∨ i = 21 ∨ i = 22 ∨ i = 23 ∨ i = 24 ∨ i = 25 ∨ i = 26 ∨ i = 27:=by omega
   rcases this with rfl | rfl | rfl | rfl | rfl | rfl | rfl | rfl | rfl | rfl | rfl | rfl | rfl | rfl | rfl | rfl | rfl | rfl | rfl | rfl | rfl | rfl | rfl | rfl | rfl | rfl | rfl | rfl
   all_goals first | exact hc | rfl)
  rw [ea]
  exact hQ w (a.eval (.tmp 102)) (a.eval (.tmp 104)) (hdr h.but)
def opKu0 : Oper:={ dst:=some 143,op:=Op.load 29 (Operand.tmp 22),type:=29,pos:= "keep.go:509",after:=#[],guard:=none }
def opKu1 : Oper:={ dst:=some 144,op:=Op.move (Operand.tmp 23),type:=3,pos:= "keep.go:509",after:=#[],guard:=none }
def opKu2 : Oper:={ dst:=some 145,op:=Op.call { callee:=Callee.value (Operand.func 24),args:=#[Operand.tmp 144],argTypes:=#[3] },type:=29,pos:= "keep.go:509",after:=#[{ on:=1,ground:=Ground.data }],guard:=none }
def opKu3 : Oper:={ dst:=some 146,op:=Op.call { callee:=Callee.value (Operand.func 22),args:=#[Operand.tmp 143,Operand.tmp 145],argTypes:=#[29,29] },type:=3,pos:= "keep.go:509",after:=#[{ on:=0,ground:=Ground.data },{ on:=2,ground:=Ground.data },{ on:=2,ground:=Ground.chain }],guard:=none }
def opKu4 : Oper:={ dst:=some 147,op:=Op.binOp BinOp.geq 3 (Operand.tmp 146) (Operand.const (Value.int IntKind.i64 0)) 3,type:=4,pos:= "keep.go:509",after:=#[{ on:=3,ground:=Ground.data }],guard:=none }
def opKu5 : Oper:={ dst:=some 8,op:=Op.assign (Operand.tmp 147),type:=4,pos:= "keep.go:509",after:=#[{ on:=4,ground:=Ground.data },{ on:=3,ground:=Ground.chain },{ on:=0,ground:=Ground.phase },{ on:=1,ground:=Ground.phase },{ on:=2,ground:=Ground.phase },{ on:=3,ground:=Ground.phase },{ on:=4,ground:=Ground.phase }],guard:=none }
def opKus : Array Oper:=#[opKu0,opKu1,opKu2,opKu3,opKu4,opKu5]
def opKuT (i : Nat) : Nat:=match i with
 | 0 => 143
 | 1 => 144
 | 2 => 145
 | 3 => 146
 | 4 => 147
 | _ => 8
/-- what each operation's value is -/
def opKuC (s1 : Bool) (x1 : Int) (y1 : Int) (p1 : Option Addr) (k : Int) (ws : Bool) (wx : Int) (r : Int) (i : Nat) (_w : World) (v : Value) : Prop:=match i with
 | 0 => v = .agg #[.bool s1,.int .u64 x1,.int .u64 y1,.pointer p1]
 | 1 => v = .int .i64 k
 | 2 => v = .agg #[.bool ws,.int .u64 wx,.int .u64 0,.pointer none]
 | 3 => v = .int .i64 r
 | 4 => v = .bool (decide (0 ≤ r))
 | _ => v = .bool (decide (0 ≤ r))
theorem opKuC_but {s1 : Bool} {x1 : Int} {y1 : Int} {p1 : Option Addr} {k : Int} {ws : Bool} {wx : Int} {r : Int} {i : Nat} {w w' : World} {v : Value} (h : opKuC s1 x1 y1 p1 k ws wx r i w v) (hi : i < 6) (_hb : But [] w w') : opKuC s1 x1 y1 p1 k ws wx r i w' v:=by
 have : i = 0 ∨ i = 1 ∨ i = 2 ∨ i = 3 ∨ i = 4 ∨ i = 5:=by omega
 rcases this with rfl | rfl | rfl | rfl | rfl | rfl
 all_goals first | exact h | exact FracAt.but h hb | exact FracsAt.but h hb
theorem opKuT_inj : ∀ i j,i < 6→j < 6→opKuT i = opKuT j→i = j:=fun i j hi hj => (by decide : ∀ i,i < 6→∀ j,j < 6→opKuT i = opKuT j→i = j) i hi j hj
set_option maxRecDepth 100000 in
theorem layers_region23 (id : Nat) (Q : Exit→Act→World→Prop) (base : Act) (W0 : World) (s1 : Bool) (x1 : Int) (y1 : Int) (p1 : Option Addr) (k : Int) (ws : Bool) (wx : Int) (r : Int) (hs : 147 < base.tmps.size) (g22 : Nat) (e22 : base.eval (.tmp 22) = .pointer (some ⟨g22,0,none⟩)) (e23 : base.eval (.tmp 23) = .int .i64 k)
  (c1 : P4 W0 g22 s1 x1 y1 p1)
  (WH : ∀ w,Calls Tryz.prog 24 #[.int .i64 k] w fun e w' => e = .returned (.agg #[.bool ws,.int .u64 wx,.int .u64 0,.pointer none])∧But [] w w')
  (CM : ∀ w,But [] W0 w→Calls Tryz.prog 22 #[.agg #[.bool s1,.int .u64 x1,.int .u64 y1,.pointer p1],.agg #[.bool ws,.int .u64 wx,.int .u64 0,.pointer none]] w fun e w' => e = .returned (.int .i64 r)∧But [] w w')
  (hQ : ∀ w,But [] W0 w→Q .normal (putted base [(143,.agg #[.bool s1,.int .u64 x1,.int .u64 y1,.pointer p1]),(144,.int .i64 k),(145,.agg #[.bool ws,.int .u64 wx,.int .u64 0,.pointer none]),(146,.int .i64 r),(147,.bool (decide (0 ≤ r))),(8,.bool (decide (0 ≤ r)))]) w) :
  (Code.region id opKus true).wp Tryz.prog Q base W0:=by
 have hdr : ∀ {w},But [] W0.drew w→But [] W0 w:=fun h => (But.refl _ _).drew.trans' h
 have hT : ∀ i,i < 6→opKuT i < base.tmps.size:=fun i hi => by
  have h : opKuT i ≤ 147:=by revert i; decide
  omega
 refine region_go (by kernel_rfl) (low_of (by kernel_rfl)) (opKuC s1 x1 y1 p1 k ws wx r) opKuT (by kernel_rfl) ?_ opKuT_inj hT (fun i w w' v hi h hb => opKuC_but h hi hb) ?_ ?_
 ·intro i o j want ho hg w v hv
  have hi : i < 6:=(Array.getElem?_eq_some_iff.1 ho).1
  have : i = 0 ∨ i = 1 ∨ i = 2 ∨ i = 3 ∨ i = 4 ∨ i = 5:=by omega
  rcases this with rfl | rfl | rfl | rfl | rfl | rfl
  ·obtain rfl:=Option.some.inj ((show opKus[0]? = some opKu0 from rfl).symm.trans ho)
   exact absurd (show (none : Option (Nat × Bool)) = some (j,want) from hg) (by simp)
  ·obtain rfl:=Option.some.inj ((show opKus[1]? = some opKu1 from rfl).symm.trans ho)
   exact absurd (show (none : Option (Nat × Bool)) = some (j,want) from hg) (by simp)
  ·obtain rfl:=Option.some.inj ((show opKus[2]? = some opKu2 from rfl).symm.trans ho)
   exact absurd (show (none : Option (Nat × Bool)) = some (j,want) from hg) (by simp)
  ·obtain rfl:=Option.some.inj ((show opKus[3]? = some opKu3 from rfl).symm.trans ho)
   exact absurd (show (none : Option (Nat × Bool)) = some (j,want) from hg) (by simp)
  ·obtain rfl:=Option.some.inj ((show opKus[4]? = some opKu4 from rfl).symm.trans ho)
   exact absurd (show (none : Option (Nat × Bool)) = some (j,want) from hg) (by simp)
  ·obtain rfl:=Option.some.inj ((show opKus[5]? = some opKu5 from rfl).symm.trans ho)
   exact absurd (show (none : Option (Nat × Bool)) = some (j,want) from hg) (by simp)
 ·intro i o a w K ho hH he hdep hk
  have hi : i < 6:=(Array.getElem?_eq_some_iff.1 ho).1
  have hD:=dep_have (ps:=[(2,1),(3,0),(3,2),(4,3),(5,0),(5,1),(5,2),(5,3),(5,4)]) (by kernel_rfl) ho (fun j => opKuC s1 x1 y1 p1 k ws wx r j w (a.eval (.tmp (opKuT j)))) hdep
  have e22':=(he 22 (fun j hj e => absurd e.symm (by revert j; decide))).trans e22
  have e23':=(he 23 (fun j hj e => absurd e.symm (by revert j; decide))).trans e23
  have : i = 0 ∨ i = 1 ∨ i = 2 ∨ i = 3 ∨ i = 4 ∨ i = 5:=by omega
  rcases this with rfl | rfl | rfl | rfl | rfl | rfl
  ·obtain rfl:=Option.some.inj ((show opKus[0]? = some opKu0 from rfl).symm.trans ho)
   exact wp_value (run_loadK a w _ _ _ _ _ _ g22 0 _ _ _ _ e22' (c1.but (hdr hH) (by simp))) (hk _ _ (But.refl _ _) rfl)
  ·obtain rfl:=Option.some.inj ((show opKus[1]? = some opKu1 from rfl).symm.trans ho)
   exact wp_value (run_mvK a w _ _ _ _ _ _ _ e23') (hk _ _ (But.refl _ _) rfl)
  ·obtain rfl:=Option.some.inj ((show opKus[2]? = some opKu2 from rfl).symm.trans ho)
   exact wp_enter (run_wholeK a w _ _ _ _ _ _ _ (hD 1 (by simp))) (R:=fun w' v => But [] w w'∧v = _) ((WH w).mono fun e w' ⟨he,hb⟩ => ⟨_,he,hb,rfl⟩) (fun v w' hv => hk v w' hv.1 hv.2)
  ·obtain rfl:=Option.some.inj ((show opKus[3]? = some opKu3 from rfl).symm.trans ho)
   exact wp_enter (run_cmpK a w _ _ _ _ _ _ _ _ _ (hD 0 (by simp)) (hD 2 (by simp))) (R:=fun w' v => But [] w w'∧v = _) ((CM w (hdr hH)).mono fun e w' ⟨he,hb⟩ => ⟨_,he,hb,rfl⟩) (fun v w' hv => hk v w' hv.1 hv.2)
  ·obtain rfl:=Option.some.inj ((show opKus[4]? = some opKu4 from rfl).symm.trans ho)
   exact wp_value (run_ge0K a w _ _ _ _ _ _ _ (hD 3 (by simp))) (hk _ _ (But.refl _ _) rfl)
  ·obtain rfl:=Option.some.inj ((show opKus[5]? = some opKu5 from rfl).symm.trans ho)
   exact wp_value (run_asK a w _ _ _ _ _ _ _ (hD 4 (by simp))) (hk _ _ (But.refl _ _) rfl)
 ·intro a w h
  have ea:=h.puts hT (fun i => match i with
   | 0 => .agg #[.bool s1,.int .u64 x1,.int .u64 y1,.pointer p1]
   | 1 => .int .i64 k
   | 2 => .agg #[.bool ws,.int .u64 wx,.int .u64 0,.pointer none]
   | 3 => .int .i64 r
   | 4 => .bool (decide (0 ≤ r))
   | _ => .bool (decide (0 ≤ r))) (fun i hi => by
   have hi' : i < 6:=hi
   have hc:=h.has i hi rfl
   have : i = 0 ∨ i = 1 ∨ i = 2 ∨ i = 3 ∨ i = 4 ∨ i = 5:=by omega
   rcases this with rfl | rfl | rfl | rfl | rfl | rfl
   all_goals first | exact hc | rfl)
  rw [ea]
  exact hQ w (hdr h.but)
end Go.Proofs.YtikgmhpbdcdogaaGreatDoor
