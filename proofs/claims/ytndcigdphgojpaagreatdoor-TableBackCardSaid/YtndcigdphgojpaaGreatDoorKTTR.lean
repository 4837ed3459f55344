/- Single operations in a region, for seats of package triangle. -/
import Derived.Test.YtndcigdphgojpaaGreatDoorKTN23
namespace Go.Proofs.YtndcigdphgojpaaGreatDoor
open Go.RowKit
set_option linter.unusedVariables false

theorem run_mvK (a : Act) (w : World) (d t : Nat) (u : TypeId) (ps : String) (ed : Array Edge) (gd : Option (Nat × Bool)) (N : Value) (h : a.eval (.tmp t) = N) :
  (execOp a.eval { dst:=some d,op:=Op.move (.tmp t),type:=u,pos:=ps,after:=ed,guard:=gd }).run Tryz.prog w = .ok (.value N) w:=by
 unfold execOp
 simp only [h]
 go_simp
theorem run_loadK (a : Act) (w : World) (d t : Nat) (u : TypeId) (ps : String) (ed : Array Edge) (gd : Option (Nat × Bool)) (b o : Nat) (s : Bool) (x y : Int) (p : Option Addr) (h1 : a.eval (.tmp t) = .pointer (some ⟨b,o,none⟩)) (hc : P4o w b o s x y p) :
  (execOp a.eval { dst:=some d,op:=Op.load 36 (.tmp t),type:=u,pos:=ps,after:=ed,guard:=gd }).run Tryz.prog w = .ok (.value (.agg #[.bool s,.int .u64 x,.int .u64 y,.pointer p])) w:=by
 obtain ⟨c0,c1,c2,c3⟩:=hc
 unfold execOp
 simp only [h1]
 go_simp
theorem run_asK (a : Act) (w : World) (d t : Nat) (u : TypeId) (ps : String) (ed : Array Edge) (gd : Option (Nat × Bool)) (N : Value) (h : a.eval (.tmp t) = N) :
  (execOp a.eval { dst:=some d,op:=Op.assign (.tmp t),type:=u,pos:=ps,after:=ed,guard:=gd }).run Tryz.prog w = .ok (.value N) w:=by
 unfold execOp
 simp only [h]
 go_simp
theorem run_mulK (a : Act) (w : World) (d t1 t2 : Nat) (u : TypeId) (ps : String) (ed : Array Edge) (gd : Option (Nat × Bool)) (x1 x2 : Value) (h1 : a.eval (.tmp t1) = x1) (h2 : a.eval (.tmp t2) = x2) :
  (execOp a.eval { dst:=some d,op:=Op.call { callee:=Callee.value (Operand.func 10),args:=#[Operand.tmp t1,Operand.tmp t2],argTypes:=#[36,36] },type:=u,pos:=ps,after:=ed,guard:=gd }).run Tryz.prog w = .ok (.enter 10 #[x1,x2]) w:=by
 unfold execOp
 go_simp
 rw [← h1,← h2]
 simp [Act.eval]
theorem run_indexK (a : Act) (w : World) (d t1 t2 : Nat) (u : TypeId) (ps : String) (ed : Array Edge) (gd : Option (Nat × Bool)) (b off n c k : Nat) (hk : k < n) (_hn : n < 1000000) (h1 : a.eval (.tmp t1) = .slice (some ⟨b,off,none⟩) n c) (h2 : a.eval (.tmp t2) = .int .i64 (k : Int)) :
  (execOp a.eval { dst:=some d,op:=Op.indexAddr 43 (.tmp t1) (.tmp t2),type:=u,pos:=ps,after:=ed,guard:=gd }).run Tryz.prog w = .ok (.value (.pointer (some ⟨b,off + k * 4,none⟩))) w:=by
 unfold execOp
 simp only [h1,h2]
 go_simp
theorem run_loadI (a : Act) (w : World) (d t : Nat) (u : TypeId) (ps : String) (ed : Array Edge) (gd : Option (Nat × Bool)) (b o : Nat) (z : Int) (h1 : a.eval (.tmp t) = .pointer (some ⟨b,o,none⟩)) (hc : w.cell? ⟨b,o,none⟩ = some (.int .i64 z)) :
  (execOp a.eval { dst:=some d,op:=Op.load 3 (.tmp t),type:=u,pos:=ps,after:=ed,guard:=gd }).run Tryz.prog w = .ok (.value (.int .i64 z)) w:=by
 unfold execOp
 simp only [h1]
 go_simp
theorem run_subK (a : Act) (w : World) (d t1 t2 : Nat) (u : TypeId) (ps : String) (ed : Array Edge) (gd : Option (Nat × Bool)) (x1 x2 : Value) (h1 : a.eval (.tmp t1) = x1) (h2 : a.eval (.tmp t2) = x2) :
  (execOp a.eval { dst:=some d,op:=Op.call { callee:=Callee.value (Operand.func 43),args:=#[Operand.tmp t1,Operand.tmp t2],argTypes:=#[36,36] },type:=u,pos:=ps,after:=ed,guard:=gd }).run Tryz.prog w = .ok (.enter 43 #[x1,x2]) w:=by
 unfold execOp
 go_simp
 rw [← h1,← h2]
 simp [Act.eval]
theorem run_cmpK (a : Act) (w : World) (d t1 t2 : Nat) (u : TypeId) (ps : String) (ed : Array Edge) (gd : Option (Nat × Bool)) (x1 x2 : Value) (h1 : a.eval (.tmp t1) = x1) (h2 : a.eval (.tmp t2) = x2) :
  (execOp a.eval { dst:=some d,op:=Op.call { callee:=Callee.value (Operand.func 24),args:=#[Operand.tmp t1,Operand.tmp t2],argTypes:=#[36,36] },type:=u,pos:=ps,after:=ed,guard:=gd }).run Tryz.prog w = .ok (.enter 24 #[x1,x2]) w:=by
 unfold execOp
 go_simp
 rw [← h1,← h2]
 simp [Act.eval]
end Go.Proofs.YtndcigdphgojpaaGreatDoor

namespace Go.Proofs.YtndcigdphgojpaaGreatDoor
open Go.RowKit
set_option linter.unusedVariables false

theorem run_nilT (a : Act) (w : World) (d t : Nat) (u : TypeId) (ps : String) (ed : Array Edge) (gd : Option (Nat × Bool)) (b o : Nat) (h1 : a.eval (.tmp t) = .pointer (some ⟨b,o,none⟩)) :
  (execOp a.eval { dst:=some d,op:=Op.nilCheck (.tmp t),type:=u,pos:=ps,after:=ed,guard:=gd }).run Tryz.prog w = .ok (.value (.pointer (some ⟨b,o,none⟩))) w:=by
 unfold execOp
 simp only [h1]
 go_simp
theorem run_fdT0 (a : Act) (w : World) (d t : Nat) (u : TypeId) (ps : String) (ed : Array Edge) (gd : Option (Nat × Bool)) (b : Nat) (h1 : a.eval (.tmp t) = .pointer (some ⟨b,0,none⟩)) :
  (execOp a.eval { dst:=some d,op:=Op.fieldAddr 60 (.tmp t) 0,type:=u,pos:=ps,after:=ed,guard:=gd }).run Tryz.prog w = .ok (.value (.pointer (some ⟨b,0,none⟩))) w:=by
 unfold execOp
 simp only [h1]
 go_simp
theorem run_fdT1 (a : Act) (w : World) (d t : Nat) (u : TypeId) (ps : String) (ed : Array Edge) (gd : Option (Nat × Bool)) (b : Nat) (h1 : a.eval (.tmp t) = .pointer (some ⟨b,0,none⟩)) :
  (execOp a.eval { dst:=some d,op:=Op.fieldAddr 60 (.tmp t) 1,type:=u,pos:=ps,after:=ed,guard:=gd }).run Tryz.prog w = .ok (.value (.pointer (some ⟨b,1,none⟩))) w:=by
 unfold execOp
 simp only [h1]
 go_simp
theorem run_fdT2 (a : Act) (w : World) (d t : Nat) (u : TypeId) (ps : String) (ed : Array Edge) (gd : Option (Nat × Bool)) (b : Nat) (h1 : a.eval (.tmp t) = .pointer (some ⟨b,0,none⟩)) :
  (execOp a.eval { dst:=some d,op:=Op.fieldAddr 60 (.tmp t) 2,type:=u,pos:=ps,after:=ed,guard:=gd }).run Tryz.prog w = .ok (.value (.pointer (some ⟨b,2,none⟩))) w:=by
 unfold execOp
 simp only [h1]
 go_simp
theorem run_ldST (a : Act) (w : World) (d t : Nat) (u : TypeId) (ps : String) (ed : Array Edge) (gd : Option (Nat × Bool)) (b o : Nat) (z : ByteArray) (h1 : a.eval (.tmp t) = .pointer (some ⟨b,o,none⟩)) (hc : w.cell? ⟨b,o,none⟩ = some (.string z)) :
  (execOp a.eval { dst:=some d,op:=Op.load 9 (.tmp t),type:=u,pos:=ps,after:=ed,guard:=gd }).run Tryz.prog w = .ok (.value (.string z)) w:=by
 unfold execOp
 simp only [h1]
 go_simp
theorem run_ldRT (a : Act) (w : World) (d t : Nat) (u : TypeId) (ps : String) (ed : Array Edge) (gd : Option (Nat × Bool)) (b o : Nat) (q : Option Addr) (n c : Nat) (h1 : a.eval (.tmp t) = .pointer (some ⟨b,o,none⟩)) (hc : w.cell? ⟨b,o,none⟩ = some (.slice q n c)) :
  (execOp a.eval { dst:=some d,op:=Op.load 43 (.tmp t),type:=u,pos:=ps,after:=ed,guard:=gd }).run Tryz.prog w = .ok (.value (.slice q n c)) w:=by
 unfold execOp
 simp only [h1]
 go_simp
theorem run_lenRT (a : Act) (w : World) (d t : Nat) (u : TypeId) (ps : String) (ed : Array Edge) (gd : Option (Nat × Bool)) (q : Option Addr) (n c : Nat) (h1 : a.eval (.tmp t) = .slice q n c) :
  (execOp a.eval { dst:=some d,op:=Op.call { callee:=Callee.builtin Builtin.len,args:=#[Operand.tmp t],argTypes:=#[43] },type:=u,pos:=ps,after:=ed,guard:=gd }).run Tryz.prog w = .ok (.value (.int .i64 (n : Int))) w:=by
 unfold execOp
 simp only [resolve,invoke,builtin,Sem.run_bind,Sem.run_pure,Result.andThen_ok,List.map_toArray,List.map_cons,List.map_nil,h1]
 go_simp
theorem run_addT (a : Act) (w : World) (d t1 t2 : Nat) (u : TypeId) (ps : String) (ed : Array Edge) (gd : Option (Nat × Bool)) (x y z : Int) (hz : x + y = z) (hb : -9223372036854775808 ≤ z∧z < 9223372036854775808) (h1 : a.eval (.tmp t1) = .int .i64 x) (h2 : a.eval (.tmp t2) = .int .i64 y) :
  (execOp a.eval { dst:=some d,op:=Op.binOp BinOp.add 3 (.tmp t1) (.tmp t2) 3,type:=u,pos:=ps,after:=ed,guard:=gd }).run Tryz.prog w = .ok (.value (.int .i64 z)) w:=by
 unfold execOp
 simp only [h1,h2]
 go_simp
 rw [IntKind.wrap_i64]
 omega
theorem run_subT (a : Act) (w : World) (d t1 t2 : Nat) (u : TypeId) (ps : String) (ed : Array Edge) (gd : Option (Nat × Bool)) (x y z : Int) (hz : x - y = z) (hb : -9223372036854775808 ≤ z∧z < 9223372036854775808) (h1 : a.eval (.tmp t1) = .int .i64 x) (h2 : a.eval (.tmp t2) = .int .i64 y) :
  (execOp a.eval { dst:=some d,op:=Op.binOp BinOp.sub 3 (.tmp t1) (.tmp t2) 3,type:=u,pos:=ps,after:=ed,guard:=gd }).run Tryz.prog w = .ok (.value (.int .i64 z)) w:=by
 unfold execOp
 simp only [h1,h2]
 go_simp
 rw [IntKind.wrap_i64]
 omega
theorem run_subT1 (a : Act) (w : World) (d t1 : Nat) (u : TypeId) (ps : String) (ed : Array Edge) (gd : Option (Nat × Bool)) (x z : Int) (hz : x - 1 = z) (hb : -9223372036854775808 ≤ z∧z < 9223372036854775808) (h1 : a.eval (.tmp t1) = .int .i64 x) :
  (execOp a.eval { dst:=some d,op:=Op.binOp BinOp.sub 3 (.tmp t1) (Operand.const (Value.int IntKind.i64 1)) 3,type:=u,pos:=ps,after:=ed,guard:=gd }).run Tryz.prog w = .ok (.value (.int .i64 z)) w:=by
 unfold execOp
 simp only [h1]
 go_simp
 rw [IntKind.wrap_i64]
 omega
theorem run_eqT0 (a : Act) (w : World) (d t : Nat) (u : TypeId) (ps : String) (ed : Array Edge) (gd : Option (Nat × Bool)) (x : Int) (bb : Bool) (hb : bb = (x == 0)) (h1 : a.eval (.tmp t) = .int .i64 x) :
  (execOp a.eval { dst:=some d,op:=Op.binOp BinOp.eql 3 (.tmp t) (Operand.const (Value.int IntKind.i64 0)) 3,type:=u,pos:=ps,after:=ed,guard:=gd }).run Tryz.prog w = .ok (.value (.bool bb)) w:=by
 unfold execOp
 subst hb
 simp only [h1]
 go_simp
theorem run_eqTn (a : Act) (w : World) (d t : Nat) (u : TypeId) (ps : String) (ed : Array Edge) (gd : Option (Nat × Bool))  (h1 : a.eval (.tmp t) = .nilIface) :
  (execOp a.eval { dst:=some d,op:=Op.binOp BinOp.eql 28 (.tmp t) (Operand.const Value.nilIface) 28,type:=u,pos:=ps,after:=ed,guard:=gd }).run Tryz.prog w = .ok (.value (.bool true)) w:=by
 unfold execOp
 simp only [h1]
 go_simp
theorem run_catT (a : Act) (w : World) (d t1 t2 : Nat) (u : TypeId) (ps : String) (ed : Array Edge) (gd : Option (Nat × Bool)) (x y : ByteArray) (hsz : x.size + y.size ≤ 9223372036854775807) (h1 : a.eval (.tmp t1) = .string x) (h2 : a.eval (.tmp t2) = .string y) :
  (execOp a.eval { dst:=some d,op:=Op.binOp BinOp.add 9 (.tmp t1) (.tmp t2) 9,type:=u,pos:=ps,after:=ed,guard:=gd }).run Tryz.prog w = .ok (.value (.string (x ++ y))) w:=by
 unfold execOp
 simp only [h1,h2]
 go_simp
theorem run_catTr (a : Act) (w : World) (d t : Nat) (u : TypeId) (ps : String) (ed : Array Edge) (gd : Option (Nat × Bool)) (x y : ByteArray) (hsz : x.size + y.size ≤ 9223372036854775807) (h1 : a.eval (.tmp t) = .string x) :
  (execOp a.eval { dst:=some d,op:=Op.binOp BinOp.add 9 (.tmp t) (Operand.const (Value.string y)) 9,type:=u,pos:=ps,after:=ed,guard:=gd }).run Tryz.prog w = .ok (.value (.string (x ++ y))) w:=by
 unfold execOp
 simp only [h1]
 go_simp
theorem run_catTl (a : Act) (w : World) (d t : Nat) (u : TypeId) (ps : String) (ed : Array Edge) (gd : Option (Nat × Bool)) (x y : ByteArray) (hsz : x.size + y.size ≤ 9223372036854775807) (h1 : a.eval (.tmp t) = .string y) :
  (execOp a.eval { dst:=some d,op:=Op.binOp BinOp.add 9 (Operand.const (Value.string x)) (.tmp t) 9,type:=u,pos:=ps,after:=ed,guard:=gd }).run Tryz.prog w = .ok (.value (.string (x ++ y))) w:=by
 unfold execOp
 simp only [h1]
 go_simp
theorem run_pickT (a : Act) (w : World) (d t1 t2 : Nat) (u : TypeId) (ps : String) (ed : Array Edge) (gd : Option (Nat × Bool)) (bb : Bool) (h1 : a.eval (.tmp t1) = .bool true) (h2 : a.eval (.tmp t2) = .bool bb) :
  (execOp a.eval { dst:=some d,op:=Op.pick (.tmp t1) (.tmp t2) (Operand.const (Value.bool false)),type:=u,pos:=ps,after:=ed,guard:=gd }).run Tryz.prog w = .ok (.value (.bool bb)) w:=by
 unfold execOp
 simp only [h1,h2]
 go_simp
theorem run_oneT (a : Act) (w : World) (d : Nat) (u : TypeId) (ps : String) (ed : Array Edge) (gd : Option (Nat × Bool))  :
  (execOp a.eval { dst:=some d,op:=Op.call { callee:=Callee.value (Operand.func 22),args:=#[Operand.const (Value.int IntKind.i64 1)],argTypes:=#[3] },type:=u,pos:=ps,after:=ed,guard:=gd }).run Tryz.prog w = .ok (.enter 22 #[.int .i64 1]) w:=by
 unfold execOp
 go_simp
theorem run_staysT (a : Act) (w : World) (d t0 t1 : Nat) (u : TypeId) (ps : String) (ed : Array Edge) (gd : Option (Nat × Bool)) (x0 x1 : Value) (h0 : a.eval (.tmp t0) = x0) (h1 : a.eval (.tmp t1) = x1) :
  (execOp a.eval { dst:=some d,op:=Op.call { callee:=Callee.value (Operand.func 23),args:=#[Operand.tmp t0,Operand.tmp t1],argTypes:=#[23,3] },type:=u,pos:=ps,after:=ed,guard:=gd }).run Tryz.prog w = .ok (.enter 23 #[x0,x1]) w:=by
 unfold execOp
 go_simp
 rw [← h0,← h1]
 simp [Act.eval]
theorem run_itoaT (a : Act) (w : World) (d t0 : Nat) (u : TypeId) (ps : String) (ed : Array Edge) (gd : Option (Nat × Bool)) (x0 : Value) (h0 : a.eval (.tmp t0) = x0) :
  (execOp a.eval { dst:=some d,op:=Op.call { callee:=Callee.value (Operand.func 19),args:=#[Operand.tmp t0],argTypes:=#[3] },type:=u,pos:=ps,after:=ed,guard:=gd }).run Tryz.prog w = .ok (.enter 19 #[x0]) w:=by
 unfold execOp
 go_simp
 rw [← h0]
 simp [Act.eval]
theorem run_wordsT (a : Act) (w : World) (d t0 : Nat) (u : TypeId) (ps : String) (ed : Array Edge) (gd : Option (Nat × Bool)) (x0 : Value) (h0 : a.eval (.tmp t0) = x0) :
  (execOp a.eval { dst:=some d,op:=Op.call { callee:=Callee.value (Operand.func 20),args:=#[Operand.tmp t0],argTypes:=#[43] },type:=u,pos:=ps,after:=ed,guard:=gd }).run Tryz.prog w = .ok (.enter 20 #[x0]) w:=by
 unfold execOp
 go_simp
 rw [← h0]
 simp [Act.eval]
theorem run_likeT (a : Act) (w : World) (d t0 t1 : Nat) (u : TypeId) (ps : String) (ed : Array Edge) (gd : Option (Nat × Bool)) (x0 x1 : Value) (h0 : a.eval (.tmp t0) = x0) (h1 : a.eval (.tmp t1) = x1) :
  (execOp a.eval { dst:=some d,op:=Op.call { callee:=Callee.value (Operand.func 9),args:=#[Operand.tmp t0,Operand.tmp t1],argTypes:=#[36,36] },type:=u,pos:=ps,after:=ed,guard:=gd }).run Tryz.prog w = .ok (.enter 9 #[x0,x1]) w:=by
 unfold execOp
 go_simp
 rw [← h0,← h1]
 simp [Act.eval]
def opCa0 : Oper:={ dst:=some 29,op:=Op.move (Operand.tmp 0),type := 43,pos := "table.go:52",after:=#[],guard:=none }
def opCa1 : Oper:={ dst:=some 30,op:=Op.move (Operand.tmp 4),type := 3,pos := "table.go:52",after:=#[],guard:=none }
def opCa2 : Oper:={ dst:=some 31,op:=Op.indexAddr 43 (Operand.tmp 29) (Operand.tmp 30),type:=0,pos := "table.go:52",after:=#[{ on:=0,ground:=Ground.data },{ on:=1,ground:=Ground.data }],guard:=none }
def opCa3 : Oper:={ dst:=some 32,op:=Op.load 36 (Operand.tmp 31),type := 36,pos := "table.go:52",after:=#[{ on:=2,ground:=Ground.data }],guard:=none }
def opCa4 : Oper:={ dst:=some 33,op:=Op.load 36 (Operand.tmp 3),type := 36,pos := "table.go:52",after:=#[],guard:=none }
def opCa5 : Oper:={ dst:=some 34,op:=Op.call { callee:=Callee.value (Operand.func 24),args:=#[Operand.tmp 32,Operand.tmp 33],argTypes:=#[36,36] },type := 3,pos := "table.go:52",after:=#[{ on:=3,ground:=Ground.data },{ on:=4,ground:=Ground.data }],guard:=none }
def opCa6 : Oper:={ dst:=some 35,op:=Op.binOp BinOp.eql 3 (Operand.tmp 34) (Operand.const (Value.int IntKind.i64 0)) 3,type := 4,pos := "table.go:52",after:=#[{ on:=5,ground:=Ground.data }],guard:=none }
def opCa7 : Oper:={ dst:=some 2,op:=Op.assign (Operand.tmp 35),type := 4,pos := "table.go:52",after:=#[{ on:=6,ground:=Ground.data },{ on:=5,ground:=Ground.chain },{ on:=0,ground:=Ground.phase },{ on:=1,ground:=Ground.phase },{ on:=2,ground:=Ground.phase },{ on:=3,ground:=Ground.phase },{ on:=4,ground:=Ground.phase },{ on:=5,ground:=Ground.phase },{ on:=6,ground:=Ground.phase }],guard:=none }
def opCas : Array Oper:=#[opCa0,opCa1,opCa2,opCa3,opCa4,opCa5,opCa6,opCa7]
def opCaT (i : Nat) : Nat:=match i with
 | 0 => 29
 | 1 => 30
 | 2 => 31
 | 3 => 32
 | 4 => 33
 | 5 => 34
 | 6 => 35
 | _ => 2
/-- what each operation's value is -/
def opCaC (b : Nat) (off : Nat) (n : Nat) (c : Nat) (m : Nat) (g3 : Nat) (s1 : Bool) (x1 : Int) (y1 : Int) (p1 : Option Addr) (s2 : Bool) (x2 : Int) (y2 : Int) (p2 : Option Addr) (z : Int) (bb : Bool) (i : Nat) (_w : World) (v : Value) : Prop:=match i with
 | 0 => v = .slice (some ⟨b,off,none⟩) n c
 | 1 => v = .int .i64 (m : Int)
 | 2 => v = .pointer (some ⟨b,off + m * 4,none⟩)
 | 3 => v = .agg #[.bool s1,.int .u64 x1,.int .u64 y1,.pointer p1]
 | 4 => v = .agg #[.bool s2,.int .u64 x2,.int .u64 y2,.pointer p2]
 | 5 => v = .int .i64 z
 | 6 => v = .bool bb
 | _ => v = .bool bb
theorem opCaC_but {b : Nat} {off : Nat} {n : Nat} {c : Nat} {m : Nat} {g3 : Nat} {s1 : Bool} {x1 : Int} {y1 : Int} {p1 : Option Addr} {s2 : Bool} {x2 : Int} {y2 : Int} {p2 : Option Addr} {z : Int} {bb : Bool} {i : Nat} {w w' : World} {v : Value} (h : opCaC b off n c m g3 s1 x1 y1 p1 s2 x2 y2 p2 z bb i w v) (hi : i < 8) (hb : But [] w w') : opCaC b off n c m g3 s1 x1 y1 p1 s2 x2 y2 p2 z bb i w' v:=by
 have : i = 0 ∨ i = 1 ∨ i = 2 ∨ i = 3 ∨ i = 4 ∨ i = 5 ∨ i = 6 ∨ i = 7:=by omega
 rcases this with rfl | rfl | rfl | rfl | rfl | rfl | rfl | rfl
 all_goals first | exact h | exact FracAt.but h hb | exact FracsAt.but h hb
theorem opCaT_inj : ∀ i j,i < 8→j < 8→opCaT i = opCaT j→i = j:=fun i j hi hj => (by decide : ∀ i,i < 8→∀ j,j < 8→opCaT i = opCaT j→i = j) i hi j hj
set_option maxHeartbeats 8000000 in
set_option maxRecDepth 100000 in
theorem last_region8 (id : Nat) (Q : Exit→Act→World→Prop) (base : Act) (W0 : World) (b : Nat) (off : Nat) (n : Nat) (c : Nat) (m : Nat) (g3 : Nat) (s1 : Bool) (x1 : Int) (y1 : Int) (p1 : Option Addr) (s2 : Bool) (x2 : Int) (y2 : Int) (p2 : Option Addr) (z : Int) (bb : Bool) (hs : 35 < base.tmps.size) (e0 : base.eval (.tmp 0) = .slice (some ⟨b,off,none⟩) n c) (e4 : base.eval (.tmp 4) = .int .i64 (m : Int)) (e3 : base.eval (.tmp 3) = .pointer (some ⟨g3,0,none⟩))
  (hm : m < n) (hn2 : n < 1000000) (c1 : P4o W0 b (off + m * 4) s1 x1 y1 p1) (c2 : P4o W0 g3 0 s2 x2 y2 p2) (hbb : bb = (z == 0)) (CM : ∀ w,But [] W0 w→Calls Tryz.prog 24 #[.agg #[.bool s1,.int .u64 x1,.int .u64 y1,.pointer p1],.agg #[.bool s2,.int .u64 x2,.int .u64 y2,.pointer p2]] w fun e w' => e = .returned (.int .i64 z)∧But [] w w')
  (hQ : ∀ w,But [] W0 w→Q .normal (putted base [(29,.slice (some ⟨b,off,none⟩) n c),(30,.int .i64 (m : Int)),(31,.pointer (some ⟨b,off + m * 4,none⟩)),(32,.agg #[.bool s1,.int .u64 x1,.int .u64 y1,.pointer p1]),(33,.agg #[.bool s2,.int .u64 x2,.int .u64 y2,.pointer p2]),(34,.int .i64 z),(35,.bool bb),(2,.bool bb)]) w) :
  (Code.region id opCas true).wp Tryz.prog Q base W0:=by
 have hdr : ∀ {w},But [] W0.drew w→But [] W0 w:=fun h => (But.refl _ _).drew.trans' h
 have hT : ∀ i,i < 8→opCaT i < base.tmps.size:=fun i hi => by
  have h : opCaT i ≤ 35:=by revert i; decide
  omega
 refine region_go (by kernel_rfl) (low_of (by kernel_rfl)) (opCaC b off n c m g3 s1 x1 y1 p1 s2 x2 y2 p2 z bb) opCaT (by kernel_rfl) ?_ opCaT_inj hT (fun i w w' v hi h hb => opCaC_but h hi hb) ?_ ?_
 ·intro i o j want ho hg w v hv
  have hi : i < 8:=(Array.getElem?_eq_some_iff.1 ho).1
  have : i = 0 ∨ i = 1 ∨ i = 2 ∨ i = 3 ∨ i = 4 ∨ i = 5 ∨ i = 6 ∨ i = 7:=by omega
  rcases this with rfl | rfl | rfl | rfl | rfl | rfl | rfl | rfl
  ·obtain rfl:=Option.some.inj ((show opCas[0]? = some opCa0 from rfl).symm.trans ho)
   exact absurd (show (none : Option (Nat × Bool)) = some (j,want) from hg) (by simp)
  ·obtain rfl:=Option.some.inj ((show opCas[1]? = some opCa1 from rfl).symm.trans ho)
   exact absurd (show (none : Option (Nat × Bool)) = some (j,want) from hg) (by simp)
  ·obtain rfl:=Option.some.inj ((show opCas[2]? = some opCa2 from rfl).symm.trans ho)
   exact absurd (show (none : Option (Nat × Bool)) = some (j,want) from hg) (by simp)
  ·obtain rfl:=Option.some.inj ((show opCas[3]? = some opCa3 from rfl).symm.trans ho)
   exact absurd (show (none : Option (Nat × Bool)) = some (j,want) from hg) (by simp)
  ·obtain rfl:=Option.some.inj ((show opCas[4]? = some opCa4 from rfl).symm.trans ho)
   exact absurd (show (none : Option (Nat × Bool)) = some (j,want) from hg) (by simp)
  ·obtain rfl:=Option.some.inj ((show opCas[5]? = some opCa5 from rfl).symm.trans ho)
   exact absurd (show (none : Option (Nat × Bool)) = some (j,want) from hg) (by simp)
  ·obtain rfl:=Option.some.inj ((show opCas[6]? = some opCa6 from rfl).symm.trans ho)
   exact absurd (show (none : Option (Nat × Bool)) = some (j,want) from hg) (by simp)
  ·obtain rfl:=Option.some.inj ((show opCas[7]? = some opCa7 from rfl).symm.trans ho)
   exact absurd (show (none : Option (Nat × Bool)) = some (j,want) from hg) (by simp)
 ·intro i o a w K ho hH he hdep hk
  have hi : i < 8:=(Array.getElem?_eq_some_iff.1 ho).1
  have hD:=dep_have (ps:=[(2,0),(2,1),(3,2),(5,3),(5,4),(6,5),(7,0),(7,1),(7,2),(7,3),(7,4),(7,5),(7,6)]) (by kernel_rfl) ho (fun j => opCaC b off n c m g3 s1 x1 y1 p1 s2 x2 y2 p2 z bb j w (a.eval (.tmp (opCaT j)))) hdep
  have e0':=(he 0 (fun j hj e => absurd e.symm (by revert j; decide))).trans e0
  have e4':=(he 4 (fun j hj e => absurd e.symm (by revert j; decide))).trans e4
  have e3':=(he 3 (fun j hj e => absurd e.symm (by revert j; decide))).trans e3
  have : i = 0 ∨ i = 1 ∨ i = 2 ∨ i = 3 ∨ i = 4 ∨ i = 5 ∨ i = 6 ∨ i = 7:=by omega
  rcases this with rfl | rfl | rfl | rfl | rfl | rfl | rfl | rfl
  ·obtain rfl:=Option.some.inj ((show opCas[0]? = some opCa0 from rfl).symm.trans ho)
   exact wp_value (run_mvK a w _ _ _ _ _ _ _ e0') (hk _ _ (But.refl _ _) rfl)
  ·obtain rfl:=Option.some.inj ((show opCas[1]? = some opCa1 from rfl).symm.trans ho)
   exact wp_value (run_mvK a w _ _ _ _ _ _ _ e4') (hk _ _ (But.refl _ _) rfl)
  ·obtain rfl:=Option.some.inj ((show opCas[2]? = some opCa2 from rfl).symm.trans ho)
   exact wp_value (run_indexK a w _ _ _ _ _ _ _ b off n c m hm hn2 (hD 0 (by simp)) (hD 1 (by simp))) (hk _ _ (But.refl _ _) rfl)
  ·obtain rfl:=Option.some.inj ((show opCas[3]? = some opCa3 from rfl).symm.trans ho)
   exact wp_value (run_loadK a w _ _ _ _ _ _ b (off + m * 4) _ _ _ _ (hD 2 (by simp)) (c1.but (hdr hH) (by simp))) (hk _ _ (But.refl _ _) rfl)
  ·obtain rfl:=Option.some.inj ((show opCas[4]? = some opCa4 from rfl).symm.trans ho)
   exact wp_value (run_loadK a w _ _ _ _ _ _ g3 0 _ _ _ _ e3' (c2.but (hdr hH) (by simp))) (hk _ _ (But.refl _ _) rfl)
  ·obtain rfl:=Option.some.inj ((show opCas[5]? = some opCa5 from rfl).symm.trans ho)
   exact wp_enter (run_cmpK a w _ _ _ _ _ _ _ _ _ (hD 3 (by simp)) (hD 4 (by simp))) (R:=fun w' v => But [] w w'∧v = _) ((CM w (hdr hH)).mono fun e w' ⟨he,hb⟩ => ⟨_,he,hb,rfl⟩) (fun v w' hv => hk v w' hv.1 hv.2)
  ·obtain rfl:=Option.some.inj ((show opCas[6]? = some opCa6 from rfl).symm.trans ho)
   exact wp_value (run_eqT0 a w _ _ _ _ _ _ _ _ hbb (hD 5 (by simp))) (hk _ _ (But.refl _ _) rfl)
  ·obtain rfl:=Option.some.inj ((show opCas[7]? = some opCa7 from rfl).symm.trans ho)
   exact wp_value (run_asK a w _ _ _ _ _ _ _ (hD 6 (by simp))) (hk _ _ (But.refl _ _) rfl)
 ·intro a w h
  have ea:=h.puts hT (fun i => match i with
   | 0 => .slice (some ⟨b,off,none⟩) n c
   | 1 => .int .i64 (m : Int)
   | 2 => .pointer (some ⟨b,off + m * 4,none⟩)
   | 3 => .agg #[.bool s1,.int .u64 x1,.int .u64 y1,.pointer p1]
   | 4 => .agg #[.bool s2,.int .u64 x2,.int .u64 y2,.pointer p2]
   | 5 => .int .i64 z
   | 6 => .bool bb
   | _ => .bool bb) (fun i hi => by
   have hi' : i < 8:=hi
   have hc:=h.has i hi rfl
   have : i = 0 ∨ i = 1 ∨ i = 2 ∨ i = 3 ∨ i = 4 ∨ i = 5 ∨ i = 6 ∨ i = 7:=by omega
   rcases this with rfl | rfl | rfl | rfl | rfl | rfl | rfl | rfl
   all_goals first | exact hc | rfl)
  rw [ea]
  exact hQ w (hdr h.but)
def opCb0 : Oper:={ dst:=some 4,op:=Op.move (Operand.tmp 0),type := 23,pos := "table.go:59",after:=#[],guard:=none }
def opCb1 : Oper:={ dst:=some 5,op:=Op.nilCheck (Operand.tmp 4),type:=0,pos := "table.go:59",after:=#[{ on:=0,ground:=Ground.data }],guard:=none }
def opCb2 : Oper:={ dst:=some 6,op:=Op.fieldAddr 60 (Operand.tmp 5) 1,type:=0,pos := "table.go:59",after:=#[{ on:=1,ground:=Ground.data }],guard:=none }
def opCb3 : Oper:={ dst:=some 7,op:=Op.load 3 (Operand.tmp 6),type := 3,pos := "table.go:59",after:=#[{ on:=2,ground:=Ground.data }],guard:=none }
def opCb4 : Oper:={ dst:=some 8,op:=Op.move (Operand.tmp 0),type := 23,pos := "table.go:59",after:=#[{ on:=15,ground:=Ground.gcOnly Departure.lateStores }],guard:=none }
def opCb5 : Oper:={ dst:=some 9,op:=Op.nilCheck (Operand.tmp 8),type:=0,pos := "table.go:59",after:=#[{ on:=4,ground:=Ground.data },{ on:=15,ground:=Ground.gcOnly Departure.lateStores }],guard:=none }
def opCb6 : Oper:={ dst:=some 10,op:=Op.fieldAddr 60 (Operand.tmp 9) 1,type:=0,pos := "table.go:59",after:=#[{ on:=5,ground:=Ground.data },{ on:=15,ground:=Ground.gcOnly Departure.lateStores }],guard:=none }
def opCb7 : Oper:={ dst:=some 11,op:=Op.load 3 (Operand.tmp 10),type := 3,pos := "table.go:59",after:=#[{ on:=6,ground:=Ground.data },{ on:=15,ground:=Ground.gcOnly Departure.lateStores }],guard:=none }
def opCb8 : Oper:={ dst:=some 12,op:=Op.move (Operand.tmp 0),type := 23,pos := "table.go:59",after:=#[],guard:=none }
def opCb9 : Oper:={ dst:=some 13,op:=Op.nilCheck (Operand.tmp 12),type:=0,pos := "table.go:59",after:=#[{ on:=8,ground:=Ground.data }],guard:=none }
def opCb10 : Oper:={ dst:=some 14,op:=Op.fieldAddr 60 (Operand.tmp 13) 2,type:=0,pos := "table.go:59",after:=#[{ on:=9,ground:=Ground.data }],guard:=none }
def opCb11 : Oper:={ dst:=some 15,op:=Op.load 43 (Operand.tmp 14),type := 43,pos := "table.go:59",after:=#[{ on:=10,ground:=Ground.data }],guard:=none }
def opCb12 : Oper:={ dst:=some 16,op:=Op.call { callee:=Callee.builtin Builtin.len,args:=#[Operand.tmp 15],argTypes:=#[43] },type := 3,pos := "table.go:59",after:=#[{ on:=11,ground:=Ground.data }],guard:=none }
def opCb13 : Oper:={ dst:=some 17,op:=Op.binOp BinOp.add 3 (Operand.tmp 11) (Operand.tmp 16) 3,type := 3,pos := "table.go:59",after:=#[{ on:=7,ground:=Ground.data },{ on:=12,ground:=Ground.data },{ on:=15,ground:=Ground.gcOnly Departure.lateStores }],guard:=none }
def opCb14 : Oper:={ dst:=some 18,op:=Op.binOp BinOp.sub 3 (Operand.tmp 17) (Operand.const (Value.int IntKind.i64 1)) 3,type := 3,pos := "table.go:59",after:=#[{ on:=13,ground:=Ground.data },{ on:=15,ground:=Ground.gcOnly Departure.lateStores }],guard:=none }
def opCb15 : Oper:={ dst:=some 2,op:=Op.assign (Operand.tmp 7),type := 3,pos := "table.go:59",after:=#[{ on:=3,ground:=Ground.data },{ on:=0,ground:=Ground.phase },{ on:=1,ground:=Ground.phase },{ on:=2,ground:=Ground.phase },{ on:=3,ground:=Ground.phase },{ on:=4,ground:=Ground.textOnly Departure.lateStores },{ on:=5,ground:=Ground.textOnly Departure.lateStores },{ on:=6,ground:=Ground.textOnly Departure.lateStores },{ on:=7,ground:=Ground.textOnly Departure.lateStores },{ on:=8,ground:=Ground.textOnly Departure.lateStores },{ on:=9,ground:=Ground.textOnly Departure.lateStores },{ on:=10,ground:=Ground.textOnly Departure.lateStores },{ on:=11,ground:=Ground.textOnly Departure.lateStores },{ on:=12,ground:=Ground.textOnly Departure.lateStoresUnsure },{ on:=13,ground:=Ground.textOnly Departure.lateStores },{ on:=14,ground:=Ground.textOnly Departure.lateStores }],guard:=none }
def opCb16 : Oper:={ dst:=some 3,op:=Op.assign (Operand.tmp 18),type := 3,pos := "table.go:59",after:=#[{ on:=14,ground:=Ground.data },{ on:=15,ground:=Ground.chain },{ on:=0,ground:=Ground.phase },{ on:=1,ground:=Ground.phase },{ on:=2,ground:=Ground.phase },{ on:=3,ground:=Ground.phase },{ on:=4,ground:=Ground.phase },{ on:=5,ground:=Ground.phase },{ on:=6,ground:=Ground.phase },{ on:=7,ground:=Ground.phase },{ on:=8,ground:=Ground.phase },{ on:=9,ground:=Ground.phase },{ on:=10,ground:=Ground.phase },{ on:=11,ground:=Ground.phase },{ on:=12,ground:=Ground.phase },{ on:=13,ground:=Ground.phase },{ on:=14,ground:=Ground.phase },{ on:=15,ground:=Ground.phase }],guard:=none }
def opCbs : Array Oper:=#[opCb0,opCb1,opCb2,opCb3,opCb4,opCb5,opCb6,opCb7,opCb8,opCb9,opCb10,opCb11,opCb12,opCb13,opCb14,opCb15,opCb16]
def opCbT (i : Nat) : Nat:=match i with
 | 0 => 4
 | 1 => 5
 | 2 => 6
 | 3 => 7
 | 4 => 8
 | 5 => 9
 | 6 => 10
 | 7 => 11
 | 8 => 12
 | 9 => 13
 | 10 => 14
 | 11 => 15
 | 12 => 16
 | 13 => 17
 | 14 => 18
 | 15 => 2
 | _ => 3
/-- what each operation's value is -/
def opCbC (g : Nat) (z : Int) (q : Option Addr) (n : Nat) (c : Nat) (s : Int) (t : Int) (i : Nat) (_w : World) (v : Value) : Prop:=match i with
 | 0 => v = .pointer (some ⟨g,0,none⟩)
 | 1 => v = .pointer (some ⟨g,0,none⟩)
 | 2 => v = .pointer (some ⟨g,1,none⟩)
 | 3 => v = .int .i64 z
 | 4 => v = .pointer (some ⟨g,0,none⟩)
 | 5 => v = .pointer (some ⟨g,0,none⟩)
 | 6 => v = .pointer (some ⟨g,1,none⟩)
 | 7 => v = .int .i64 z
 | 8 => v = .pointer (some ⟨g,0,none⟩)
 | 9 => v = .pointer (some ⟨g,0,none⟩)
 | 10 => v = .pointer (some ⟨g,2,none⟩)
 | 11 => v = .slice q n c
 | 12 => v = .int .i64 (n : Int)
 | 13 => v = .int .i64 s
 | 14 => v = .int .i64 t
 | 15 => v = .int .i64 z
 | _ => v = .int .i64 t
theorem opCbC_but {g : Nat} {z : Int} {q : Option Addr} {n : Nat} {c : Nat} {s : Int} {t : Int} {i : Nat} {w w' : World} {v : Value} (h : opCbC g z q n c s t i w v) (hi : i < 17) (hb : But [] w w') : opCbC g z q n c s t i w' v:=by
 have : i = 0 ∨ i = 1 ∨ i = 2 ∨ i = 3 ∨ i = 4 ∨ i = 5 ∨ i = 6 ∨ i = 7 ∨ i = 8 ∨ i = 9 ∨ i = 10 ∨ i = 11 ∨ i = 12 ∨ i = 13 ∨ i = 14 ∨ i = 15 ∨ i = 16:=by omega
 rcases this with rfl | rfl | rfl | rfl | rfl | rfl | rfl | rfl | rfl | rfl | rfl | rfl | rfl | rfl | rfl | rfl | rfl
 all_goals first | exact h | exact FracAt.but h hb | exact FracsAt.but h hb
theorem opCbT_inj : ∀ i j,i < 17→j < 17→opCbT i = opCbT j→i = j:=fun i j hi hj => (by decide : ∀ i,i < 17→∀ j,j < 17→opCbT i = opCbT j→i = j) i hi j hj
set_option maxHeartbeats 8000000 in
set_option maxRecDepth 100000 in
theorem ages_region1 (id : Nat) (Q : Exit→Act→World→Prop) (base : Act) (W0 : World) (g : Nat) (z : Int) (q : Option Addr) (n : Nat) (c : Nat) (s : Int) (t : Int) (hs : 18 < base.tmps.size) (e0 : base.eval (.tmp 0) = .pointer (some ⟨g,0,none⟩))
  (c1 : W0.cell? ⟨g,1,none⟩ = some (.int .i64 z)) (c2 : W0.cell? ⟨g,2,none⟩ = some (.slice q n c)) (hs : z + (n : Int) = s) (hsb : -9223372036854775808 ≤ s∧s < 9223372036854775808) (ht : s - 1 = t) (htb : -9223372036854775808 ≤ t∧t < 9223372036854775808)
  (hQ : ∀ w,But [] W0 w→Q .normal (putted base [(4,.pointer (some ⟨g,0,none⟩)),(5,.pointer (some ⟨g,0,none⟩)),(6,.pointer (some ⟨g,1,none⟩)),(7,.int .i64 z),(8,.pointer (some ⟨g,0,none⟩)),(9,.pointer (some ⟨g,0,none⟩)),(10,.pointer (some ⟨g,1,none⟩)),(11,.int .i64 z),(12,.pointer (some ⟨g,0,none⟩)),(13,.pointer (some ⟨g,0,none⟩)),(14,.pointer (some ⟨g,2,none⟩)),(15,.slice q n c),(16,.int .i64 (n : Int)),(17,.int .i64 s),(18,.int .i64 t),(2,.int .i64 z),(3,.int .i64 t)]) w) :
  (Code.region id opCbs true).wp Tryz.prog Q base W0:=by
 have hdr : ∀ {w},But [] W0.drew w→But [] W0 w:=fun h => (But.refl _ _).drew.trans' h
 have hT : ∀ i,i < 17→opCbT i < base.tmps.size:=fun i hi => by
  have h : opCbT i ≤ 18:=by revert i; decide
  omega
 refine region_go (by kernel_rfl) (low_of (by kernel_rfl)) (opCbC g z q n c s t) opCbT (by kernel_rfl) ?_ opCbT_inj hT (fun i w w' v hi h hb => opCbC_but h hi hb) ?_ ?_
 ·intro i o j want ho hg w v hv
  have hi : i < 17:=(Array.getElem?_eq_some_iff.1 ho).1
  have : i = 0 ∨ i = 1 ∨ i = 2 ∨ i = 3 ∨ i = 4 ∨ i = 5 ∨ i = 6 ∨ i = 7 ∨ i = 8 ∨ i = 9 ∨ i = 10 ∨ i = 11 ∨ i = 12 ∨ i = 13 ∨ i = 14 ∨ i = 15 ∨ i = 16:=by omega
  rcases this with rfl | rfl | rfl | rfl | rfl | rfl | rfl | rfl | rfl | rfl | rfl | rfl | rfl | rfl | rfl | rfl | rfl
  ·obtain rfl:=Option.some.inj ((show opCbs[0]? = some opCb0 from rfl).symm.trans ho)
   exact absurd (show (none : Option (Nat × Bool)) = some (j,want) from hg) (by simp)
  ·obtain rfl:=Option.some.inj ((show opCbs[1]? = some opCb1 from rfl).symm.trans ho)
   exact absurd (show (none : Option (Nat × Bool)) = some (j,want) from hg) (by simp)
  ·obtain rfl:=Option.some.inj ((show opCbs[2]? = some opCb2 from rfl).symm.trans ho)
   exact absurd (show (none : Option (Nat × Bool)) = some (j,want) from hg) (by simp)
  ·obtain rfl:=Option.some.inj ((show opCbs[3]? = some opCb3 from rfl).symm.trans ho)
   exact absurd (show (none : Option (Nat × Bool)) = some (j,want) from hg) (by simp)
  ·obtain rfl:=Option.some.inj ((show opCbs[4]? = some opCb4 from rfl).symm.trans ho)
   exact absurd (show (none : Option (Nat × Bool)) = some (j,want) from hg) (by simp)
  ·obtain rfl:=Option.some.inj ((show opCbs[5]? = some opCb5 from rfl).symm.trans ho)
   exact absurd (show (none : Option (Nat × Bool)) = some (j,want) from hg) (by simp)
  ·obtain rfl:=Option.some.inj ((show opCbs[6]? = some opCb6 from rfl).symm.trans ho)
   exact absurd (show (none : Option (Nat × Bool)) = some (j,want) from hg) (by simp)
  ·obtain rfl:=Option.some.inj ((show opCbs[7]? = some opCb7 from rfl).symm.trans ho)
   exact absurd (show (none : Option (Nat × Bool)) = some (j,want) from hg) (by simp)
  ·obtain rfl:=Option.some.inj ((show opCbs[8]? = some opCb8 from rfl).symm.trans ho)
   exact absurd (show (none : Option (Nat × Bool)) = some (j,want) from hg) (by simp)
  ·obtain rfl:=Option.some.inj ((show opCbs[9]? = some opCb9 from rfl).symm.trans ho)
   exact absurd (show (none : Option (Nat × Bool)) = some (j,want) from hg) (by simp)
  ·obtain rfl:=Option.some.inj ((show opCbs[10]? = some opCb10 from rfl).symm.trans ho)
   exact absurd (show (none : Option (Nat × Bool)) = some (j,want) from hg) (by simp)
  ·obtain rfl:=Option.some.inj ((show opCbs[11]? = some opCb11 from rfl).symm.trans ho)
   exact absurd (show (none : Option (Nat × Bool)) = some (j,want) from hg) (by simp)
  ·obtain rfl:=Option.some.inj ((show opCbs[12]? = some opCb12 from rfl).symm.trans ho)
   exact absurd (show (none : Option (Nat × Bool)) = some (j,want) from hg) (by simp)
  ·obtain rfl:=Option.some.inj ((show opCbs[13]? = some opCb13 from rfl).symm.trans ho)
   exact absurd (show (none : Option (Nat × Bool)) = some (j,want) from hg) (by simp)
  ·obtain rfl:=Option.some.inj ((show opCbs[14]? = some opCb14 from rfl).symm.trans ho)
   exact absurd (show (none : Option (Nat × Bool)) = some (j,want) from hg) (by simp)
  ·obtain rfl:=Option.some.inj ((show opCbs[15]? = some opCb15 from rfl).symm.trans ho)
   exact absurd (show (none : Option (Nat × Bool)) = some (j,want) from hg) (by simp)
  ·obtain rfl:=Option.some.inj ((show opCbs[16]? = some opCb16 from rfl).symm.trans ho)
   exact absurd (show (none : Option (Nat × Bool)) = some (j,want) from hg) (by simp)
 ·intro i o a w K ho hH he hdep hk
  have hi : i < 17:=(Array.getElem?_eq_some_iff.1 ho).1
  have hD:=dep_have (ps:=[(1,0),(2,1),(3,2),(5,4),(6,5),(7,6),(9,8),(10,9),(11,10),(12,11),(13,7),(13,12),(14,13),(15,0),(15,1),(15,2),(15,3),(16,0),(16,1),(16,2),(16,3),(16,4),(16,5),(16,6),(16,7),(16,8),(16,9),(16,10),(16,11),(16,12),(16,13),(16,14),(16,15)]) (by kernel_rfl) ho (fun j => opCbC g z q n c s t j w (a.eval (.tmp (opCbT j)))) hdep
  have e0':=(he 0 (fun j hj e => absurd e.symm (by revert j; decide))).trans e0
  have : i = 0 ∨ i = 1 ∨ i = 2 ∨ i = 3 ∨ i = 4 ∨ i = 5 ∨ i = 6 ∨ i = 7 ∨ i = 8 ∨ i = 9 ∨ i = 10 ∨ i = 11 ∨ i = 12 ∨ i = 13 ∨ i = 14 ∨ i = 15 ∨ i = 16:=by omega
  rcases this with rfl | rfl | rfl | rfl | rfl | rfl | rfl | rfl | rfl | rfl | rfl | rfl | rfl | rfl | rfl | rfl | rfl
  ·obtain rfl:=Option.some.inj ((show opCbs[0]? = some opCb0 from rfl).symm.trans ho)
   exact wp_value (run_mvK a w _ _ _ _ _ _ _ e0') (hk _ _ (But.refl _ _) rfl)
  ·obtain rfl:=Option.some.inj ((show opCbs[1]? = some opCb1 from rfl).symm.trans ho)
   exact wp_value (run_nilT a w _ _ _ _ _ _ g 0 (hD 0 (by simp))) (hk _ _ (But.refl _ _) rfl)
  ·obtain rfl:=Option.some.inj ((show opCbs[2]? = some opCb2 from rfl).symm.trans ho)
   exact wp_value (run_fdT1 a w _ _ _ _ _ _ g (hD 1 (by simp))) (hk _ _ (But.refl _ _) rfl)
  ·obtain rfl:=Option.some.inj ((show opCbs[3]? = some opCb3 from rfl).symm.trans ho)
   exact wp_value (run_loadI a w _ _ _ _ _ _ g 1 z (hD 2 (by simp)) ((hdr hH).cell_some c1 (by simp))) (hk _ _ (But.refl _ _) rfl)
  ·obtain rfl:=Option.some.inj ((show opCbs[4]? = some opCb4 from rfl).symm.trans ho)
   exact wp_value (run_mvK a w _ _ _ _ _ _ _ e0') (hk _ _ (But.refl _ _) rfl)
  ·obtain rfl:=Option.some.inj ((show opCbs[5]? = some opCb5 from rfl).symm.trans ho)
   exact wp_value (run_nilT a w _ _ _ _ _ _ g 0 (hD 4 (by simp))) (hk _ _ (But.refl _ _) rfl)
  ·obtain rfl:=Option.some.inj ((show opCbs[6]? = some opCb6 from rfl).symm.trans ho)
   exact wp_value (run_fdT1 a w _ _ _ _ _ _ g (hD 5 (by simp))) (hk _ _ (But.refl _ _) rfl)
  ·obtain rfl:=Option.some.inj ((show opCbs[7]? = some opCb7 from rfl).symm.trans ho)
   exact wp_value (run_loadI a w _ _ _ _ _ _ g 1 z (hD 6 (by simp)) ((hdr hH).cell_some c1 (by simp))) (hk _ _ (But.refl _ _) rfl)
  ·obtain rfl:=Option.some.inj ((show opCbs[8]? = some opCb8 from rfl).symm.trans ho)
   exact wp_value (run_mvK a w _ _ _ _ _ _ _ e0') (hk _ _ (But.refl _ _) rfl)
  ·obtain rfl:=Option.some.inj ((show opCbs[9]? = some opCb9 from rfl).symm.trans ho)
   exact wp_value (run_nilT a w _ _ _ _ _ _ g 0 (hD 8 (by simp))) (hk _ _ (But.refl _ _) rfl)
  ·obtain rfl:=Option.some.inj ((show opCbs[10]? = some opCb10 from rfl).symm.trans ho)
   exact wp_value (run_fdT2 a w _ _ _ _ _ _ g (hD 9 (by simp))) (hk _ _ (But.refl _ _) rfl)
  ·obtain rfl:=Option.some.inj ((show opCbs[11]? = some opCb11 from rfl).symm.trans ho)
   exact wp_value (run_ldRT a w _ _ _ _ _ _ g 2 q n c (hD 10 (by simp)) ((hdr hH).cell_some c2 (by simp))) (hk _ _ (But.refl _ _) rfl)
  ·obtain rfl:=Option.some.inj ((show opCbs[12]? = some opCb12 from rfl).symm.trans ho)
   exact wp_value (run_lenRT a w _ _ _ _ _ _ q n c (hD 11 (by simp))) (hk _ _ (But.refl _ _) rfl)
  ·obtain rfl:=Option.some.inj ((show opCbs[13]? = some opCb13 from rfl).symm.trans ho)
   exact wp_value (run_addT a w _ _ _ _ _ _ _ _ _ _ hs hsb (hD 7 (by simp)) (hD 12 (by simp))) (hk _ _ (But.refl _ _) rfl)
  ·obtain rfl:=Option.some.inj ((show opCbs[14]? = some opCb14 from rfl).symm.trans ho)
   exact wp_value (run_subT1 a w _ _ _ _ _ _ _ _ ht htb (hD 13 (by simp))) (hk _ _ (But.refl _ _) rfl)
  ·obtain rfl:=Option.some.inj ((show opCbs[15]? = some opCb15 from rfl).symm.trans ho)
   exact wp_value (run_asK a w _ _ _ _ _ _ _ (hD 3 (by simp))) (hk _ _ (But.refl _ _) rfl)
  ·obtain rfl:=Option.some.inj ((show opCbs[16]? = some opCb16 from rfl).symm.trans ho)
   exact wp_value (run_asK a w _ _ _ _ _ _ _ (hD 14 (by simp))) (hk _ _ (But.refl _ _) rfl)
 ·intro a w h
  have ea:=h.puts hT (fun i => match i with
   | 0 => .pointer (some ⟨g,0,none⟩)
   | 1 => .pointer (some ⟨g,0,none⟩)
   | 2 => .pointer (some ⟨g,1,none⟩)
   | 3 => .int .i64 z
   | 4 => .pointer (some ⟨g,0,none⟩)
   | 5 => .pointer (some ⟨g,0,none⟩)
   | 6 => .pointer (some ⟨g,1,none⟩)
   | 7 => .int .i64 z
   | 8 => .pointer (some ⟨g,0,none⟩)
   | 9 => .pointer (some ⟨g,0,none⟩)
   | 10 => .pointer (some ⟨g,2,none⟩)
   | 11 => .slice q n c
   | 12 => .int .i64 (n : Int)
   | 13 => .int .i64 s
   | 14 => .int .i64 t
   | 15 => .int .i64 z
   | _ => .int .i64 t) (fun i hi => by
   have hi' : i < 17:=hi
   have hc:=h.has i hi rfl
   have : i = 0 ∨ i = 1 ∨ i = 2 ∨ i = 3 ∨ i = 4 ∨ i = 5 ∨ i = 6 ∨ i = 7 ∨ i = 8 ∨ i = 9 ∨ i = 10 ∨ i = 11 ∨ i = 12 ∨ i = 13 ∨ i = 14 ∨ i = 15 ∨ i = 16:=by omega
   rcases this with rfl | rfl | rfl | rfl | rfl | rfl | rfl | rfl | rfl | rfl | rfl | rfl | rfl | rfl | rfl | rfl | rfl
   all_goals first | exact hc | rfl)
  rw [ea]
  exact hQ w (hdr h.but)
def opCc0 : Oper:={ dst:=some 3,op:=Op.move (Operand.tmp 0),type := 23,pos := "text.go:37",after:=#[],guard:=none }
def opCc1 : Oper:={ dst:=some 4,op:=Op.nilCheck (Operand.tmp 3),type:=0,pos := "text.go:37",after:=#[{ on:=0,ground:=Ground.data }],guard:=none }
def opCc2 : Oper:={ dst:=some 5,op:=Op.fieldAddr 60 (Operand.tmp 4) 0,type:=0,pos := "text.go:37",after:=#[{ on:=1,ground:=Ground.data }],guard:=none }
def opCc3 : Oper:={ dst:=some 6,op:=Op.load 9 (Operand.tmp 5),type := 9,pos := "text.go:37",after:=#[{ on:=2,ground:=Ground.data }],guard:=none }
def opCc4 : Oper:={ dst:=some 7,op:=Op.binOp BinOp.add 9 (Operand.const (Value.string { data:=#[116,97,98,108,101,32] })) (Operand.tmp 6) 9,type := 9,pos := "text.go:37",after:=#[{ on:=3,ground:=Ground.data }],guard:=none }
def opCc5 : Oper:={ dst:=some 8,op:=Op.binOp BinOp.add 9 (Operand.tmp 7) (Operand.const (Value.string { data:=#[32] })) 9,type := 9,pos := "text.go:37",after:=#[{ on:=4,ground:=Ground.data }],guard:=none }
def opCc6 : Oper:={ dst:=some 9,op:=Op.binOp BinOp.add 9 (Operand.tmp 8) (Operand.const (Value.string { data:=#[102,114,111,109] })) 9,type := 9,pos := "text.go:37",after:=#[{ on:=5,ground:=Ground.data }],guard:=none }
def opCc7 : Oper:={ dst:=some 10,op:=Op.binOp BinOp.add 9 (Operand.tmp 9) (Operand.const (Value.string { data:=#[32] })) 9,type := 9,pos := "text.go:37",after:=#[{ on:=6,ground:=Ground.data }],guard:=none }
def opCc8 : Oper:={ dst:=some 11,op:=Op.move (Operand.tmp 0),type := 23,pos := "text.go:37",after:=#[],guard:=none }
def opCc9 : Oper:={ dst:=some 12,op:=Op.nilCheck (Operand.tmp 11),type:=0,pos := "text.go:37",after:=#[{ on:=8,ground:=Ground.data }],guard:=none }
def opCc10 : Oper:={ dst:=some 13,op:=Op.fieldAddr 60 (Operand.tmp 12) 1,type:=0,pos := "text.go:37",after:=#[{ on:=9,ground:=Ground.data }],guard:=none }
def opCc11 : Oper:={ dst:=some 14,op:=Op.load 3 (Operand.tmp 13),type := 3,pos := "text.go:37",after:=#[{ on:=10,ground:=Ground.data }],guard:=none }
def opCc12 : Oper:={ dst:=some 15,op:=Op.call { callee:=Callee.value (Operand.func 19),args:=#[Operand.tmp 14],argTypes:=#[3] },type := 9,pos := "text.go:37",after:=#[{ on:=11,ground:=Ground.data }],guard:=none }
def opCc13 : Oper:={ dst:=some 16,op:=Op.binOp BinOp.add 9 (Operand.tmp 10) (Operand.tmp 15) 9,type := 9,pos := "text.go:37",after:=#[{ on:=7,ground:=Ground.data },{ on:=12,ground:=Ground.data }],guard:=none }
def opCc14 : Oper:={ dst:=some 17,op:=Op.binOp BinOp.add 9 (Operand.tmp 16) (Operand.const (Value.string { data:=#[32] })) 9,type := 9,pos := "text.go:37",after:=#[{ on:=13,ground:=Ground.data }],guard:=none }
def opCc15 : Oper:={ dst:=some 18,op:=Op.binOp BinOp.add 9 (Operand.tmp 17) (Operand.const (Value.string { data:=#[114,97,116,101,115] })) 9,type := 9,pos := "text.go:37",after:=#[{ on:=14,ground:=Ground.data }],guard:=none }
def opCc16 : Oper:={ dst:=some 19,op:=Op.binOp BinOp.add 9 (Operand.tmp 18) (Operand.const (Value.string { data:=#[32] })) 9,type := 9,pos := "text.go:37",after:=#[{ on:=15,ground:=Ground.data }],guard:=none }
def opCc17 : Oper:={ dst:=some 20,op:=Op.move (Operand.tmp 0),type := 23,pos := "text.go:37",after:=#[],guard:=none }
def opCc18 : Oper:={ dst:=some 21,op:=Op.nilCheck (Operand.tmp 20),type:=0,pos := "text.go:37",after:=#[{ on:=17,ground:=Ground.data }],guard:=none }
def opCc19 : Oper:={ dst:=some 22,op:=Op.fieldAddr 60 (Operand.tmp 21) 2,type:=0,pos := "text.go:37",after:=#[{ on:=18,ground:=Ground.data }],guard:=none }
def opCc20 : Oper:={ dst:=some 23,op:=Op.load 43 (Operand.tmp 22),type := 43,pos := "text.go:37",after:=#[{ on:=19,ground:=Ground.data }],guard:=none }
def opCc21 : Oper:={ dst:=some 24,op:=Op.call { callee:=Callee.value (Operand.func 20),args:=#[Operand.tmp 23],argTypes:=#[43] },type := 9,pos := "text.go:37",after:=#[{ on:=20,ground:=Ground.data },{ on:=12,ground:=Ground.chain }],guard:=none }
def opCc22 : Oper:={ dst:=some 25,op:=Op.binOp BinOp.add 9 (Operand.tmp 19) (Operand.tmp 24) 9,type := 9,pos := "text.go:37",after:=#[{ on:=16,ground:=Ground.data },{ on:=21,ground:=Ground.data }],guard:=none }
def opCc23 : Oper:={ dst:=some 2,op:=Op.assign (Operand.tmp 25),type := 9,pos := "text.go:37",after:=#[{ on:=22,ground:=Ground.data },{ on:=21,ground:=Ground.chain },{ on:=0,ground:=Ground.phase },{ on:=1,ground:=Ground.phase },{ on:=2,ground:=Ground.phase },{ on:=3,ground:=Ground.phase },{ on:=4,ground:=Ground.phase },{ on:=5,ground:=Ground.phase },{ on:=6,ground:=Ground.phase },{ on:=7,ground:=Ground.phase },{ on:=8,ground:=Ground.phase },{ on:=9,ground:=Ground.phase },{ on:=10,ground:=Ground.phase },{ on:=11,ground:=Ground.phase },{ on:=12,ground:=Ground.phase },{ on:=13,ground:=Ground.phase },{ on:=14,ground:=Ground.phase },{ on:=15,ground:=Ground.phase },{ on:=16,ground:=Ground.phase },{ on:=17,ground:=Ground.phase },{ on:=18,ground:=Ground.phase },{ on:=19,ground:=Ground.phase },{ on:=20,ground:=Ground.phase },{ on:=21,ground:=Ground.phase },{ on:=22,ground:=Ground.phase }],guard:=none }
def opCcs : Array Oper:=#[opCc0,opCc1,opCc2,opCc3,opCc4,opCc5,opCc6,opCc7,opCc8,opCc9,opCc10,opCc11,opCc12,opCc13,opCc14,opCc15,opCc16,opCc17,opCc18,opCc19,opCc20,opCc21,opCc22,opCc23]
def opCcT (i : Nat) : Nat:=match i with
 | 0 => 3
 | 1 => 4
 | 2 => 5
 | 3 => 6
 | 4 => 7
 | 5 => 8
 | 6 => 9
 | 7 => 10
 | 8 => 11
 | 9 => 12
 | 10 => 13
 | 11 => 14
 | 12 => 15
 | 13 => 16
 | 14 => 17
 | 15 => 18
 | 16 => 19
 | 17 => 20
 | 18 => 21
 | 19 => 22
 | 20 => 23
 | 21 => 24
 | 22 => 25
 | _ => 2
/-- what each operation's value is -/
def opCcC (g : Nat) (z : Int) (q : Option Addr) (n : Nat) (c : Nat) (nm : ByteArray) (nu : ByteArray) (rs : ByteArray) (i : Nat) (_w : World) (v : Value) : Prop:=match i with
 | 0 => v = .pointer (some ⟨g,0,none⟩)
 | 1 => v = .pointer (some ⟨g,0,none⟩)
 | 2 => v = .pointer (some ⟨g,0,none⟩)
 | 3 => v = .string (nm)
 | 4 => v = .string ((⟨#[116,97,98,108,101,32]⟩ : ByteArray) ++ nm)
 | 5 => v = .string (((⟨#[116,97,98,108,101,32]⟩ : ByteArray) ++ nm) ++ (⟨#[32]⟩ : ByteArray))
 | 6 => v = .string ((((⟨#[116,97,98,108,101,32]⟩ : ByteArray) ++ nm) ++ (⟨#[32]⟩ : ByteArray)) ++ (⟨#[102,114,111,109]⟩ : ByteArray))
 | 7 => v = .string (((((⟨#[116,97,98,108,101,32]⟩ : ByteArray) ++ nm) ++ (⟨#[32]⟩ : ByteArray)) ++ (⟨#[102,114,111,109]⟩ : ByteArray)) ++ (⟨#[32]⟩ : ByteArray))
 | 8 => v = .pointer (some ⟨g,0,none⟩)
 | 9 => v = .pointer (some ⟨g,0,none⟩)
 | 10 => v = .pointer (some ⟨g,1,none⟩)
 | 11 => v = .int .i64 z
 | 12 => v = .string (nu)
 | 13 => v = .string ((((((⟨#[116,97,98,108,101,32]⟩ : ByteArray) ++ nm) ++ (⟨#[32]⟩ : ByteArray)) ++ (⟨#[102,114,111,109]⟩ : ByteArray)) ++ (⟨#[32]⟩ : ByteArray)) ++ nu)
 | 14 => v = .string (((((((⟨#[116,97,98,108,101,32]⟩ : ByteArray) ++ nm) ++ (⟨#[32]⟩ : ByteArray)) ++ (⟨#[102,114,111,109]⟩ : ByteArray)) ++ (⟨#[32]⟩ : ByteArray)) ++ nu) ++ (⟨#[32]⟩ : ByteArray))
 | 15 => v = .string ((((((((⟨#[116,97,98,108,101,32]⟩ : ByteArray) ++ nm) ++ (⟨#[32]⟩ : ByteArray)) ++ (⟨#[102,114,111,109]⟩ : ByteArray)) ++ (⟨#[32]⟩ : ByteArray)) ++ nu) ++ (⟨#[32]⟩ : ByteArray)) ++ (⟨#[114,97,116,101,115]⟩ : ByteArray))
 | 16 => v = .string (((((((((⟨#[116,97,98,108,101,32]⟩ : ByteArray) ++ nm) ++ (⟨#[32]⟩ : ByteArray)) ++ (⟨#[102,114,111,109]⟩ : ByteArray)) ++ (⟨#[32]⟩ : ByteArray)) ++ nu) ++ (⟨#[32]⟩ : ByteArray)) ++ (⟨#[114,97,116,101,115]⟩ : ByteArray)) ++ (⟨#[32]⟩ : ByteArray))
 | 17 => v = .pointer (some ⟨g,0,none⟩)
 | 18 => v = .pointer (some ⟨g,0,none⟩)
 | 19 => v = .pointer (some ⟨g,2,none⟩)
 | 20 => v = .slice q n c
 | 21 => v = .string (rs)
 | 22 => v = .string ((((((((((⟨#[116,97,98,108,101,32]⟩ : ByteArray) ++ nm) ++ (⟨#[32]⟩ : ByteArray)) ++ (⟨#[102,114,111,109]⟩ : ByteArray)) ++ (⟨#[32]⟩ : ByteArray)) ++ nu) ++ (⟨#[32]⟩ : ByteArray)) ++ (⟨#[114,97,116,101,115]⟩ : ByteArray)) ++ (⟨#[32]⟩ : ByteArray)) ++ rs)
 | _ => v = .string ((((((((((⟨#[116,97,98,108,101,32]⟩ : ByteArray) ++ nm) ++ (⟨#[32]⟩ : ByteArray)) ++ (⟨#[102,114,111,109]⟩ : ByteArray)) ++ (⟨#[32]⟩ : ByteArray)) ++ nu) ++ (⟨#[32]⟩ : ByteArray)) ++ (⟨#[114,97,116,101,115]⟩ : ByteArray)) ++ (⟨#[32]⟩ : ByteArray)) ++ rs)
theorem opCcC_but {g : Nat} {z : Int} {q : Option Addr} {n : Nat} {c : Nat} {nm : ByteArray} {nu : ByteArray} {rs : ByteArray} {i : Nat} {w w' : World} {v : Value} (h : opCcC g z q n c nm nu rs i w v) (hi : i < 24) (hb : But [] w w') : opCcC g z q n c nm nu rs i w' v:=by
 have : i = 0 ∨ i = 1 ∨ i = 2 ∨ i = 3 ∨ i = 4 ∨ i = 5 ∨ i = 6 ∨ i = 7 ∨ i = 8 ∨ i = 9 ∨ i = 10 ∨ i = 11 ∨ i = 12 ∨ i = 13 ∨ i = 14 ∨ i = 15 ∨ i = 16 ∨ i = 17 ∨ i = 18 ∨ i = 19 ∨ i = 20 ∨ i = 21 ∨ i = 22 ∨ i = 23:=by omega
 rcases this with rfl | rfl | rfl | rfl | rfl | rfl | rfl | rfl | rfl | rfl | rfl | rfl | rfl | rfl | rfl | rfl | rfl | rfl | rfl | rfl | rfl | rfl | rfl | rfl
 all_goals first | exact h | exact FracAt.but h hb | exact FracsAt.but h hb
theorem opCcT_inj : ∀ i j,i < 24→j < 24→opCcT i = opCcT j→i = j:=fun i j hi hj => (by decide : ∀ i,i < 24→∀ j,j < 24→opCcT i = opCcT j→i = j) i hi j hj
set_option maxHeartbeats 8000000 in
set_option maxRecDepth 100000 in
theorem ttext_region1 (id : Nat) (Q : Exit→Act→World→Prop) (base : Act) (W0 : World) (g : Nat) (z : Int) (q : Option Addr) (n : Nat) (c : Nat) (nm : ByteArray) (nu : ByteArray) (rs : ByteArray) (hs : 25 < base.tmps.size) (e0 : base.eval (.tmp 0) = .pointer (some ⟨g,0,none⟩))
  (hnm : nm.size ≤ 1000) (hnu : nu.size ≤ 1000) (hrs : rs.size ≤ 1000000) (c0 : W0.cell? ⟨g,0,none⟩ = some (.string nm)) (c1 : W0.cell? ⟨g,1,none⟩ = some (.int .i64 z)) (c2 : W0.cell? ⟨g,2,none⟩ = some (.slice q n c)) (IT : ∀ w,But [] W0 w→Calls Tryz.prog 19 #[.int .i64 z] w fun e w' => e = .returned (.string nu)∧But [] w w') (WO : ∀ w,But [] W0 w→Calls Tryz.prog 20 #[.slice q n c] w fun e w' => e = .returned (.string rs)∧But [] w w')
  (hQ : ∀ w,But [] W0 w→Q .normal (putted base [(3,.pointer (some ⟨g,0,none⟩)),(4,.pointer (some ⟨g,0,none⟩)),(5,.pointer (some ⟨g,0,none⟩)),(6,.string (nm)),(7,.string ((⟨#[116,97,98,108,101,32]⟩ : ByteArray) ++ nm)),(8,.string (((⟨#[116,97,98,108,101,32]⟩ : ByteArray) ++ nm) ++ (⟨#[32]⟩ : ByteArray))),(9,.string ((((⟨#[116,97,98,108,101,32]⟩ : ByteArray) ++ nm) ++ (⟨#[32]⟩ : ByteArray)) ++ (⟨#[102,114,111,109]⟩ : ByteArray))),(10,.string (((((⟨#[116,97,98,108,101,32]⟩ : ByteArray) ++ nm) ++ (⟨#[32]⟩ : ByteArray)) ++ (⟨#[102,114,111,109]⟩ : ByteArray)) ++ (⟨#[32]⟩ : ByteArray))),(11,.pointer (some ⟨g,0,none⟩)),(12,.pointer (some ⟨g,0,none⟩)),(13,.pointer (some ⟨g,1,none⟩)),(14,.int .i64 z),(15,.string (nu)),(16,.string ((((((⟨#[116,97,98,108,101,32]⟩ : ByteArray) ++ nm) ++ (⟨#[32]⟩ : ByteArray)) ++ (⟨#[102,114,111,109]⟩ : ByteArray)) ++ (⟨#[32]⟩ : ByteArray)) ++ nu)),(17,.string (((((((⟨#[116,97,98,108,101,32]⟩ : ByteArray) ++ nm) ++ (⟨#[32]⟩ : ByteArray)) ++ (⟨#[102,114,111,109]⟩ : ByteArray)) ++ (⟨#[32]⟩ : ByteArray)) ++ nu) ++ (⟨#[32]⟩ : ByteArray))),(18,.string ((((((((⟨#[116,97,98,108,101,32]⟩ : ByteArray) ++ nm) ++ (⟨#[32]⟩ : ByteArray)) ++ (⟨#[102,114,111,109]⟩ : ByteArray)) ++ (⟨#[32]⟩ : ByteArray)) ++ nu) ++ (⟨#[32]⟩ : ByteArray)) ++ (⟨#[114,97,116,101,115]⟩ : ByteArray))),(19,.string (((((((((⟨#[116,97,98,108,101,32]⟩ : ByteArray) ++ nm) ++ (⟨#[32]⟩ : ByteArray)) ++ (⟨#[102,114,111,109]⟩ : ByteArray)) ++ (⟨#[32]⟩ : ByteArray)) ++ nu) ++ (⟨#[32]⟩ : ByteArray)) ++ (⟨#[114,97,116,101,115]⟩ : ByteArray)) ++ (⟨#[32]⟩ : ByteArray))),(20,.pointer (some ⟨g,0,none⟩)),(21,.pointer (some ⟨g,0,none⟩)),(22,.pointer (some ⟨g,2,none⟩)),(23,.slice q n c),(24,.string (rs)),(25,.string ((((((((((⟨#[116,97,98,108,101,32]⟩ : ByteArray) ++ nm) ++ (⟨#[32]⟩ : ByteArray)) ++ (⟨#[102,114,111,109]⟩ : ByteArray)) ++ (⟨#[32]⟩ : ByteArray)) ++ nu) ++ (⟨#[32]⟩ : ByteArray)) ++ (⟨#[114,97,116,101,115]⟩ : ByteArray)) ++ (⟨#[32]⟩ : ByteArray)) ++ rs)),(2,.string ((((((((((⟨#[116,97,98,108,101,32]⟩ : ByteArray) ++ nm) ++ (⟨#[32]⟩ : ByteArray)) ++ (⟨#[102,114,111,109]⟩ : ByteArray)) ++ (⟨#[32]⟩ : ByteArray)) ++ nu) ++ (⟨#[32]⟩ : ByteArray)) ++ (⟨#[114,97,116,101,115]⟩ : ByteArray)) ++ (⟨#[32]⟩ : ByteArray)) ++ rs))]) w) :
  (Code.region id opCcs true).wp Tryz.prog Q base W0:=by
 have hdr : ∀ {w},But [] W0.drew w→But [] W0 w:=fun h => (But.refl _ _).drew.trans' h
 have l1 : (⟨#[32]⟩ : ByteArray).size = 1:=rfl
 have l4 : (⟨#[102,114,111,109]⟩ : ByteArray).size = 4:=rfl
 have l5 : (⟨#[114,97,116,101,115]⟩ : ByteArray).size = 5:=rfl
 have l6 : (⟨#[116,97,98,108,101,32]⟩ : ByteArray).size = 6:=rfl
 have z7 : ((⟨#[116,97,98,108,101,32]⟩ : ByteArray) ++ nm).size ≤ 2200:=by rw [ByteArray.size_append]; omega
 have z8 : (((⟨#[116,97,98,108,101,32]⟩ : ByteArray) ++ nm) ++ (⟨#[32]⟩ : ByteArray)).size ≤ 3300:=by rw [ByteArray.size_append]; omega
 have z9 : ((((⟨#[116,97,98,108,101,32]⟩ : ByteArray) ++ nm) ++ (⟨#[32]⟩ : ByteArray)) ++ (⟨#[102,114,111,109]⟩ : ByteArray)).size ≤ 4400:=by rw [ByteArray.size_append]; omega
 have z10 : (((((⟨#[116,97,98,108,101,32]⟩ : ByteArray) ++ nm) ++ (⟨#[32]⟩ : ByteArray)) ++ (⟨#[102,114,111,109]⟩ : ByteArray)) ++ (⟨#[32]⟩ : ByteArray)).size ≤ 5500:=by rw [ByteArray.size_append]; omega
 have z16 : ((((((⟨#[116,97,98,108,101,32]⟩ : ByteArray) ++ nm) ++ (⟨#[32]⟩ : ByteArray)) ++ (⟨#[102,114,111,109]⟩ : ByteArray)) ++ (⟨#[32]⟩ : ByteArray)) ++ nu).size ≤ 6600:=by rw [ByteArray.size_append]; omega
 have z17 : (((((((⟨#[116,97,98,108,101,32]⟩ : ByteArray) ++ nm) ++ (⟨#[32]⟩ : ByteArray)) ++ (⟨#[102,114,111,109]⟩ : ByteArray)) ++ (⟨#[32]⟩ : ByteArray)) ++ nu) ++ (⟨#[32]⟩ : ByteArray)).size ≤ 7700:=by rw [ByteArray.size_append]; omega
 have z18 : ((((((((⟨#[116,97,98,108,101,32]⟩ : ByteArray) ++ nm) ++ (⟨#[32]⟩ : ByteArray)) ++ (⟨#[102,114,111,109]⟩ : ByteArray)) ++ (⟨#[32]⟩ : ByteArray)) ++ nu) ++ (⟨#[32]⟩ : ByteArray)) ++ (⟨#[114,97,116,101,115]⟩ : ByteArray)).size ≤ 8800:=by rw [ByteArray.size_append]; omega
 have z19 : (((((((((⟨#[116,97,98,108,101,32]⟩ : ByteArray) ++ nm) ++ (⟨#[32]⟩ : ByteArray)) ++ (⟨#[102,114,111,109]⟩ : ByteArray)) ++ (⟨#[32]⟩ : ByteArray)) ++ nu) ++ (⟨#[32]⟩ : ByteArray)) ++ (⟨#[114,97,116,101,115]⟩ : ByteArray)) ++ (⟨#[32]⟩ : ByteArray)).size ≤ 9900:=by rw [ByteArray.size_append]; omega
 have hT : ∀ i,i < 24→opCcT i < base.tmps.size:=fun i hi => by
  have h : opCcT i ≤ 25:=by revert i; decide
  omega
 refine region_go (by kernel_rfl) (low_of (by kernel_rfl)) (opCcC g z q n c nm nu rs) opCcT (by kernel_rfl) ?_ opCcT_inj hT (fun i w w' v hi h hb => opCcC_but h hi hb) ?_ ?_
 ·intro i o j want ho hg w v hv
  have hi : i < 24:=(Array.getElem?_eq_some_iff.1 ho).1
  have : i = 0 ∨ i = 1 ∨ i = 2 ∨ i = 3 ∨ i = 4 ∨ i = 5 ∨ i = 6 ∨ i = 7 ∨ i = 8 ∨ i = 9 ∨ i = 10 ∨ i = 11 ∨ i = 12 ∨ i = 13 ∨ i = 14 ∨ i = 15 ∨ i = 16 ∨ i = 17 ∨ i = 18 ∨ i = 19 ∨ i = 20 ∨ i = 21 ∨ i = 22 ∨ i = 23:=by omega
  rcases this with rfl | rfl | rfl | rfl | rfl | rfl | rfl | rfl | rfl | rfl | rfl | rfl | rfl | rfl | rfl | rfl | rfl | rfl | rfl | rfl | rfl | rfl | rfl | rfl
  ·obtain rfl:=Option.some.inj ((show opCcs[0]? = some opCc0 from rfl).symm.trans ho)
   exact absurd (show (none : Option (Nat × Bool)) = some (j,want) from hg) (by simp)
  ·obtain rfl:=Option.some.inj ((show opCcs[1]? = some opCc1 from rfl).symm.trans ho)
   exact absurd (show (none : Option (Nat × Bool)) = some (j,want) from hg) (by simp)
  ·obtain rfl:=Option.some.inj ((show opCcs[2]? = some opCc2 from rfl).symm.trans ho)
   exact absurd (show (none : Option (Nat × Bool)) = some (j,want) from hg) (by simp)
  ·obtain rfl:=Option.some.inj ((show opCcs[3]? = some opCc3 from rfl).symm.trans ho)
   exact absurd (show (none : Option (Nat × Bool)) = some (j,want) from hg) (by simp)
  ·obtain rfl:=Option.some.inj ((show opCcs[4]? = some opCc4 from rfl).symm.trans ho)
   exact absurd (show (none : Option (Nat × Bool)) = some (j,want) from hg) (by simp)
  ·obtain rfl:=Option.some.inj ((show opCcs[5]? = some opCc5 from rfl).symm.trans ho)
   exact absurd (show (none : Option (Nat × Bool)) = some (j,want) from hg) (by simp)
  ·obtain rfl:=Option.some.inj ((show opCcs[6]? = some opCc6 from rfl).symm.trans ho)
   exact absurd (show (none : Option (Nat × Bool)) = some (j,want) from hg) (by simp)
  ·obtain rfl:=Option.some.inj ((show opCcs[7]? = some opCc7 from rfl).symm.trans ho)
   exact absurd (show (none : Option (Nat × Bool)) = some (j,want) from hg) (by simp)
  ·obtain rfl:=Option.some.inj ((show opCcs[8]? = some opCc8 from rfl).symm.trans ho)
   exact absurd (show (none : Option (Nat × Bool)) = some (j,want) from hg) (by simp)
  ·obtain rfl:=Option.some.inj ((show opCcs[9]? = some opCc9 from rfl).symm.trans ho)
   exact absurd (show (none : Option (Nat × Bool)) = some (j,want) from hg) (by simp)
  ·obtain rfl:=Option.some.inj ((show opCcs[10]? = some opCc10 from rfl).symm.trans ho)
   exact absurd (show (none : Option (Nat × Bool)) = some (j,want) from hg) (by simp)
  ·obtain rfl:=Option.some.inj ((show opCcs[11]? = some opCc11 from rfl).symm.trans ho)
   exact absurd (show (none : Option (Nat × Bool)) = some (j,want) from hg) (by simp)
  ·obtain rfl:=Option.some.inj ((show opCcs[12]? = some opCc12 from rfl).symm.trans ho)
   exact absurd (show (none : Option (Nat × Bool)) = some (j,want) from hg) (by simp)
  ·obtain rfl:=Option.some.inj ((show opCcs[13]? = some opCc13 from rfl).symm.trans ho)
   exact absurd (show (none : Option (Nat × Bool)) = some (j,want) from hg) (by simp)
  ·obtain rfl:=Option.some.inj ((show opCcs[14]? = some opCc14 from rfl).symm.trans ho)
   exact absurd (show (none : Option (Nat × Bool)) = some (j,want) from hg) (by simp)
  ·obtain rfl:=Option.some.inj ((show opCcs[15]? = some opCc15 from rfl).symm.trans ho)
   exact absurd (show (none : Option (Nat × Bool)) = some (j,want) from hg) (by simp)
  ·obtain rfl:=Option.some.inj ((show opCcs[16]? = some opCc16 from rfl).symm.trans ho)
   exact absurd (show (none : Option (Nat × Bool)) = some (j,want) from hg) (by simp)
  ·obtain rfl:=Option.some.inj ((show opCcs[17]? = some opCc17 from rfl).symm.trans ho)
   exact absurd (show (none : Option (Nat × Bool)) = some (j,want) from hg) (by simp)
  ·obtain rfl:=Option.some.inj ((show opCcs[18]? = some opCc18 from rfl).symm.trans ho)
   exact absurd (show (none : Option (Nat × Bool)) = some (j,want) from hg) (by simp)
  ·obtain rfl:=Option.some.inj ((show opCcs[19]? = some opCc19 from rfl).symm.trans ho)
   exact absurd (show (none : Option (Nat × Bool)) = some (j,want) from hg) (by simp)
  ·obtain rfl:=Option.some.inj ((show opCcs[20]? = some opCc20 from rfl).symm.trans ho)
   exact absurd (show (none : Option (Nat × Bool)) = some (j,want) from hg) (by simp)
  ·obtain rfl:=Option.some.inj ((show opCcs[21]? = some opCc21 from rfl).symm.trans ho)
   exact absurd (show (none : Option (Nat × Bool)) = some (j,want) from hg) (by simp)
  ·obtain rfl:=Option.some.inj ((show opCcs[22]? = some opCc22 from rfl).symm.trans ho)
   exact absurd (show (none : Option (Nat × Bool)) = some (j,want) from hg) (by simp)
  ·obtain rfl:=Option.some.inj ((show opCcs[23]? = some opCc23 from rfl).symm.trans ho)
   exact absurd (show (none : Option (Nat × Bool)) = some (j,want) from hg) (by simp)
 ·intro i o a w K ho hH he hdep hk
  have hi : i < 24:=(Array.getElem?_eq_some_iff.1 ho).1
  have hD:=dep_have (ps:=[(1,0),(2,1),(3,2),(4,3),(5,4),(6,5),(7,6),(9,8),(10,9),(11,10),(12,11),(13,7),(13,12),(14,13),(15,14),(16,15),(18,17),(19,18),(20,19),(21,12),(21,20),(22,16),(22,21),(23,0),(23,1),(23,2),(23,3),(23,4),(23,5),(23,6),(23,7),(23,8),(23,9),(23,10),(23,11),(23,12),(23,13),(23,14),(23,15),(23,16),(23,17),(23,18),(23,19),(23,20),(23,21),(23,22)]) (by kernel_rfl) ho (fun j => opCcC g z q n c nm nu rs j w (a.eval (.tmp (opCcT j)))) hdep
  have e0':=(he 0 (fun j hj e => absurd e.symm (by revert j; decide))).trans e0
  have : i = 0 ∨ i = 1 ∨ i = 2 ∨ i = 3 ∨ i = 4 ∨ i = 5 ∨ i = 6 ∨ i = 7 ∨ i = 8 ∨ i = 9 ∨ i = 10 ∨ i = 11 ∨ i = 12 ∨ i = 13 ∨ i = 14 ∨ i = 15 ∨ i = 16 ∨ i = 17 ∨ i = 18 ∨ i = 19 ∨ i = 20 ∨ i = 21 ∨ i = 22 ∨ i = 23:=by omega
  rcases this with rfl | rfl | rfl | rfl | rfl | rfl | rfl | rfl | rfl | rfl | rfl | rfl | rfl | rfl | rfl | rfl | rfl | rfl | rfl | rfl | rfl | rfl | rfl | rfl
  ·obtain rfl:=Option.some.inj ((show opCcs[0]? = some opCc0 from rfl).symm.trans ho)
   exact wp_value (run_mvK a w _ _ _ _ _ _ _ e0') (hk _ _ (But.refl _ _) rfl)
  ·obtain rfl:=Option.some.inj ((show opCcs[1]? = some opCc1 from rfl).symm.trans ho)
   exact wp_value (run_nilT a w _ _ _ _ _ _ g 0 (hD 0 (by simp))) (hk _ _ (But.refl _ _) rfl)
  ·obtain rfl:=Option.some.inj ((show opCcs[2]? = some opCc2 from rfl).symm.trans ho)
   exact wp_value (run_fdT0 a w _ _ _ _ _ _ g (hD 1 (by simp))) (hk _ _ (But.refl _ _) rfl)
  ·obtain rfl:=Option.some.inj ((show opCcs[3]? = some opCc3 from rfl).symm.trans ho)
   exact wp_value (run_ldST a w _ _ _ _ _ _ g 0 nm (hD 2 (by simp)) ((hdr hH).cell_some c0 (by simp))) (hk _ _ (But.refl _ _) rfl)
  ·obtain rfl:=Option.some.inj ((show opCcs[4]? = some opCc4 from rfl).symm.trans ho)
   exact wp_value (run_catTl a w _ _ _ _ _ _ _ _ (by omega) (hD 3 (by simp))) (hk _ _ (But.refl _ _) rfl)
  ·obtain rfl:=Option.some.inj ((show opCcs[5]? = some opCc5 from rfl).symm.trans ho)
   exact wp_value (run_catTr a w _ _ _ _ _ _ _ _ (by omega) (hD 4 (by simp))) (hk _ _ (But.refl _ _) rfl)
  ·obtain rfl:=Option.some.inj ((show opCcs[6]? = some opCc6 from rfl).symm.trans ho)
   exact wp_value (run_catTr a w _ _ _ _ _ _ _ _ (by omega) (hD 5 (by simp))) (hk _ _ (But.refl _ _) rfl)
  ·obtain rfl:=Option.some.inj ((show opCcs[7]? = some opCc7 from rfl).symm.trans ho)
   exact wp_value (run_catTr a w _ _ _ _ _ _ _ _ (by omega) (hD 6 (by simp))) (hk _ _ (But.refl _ _) rfl)
  ·obtain rfl:=Option.some.inj ((show opCcs[8]? = some opCc8 from rfl).symm.trans ho)
   exact wp_value (run_mvK a w _ _ _ _ _ _ _ e0') (hk _ _ (But.refl _ _) rfl)
  ·obtain rfl:=Option.some.inj ((show opCcs[9]? = some opCc9 from rfl).symm.trans ho)
   exact wp_value (run_nilT a w _ _ _ _ _ _ g 0 (hD 8 (by simp))) (hk _ _ (But.refl _ _) rfl)
  ·obtain rfl:=Option.some.inj ((show opCcs[10]? = some opCc10 from rfl).symm.trans ho)
   exact wp_value (run_fdT1 a w _ _ _ _ _ _ g (hD 9 (by simp))) (hk _ _ (But.refl _ _) rfl)
  ·obtain rfl:=Option.some.inj ((show opCcs[11]? = some opCc11 from rfl).symm.trans ho)
   exact wp_value (run_loadI a w _ _ _ _ _ _ g 1 z (hD 10 (by simp)) ((hdr hH).cell_some c1 (by simp))) (hk _ _ (But.refl _ _) rfl)
  ·obtain rfl:=Option.some.inj ((show opCcs[12]? = some opCc12 from rfl).symm.trans ho)
   exact wp_enter (run_itoaT a w _ _ _ _ _ _ _ (hD 11 (by simp))) (R:=fun w' v => But [] w w'∧v = _) ((IT w (hdr hH)).mono fun e w' ⟨he,hb⟩ => ⟨_,he,hb,rfl⟩) (fun v w' hv => hk v w' hv.1 hv.2)
  ·obtain rfl:=Option.some.inj ((show opCcs[13]? = some opCc13 from rfl).symm.trans ho)
   exact wp_value (run_catT a w _ _ _ _ _ _ _ _ _ (by omega) (hD 7 (by simp)) (hD 12 (by simp))) (hk _ _ (But.refl _ _) rfl)
  ·obtain rfl:=Option.some.inj ((show opCcs[14]? = some opCc14 from rfl).symm.trans ho)
   exact wp_value (run_catTr a w _ _ _ _ _ _ _ _ (by omega) (hD 13 (by simp))) (hk _ _ (But.refl _ _) rfl)
  ·obtain rfl:=Option.some.inj ((show opCcs[15]? = some opCc15 from rfl).symm.trans ho)
   exact wp_value (run_catTr a w _ _ _ _ _ _ _ _ (by omega) (hD 14 (by simp))) (hk _ _ (But.refl _ _) rfl)
  ·obtain rfl:=Option.some.inj ((show opCcs[16]? = some opCc16 from rfl).symm.trans ho)
   exact wp_value (run_catTr a w _ _ _ _ _ _ _ _ (by omega) (hD 15 (by simp))) (hk _ _ (But.refl _ _) rfl)
  ·obtain rfl:=Option.some.inj ((show opCcs[17]? = some opCc17 from rfl).symm.trans ho)
   exact wp_value (run_mvK a w _ _ _ _ _ _ _ e0') (hk _ _ (But.refl _ _) rfl)
  ·obtain rfl:=Option.some.inj ((show opCcs[18]? = some opCc18 from rfl).symm.trans ho)
   exact wp_value (run_nilT a w _ _ _ _ _ _ g 0 (hD 17 (by simp))) (hk _ _ (But.refl _ _) rfl)
  ·obtain rfl:=Option.some.inj ((show opCcs[19]? = some opCc19 from rfl).symm.trans ho)
   exact wp_value (run_fdT2 a w _ _ _ _ _ _ g (hD 18 (by simp))) (hk _ _ (But.refl _ _) rfl)
  ·obtain rfl:=Option.some.inj ((show opCcs[20]? = some opCc20 from rfl).symm.trans ho)
   exact wp_value (run_ldRT a w _ _ _ _ _ _ g 2 q n c (hD 19 (by simp)) ((hdr hH).cell_some c2 (by simp))) (hk _ _ (But.refl _ _) rfl)
  ·obtain rfl:=Option.some.inj ((show opCcs[21]? = some opCc21 from rfl).symm.trans ho)
   exact wp_enter (run_wordsT a w _ _ _ _ _ _ _ (hD 20 (by simp))) (R:=fun w' v => But [] w w'∧v = _) ((WO w (hdr hH)).mono fun e w' ⟨he,hb⟩ => ⟨_,he,hb,rfl⟩) (fun v w' hv => hk v w' hv.1 hv.2)
  ·obtain rfl:=Option.some.inj ((show opCcs[22]? = some opCc22 from rfl).symm.trans ho)
   exact wp_value (run_catT a w _ _ _ _ _ _ _ _ _ (by omega) (hD 16 (by simp)) (hD 21 (by simp))) (hk _ _ (But.refl _ _) rfl)
  ·obtain rfl:=Option.some.inj ((show opCcs[23]? = some opCc23 from rfl).symm.trans ho)
   exact wp_value (run_asK a w _ _ _ _ _ _ _ (hD 22 (by simp))) (hk _ _ (But.refl _ _) rfl)
 ·intro a w h
  have ea:=h.puts hT (fun i => match i with
   | 0 => .pointer (some ⟨g,0,none⟩)
   | 1 => .pointer (some ⟨g,0,none⟩)
   | 2 => .pointer (some ⟨g,0,none⟩)
   | 3 => .string (nm)
   | 4 => .string ((⟨#[116,97,98,108,101,32]⟩ : ByteArray) ++ nm)
   | 5 => .string (((⟨#[116,97,98,108,101,32]⟩ : ByteArray) ++ nm) ++ (⟨#[32]⟩ : ByteArray))
   | 6 => .string ((((⟨#[116,97,98,108,101,32]⟩ : ByteArray) ++ nm) ++ (⟨#[32]⟩ : ByteArray)) ++ (⟨#[102,114,111,109]⟩ : ByteArray))
   | 7 => .string (((((⟨#[116,97,98,108,101,32]⟩ : ByteArray) ++ nm) ++ (⟨#[32]⟩ : ByteArray)) ++ (⟨#[102,114,111,109]⟩ : ByteArray)) ++ (⟨#[32]⟩ : ByteArray))
   | 8 => .pointer (some ⟨g,0,none⟩)
   | 9 => .pointer (some ⟨g,0,none⟩)
   | 10 => .pointer (some ⟨g,1,none⟩)
   | 11 => .int .i64 z
   | 12 => .string (nu)
   | 13 => .string ((((((⟨#[116,97,98,108,101,32]⟩ : ByteArray) ++ nm) ++ (⟨#[32]⟩ : ByteArray)) ++ (⟨#[102,114,111,109]⟩ : ByteArray)) ++ (⟨#[32]⟩ : ByteArray)) ++ nu)
   | 14 => .string (((((((⟨#[116,97,98,108,101,32]⟩ : ByteArray) ++ nm) ++ (⟨#[32]⟩ : ByteArray)) ++ (⟨#[102,114,111,109]⟩ : ByteArray)) ++ (⟨#[32]⟩ : ByteArray)) ++ nu) ++ (⟨#[32]⟩ : ByteArray))
   | 15 => .string ((((((((⟨#[116,97,98,108,101,32]⟩ : ByteArray) ++ nm) ++ (⟨#[32]⟩ : ByteArray)) ++ (⟨#[102,114,111,109]⟩ : ByteArray)) ++ (⟨#[32]⟩ : ByteArray)) ++ nu) ++ (⟨#[32]⟩ : ByteArray)) ++ (⟨#[114,97,116,101,115]⟩ : ByteArray))
   | 16 => .string (((((((((⟨#[116,97,98,108,101,32]⟩ : ByteArray) ++ nm) ++ (⟨#[32]⟩ : ByteArray)) ++ (⟨#[102,114,111,109]⟩ : ByteArray)) ++ (⟨#[32]⟩ : ByteArray)) ++ nu) ++ (⟨#[32]⟩ : ByteArray)) ++ (⟨#[114,97,116,101,115]⟩ : ByteArray)) ++ (⟨#[32]⟩ : ByteArray))
   | 17 => .pointer (some ⟨g,0,none⟩)
   | 18 => .pointer (some ⟨g,0,none⟩)
   | 19 => .pointer (some ⟨g,2,none⟩)
   | 20 => .slice q n c
   | 21 => .string (rs)
   | 22 => .string ((((((((((⟨#[116,97,98,108,101,32]⟩ : ByteArray) ++ nm) ++ (⟨#[32]⟩ : ByteArray)) ++ (⟨#[102,114,111,109]⟩ : ByteArray)) ++ (⟨#[32]⟩ : ByteArray)) ++ nu) ++ (⟨#[32]⟩ : ByteArray)) ++ (⟨#[114,97,116,101,115]⟩ : ByteArray)) ++ (⟨#[32]⟩ : ByteArray)) ++ rs)
   | _ => .string ((((((((((⟨#[116,97,98,108,101,32]⟩ : ByteArray) ++ nm) ++ (⟨#[32]⟩ : ByteArray)) ++ (⟨#[102,114,111,109]⟩ : ByteArray)) ++ (⟨#[32]⟩ : ByteArray)) ++ nu) ++ (⟨#[32]⟩ : ByteArray)) ++ (⟨#[114,97,116,101,115]⟩ : ByteArray)) ++ (⟨#[32]⟩ : ByteArray)) ++ rs)) (fun i hi => by
   have hi' : i < 24:=hi
   have hc:=h.has i hi rfl
   have : i = 0 ∨ i = 1 ∨ i = 2 ∨ i = 3 ∨ i = 4 ∨ i = 5 ∨ i = 6 ∨ i = 7 ∨ i = 8 ∨ i = 9 ∨ i = 10 ∨ i = 11 ∨ i = 12 ∨ i = 13 ∨ i = 14 ∨ i = 15 ∨ i = 16 ∨ i = 17 ∨ i = 18 ∨ i = 19 ∨ i = 20 ∨ i = 21 ∨ i = 22 ∨ i = 23:=by omega
   rcases this with rfl | rfl | rfl | rfl | rfl | rfl | rfl | rfl | rfl | rfl | rfl | rfl | rfl | rfl | rfl | rfl | rfl | rfl | rfl | rfl | rfl | rfl | rfl | rfl
   all_goals first | exact hc | rfl)
  rw [ea]
  exact hQ w (hdr h.but)
def opCd0 : Oper:={ dst:=some 94,op:=Op.move (Operand.tmp 16),type := 28,pos := "keep.go:166",after:=#[],guard:=none }
def opCd1 : Oper:={ dst:=some 95,op:=Op.binOp BinOp.eql 28 (Operand.tmp 94) (Operand.const Value.nilIface) 28,type := 4,pos := "keep.go:166",after:=#[{ on:=0,ground:=Ground.data }],guard:=none }
def opCd2 : Oper:={ dst:=some 96,op:=Op.move (Operand.tmp 95),type := 4,pos := "keep.go:166",after:=#[{ on:=1,ground:=Ground.data }],guard:=none }
def opCd3 : Oper:={ dst:=some 97,op:=Op.move (Operand.tmp 18),type := 28,pos := "keep.go:166",after:=#[{ on:=2,ground:=Ground.guard }],guard:=some (2,true) }
def opCd4 : Oper:={ dst:=some 98,op:=Op.binOp BinOp.eql 28 (Operand.tmp 97) (Operand.const Value.nilIface) 28,type := 4,pos := "keep.go:166",after:=#[{ on:=3,ground:=Ground.data },{ on:=2,ground:=Ground.guard }],guard:=some (2,true) }
def opCd5 : Oper:={ dst:=some 99,op:=Op.pick (Operand.tmp 96) (Operand.tmp 98) (Operand.const (Value.bool false)),type := 4,pos := "keep.go:166",after:=#[{ on:=2,ground:=Ground.data },{ on:=4,ground:=Ground.data }],guard:=none }
def opCd6 : Oper:={ dst:=some 100,op:=Op.move (Operand.tmp 99),type := 4,pos := "keep.go:166",after:=#[{ on:=5,ground:=Ground.data },{ on:=2,ground:=Ground.chain }],guard:=none }
def opCd7 : Oper:={ dst:=some 101,op:=Op.move (Operand.tmp 20),type := 28,pos := "keep.go:166",after:=#[{ on:=6,ground:=Ground.guard }],guard:=some (6,true) }
def opCd8 : Oper:={ dst:=some 102,op:=Op.binOp BinOp.eql 28 (Operand.tmp 101) (Operand.const Value.nilIface) 28,type := 4,pos := "keep.go:166",after:=#[{ on:=7,ground:=Ground.data },{ on:=6,ground:=Ground.guard }],guard:=some (6,true) }
def opCd9 : Oper:={ dst:=some 103,op:=Op.pick (Operand.tmp 100) (Operand.tmp 102) (Operand.const (Value.bool false)),type := 4,pos := "keep.go:166",after:=#[{ on:=6,ground:=Ground.data },{ on:=8,ground:=Ground.data }],guard:=none }
def opCd10 : Oper:={ dst:=some 104,op:=Op.move (Operand.tmp 103),type := 4,pos := "keep.go:166",after:=#[{ on:=9,ground:=Ground.data },{ on:=6,ground:=Ground.chain }],guard:=none }
def opCd11 : Oper:={ dst:=some 105,op:=Op.load 36 (Operand.tmp 15),type := 36,pos := "keep.go:166",after:=#[{ on:=10,ground:=Ground.guard }],guard:=some (10,true) }
def opCd12 : Oper:={ dst:=some 106,op:=Op.load 36 (Operand.tmp 17),type := 36,pos := "keep.go:166",after:=#[{ on:=10,ground:=Ground.guard }],guard:=some (10,true) }
def opCd13 : Oper:={ dst:=some 107,op:=Op.call { callee:=Callee.value (Operand.func 10),args:=#[Operand.tmp 105,Operand.tmp 106],argTypes:=#[36,36] },type := 36,pos := "keep.go:166",after:=#[{ on:=11,ground:=Ground.data },{ on:=12,ground:=Ground.data },{ on:=10,ground:=Ground.chain },{ on:=10,ground:=Ground.guard }],guard:=some (10,true) }
def opCd14 : Oper:={ dst:=some 108,op:=Op.load 36 (Operand.tmp 19),type := 36,pos := "keep.go:166",after:=#[{ on:=10,ground:=Ground.guard }],guard:=some (10,true) }
def opCd15 : Oper:={ dst:=some 109,op:=Op.call { callee:=Callee.value (Operand.func 9),args:=#[Operand.tmp 107,Operand.tmp 108],argTypes:=#[36,36] },type := 4,pos := "keep.go:166",after:=#[{ on:=13,ground:=Ground.data },{ on:=14,ground:=Ground.data },{ on:=13,ground:=Ground.chain },{ on:=10,ground:=Ground.guard }],guard:=some (10,true) }
def opCd16 : Oper:={ dst:=some 110,op:=Op.pick (Operand.tmp 104) (Operand.tmp 109) (Operand.const (Value.bool false)),type := 4,pos := "keep.go:166",after:=#[{ on:=10,ground:=Ground.data },{ on:=15,ground:=Ground.data }],guard:=none }
def opCd17 : Oper:={ dst:=some 10,op:=Op.assign (Operand.tmp 110),type := 4,pos := "keep.go:166",after:=#[{ on:=16,ground:=Ground.data },{ on:=15,ground:=Ground.chain },{ on:=0,ground:=Ground.phase },{ on:=1,ground:=Ground.phase },{ on:=2,ground:=Ground.phase },{ on:=3,ground:=Ground.phase },{ on:=4,ground:=Ground.phase },{ on:=5,ground:=Ground.phase },{ on:=6,ground:=Ground.phase },{ on:=7,ground:=Ground.phase },{ on:=8,ground:=Ground.phase },{ on:=9,ground:=Ground.phase },{ on:=10,ground:=Ground.phase },{ on:=11,ground:=Ground.phase },{ on:=12,ground:=Ground.phase },{ on:=13,ground:=Ground.phase },{ on:=14,ground:=Ground.phase },{ on:=15,ground:=Ground.phase },{ on:=16,ground:=Ground.phase }],guard:=none }
def opCds : Array Oper:=#[opCd0,opCd1,opCd2,opCd3,opCd4,opCd5,opCd6,opCd7,opCd8,opCd9,opCd10,opCd11,opCd12,opCd13,opCd14,opCd15,opCd16,opCd17]
def opCdT (i : Nat) : Nat:=match i with
 | 0 => 94
 | 1 => 95
 | 2 => 96
 | 3 => 97
 | 4 => 98
 | 5 => 99
 | 6 => 100
 | 7 => 101
 | 8 => 102
 | 9 => 103
 | 10 => 104
 | 11 => 105
 | 12 => 106
 | 13 => 107
 | 14 => 108
 | 15 => 109
 | 16 => 110
 | _ => 10
/-- what each operation's value is -/
def opCdC (g15 : Nat) (g17 : Nat) (g19 : Nat) (s1 : Bool) (x1 : Int) (y1 : Int) (p1 : Option Addr) (s2 : Bool) (x2 : Int) (y2 : Int) (p2 : Option Addr) (s3 : Bool) (x3 : Int) (y3 : Int) (p3 : Option Addr) (f : Rat) (i : Nat) (w : World) (v : Value) : Prop:=match i with
 | 0 => v = .nilIface
 | 1 => v = .bool true
 | 2 => v = .bool true
 | 3 => v = .nilIface
 | 4 => v = .bool true
 | 5 => v = .bool true
 | 6 => v = .bool true
 | 7 => v = .nilIface
 | 8 => v = .bool true
 | 9 => v = .bool true
 | 10 => v = .bool true
 | 11 => v = .agg #[.bool s1,.int .u64 x1,.int .u64 y1,.pointer p1]
 | 12 => v = .agg #[.bool s2,.int .u64 x2,.int .u64 y2,.pointer p2]
 | 13 => FracAt w v f
 | 14 => v = .agg #[.bool s3,.int .u64 x3,.int .u64 y3,.pointer p3]
 | 15 => v = .bool true
 | 16 => v = .bool true
 | _ => v = .bool true
theorem opCdC_but {g15 : Nat} {g17 : Nat} {g19 : Nat} {s1 : Bool} {x1 : Int} {y1 : Int} {p1 : Option Addr} {s2 : Bool} {x2 : Int} {y2 : Int} {p2 : Option Addr} {s3 : Bool} {x3 : Int} {y3 : Int} {p3 : Option Addr} {f : Rat} {i : Nat} {w w' : World} {v : Value} (h : opCdC g15 g17 g19 s1 x1 y1 p1 s2 x2 y2 p2 s3 x3 y3 p3 f i w v) (hi : i < 18) (hb : But [] w w') : opCdC g15 g17 g19 s1 x1 y1 p1 s2 x2 y2 p2 s3 x3 y3 p3 f i w' v:=by
 have : i = 0 ∨ i = 1 ∨ i = 2 ∨ i = 3 ∨ i = 4 ∨ i = 5 ∨ i = 6 ∨ i = 7 ∨ i = 8 ∨ i = 9 ∨ i = 10 ∨ i = 11 ∨ i = 12 ∨ i = 13 ∨ i = 14 ∨ i = 15 ∨ i = 16 ∨ i = 17:=by omega
 rcases this with rfl | rfl | rfl | rfl | rfl | rfl | rfl | rfl | rfl | rfl | rfl | rfl | rfl | rfl | rfl | rfl | rfl | rfl
 all_goals first | exact h | exact FracAt.but h hb | exact FracsAt.but h hb
theorem opCdT_inj : ∀ i j,i < 18→j < 18→opCdT i = opCdT j→i = j:=fun i j hi hj => (by decide : ∀ i,i < 18→∀ j,j < 18→opCdT i = opCdT j→i = j) i hi j hj
set_option maxHeartbeats 8000000 in
set_option maxRecDepth 100000 in
theorem tback_region14 (id : Nat) (Q : Exit→Act→World→Prop) (base : Act) (W0 : World) (g15 : Nat) (g17 : Nat) (g19 : Nat) (s1 : Bool) (x1 : Int) (y1 : Int) (p1 : Option Addr) (s2 : Bool) (x2 : Int) (y2 : Int) (p2 : Option Addr) (s3 : Bool) (x3 : Int) (y3 : Int) (p3 : Option Addr) (f : Rat) (hs : 110 < base.tmps.size) (e16 : base.eval (.tmp 16) = .nilIface) (e18 : base.eval (.tmp 18) = .nilIface) (e20 : base.eval (.tmp 20) = .nilIface) (e15 : base.eval (.tmp 15) = .pointer (some ⟨g15,0,none⟩)) (e17 : base.eval (.tmp 17) = .pointer (some ⟨g17,0,none⟩)) (e19 : base.eval (.tmp 19) = .pointer (some ⟨g19,0,none⟩))
  (c1 : P4o W0 g15 0 s1 x1 y1 p1) (c2 : P4o W0 g17 0 s2 x2 y2 p2) (c3 : P4o W0 g19 0 s3 x3 y3 p3) (MU : ∀ w,But [] W0 w→Calls Tryz.prog 10 #[.agg #[.bool s1,.int .u64 x1,.int .u64 y1,.pointer p1],.agg #[.bool s2,.int .u64 x2,.int .u64 y2,.pointer p2]] w fun e w' => ∃ v,e = .returned v∧FracAt w' v f∧But [] w w') (LK : ∀ w,But [] W0 w→∀ v,FracAt w v f→Calls Tryz.prog 9 #[v,.agg #[.bool s3,.int .u64 x3,.int .u64 y3,.pointer p3]] w fun e w' => e = .returned (.bool true)∧But [] w w')
  (hQ : ∀ w (v13 : Value),But [] W0 w→Q .normal (putted base [(94,.nilIface),(95,.bool true),(96,.bool true),(97,.nilIface),(98,.bool true),(99,.bool true),(100,.bool true),(101,.nilIface),(102,.bool true),(103,.bool true),(104,.bool true),(105,.agg #[.bool s1,.int .u64 x1,.int .u64 y1,.pointer p1]),(106,.agg #[.bool s2,.int .u64 x2,.int .u64 y2,.pointer p2]),(107,v13),(108,.agg #[.bool s3,.int .u64 x3,.int .u64 y3,.pointer p3]),(109,.bool true),(110,.bool true),(10,.bool true)]) w) :
  (Code.region id opCds true).wp Tryz.prog Q base W0:=by
 have hdr : ∀ {w},But [] W0.drew w→But [] W0 w:=fun h => (But.refl _ _).drew.trans' h
 have hT : ∀ i,i < 18→opCdT i < base.tmps.size:=fun i hi => by
  have h : opCdT i ≤ 110:=by revert i; decide
  omega
 refine region_go (by kernel_rfl) (low_of (by kernel_rfl)) (opCdC g15 g17 g19 s1 x1 y1 p1 s2 x2 y2 p2 s3 x3 y3 p3 f) opCdT (by kernel_rfl) ?_ opCdT_inj hT (fun i w w' v hi h hb => opCdC_but h hi hb) ?_ ?_
 ·intro i o j want ho hg w v hv
  have hi : i < 18:=(Array.getElem?_eq_some_iff.1 ho).1
  have : i = 0 ∨ i = 1 ∨ i = 2 ∨ i = 3 ∨ i = 4 ∨ i = 5 ∨ i = 6 ∨ i = 7 ∨ i = 8 ∨ i = 9 ∨ i = 10 ∨ i = 11 ∨ i = 12 ∨ i = 13 ∨ i = 14 ∨ i = 15 ∨ i = 16 ∨ i = 17:=by omega
  rcases this with rfl | rfl | rfl | rfl | rfl | rfl | rfl | rfl | rfl | rfl | rfl | rfl | rfl | rfl | rfl | rfl | rfl | rfl
  ·obtain rfl:=Option.some.inj ((show opCds[0]? = some opCd0 from rfl).symm.trans ho)
   exact absurd (show (none : Option (Nat × Bool)) = some (j,want) from hg) (by simp)
  ·obtain rfl:=Option.some.inj ((show opCds[1]? = some opCd1 from rfl).symm.trans ho)
   exact absurd (show (none : Option (Nat × Bool)) = some (j,want) from hg) (by simp)
  ·obtain rfl:=Option.some.inj ((show opCds[2]? = some opCd2 from rfl).symm.trans ho)
   exact absurd (show (none : Option (Nat × Bool)) = some (j,want) from hg) (by simp)
  ·obtain rfl:=Option.some.inj ((show opCds[3]? = some opCd3 from rfl).symm.trans ho)
   obtain ⟨rfl,rfl⟩:=Prod.mk.inj (Option.some.inj (show some (2,true) = some (j,want) from hg))
   exact hv
  ·obtain rfl:=Option.some.inj ((show opCds[4]? = some opCd4 from rfl).symm.trans ho)
   obtain ⟨rfl,rfl⟩:=Prod.mk.inj (Option.some.inj (show some (2,true) = some (j,want) from hg))
   exact hv
  ·obtain rfl:=Option.some.inj ((show opCds[5]? = some opCd5 from rfl).symm.trans ho)
   exact absurd (show (none : Option (Nat × Bool)) = some (j,want) from hg) (by simp)
  ·obtain rfl:=Option.some.inj ((show opCds[6]? = some opCd6 from rfl).symm.trans ho)
   exact absurd (show (none : Option (Nat × Bool)) = some (j,want) from hg) (by simp)
  ·obtain rfl:=Option.some.inj ((show opCds[7]? = some opCd7 from rfl).symm.trans ho)
   obtain ⟨rfl,rfl⟩:=Prod.mk.inj (Option.some.inj (show some (6,true) = some (j,want) from hg))
   exact hv
  ·obtain rfl:=Option.some.inj ((show opCds[8]? = some opCd8 from rfl).symm.trans ho)
   obtain ⟨rfl,rfl⟩:=Prod.mk.inj (Option.some.inj (show some (6,true) = some (j,want) from hg))
   exact hv
  ·obtain rfl:=Option.some.inj ((show opCds[9]? = some opCd9 from rfl).symm.trans ho)
   exact absurd (show (none : Option (Nat × Bool)) = some (j,want) from hg) (by simp)
  ·obtain rfl:=Option.some.inj ((show opCds[10]? = some opCd10 from rfl).symm.trans ho)
   exact absurd (show (none : Option (Nat × Bool)) = some (j,want) from hg) (by simp)
  ·obtain rfl:=Option.some.inj ((show opCds[11]? = some opCd11 from rfl).symm.trans ho)
   obtain ⟨rfl,rfl⟩:=Prod.mk.inj (Option.some.inj (show some (10,true) = some (j,want) from hg))
   exact hv
  ·obtain rfl:=Option.some.inj ((show opCds[12]? = some opCd12 from rfl).symm.trans ho)
   obtain ⟨rfl,rfl⟩:=Prod.mk.inj (Option.some.inj (show some (10,true) = some (j,want) from hg))
   exact hv
  ·obtain rfl:=Option.some.inj ((show opCds[13]? = some opCd13 from rfl).symm.trans ho)
   obtain ⟨rfl,rfl⟩:=Prod.mk.inj (Option.some.inj (show some (10,true) = some (j,want) from hg))
   exact hv
  ·obtain rfl:=Option.some.inj ((show opCds[14]? = some opCd14 from rfl).symm.trans ho)
   obtain ⟨rfl,rfl⟩:=Prod.mk.inj (Option.some.inj (show some (10,true) = some (j,want) from hg))
   exact hv
  ·obtain rfl:=Option.some.inj ((show opCds[15]? = some opCd15 from rfl).symm.trans ho)
   obtain ⟨rfl,rfl⟩:=Prod.mk.inj (Option.some.inj (show some (10,true) = some (j,want) from hg))
   exact hv
  ·obtain rfl:=Option.some.inj ((show opCds[16]? = some opCd16 from rfl).symm.trans ho)
   exact absurd (show (none : Option (Nat × Bool)) = some (j,want) from hg) (by simp)
  ·obtain rfl:=Option.some.inj ((show opCds[17]? = some opCd17 from rfl).symm.trans ho)
   exact absurd (show (none : Option (Nat × Bool)) = some (j,want) from hg) (by simp)
 ·intro i o a w K ho hH he hdep hk
  have hi : i < 18:=(Array.getElem?_eq_some_iff.1 ho).1
  have hD:=dep_have (ps:=[(1,0),(2,1),(3,2),(4,2),(4,3),(5,2),(5,4),(6,2),(6,5),(7,6),(8,6),(8,7),(9,6),(9,8),(10,6),(10,9),(11,10),(12,10),(13,10),(13,11),(13,12),(14,10),(15,10),(15,13),(15,14),(16,10),(16,15),(17,0),(17,1),(17,2),(17,3),(17,4),(17,5),(17,6),(17,7),(17,8),(17,9),(17,10),(17,11),(17,12),(17,13),(17,14),(17,15),(17,16)]) (by kernel_rfl) ho (fun j => opCdC g15 g17 g19 s1 x1 y1 p1 s2 x2 y2 p2 s3 x3 y3 p3 f j w (a.eval (.tmp (opCdT j)))) hdep
  have e16':=(he 16 (fun j hj e => absurd e.symm (by revert j; decide))).trans e16
  have e18':=(he 18 (fun j hj e => absurd e.symm (by revert j; decide))).trans e18
  have e20':=(he 20 (fun j hj e => absurd e.symm (by revert j; decide))).trans e20
  have e15':=(he 15 (fun j hj e => absurd e.symm (by revert j; decide))).trans e15
  have e17':=(he 17 (fun j hj e => absurd e.symm (by revert j; decide))).trans e17
  have e19':=(he 19 (fun j hj e => absurd e.symm (by revert j; decide))).trans e19
  have : i = 0 ∨ i = 1 ∨ i = 2 ∨ i = 3 ∨ i = 4 ∨ i = 5 ∨ i = 6 ∨ i = 7 ∨ i = 8 ∨ i = 9 ∨ i = 10 ∨ i = 11 ∨ i = 12 ∨ i = 13 ∨ i = 14 ∨ i = 15 ∨ i = 16 ∨ i = 17:=by omega
  rcases this with rfl | rfl | rfl | rfl | rfl | rfl | rfl | rfl | rfl | rfl | rfl | rfl | rfl | rfl | rfl | rfl | rfl | rfl
  ·obtain rfl:=Option.some.inj ((show opCds[0]? = some opCd0 from rfl).symm.trans ho)
   exact wp_value (run_mvK a w _ _ _ _ _ _ _ e16') (hk _ _ (But.refl _ _) rfl)
  ·obtain rfl:=Option.some.inj ((show opCds[1]? = some opCd1 from rfl).symm.trans ho)
   exact wp_value (run_eqTn a w _ _ _ _ _ _ (hD 0 (by simp))) (hk _ _ (But.refl _ _) rfl)
  ·obtain rfl:=Option.some.inj ((show opCds[2]? = some opCd2 from rfl).symm.trans ho)
   exact wp_value (run_mvK a w _ _ _ _ _ _ _ (hD 1 (by simp))) (hk _ _ (But.refl _ _) rfl)
  ·obtain rfl:=Option.some.inj ((show opCds[3]? = some opCd3 from rfl).symm.trans ho)
   exact wp_value (run_mvK a w _ _ _ _ _ _ _ e18') (hk _ _ (But.refl _ _) rfl)
  ·obtain rfl:=Option.some.inj ((show opCds[4]? = some opCd4 from rfl).symm.trans ho)
   exact wp_value (run_eqTn a w _ _ _ _ _ _ (hD 3 (by simp))) (hk _ _ (But.refl _ _) rfl)
  ·obtain rfl:=Option.some.inj ((show opCds[5]? = some opCd5 from rfl).symm.trans ho)
   exact wp_value (run_pickT a w _ _ _ _ _ _ _ _ (hD 2 (by simp)) (hD 4 (by simp))) (hk _ _ (But.refl _ _) rfl)
  ·obtain rfl:=Option.some.inj ((show opCds[6]? = some opCd6 from rfl).symm.trans ho)
   exact wp_value (run_mvK a w _ _ _ _ _ _ _ (hD 5 (by simp))) (hk _ _ (But.refl _ _) rfl)
  ·obtain rfl:=Option.some.inj ((show opCds[7]? = some opCd7 from rfl).symm.trans ho)
   exact wp_value (run_mvK a w _ _ _ _ _ _ _ e20') (hk _ _ (But.refl _ _) rfl)
  ·obtain rfl:=Option.some.inj ((show opCds[8]? = some opCd8 from rfl).symm.trans ho)
   exact wp_value (run_eqTn a w _ _ _ _ _ _ (hD 7 (by simp))) (hk _ _ (But.refl _ _) rfl)
  ·obtain rfl:=Option.some.inj ((show opCds[9]? = some opCd9 from rfl).symm.trans ho)
   exact wp_value (run_pickT a w _ _ _ _ _ _ _ _ (hD 6 (by simp)) (hD 8 (by simp))) (hk _ _ (But.refl _ _) rfl)
  ·obtain rfl:=Option.some.inj ((show opCds[10]? = some opCd10 from rfl).symm.trans ho)
   exact wp_value (run_mvK a w _ _ _ _ _ _ _ (hD 9 (by simp))) (hk _ _ (But.refl _ _) rfl)
  ·obtain rfl:=Option.some.inj ((show opCds[11]? = some opCd11 from rfl).symm.trans ho)
   exact wp_value (run_loadK a w _ _ _ _ _ _ g15 0 _ _ _ _ e15' (c1.but (hdr hH) (by simp))) (hk _ _ (But.refl _ _) rfl)
  ·obtain rfl:=Option.some.inj ((show opCds[12]? = some opCd12 from rfl).symm.trans ho)
   exact wp_value (run_loadK a w _ _ _ _ _ _ g17 0 _ _ _ _ e17' (c2.but (hdr hH) (by simp))) (hk _ _ (But.refl _ _) rfl)
  ·obtain rfl:=Option.some.inj ((show opCds[13]? = some opCd13 from rfl).symm.trans ho)
   exact wp_enter (run_mulK a w _ _ _ _ _ _ _ _ _ (hD 11 (by simp)) (hD 12 (by simp))) (R:=fun w' v => FracAt w' v (f)∧But [] w w') (MU w (hdr hH)) (fun v w' hv => hk v w' hv.2 hv.1)
  ·obtain rfl:=Option.some.inj ((show opCds[14]? = some opCd14 from rfl).symm.trans ho)
   exact wp_value (run_loadK a w _ _ _ _ _ _ g19 0 _ _ _ _ e19' (c3.but (hdr hH) (by simp))) (hk _ _ (But.refl _ _) rfl)
  ·obtain rfl:=Option.some.inj ((show opCds[15]? = some opCd15 from rfl).symm.trans ho)
   exact wp_enter (run_likeT a w _ _ _ _ _ _ _ _ _ rfl (hD 14 (by simp))) (R:=fun w' v => But [] w w'∧v = _) ((LK w (hdr hH) _ (hD 13 (by simp))).mono fun e w' ⟨he,hb⟩ => ⟨_,he,hb,rfl⟩) (fun v w' hv => hk v w' hv.1 hv.2)
  ·obtain rfl:=Option.some.inj ((show opCds[16]? = some opCd16 from rfl).symm.trans ho)
   exact wp_value (run_pickT a w _ _ _ _ _ _ _ _ (hD 10 (by simp)) (hD 15 (by simp))) (hk _ _ (But.refl _ _) rfl)
  ·obtain rfl:=Option.some.inj ((show opCds[17]? = some opCd17 from rfl).symm.trans ho)
   exact wp_value (run_asK a w _ _ _ _ _ _ _ (hD 16 (by simp))) (hk _ _ (But.refl _ _) rfl)
 ·intro a w h
  have ea:=h.puts hT (fun i => match i with
   | 0 => .nilIface
   | 1 => .bool true
   | 2 => .bool true
   | 3 => .nilIface
   | 4 => .bool true
   | 5 => .bool true
   | 6 => .bool true
   | 7 => .nilIface
   | 8 => .bool true
   | 9 => .bool true
   | 10 => .bool true
   | 11 => .agg #[.bool s1,.int .u64 x1,.int .u64 y1,.pointer p1]
   | 12 => .agg #[.bool s2,.int .u64 x2,.int .u64 y2,.pointer p2]
   | 13 => a.eval (.tmp 107)
   | 14 => .agg #[.bool s3,.int .u64 x3,.int .u64 y3,.pointer p3]
   | 15 => .bool true
   | 16 => .bool true
   | _ => .bool true) (fun i hi => by
   have hi' : i < 18:=hi
   have hc:=h.has i hi rfl
   have : i = 0 ∨ i = 1 ∨ i = 2 ∨ i = 3 ∨ i = 4 ∨ i = 5 ∨ i = 6 ∨ i = 7 ∨ i = 8 ∨ i = 9 ∨ i = 10 ∨ i = 11 ∨ i = 12 ∨ i = 13 ∨ i = 14 ∨ i = 15 ∨ i = 16 ∨ i = 17:=by omega
   rcases this with rfl | rfl | rfl | rfl | rfl | rfl | rfl | rfl | rfl | rfl | rfl | rfl | rfl | rfl | rfl | rfl | rfl | rfl
   all_goals first | exact hc | rfl)
  rw [ea]
  exact hQ w (a.eval (.tmp 107)) (hdr h.but)
def opCe0 : Oper:={ dst:=some 5,op:=Op.call { callee:=Callee.value (Operand.func 22),args:=#[Operand.const (Value.int IntKind.i64 1)],argTypes:=#[3] },type := 36,pos := "table.go:91",after:=#[],guard:=none }
def opCe1 : Oper:={ dst:=some 6,op:=Op.move (Operand.tmp 0),type := 23,pos := "table.go:91",after:=#[],guard:=none }
def opCe2 : Oper:={ dst:=some 7,op:=Op.nilCheck (Operand.tmp 6),type:=0,pos := "table.go:91",after:=#[{ on:=1,ground:=Ground.data }],guard:=none }
def opCe3 : Oper:={ dst:=some 8,op:=Op.fieldAddr 60 (Operand.tmp 7) 2,type:=0,pos := "table.go:91",after:=#[{ on:=2,ground:=Ground.data }],guard:=none }
def opCe4 : Oper:={ dst:=some 9,op:=Op.load 43 (Operand.tmp 8),type := 43,pos := "table.go:91",after:=#[{ on:=3,ground:=Ground.data }],guard:=none }
def opCe5 : Oper:={ dst:=some 10,op:=Op.move (Operand.tmp 1),type := 3,pos := "table.go:91",after:=#[],guard:=none }
def opCe6 : Oper:={ dst:=some 11,op:=Op.move (Operand.tmp 0),type := 23,pos := "table.go:91",after:=#[],guard:=none }
def opCe7 : Oper:={ dst:=some 12,op:=Op.nilCheck (Operand.tmp 11),type:=0,pos := "table.go:91",after:=#[{ on:=6,ground:=Ground.data }],guard:=none }
def opCe8 : Oper:={ dst:=some 13,op:=Op.fieldAddr 60 (Operand.tmp 12) 1,type:=0,pos := "table.go:91",after:=#[{ on:=7,ground:=Ground.data }],guard:=none }
def opCe9 : Oper:={ dst:=some 14,op:=Op.load 3 (Operand.tmp 13),type := 3,pos := "table.go:91",after:=#[{ on:=8,ground:=Ground.data }],guard:=none }
def opCe10 : Oper:={ dst:=some 15,op:=Op.binOp BinOp.sub 3 (Operand.tmp 10) (Operand.tmp 14) 3,type := 3,pos := "table.go:91",after:=#[{ on:=5,ground:=Ground.data },{ on:=9,ground:=Ground.data }],guard:=none }
def opCe11 : Oper:={ dst:=some 16,op:=Op.indexAddr 43 (Operand.tmp 9) (Operand.tmp 15),type:=0,pos := "table.go:91",after:=#[{ on:=4,ground:=Ground.data },{ on:=10,ground:=Ground.data }],guard:=none }
def opCe12 : Oper:={ dst:=some 17,op:=Op.load 36 (Operand.tmp 16),type := 36,pos := "table.go:91",after:=#[{ on:=11,ground:=Ground.data }],guard:=none }
def opCe13 : Oper:={ dst:=some 18,op:=Op.call { callee:=Callee.value (Operand.func 43),args:=#[Operand.tmp 5,Operand.tmp 17],argTypes:=#[36,36] },type := 36,pos := "table.go:91",after:=#[{ on:=0,ground:=Ground.data },{ on:=12,ground:=Ground.data },{ on:=0,ground:=Ground.chain }],guard:=none }
def opCe14 : Oper:={ dst:=none,op:=Op.store 36 (Operand.tmp 4) (Operand.tmp 18),type:=0,pos := "table.go:91",after:=#[{ on:=13,ground:=Ground.data },{ on:=13,ground:=Ground.chain },{ on:=0,ground:=Ground.phase },{ on:=1,ground:=Ground.phase },{ on:=2,ground:=Ground.phase },{ on:=3,ground:=Ground.phase },{ on:=4,ground:=Ground.phase },{ on:=5,ground:=Ground.phase },{ on:=6,ground:=Ground.phase },{ on:=7,ground:=Ground.phase },{ on:=8,ground:=Ground.phase },{ on:=9,ground:=Ground.phase },{ on:=10,ground:=Ground.phase },{ on:=11,ground:=Ground.phase },{ on:=12,ground:=Ground.phase },{ on:=13,ground:=Ground.phase }],guard:=none }
def opCes : Array Oper:=#[opCe0,opCe1,opCe2,opCe3,opCe4,opCe5,opCe6,opCe7,opCe8,opCe9,opCe10,opCe11,opCe12,opCe13,opCe14]
def opCeT (i : Nat) : Nat:=match i with
 | 0 => 5
 | 1 => 6
 | 2 => 7
 | 3 => 8
 | 4 => 9
 | 5 => 10
 | 6 => 11
 | 7 => 12
 | 8 => 13
 | 9 => 14
 | 10 => 15
 | 11 => 16
 | 12 => 17
 | _ => 18
/-- what each operation's value is -/
def opCeC (g : Nat) (y : Int) (z : Int) (m : Nat) (b : Nat) (off : Nat) (n : Nat) (c : Nat) (r : Bool) (p : Int) (s1 : Bool) (x1 : Int) (y1 : Int) (p1 : Option Addr) (f : Rat) (i : Nat) (w : World) (v : Value) : Prop:=match i with
 | 0 => v = .agg #[.bool r,.int .u64 p,.int .u64 0,.pointer none]
 | 1 => v = .pointer (some ⟨g,0,none⟩)
 | 2 => v = .pointer (some ⟨g,0,none⟩)
 | 3 => v = .pointer (some ⟨g,2,none⟩)
 | 4 => v = .slice (some ⟨b,off,none⟩) n c
 | 5 => v = .int .i64 y
 | 6 => v = .pointer (some ⟨g,0,none⟩)
 | 7 => v = .pointer (some ⟨g,0,none⟩)
 | 8 => v = .pointer (some ⟨g,1,none⟩)
 | 9 => v = .int .i64 z
 | 10 => v = .int .i64 (m : Int)
 | 11 => v = .pointer (some ⟨b,off + m * 4,none⟩)
 | 12 => v = .agg #[.bool s1,.int .u64 x1,.int .u64 y1,.pointer p1]
 | _ => FracAt w v f
theorem opCeC_but {g : Nat} {y : Int} {z : Int} {m : Nat} {b : Nat} {off : Nat} {n : Nat} {c : Nat} {r : Bool} {p : Int} {s1 : Bool} {x1 : Int} {y1 : Int} {p1 : Option Addr} {f : Rat} {i : Nat} {w w' : World} {v : Value} (h : opCeC g y z m b off n c r p s1 x1 y1 p1 f i w v) (hi : i < 14) (hb : But [] w w') : opCeC g y z m b off n c r p s1 x1 y1 p1 f i w' v:=by
 have : i = 0 ∨ i = 1 ∨ i = 2 ∨ i = 3 ∨ i = 4 ∨ i = 5 ∨ i = 6 ∨ i = 7 ∨ i = 8 ∨ i = 9 ∨ i = 10 ∨ i = 11 ∨ i = 12 ∨ i = 13:=by omega
 rcases this with rfl | rfl | rfl | rfl | rfl | rfl | rfl | rfl | rfl | rfl | rfl | rfl | rfl | rfl
 all_goals first | exact h | exact FracAt.but h hb | exact FracsAt.but h hb
theorem opCeT_inj : ∀ i j,i < 14→j < 14→opCeT i = opCeT j→i = j:=fun i j hi hj => (by decide : ∀ i,i < 14→∀ j,j < 14→opCeT i = opCeT j→i = j) i hi j hj
set_option maxHeartbeats 8000000 in
set_option maxRecDepth 100000 in
theorem stays_region1 (id : Nat) (Q : Exit→Act→World→Prop) (base : Act) (W0 : World) (g : Nat) (y : Int) (z : Int) (m : Nat) (b : Nat) (off : Nat) (n : Nat) (c : Nat) (r : Bool) (p : Int) (s1 : Bool) (x1 : Int) (y1 : Int) (p1 : Option Addr) (f : Rat) (gb : Nat) {sb : Bool} {xb yb : Int} {pb : Option Addr} (hs : 18 < base.tmps.size) (eb : base.eval (.tmp 4) = .pointer (some ⟨gb,0,none⟩)) (cb : P4 W0 gb sb xb yb pb) (fzb : ∀ j,W0.frozen? ⟨gb,j,none⟩ = false) (e0 : base.eval (.tmp 0) = .pointer (some ⟨g,0,none⟩)) (e1 : base.eval (.tmp 1) = .int .i64 y)
  (hm : m < n) (hn2 : n < 1000000) (hyz : y - z = (m : Int)) (hmb : -9223372036854775808 ≤ (m : Int)∧(m : Int) < 9223372036854775808) (c1 : W0.cell? ⟨g,1,none⟩ = some (.int .i64 z)) (c2 : W0.cell? ⟨g,2,none⟩ = some (.slice (some ⟨b,off,none⟩) n c)) (cf : P4o W0 b (off + m * 4) s1 x1 y1 p1) (WH : ∀ w,Calls Tryz.prog 22 #[.int .i64 1] w fun e w' => e = .returned (.agg #[.bool r,.int .u64 p,.int .u64 0,.pointer none])∧But [] w w') (SU : ∀ w,But [] W0 w→Calls Tryz.prog 43 #[.agg #[.bool r,.int .u64 p,.int .u64 0,.pointer none],.agg #[.bool s1,.int .u64 x1,.int .u64 y1,.pointer p1]] w fun e w' => ∃ v,e = .returned v∧FracAt w' v f∧But [] w w')
  (hQ : ∀ w1 s' x' y' p',But [] W0 w1→FracAt w1 (.agg #[.bool s',.int .u64 x',.int .u64 y',.pointer p']) (f)→Q .normal (putted base [(5,.agg #[.bool r,.int .u64 p,.int .u64 0,.pointer none]),(6,.pointer (some ⟨g,0,none⟩)),(7,.pointer (some ⟨g,0,none⟩)),(8,.pointer (some ⟨g,2,none⟩)),(9,.slice (some ⟨b,off,none⟩) n c),(10,.int .i64 y),(11,.pointer (some ⟨g,0,none⟩)),(12,.pointer (some ⟨g,0,none⟩)),(13,.pointer (some ⟨g,1,none⟩)),(14,.int .i64 z),(15,.int .i64 (m : Int)),(16,.pointer (some ⟨b,off + m * 4,none⟩)),(17,.agg #[.bool s1,.int .u64 x1,.int .u64 y1,.pointer p1]),(18,(.agg #[.bool s',.int .u64 x',.int .u64 y',.pointer p']))]) (put4 w1 gb s' x' y' p')) :
  (Code.region id opCes true).wp Tryz.prog Q base W0:=by
 have hdr : ∀ {w},But [] W0.drew w→But [] W0 w:=fun h => (But.refl _ _).drew.trans' h
 have lgb : gb < W0.heap.size:=lt_of_cell cb.1
 have hT : ∀ i,i < 14→opCeT i < base.tmps.size:=fun i hi => by
  have h : opCeT i ≤ 18:=by revert i; decide
  omega
 refine region_flow (by kernel_rfl) (low_of (by kernel_rfl)) (fun i o ho => (calm_of (ops:=opCes) (by kernel_rfl) i o ho).1)
  (fun _ w => But [] W0.drew w) (opCeC g y z m b off n c r p s1 x1 y1 p1 f) opCeT 14 rfl opCeT_inj hT (But.refl _ _)
  (fun i hi => ?_) ?_ (fun a w => ∃ w1 s' x' y' p',a = putted base [(5,.agg #[.bool r,.int .u64 p,.int .u64 0,.pointer none]),(6,.pointer (some ⟨g,0,none⟩)),(7,.pointer (some ⟨g,0,none⟩)),(8,.pointer (some ⟨g,2,none⟩)),(9,.slice (some ⟨b,off,none⟩) n c),(10,.int .i64 y),(11,.pointer (some ⟨g,0,none⟩)),(12,.pointer (some ⟨g,0,none⟩)),(13,.pointer (some ⟨g,1,none⟩)),(14,.int .i64 z),(15,.int .i64 (m : Int)),(16,.pointer (some ⟨b,off + m * 4,none⟩)),(17,.agg #[.bool s1,.int .u64 x1,.int .u64 y1,.pointer p1]),(18,(.agg #[.bool s',.int .u64 x',.int .u64 y',.pointer p']))]∧w = put4 w1 gb s' x' y' p'∧But [] W0 w1∧FracAt w1 (.agg #[.bool s',.int .u64 x',.int .u64 y',.pointer p']) (f)) ?_ ?_
 ·exact dep_of (ops:=opCes) (ps:=[(14,0),(14,1),(14,2),(14,3),(14,4),(14,5),(14,6),(14,7),(14,8),(14,9),(14,10),(14,11),(14,12),(14,13)]) (by kernel_rfl) 14 i (by
   have : i = 0 ∨ i = 1 ∨ i = 2 ∨ i = 3 ∨ i = 4 ∨ i = 5 ∨ i = 6 ∨ i = 7 ∨ i = 8 ∨ i = 9 ∨ i = 10 ∨ i = 11 ∨ i = 12 ∨ i = 13:=by omega
   rcases this with rfl | rfl | rfl | rfl | rfl | rfl | rfl | rfl | rfl | rfl | rfl | rfl | rfl | rfl <;> simp)
 ·intro dn i o a w K hi ho hdi hH he hdep hK
  have hD:=fun j hj => (dep_have (ps:=[(2,1),(3,2),(4,3),(7,6),(8,7),(9,8),(10,5),(10,9),(11,4),(11,10),(12,11),(13,0),(13,12)]) (by kernel_rfl) ho (fun j => dn j = true∧opCeC g y z m b off n c r p s1 x1 y1 p1 f j w (a.eval (.tmp (opCeT j)))) hdep j hj).2
  have hk : ∀ v w',But [] w w'→opCeC g y z m b off n c r p s1 x1 y1 p1 f i w' v→K (a.put (some (opCeT i)) v) w':=fun v w' hb hv => hK v w' (hH.trans' hb) (fun j hj _ u hu => opCeC_but hu hj hb) hv
  have eb':=(he 4 (fun j hj e => absurd e.symm (by revert j; decide))).trans eb
  have e0':=(he 0 (fun j hj e => absurd e.symm (by revert j; decide))).trans e0
  have e1':=(he 1 (fun j hj e => absurd e.symm (by revert j; decide))).trans e1
  have : i = 0 ∨ i = 1 ∨ i = 2 ∨ i = 3 ∨ i = 4 ∨ i = 5 ∨ i = 6 ∨ i = 7 ∨ i = 8 ∨ i = 9 ∨ i = 10 ∨ i = 11 ∨ i = 12 ∨ i = 13:=by omega
  rcases this with rfl | rfl | rfl | rfl | rfl | rfl | rfl | rfl | rfl | rfl | rfl | rfl | rfl | rfl
  ·obtain rfl:=Option.some.inj ((show opCes[0]? = some opCe0 from rfl).symm.trans ho)
   exact wp_enter (run_oneT a w _ _ _ _ _) (R:=fun w' v => But [] w w'∧v = _) ((WH w).mono fun e w' ⟨he,hb⟩ => ⟨_,he,hb,rfl⟩) (fun v w' hv => hk v w' hv.1 hv.2)
  ·obtain rfl:=Option.some.inj ((show opCes[1]? = some opCe1 from rfl).symm.trans ho)
   exact wp_value (run_mvK a w _ _ _ _ _ _ _ e0') (hk _ _ (But.refl _ _) rfl)
  ·obtain rfl:=Option.some.inj ((show opCes[2]? = some opCe2 from rfl).symm.trans ho)
   exact wp_value (run_nilT a w _ _ _ _ _ _ g 0 (hD 1 (by simp))) (hk _ _ (But.refl _ _) rfl)
  ·obtain rfl:=Option.some.inj ((show opCes[3]? = some opCe3 from rfl).symm.trans ho)
   exact wp_value (run_fdT2 a w _ _ _ _ _ _ g (hD 2 (by simp))) (hk _ _ (But.refl _ _) rfl)
  ·obtain rfl:=Option.some.inj ((show opCes[4]? = some opCe4 from rfl).symm.trans ho)
   exact wp_value (run_ldRT a w _ _ _ _ _ _ g 2 (some ⟨b,off,none⟩) n c (hD 3 (by simp)) ((hdr hH).cell_some c2 (by simp))) (hk _ _ (But.refl _ _) rfl)
  ·obtain rfl:=Option.some.inj ((show opCes[5]? = some opCe5 from rfl).symm.trans ho)
   exact wp_value (run_mvK a w _ _ _ _ _ _ _ e1') (hk _ _ (But.refl _ _) rfl)
  ·obtain rfl:=Option.some.inj ((show opCes[6]? = some opCe6 from rfl).symm.trans ho)
   exact wp_value (run_mvK a w _ _ _ _ _ _ _ e0') (hk _ _ (But.refl _ _) rfl)
  ·obtain rfl:=Option.some.inj ((show opCes[7]? = some opCe7 from rfl).symm.trans ho)
   exact wp_value (run_nilT a w _ _ _ _ _ _ g 0 (hD 6 (by simp))) (hk _ _ (But.refl _ _) rfl)
  ·obtain rfl:=Option.some.inj ((show opCes[8]? = some opCe8 from rfl).symm.trans ho)
   exact wp_value (run_fdT1 a w _ _ _ _ _ _ g (hD 7 (by simp))) (hk _ _ (But.refl _ _) rfl)
  ·obtain rfl:=Option.some.inj ((show opCes[9]? = some opCe9 from rfl).symm.trans ho)
   exact wp_value (run_loadI a w _ _ _ _ _ _ g 1 z (hD 8 (by simp)) ((hdr hH).cell_some c1 (by simp))) (hk _ _ (But.refl _ _) rfl)
  ·obtain rfl:=Option.some.inj ((show opCes[10]? = some opCe10 from rfl).symm.trans ho)
   exact wp_value (run_subT a w _ _ _ _ _ _ _ _ _ _ hyz hmb (hD 5 (by simp)) (hD 9 (by simp))) (hk _ _ (But.refl _ _) rfl)
  ·obtain rfl:=Option.some.inj ((show opCes[11]? = some opCe11 from rfl).symm.trans ho)
   exact wp_value (run_indexK a w _ _ _ _ _ _ _ b off n c m hm hn2 (hD 4 (by simp)) (hD 10 (by simp))) (hk _ _ (But.refl _ _) rfl)
  ·obtain rfl:=Option.some.inj ((show opCes[12]? = some opCe12 from rfl).symm.trans ho)
   exact wp_value (run_loadK a w _ _ _ _ _ _ b (off + m * 4) _ _ _ _ (hD 11 (by simp)) (cf.but (hdr hH) (by simp))) (hk _ _ (But.refl _ _) rfl)
  ·obtain rfl:=Option.some.inj ((show opCes[13]? = some opCe13 from rfl).symm.trans ho)
   exact wp_enter (run_subK a w _ _ _ _ _ _ _ _ _ (hD 0 (by simp)) (hD 12 (by simp))) (R:=fun w' v => FracAt w' v (f)∧But [] w w') (SU w (hdr hH)) (fun v w' hv => hk v w' hv.2 hv.1)
 ·intro dn o a w K ho hall h hK
  obtain rfl:=Option.some.inj ((show opCes[14]? = some opCe14 from rfl).symm.trans ho)
  have eb':=(h.eval 4 (fun j hj e => absurd e.symm (by revert j; decide))).trans eb
  have cl : FracAt w (a.eval (.tmp 18)) (f):=h.has 13 (by omega) (hall 13 (by omega))
  have cl':=cl
  obtain ⟨x',y',p',ev,-⟩:=cl.agg
  rw [ev] at cl'
  have ea:=h.puts hT (fun i => match i with
   | 0 => .agg #[.bool r,.int .u64 p,.int .u64 0,.pointer none]
   | 1 => .pointer (some ⟨g,0,none⟩)
   | 2 => .pointer (some ⟨g,0,none⟩)
   | 3 => .pointer (some ⟨g,2,none⟩)
   | 4 => .slice (some ⟨b,off,none⟩) n c
   | 5 => .int .i64 y
   | 6 => .pointer (some ⟨g,0,none⟩)
   | 7 => .pointer (some ⟨g,0,none⟩)
   | 8 => .pointer (some ⟨g,1,none⟩)
   | 9 => .int .i64 z
   | 10 => .int .i64 (m : Int)
   | 11 => .pointer (some ⟨b,off + m * 4,none⟩)
   | 12 => .agg #[.bool s1,.int .u64 x1,.int .u64 y1,.pointer p1]
   | _ => .agg #[.bool (decide ((f).num < 0)),.int .u64 x',.int .u64 y',.pointer p']) (fun i hi => by
   have hc:=h.has i hi (hall i hi)
   have : i = 0 ∨ i = 1 ∨ i = 2 ∨ i = 3 ∨ i = 4 ∨ i = 5 ∨ i = 6 ∨ i = 7 ∨ i = 8 ∨ i = 9 ∨ i = 10 ∨ i = 11 ∨ i = 12 ∨ i = 13:=by omega
   rcases this with rfl | rfl | rfl | rfl | rfl | rfl | rfl | rfl | rfl | rfl | rfl | rfl | rfl | rfl
   all_goals first | exact ev | exact hc | rfl)
  exact wp_skipped (run_store4 a w _ _ _ _ _ gb _ x' y' p' eb' ev (cb.but (hdr h.mem) (by simp)) (fun j => ((hdr h.mem).frozen (p:=⟨gb,j,none⟩) lgb (by simp)).trans (fzb j))) (hK _ _ ⟨w,_,x',y',p',ea,rfl,hdr h.mem,cl'⟩)
 ·rintro a w ⟨w1,s',x',y',p',rfl,rfl,h1,h2⟩
  exact hQ  w1 s' x' y' p' h1 h2
def opCf0 : Oper:={ dst:=some 43,op:=Op.load 36 (Operand.tmp 10),type := 36,pos := "table.go:84",after:=#[],guard:=none }
def opCf1 : Oper:={ dst:=some 44,op:=Op.move (Operand.tmp 0),type := 23,pos := "table.go:84",after:=#[],guard:=none }
def opCf2 : Oper:={ dst:=some 45,op:=Op.move (Operand.tmp 1),type := 3,pos := "table.go:84",after:=#[],guard:=none }
def opCf3 : Oper:={ dst:=some 46,op:=Op.move (Operand.tmp 11),type := 3,pos := "table.go:84",after:=#[],guard:=none }
def opCf4 : Oper:={ dst:=some 47,op:=Op.binOp BinOp.add 3 (Operand.tmp 45) (Operand.tmp 46) 3,type := 3,pos := "table.go:84",after:=#[{ on:=2,ground:=Ground.data },{ on:=3,ground:=Ground.data }],guard:=none }
def opCf5 : Oper:={ dst:=some 48,op:=Op.call { callee:=Callee.value (Operand.func 23),args:=#[Operand.tmp 44,Operand.tmp 47],argTypes:=#[23,3] },type := 36,pos := "table.go:84",after:=#[{ on:=1,ground:=Ground.data },{ on:=4,ground:=Ground.data }],guard:=none }
def opCf6 : Oper:={ dst:=some 49,op:=Op.call { callee:=Callee.value (Operand.func 10),args:=#[Operand.tmp 43,Operand.tmp 48],argTypes:=#[36,36] },type := 36,pos := "table.go:84",after:=#[{ on:=0,ground:=Ground.data },{ on:=5,ground:=Ground.data },{ on:=5,ground:=Ground.chain }],guard:=none }
def opCf7 : Oper:={ dst:=none,op:=Op.store 36 (Operand.tmp 10) (Operand.tmp 49),type:=0,pos := "table.go:84",after:=#[{ on:=6,ground:=Ground.data },{ on:=6,ground:=Ground.chain },{ on:=0,ground:=Ground.phase },{ on:=1,ground:=Ground.phase },{ on:=2,ground:=Ground.phase },{ on:=3,ground:=Ground.phase },{ on:=4,ground:=Ground.phase },{ on:=5,ground:=Ground.phase },{ on:=6,ground:=Ground.phase }],guard:=none }
def opCfs : Array Oper:=#[opCf0,opCf1,opCf2,opCf3,opCf4,opCf5,opCf6,opCf7]
def opCfT (i : Nat) : Nat:=match i with
 | 0 => 43
 | 1 => 44
 | 2 => 45
 | 3 => 46
 | 4 => 47
 | 5 => 48
 | _ => 49
/-- what each operation's value is -/
def opCfC (g : Nat) (y : Int) (k : Nat) (s : Int) (s1 : Bool) (x1 : Int) (y1 : Int) (p1 : Option Addr) (f2 : Rat) (f : Rat) (i : Nat) (w : World) (v : Value) : Prop:=match i with
 | 0 => v = .agg #[.bool s1,.int .u64 x1,.int .u64 y1,.pointer p1]
 | 1 => v = .pointer (some ⟨g,0,none⟩)
 | 2 => v = .int .i64 y
 | 3 => v = .int .i64 (k : Int)
 | 4 => v = .int .i64 s
 | 5 => FracAt w v f2
 | _ => FracAt w v f
theorem opCfC_but {g : Nat} {y : Int} {k : Nat} {s : Int} {s1 : Bool} {x1 : Int} {y1 : Int} {p1 : Option Addr} {f2 : Rat} {f : Rat} {i : Nat} {w w' : World} {v : Value} (h : opCfC g y k s s1 x1 y1 p1 f2 f i w v) (hi : i < 7) (hb : But [] w w') : opCfC g y k s s1 x1 y1 p1 f2 f i w' v:=by
 have : i = 0 ∨ i = 1 ∨ i = 2 ∨ i = 3 ∨ i = 4 ∨ i = 5 ∨ i = 6:=by omega
 rcases this with rfl | rfl | rfl | rfl | rfl | rfl | rfl
 all_goals first | exact h | exact FracAt.but h hb | exact FracsAt.but h hb
theorem opCfT_inj : ∀ i j,i < 7→j < 7→opCfT i = opCfT j→i = j:=fun i j hi hj => (by decide : ∀ i,i < 7→∀ j,j < 7→opCfT i = opCfT j→i = j) i hi j hj
set_option maxHeartbeats 8000000 in
set_option maxRecDepth 100000 in
theorem p_region10 (id : Nat) (Q : Exit→Act→World→Prop) (base : Act) (W0 : World) (g : Nat) (y : Int) (k : Nat) (s : Int) (s1 : Bool) (x1 : Int) (y1 : Int) (p1 : Option Addr) (f2 : Rat) (f : Rat) (gb : Nat) {sb : Bool} {xb yb : Int} {pb : Option Addr} (hs : 49 < base.tmps.size) (eb : base.eval (.tmp 10) = .pointer (some ⟨gb,0,none⟩)) (cb : P4 W0 gb sb xb yb pb) (fzb : ∀ j,W0.frozen? ⟨gb,j,none⟩ = false) (e0 : base.eval (.tmp 0) = .pointer (some ⟨g,0,none⟩)) (e1 : base.eval (.tmp 1) = .int .i64 y) (e11 : base.eval (.tmp 11) = .int .i64 (k : Int))
  (c1 : P4o W0 gb 0 s1 x1 y1 p1) (hs : y + (k : Int) = s) (hsb : -9223372036854775808 ≤ s∧s < 9223372036854775808) (ST : ∀ w,But [] W0 w→Calls Tryz.prog 23 #[.pointer (some ⟨g,0,none⟩),.int .i64 s] w fun e w' => ∃ v,e = .returned v∧FracAt w' v f2∧But [] w w') (MU : ∀ w,But [] W0 w→∀ v,FracAt w v f2→Calls Tryz.prog 10 #[.agg #[.bool s1,.int .u64 x1,.int .u64 y1,.pointer p1],v] w fun e w' => ∃ v,e = .returned v∧FracAt w' v f∧But [] w w')
  (hQ : ∀ w1 v5 s' x' y' p',But [] W0 w1→FracAt w1 (.agg #[.bool s',.int .u64 x',.int .u64 y',.pointer p']) (f)→Q .normal (putted base [(43,.agg #[.bool s1,.int .u64 x1,.int .u64 y1,.pointer p1]),(44,.pointer (some ⟨g,0,none⟩)),(45,.int .i64 y),(46,.int .i64 (k : Int)),(47,.int .i64 s),(48,v5),(49,(.agg #[.bool s',.int .u64 x',.int .u64 y',.pointer p']))]) (put4 w1 gb s' x' y' p')) :
  (Code.region id opCfs true).wp Tryz.prog Q base W0:=by
 have hdr : ∀ {w},But [] W0.drew w→But [] W0 w:=fun h => (But.refl _ _).drew.trans' h
 have lgb : gb < W0.heap.size:=lt_of_cell cb.1
 have hT : ∀ i,i < 7→opCfT i < base.tmps.size:=fun i hi => by
  have h : opCfT i ≤ 49:=by revert i; decide
  omega
 refine region_flow (by kernel_rfl) (low_of (by kernel_rfl)) (fun i o ho => (calm_of (ops:=opCfs) (by kernel_rfl) i o ho).1)
  (fun _ w => But [] W0.drew w) (opCfC g y k s s1 x1 y1 p1 f2 f) opCfT 7 rfl opCfT_inj hT (But.refl _ _)
  (fun i hi => ?_) ?_ (fun a w => ∃ w1 v5 s' x' y' p',a = putted base [(43,.agg #[.bool s1,.int .u64 x1,.int .u64 y1,.pointer p1]),(44,.pointer (some ⟨g,0,none⟩)),(45,.int .i64 y),(46,.int .i64 (k : Int)),(47,.int .i64 s),(48,v5),(49,(.agg #[.bool s',.int .u64 x',.int .u64 y',.pointer p']))]∧w = put4 w1 gb s' x' y' p'∧But [] W0 w1∧FracAt w1 (.agg #[.bool s',.int .u64 x',.int .u64 y',.pointer p']) (f)) ?_ ?_
 ·exact dep_of (ops:=opCfs) (ps:=[(7,0),(7,1),(7,2),(7,3),(7,4),(7,5),(7,6)]) (by kernel_rfl) 7 i (by
   have : i = 0 ∨ i = 1 ∨ i = 2 ∨ i = 3 ∨ i = 4 ∨ i = 5 ∨ i = 6:=by omega
   rcases this with rfl | rfl | rfl | rfl | rfl | rfl | rfl <;> simp)
 ·intro dn i o a w K hi ho hdi hH he hdep hK
  have hD:=fun j hj => (dep_have (ps:=[(4,2),(4,3),(5,1),(5,4),(6,0),(6,5)]) (by kernel_rfl) ho (fun j => dn j = true∧opCfC g y k s s1 x1 y1 p1 f2 f j w (a.eval (.tmp (opCfT j)))) hdep j hj).2
  have hk : ∀ v w',But [] w w'→opCfC g y k s s1 x1 y1 p1 f2 f i w' v→K (a.put (some (opCfT i)) v) w':=fun v w' hb hv => hK v w' (hH.trans' hb) (fun j hj _ u hu => opCfC_but hu hj hb) hv
  have eb':=(he 10 (fun j hj e => absurd e.symm (by revert j; decide))).trans eb
  have e0':=(he 0 (fun j hj e => absurd e.symm (by revert j; decide))).trans e0
  have e1':=(he 1 (fun j hj e => absurd e.symm (by revert j; decide))).trans e1
  have e11':=(he 11 (fun j hj e => absurd e.symm (by revert j; decide))).trans e11
  have : i = 0 ∨ i = 1 ∨ i = 2 ∨ i = 3 ∨ i = 4 ∨ i = 5 ∨ i = 6:=by omega
  rcases this with rfl | rfl | rfl | rfl | rfl | rfl | rfl
  ·obtain rfl:=Option.some.inj ((show opCfs[0]? = some opCf0 from rfl).symm.trans ho)
   exact wp_value (run_loadK a w _ _ _ _ _ _ gb 0 _ _ _ _ eb' (c1.but (hdr hH) (by simp))) (hk _ _ (But.refl _ _) rfl)
  ·obtain rfl:=Option.some.inj ((show opCfs[1]? = some opCf1 from rfl).symm.trans ho)
   exact wp_value (run_mvK a w _ _ _ _ _ _ _ e0') (hk _ _ (But.refl _ _) rfl)
  ·obtain rfl:=Option.some.inj ((show opCfs[2]? = some opCf2 from rfl).symm.trans ho)
   exact wp_value (run_mvK a w _ _ _ _ _ _ _ e1') (hk _ _ (But.refl _ _) rfl)
  ·obtain rfl:=Option.some.inj ((show opCfs[3]? = some opCf3 from rfl).symm.trans ho)
   exact wp_value (run_mvK a w _ _ _ _ _ _ _ e11') (hk _ _ (But.refl _ _) rfl)
  ·obtain rfl:=Option.some.inj ((show opCfs[4]? = some opCf4 from rfl).symm.trans ho)
   exact wp_value (run_addT a w _ _ _ _ _ _ _ _ _ _ hs hsb (hD 2 (by simp)) (hD 3 (by simp))) (hk _ _ (But.refl _ _) rfl)
  ·obtain rfl:=Option.some.inj ((show opCfs[5]? = some opCf5 from rfl).symm.trans ho)
   exact wp_enter (run_staysT a w _ _ _ _ _ _ _ _ _ (hD 1 (by simp)) (hD 4 (by simp))) (R:=fun w' v => FracAt w' v (f2)∧But [] w w') (ST w (hdr hH)) (fun v w' hv => hk v w' hv.2 hv.1)
  ·obtain rfl:=Option.some.inj ((show opCfs[6]? = some opCf6 from rfl).symm.trans ho)
   exact wp_enter (run_mulK a w _ _ _ _ _ _ _ _ _ (hD 0 (by simp)) rfl) (R:=fun w' v => FracAt w' v (f)∧But [] w w') (MU w (hdr hH) _ (hD 5 (by simp))) (fun v w' hv => hk v w' hv.2 hv.1)
 ·intro dn o a w K ho hall h hK
  obtain rfl:=Option.some.inj ((show opCfs[7]? = some opCf7 from rfl).symm.trans ho)
  have eb':=(h.eval 10 (fun j hj e => absurd e.symm (by revert j; decide))).trans eb
  have cl : FracAt w (a.eval (.tmp 49)) (f):=h.has 6 (by omega) (hall 6 (by omega))
  have cl':=cl
  obtain ⟨x',y',p',ev,-⟩:=cl.agg
  rw [ev] at cl'
  have ea:=h.puts hT (fun i => match i with
   | 0 => .agg #[.bool s1,.int .u64 x1,.int .u64 y1,.pointer p1]
   | 1 => .pointer (some ⟨g,0,none⟩)
   | 2 => .int .i64 y
   | 3 => .int .i64 (k : Int)
   | 4 => .int .i64 s
   | 5 => a.eval (.tmp 48)
   | _ => .agg #[.bool (decide ((f).num < 0)),.int .u64 x',.int .u64 y',.pointer p']) (fun i hi => by
   have hc:=h.has i hi (hall i hi)
   have : i = 0 ∨ i = 1 ∨ i = 2 ∨ i = 3 ∨ i = 4 ∨ i = 5 ∨ i = 6:=by omega
   rcases this with rfl | rfl | rfl | rfl | rfl | rfl | rfl
   all_goals first | exact ev | exact hc | rfl)
  exact wp_skipped (run_store4 a w _ _ _ _ _ gb _ x' y' p' eb' ev (cb.but (hdr h.mem) (by simp)) (fun j => ((hdr h.mem).frozen (p:=⟨gb,j,none⟩) lgb (by simp)).trans (fzb j))) (hK _ _ ⟨w,a.eval (.tmp 48),_,x',y',p',ea,rfl,hdr h.mem,cl'⟩)
 ·rintro a w ⟨w1,v5,s',x',y',p',rfl,rfl,h1,h2⟩
  exact hQ  w1 v5 s' x' y' p' h1 h2
end Go.Proofs.YtndcigdphgojpaaGreatDoor
