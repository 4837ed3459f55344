/- The statements of the law FlowLoan that draw their order: a year's parts are the payment; what all come to. -/
import Derived.Test.YtnfnphbihgchhaaGreatDoorKL1
import Derived.Test.YtnfnphbihgchhaaGreatDoorKR1
import Derived.Test.YtnfnphbihgchhaaGreatDoorKT2
import Derived.Test.YtnfnphbihgchhaaGreatDoorKV2
namespace Go.Proofs.YtnfnphbihgchhaaGreatDoor
open Go.RowKit

theorem run_lenP (a : Act) (w : World) (d t : Nat) (u : TypeId) (ps : String) (ed : Array Edge) (gd : Option (Nat × Bool)) (q : Option Addr) (n c : Nat) (h : a.eval (.tmp t) = .slice q n c) :
    (execOp a.eval { dst := some d, op := Op.call { callee := Callee.builtin Builtin.len, args := #[Operand.tmp t], argTypes := #[29] }, type := u, pos := ps, after := ed, guard := gd }).run Tryz.prog w = .ok (.value (.int .i64 (n : Int))) w := by
  have h' : a.tmps[t]?.getD undef = .slice q n c := by rw [← Array.getD_eq_getD_getElem?]; exact h
  unfold execOp
  go_simp
theorem run_lenQ (a : Act) (w : World) (d t : Nat) (u : TypeId) (ps : String) (ed : Array Edge) (gd : Option (Nat × Bool)) (q : Option Addr) (n c : Nat) (h : a.eval (.tmp t) = .slice q n c) :
    (execOp a.eval { dst := some d, op := Op.call { callee := Callee.builtin Builtin.len, args := #[Operand.tmp t], argTypes := #[24] }, type := u, pos := ps, after := ed, guard := gd }).run Tryz.prog w = .ok (.value (.int .i64 (n : Int))) w := by
  have h' : a.tmps[t]?.getD undef = .slice q n c := by rw [← Array.getD_eq_getD_getElem?]; exact h
  unfold execOp
  go_simp
theorem run_indexP (a : Act) (w : World) (d t1 t2 : Nat) (u : TypeId) (ps : String) (ed : Array Edge) (gd : Option (Nat × Bool)) (b n c k : Nat) (hk : k < n) (_hn : n < 1000000) (h1 : a.eval (.tmp t1) = .slice (some ⟨b, 0, none⟩) n c) (h2 : a.eval (.tmp t2) = .int .i64 (k : Int)) :
    (execOp a.eval { dst := some d, op := Op.indexAddr 29 (.tmp t1) (.tmp t2), type := u, pos := ps, after := ed, guard := gd }).run Tryz.prog w = .ok (.value (.pointer (some ⟨b, k * 12, none⟩))) w := by
  unfold execOp
  simp only [h1, h2]
  go_simp
theorem run_field0 (a : Act) (w : World) (d t1 : Nat) (u : TypeId) (ps : String) (ed : Array Edge) (gd : Option (Nat × Bool)) (b o : Nat) (h1 : a.eval (.tmp t1) = .pointer (some ⟨b, o, none⟩)) :
    (execOp a.eval { dst := some d, op := Op.fieldAddr 41 (.tmp t1) 0, type := u, pos := ps, after := ed, guard := gd }).run Tryz.prog w = .ok (.value (.pointer (some ⟨b, o, none⟩))) w := by
  unfold execOp
  simp only [h1]
  go_simp
theorem run_field1 (a : Act) (w : World) (d t1 : Nat) (u : TypeId) (ps : String) (ed : Array Edge) (gd : Option (Nat × Bool)) (b o : Nat) (h1 : a.eval (.tmp t1) = .pointer (some ⟨b, o, none⟩)) :
    (execOp a.eval { dst := some d, op := Op.fieldAddr 41 (.tmp t1) 1, type := u, pos := ps, after := ed, guard := gd }).run Tryz.prog w = .ok (.value (.pointer (some ⟨b, o + 4, none⟩))) w := by
  unfold execOp
  simp only [h1]
  go_simp
theorem run_field2 (a : Act) (w : World) (d t1 : Nat) (u : TypeId) (ps : String) (ed : Array Edge) (gd : Option (Nat × Bool)) (b o : Nat) (h1 : a.eval (.tmp t1) = .pointer (some ⟨b, o, none⟩)) :
    (execOp a.eval { dst := some d, op := Op.fieldAddr 41 (.tmp t1) 2, type := u, pos := ps, after := ed, guard := gd }).run Tryz.prog w = .ok (.value (.pointer (some ⟨b, o + 8, none⟩))) w := by
  unfold execOp
  simp only [h1]
  go_simp
theorem run_loadF (a : Act) (w : World) (d t : Nat) (u : TypeId) (ps : String) (ed : Array Edge) (gd : Option (Nat × Bool)) (b o : Nat) (s : Bool) (x y : Int) (p : Option Addr) (h1 : a.eval (.tmp t) = .pointer (some ⟨b, o, none⟩)) (hc : P4o w b o s x y p) :
    (execOp a.eval { dst := some d, op := Op.load 28 (.tmp t), type := u, pos := ps, after := ed, guard := gd }).run Tryz.prog w = .ok (.value (.agg #[.bool s, .int .u64 x, .int .u64 y, .pointer p])) w := by
  obtain ⟨c0, c1, c2, c3⟩ := hc
  unfold execOp
  simp only [h1]
  go_simp
theorem run_loadQ (a : Act) (w : World) (d t : Nat) (u : TypeId) (ps : String) (ed : Array Edge) (gd : Option (Nat × Bool)) (b : Nat) (x y : Int) (h1 : a.eval (.tmp t) = .pointer (some ⟨b, 0, none⟩)) (c0 : w.cell? ⟨b, 0, none⟩ = some (.int .i64 x)) (c1 : w.cell? ⟨b, 1, none⟩ = some (.int .i64 y)) :
    (execOp a.eval { dst := some d, op := Op.load 23 (.tmp t), type := u, pos := ps, after := ed, guard := gd }).run Tryz.prog w = .ok (.value (.agg #[.int .i64 x, .int .i64 y])) w := by
  unfold execOp
  simp only [h1]
  go_simp
theorem run_mv (a : Act) (w : World) (d t : Nat) (u : TypeId) (ps : String) (ed : Array Edge) (gd : Option (Nat × Bool)) (N : Value) (h : a.eval (.tmp t) = N) :
    (execOp a.eval { dst := some d, op := Op.move (.tmp t), type := u, pos := ps, after := ed, guard := gd }).run Tryz.prog w = .ok (.value N) w := by
  unfold execOp
  simp only [h]
  go_simp
theorem run_as (a : Act) (w : World) (d t : Nat) (u : TypeId) (ps : String) (ed : Array Edge) (gd : Option (Nat × Bool)) (N : Value) (h : a.eval (.tmp t) = N) :
    (execOp a.eval { dst := some d, op := Op.assign (.tmp t), type := u, pos := ps, after := ed, guard := gd }).run Tryz.prog w = .ok (.value N) w := by
  unfold execOp
  simp only [h]
  go_simp
theorem run_eqnil (a : Act) (w : World) (d t : Nat) (u : TypeId) (ps : String) (ed : Array Edge) (gd : Option (Nat × Bool)) (h : a.eval (.tmp t) = .nilIface) :
    (execOp a.eval { dst := some d, op := Op.binOp BinOp.eql 31 (.tmp t) (.const .nilIface) 31, type := u, pos := ps, after := ed, guard := gd }).run Tryz.prog w = .ok (.value (.bool true)) w := by
  have e : a.eval (.const .nilIface) = .nilIface := rfl
  unfold execOp
  simp only [h, e]
  go_simp
theorem run_eqint (a : Act) (w : World) (d t1 t2 : Nat) (u : TypeId) (ps : String) (ed : Array Edge) (gd : Option (Nat × Bool)) (k : Int) (h1 : a.eval (.tmp t1) = .int .i64 k) (h2 : a.eval (.tmp t2) = .int .i64 k) :
    (execOp a.eval { dst := some d, op := Op.binOp BinOp.eql 3 (.tmp t1) (.tmp t2) 3, type := u, pos := ps, after := ed, guard := gd }).run Tryz.prog w = .ok (.value (.bool true)) w := by
  unfold execOp
  simp only [h1, h2]
  go_simp
theorem run_eqzero (a : Act) (w : World) (d t1 : Nat) (u : TypeId) (ps : String) (ed : Array Edge) (gd : Option (Nat × Bool)) (h1 : a.eval (.tmp t1) = .int .i64 0) :
    (execOp a.eval { dst := some d, op := Op.binOp BinOp.eql 3 (.tmp t1) (.const (.int .i64 0)) 3, type := u, pos := ps, after := ed, guard := gd }).run Tryz.prog w = .ok (.value (.bool true)) w := by
  have e : a.eval (.const (.int .i64 0)) = .int .i64 0 := rfl
  unfold execOp
  simp only [h1, e]
  go_simp
theorem run_sub1 (a : Act) (w : World) (d t : Nat) (u : TypeId) (ps : String) (ed : Array Edge) (gd : Option (Nat × Bool)) (k : Nat) (hk : k < 1000000) (h : a.eval (.tmp t) = .int .i64 ((k + 1 : Nat) : Int)) :
    (execOp a.eval { dst := some d, op := Op.binOp BinOp.sub 3 (.tmp t) (.const (.int .i64 1)) 3, type := u, pos := ps, after := ed, guard := gd }).run Tryz.prog w = .ok (.value (.int .i64 (k : Int))) w := by
  have e : a.eval (.const (.int .i64 1)) = .int .i64 1 := rfl
  unfold execOp
  simp only [h, e]
  go_simp
  rw [IntKind.wrap_i64]
  omega
theorem run_pick (a : Act) (w : World) (d t1 t2 : Nat) (u : TypeId) (ps : String) (ed : Array Edge) (gd : Option (Nat × Bool)) (v : Value) (h1 : a.eval (.tmp t1) = .bool true) (h2 : a.eval (.tmp t2) = v) :
    (execOp a.eval { dst := some d, op := Op.pick (.tmp t1) (.tmp t2) (.const (.bool false)), type := u, pos := ps, after := ed, guard := gd }).run Tryz.prog w = .ok (.value v) w := by
  unfold execOp
  simp only [h1, h2]
  go_simp
theorem run_not (a : Act) (w : World) (d t : Nat) (u : TypeId) (ps : String) (ed : Array Edge) (gd : Option (Nat × Bool)) (r : Bool) (h : a.eval (.tmp t) = .bool r) :
    (execOp a.eval { dst := some d, op := Op.unOp UnOp.not 4 (.tmp t), type := u, pos := ps, after := ed, guard := gd }).run Tryz.prog w = .ok (.value (.bool !r)) w := by
  unfold execOp
  simp only [h]
  go_simp
theorem run_sign (a : Act) (w : World) (d t1 : Nat) (u : TypeId) (ps : String) (ed : Array Edge) (gd : Option (Nat × Bool)) (x1 : Value) (h1 : a.eval (.tmp t1) = x1) :
    (execOp a.eval { dst := some d, op := Op.call { callee := Callee.value (Operand.func 12), args := #[Operand.tmp t1], argTypes := #[28] }, type := u, pos := ps, after := ed, guard := gd }).run Tryz.prog w = .ok (.enter 12 #[x1]) w := by
  unfold execOp
  go_simp
  rw [← h1]
  simp [Act.eval]
theorem run_plainF (a : Act) (w : World) (d t1 : Nat) (u : TypeId) (ps : String) (ed : Array Edge) (gd : Option (Nat × Bool)) (x1 : Value) (h1 : a.eval (.tmp t1) = x1) :
    (execOp a.eval { dst := some d, op := Op.call { callee := Callee.value (Operand.func 5), args := #[Operand.tmp t1], argTypes := #[23] }, type := u, pos := ps, after := ed, guard := gd }).run Tryz.prog w = .ok (.enter 5 #[x1]) w := by
  unfold execOp
  go_simp
  rw [← h1]
  simp [Act.eval]
theorem run_like (a : Act) (w : World) (d t1 t2 : Nat) (u : TypeId) (ps : String) (ed : Array Edge) (gd : Option (Nat × Bool)) (x1 x2 : Value) (h1 : a.eval (.tmp t1) = x1) (h2 : a.eval (.tmp t2) = x2) :
    (execOp a.eval { dst := some d, op := Op.call { callee := Callee.value (Operand.func 9), args := #[Operand.tmp t1, Operand.tmp t2], argTypes := #[28, 28] }, type := u, pos := ps, after := ed, guard := gd }).run Tryz.prog w = .ok (.enter 9 #[x1, x2]) w := by
  unfold execOp
  go_simp
  rw [← h1, ← h2]
  simp [Act.eval]
theorem run_addF (a : Act) (w : World) (d t1 t2 : Nat) (u : TypeId) (ps : String) (ed : Array Edge) (gd : Option (Nat × Bool)) (x1 x2 : Value) (h1 : a.eval (.tmp t1) = x1) (h2 : a.eval (.tmp t2) = x2) :
    (execOp a.eval { dst := some d, op := Op.call { callee := Callee.value (Operand.func 10), args := #[Operand.tmp t1, Operand.tmp t2], argTypes := #[28, 28] }, type := u, pos := ps, after := ed, guard := gd }).run Tryz.prog w = .ok (.enter 10 #[x1, x2]) w := by
  unfold execOp
  go_simp
  rw [← h1, ← h2]
  simp [Act.eval]

def opY0 : Oper := { dst := some 45, op := Op.move (Operand.tmp 6), type := 29, pos := "keep.go:311", after := #[], guard := none }
def opY1 : Oper := { dst := some 46, op := Op.move (Operand.tmp 10), type := 3, pos := "keep.go:311", after := #[], guard := none }
def opY2 : Oper := { dst := some 47, op := Op.indexAddr 29 (Operand.tmp 45) (Operand.tmp 46), type := 0, pos := "keep.go:311", after := #[{ on := 0, ground := Ground.data }, { on := 1, ground := Ground.data }], guard := none }
def opY3 : Oper := { dst := some 48, op := Op.fieldAddr 41 (Operand.tmp 47) 0, type := 0, pos := "keep.go:311", after := #[{ on := 2, ground := Ground.data }], guard := none }
def opY4 : Oper := { dst := some 49, op := Op.load 28 (Operand.tmp 48), type := 28, pos := "keep.go:311", after := #[{ on := 3, ground := Ground.data }], guard := none }
def opY5 : Oper := { dst := some 50, op := Op.move (Operand.tmp 6), type := 29, pos := "keep.go:311", after := #[], guard := none }
def opY6 : Oper := { dst := some 51, op := Op.move (Operand.tmp 10), type := 3, pos := "keep.go:311", after := #[], guard := none }
def opY7 : Oper := { dst := some 52, op := Op.indexAddr 29 (Operand.tmp 50) (Operand.tmp 51), type := 0, pos := "keep.go:311", after := #[{ on := 5, ground := Ground.data }, { on := 6, ground := Ground.data }], guard := none }
def opY8 : Oper := { dst := some 53, op := Op.fieldAddr 41 (Operand.tmp 52) 1, type := 0, pos := "keep.go:311", after := #[{ on := 7, ground := Ground.data }], guard := none }
def opY9 : Oper := { dst := some 54, op := Op.load 28 (Operand.tmp 53), type := 28, pos := "keep.go:311", after := #[{ on := 8, ground := Ground.data }], guard := none }
def opY10 : Oper := { dst := some 55, op := Op.call { callee := Callee.value (Operand.func 10), args := #[Operand.tmp 49, Operand.tmp 54], argTypes := #[28, 28] }, type := 28, pos := "keep.go:311", after := #[{ on := 4, ground := Ground.data }, { on := 9, ground := Ground.data }], guard := none }
def opY11 : Oper := { dst := some 56, op := Op.load 28 (Operand.tmp 5), type := 28, pos := "keep.go:311", after := #[], guard := none }
def opY12 : Oper := { dst := some 57, op := Op.call { callee := Callee.value (Operand.func 9), args := #[Operand.tmp 55, Operand.tmp 56], argTypes := #[28, 28] }, type := 4, pos := "keep.go:311", after := #[{ on := 10, ground := Ground.data }, { on := 11, ground := Ground.data }, { on := 10, ground := Ground.chain }], guard := none }
def opY13 : Oper := { dst := some 58, op := Op.unOp UnOp.not 4 (Operand.tmp 57), type := 4, pos := "keep.go:311", after := #[{ on := 12, ground := Ground.data }], guard := none }
def opYs : Array Oper := #[opY0, opY1, opY2, opY3, opY4, opY5, opY6, opY7, opY8, opY9, opY10, opY11, opY12, opY13]
def opYT (i : Nat) : Nat := match i with
  | 0 => 45
  | 1 => 46
  | 2 => 47
  | 3 => 48
  | 4 => 49
  | 5 => 50
  | 6 => 51
  | 7 => 52
  | 8 => 53
  | 9 => 54
  | 10 => 55
  | 11 => 56
  | 12 => 57
  | _ => 58
/-- what each operation's value is -/
def opYC (g : Nat) (n : Nat) (k : Nat) (s1 : Bool) (x1 : Int) (y1 : Int) (p1 : Option Addr) (s2 : Bool) (x2 : Int) (y2 : Int) (p2 : Option Addr) (s3 : Bool) (x3 : Int) (y3 : Int) (p3 : Option Addr) (f : Rat) (i : Nat) (w : World) (v : Value) : Prop := match i with
  | 0 => v = .slice (some ⟨g, 0, none⟩) n n
  | 1 => v = .int .i64 (k : Int)
  | 2 => v = .pointer (some ⟨g, k * 12, none⟩)
  | 3 => v = .pointer (some ⟨g, k * 12, none⟩)
  | 4 => v = .agg #[.bool s1, .int .u64 x1, .int .u64 y1, .pointer p1]
  | 5 => v = .slice (some ⟨g, 0, none⟩) n n
  | 6 => v = .int .i64 (k : Int)
  | 7 => v = .pointer (some ⟨g, k * 12, none⟩)
  | 8 => v = .pointer (some ⟨g, k * 12 + 4, none⟩)
  | 9 => v = .agg #[.bool s2, .int .u64 x2, .int .u64 y2, .pointer p2]
  | 10 => FracAt w v f
  | 11 => v = .agg #[.bool s3, .int .u64 x3, .int .u64 y3, .pointer p3]
  | 12 => v = .bool true
  | _ => v = .bool false
theorem opYC_but {g : Nat} {n : Nat} {k : Nat} {s1 : Bool} {x1 : Int} {y1 : Int} {p1 : Option Addr} {s2 : Bool} {x2 : Int} {y2 : Int} {p2 : Option Addr} {s3 : Bool} {x3 : Int} {y3 : Int} {p3 : Option Addr} {f : Rat} {i : Nat} {w w' : World} {v : Value} (h : opYC g n k s1 x1 y1 p1 s2 x2 y2 p2 s3 x3 y3 p3 f i w v) (hi : i < 14) (hb : But [] w w') : opYC g n k s1 x1 y1 p1 s2 x2 y2 p2 s3 x3 y3 p3 f i w' v := by
  have : i = 0 ∨ i = 1 ∨ i = 2 ∨ i = 3 ∨ i = 4 ∨ i = 5 ∨ i = 6 ∨ i = 7 ∨ i = 8 ∨ i = 9 ∨ i = 10 ∨ i = 11 ∨ i = 12 ∨ i = 13 := by omega
  rcases this with rfl | rfl | rfl | rfl | rfl | rfl | rfl | rfl | rfl | rfl | rfl | rfl | rfl | rfl
  all_goals first | exact h | exact FracAt.but h hb | exact FracsAt.but h hb
theorem opYT_inj : ∀ i j, i < 14 → j < 14 → opYT i = opYT j → i = j := fun i j hi hj => (by decide : ∀ i, i < 14 → ∀ j, j < 14 → opYT i = opYT j → i = j) i hi j hj
set_option maxRecDepth 100000 in
theorem year_region (id : Nat) (Q : Exit → Act → World → Prop) (base : Act) (W0 : World) (g : Nat) (n : Nat) (k : Nat) (s1 : Bool) (x1 : Int) (y1 : Int) (p1 : Option Addr) (s2 : Bool) (x2 : Int) (y2 : Int) (p2 : Option Addr) (s3 : Bool) (x3 : Int) (y3 : Int) (p3 : Option Addr) (f : Rat) (hs : 58 < base.tmps.size) (e6 : base.eval (.tmp 6) = .slice (some ⟨g, 0, none⟩) n n) (e10 : base.eval (.tmp 10) = .int .i64 (k : Int))
    (g5 : Nat) (e5 : base.eval (.tmp 5) = .pointer (some ⟨g5, 0, none⟩)) (hk' : k < n) (hn : n < 1000000) (c1 : P4o W0 g (k * 12) s1 x1 y1 p1) (c2 : P4o W0 g (k * 12 + 4) s2 x2 y2 p2) (c3 : P4 W0 g5 s3 x3 y3 p3)
    (AD : ∀ w, But [] W0 w → Calls Tryz.prog 10 #[.agg #[.bool s1, .int .u64 x1, .int .u64 y1, .pointer p1], .agg #[.bool s2, .int .u64 x2, .int .u64 y2, .pointer p2]] w fun e w' => ∃ v, e = .returned v ∧ FracAt w' v f ∧ But [] w w')
    (LK : ∀ w, But [] W0 w → ∀ v, FracAt w v f → Calls Tryz.prog 9 #[v, .agg #[.bool s3, .int .u64 x3, .int .u64 y3, .pointer p3]] w fun e w' => e = .returned (.bool true) ∧ But [] w w')
    (hQ : ∀ w v, But [] W0 w → Q .normal (putted base [(45, .slice (some ⟨g, 0, none⟩) n n), (46, .int .i64 (k : Int)), (47, .pointer (some ⟨g, k * 12, none⟩)), (48, .pointer (some ⟨g, k * 12, none⟩)), (49, .agg #[.bool s1, .int .u64 x1, .int .u64 y1, .pointer p1]), (50, .slice (some ⟨g, 0, none⟩) n n), (51, .int .i64 (k : Int)), (52, .pointer (some ⟨g, k * 12, none⟩)), (53, .pointer (some ⟨g, k * 12 + 4, none⟩)), (54, .agg #[.bool s2, .int .u64 x2, .int .u64 y2, .pointer p2]), (55, v), (56, .agg #[.bool s3, .int .u64 x3, .int .u64 y3, .pointer p3]), (57, .bool true), (58, .bool false)]) w) :
    (Code.region id opYs true).wp Tryz.prog Q base W0 := by
  have hdr : ∀ {w}, But [] W0.drew w → But [] W0 w := fun h => (But.refl _ _).drew.trans' h
  have hT : ∀ i, i < 14 → opYT i < base.tmps.size := fun i hi => by
    have h : opYT i ≤ 58 := by revert i; decide
    omega
  refine region_go (by kernel_rfl) (low_of (by kernel_rfl)) (opYC g n k s1 x1 y1 p1 s2 x2 y2 p2 s3 x3 y3 p3 f) opYT (by kernel_rfl) ?_ opYT_inj hT (fun i w w' v hi h hb => opYC_but h hi hb) ?_ ?_
  · intro i o j want ho hg w v hv
    have hi : i < 14 := (Array.getElem?_eq_some_iff.1 ho).1
    have : i = 0 ∨ i = 1 ∨ i = 2 ∨ i = 3 ∨ i = 4 ∨ i = 5 ∨ i = 6 ∨ i = 7 ∨ i = 8 ∨ i = 9 ∨ i = 10 ∨ i = 11 ∨ i = 12 ∨ i = 13 := by omega
    rcases this with rfl | rfl | rfl | rfl | rfl | rfl | rfl | rfl | rfl | rfl | rfl | rfl | rfl | rfl
    · obtain rfl := Option.some.inj ((show opYs[0]? = some opY0 from rfl).symm.trans ho)
      exact absurd (show (none : Option (Nat × Bool)) = some (j, want) from hg) (by simp)
    · obtain rfl := Option.some.inj ((show opYs[1]? = some opY1 from rfl).symm.trans ho)
      exact absurd (show (none : Option (Nat × Bool)) = some (j, want) from hg) (by simp)
    · obtain rfl := Option.some.inj ((show opYs[2]? = some opY2 from rfl).symm.trans ho)
      exact absurd (show (none : Option (Nat × Bool)) = some (j, want) from hg) (by simp)
    · obtain rfl := Option.some.inj ((show opYs[3]? = some opY3 from rfl).symm.trans ho)
      exact absurd (show (none : Option (Nat × Bool)) = some (j, want) from hg) (by simp)
    · obtain rfl := Option.some.inj ((show opYs[4]? = some opY4 from rfl).symm.trans ho)
      exact absurd (show (none : Option (Nat × Bool)) = some (j, want) from hg) (by simp)
    · obtain rfl := Option.some.inj ((show opYs[5]? = some opY5 from rfl).symm.trans ho)
      exact absurd (show (none : Option (Nat × Bool)) = some (j, want) from hg) (by simp)
    · obtain rfl := Option.some.inj ((show opYs[6]? = some opY6 from rfl).symm.trans ho)
      exact absurd (show (none : Option (Nat × Bool)) = some (j, want) from hg) (by simp)
    · obtain rfl := Option.some.inj ((show opYs[7]? = some opY7 from rfl).symm.trans ho)
      exact absurd (show (none : Option (Nat × Bool)) = some (j, want) from hg) (by simp)
    · obtain rfl := Option.some.inj ((show opYs[8]? = some opY8 from rfl).symm.trans ho)
      exact absurd (show (none : Option (Nat × Bool)) = some (j, want) from hg) (by simp)
    · obtain rfl := Option.some.inj ((show opYs[9]? = some opY9 from rfl).symm.trans ho)
      exact absurd (show (none : Option (Nat × Bool)) = some (j, want) from hg) (by simp)
    · obtain rfl := Option.some.inj ((show opYs[10]? = some opY10 from rfl).symm.trans ho)
      exact absurd (show (none : Option (Nat × Bool)) = some (j, want) from hg) (by simp)
    · obtain rfl := Option.some.inj ((show opYs[11]? = some opY11 from rfl).symm.trans ho)
      exact absurd (show (none : Option (Nat × Bool)) = some (j, want) from hg) (by simp)
    · obtain rfl := Option.some.inj ((show opYs[12]? = some opY12 from rfl).symm.trans ho)
      exact absurd (show (none : Option (Nat × Bool)) = some (j, want) from hg) (by simp)
    · obtain rfl := Option.some.inj ((show opYs[13]? = some opY13 from rfl).symm.trans ho)
      exact absurd (show (none : Option (Nat × Bool)) = some (j, want) from hg) (by simp)
  · intro i o a w K ho hH he hdep hk
    have hi : i < 14 := (Array.getElem?_eq_some_iff.1 ho).1
    have hD := dep_have (ps := [(2, 0), (2, 1), (3, 2), (4, 3), (7, 5), (7, 6), (8, 7), (9, 8), (10, 4), (10, 9), (12, 10), (12, 11), (13, 12)]) (by kernel_rfl) ho (fun j => opYC g n k s1 x1 y1 p1 s2 x2 y2 p2 s3 x3 y3 p3 f j w (a.eval (.tmp (opYT j)))) hdep
    have e5' := (he 5 (fun j hj e => absurd e.symm (by revert j; decide))).trans e5
    have e6' := (he 6 (fun j hj e => absurd e.symm (by revert j; decide))).trans e6
    have e10' := (he 10 (fun j hj e => absurd e.symm (by revert j; decide))).trans e10
    have : i = 0 ∨ i = 1 ∨ i = 2 ∨ i = 3 ∨ i = 4 ∨ i = 5 ∨ i = 6 ∨ i = 7 ∨ i = 8 ∨ i = 9 ∨ i = 10 ∨ i = 11 ∨ i = 12 ∨ i = 13 := by omega
    rcases this with rfl | rfl | rfl | rfl | rfl | rfl | rfl | rfl | rfl | rfl | rfl | rfl | rfl | rfl
    · obtain rfl := Option.some.inj ((show opYs[0]? = some opY0 from rfl).symm.trans ho)
      exact wp_value (run_mv a w _ _ _ _ _ _ _ e6') (hk _ _ (But.refl _ _) rfl)
    · obtain rfl := Option.some.inj ((show opYs[1]? = some opY1 from rfl).symm.trans ho)
      exact wp_value (run_mv a w _ _ _ _ _ _ _ e10') (hk _ _ (But.refl _ _) rfl)
    · obtain rfl := Option.some.inj ((show opYs[2]? = some opY2 from rfl).symm.trans ho)
      exact wp_value (run_indexP a w _ _ _ _ _ _ _ g n n k hk' hn (hD 0 (by simp)) (hD 1 (by simp))) (hk _ _ (But.refl _ _) rfl)
    · obtain rfl := Option.some.inj ((show opYs[3]? = some opY3 from rfl).symm.trans ho)
      exact wp_value (run_field0 a w _ _ _ _ _ _ g _ (hD 2 (by simp))) (hk _ _ (But.refl _ _) rfl)
    · obtain rfl := Option.some.inj ((show opYs[4]? = some opY4 from rfl).symm.trans ho)
      exact wp_value (run_loadF a w _ _ _ _ _ _ g _ _ _ _ _ (hD 3 (by simp)) (c1.but (hdr hH) (by simp))) (hk _ _ (But.refl _ _) rfl)
    · obtain rfl := Option.some.inj ((show opYs[5]? = some opY5 from rfl).symm.trans ho)
      exact wp_value (run_mv a w _ _ _ _ _ _ _ e6') (hk _ _ (But.refl _ _) rfl)
    · obtain rfl := Option.some.inj ((show opYs[6]? = some opY6 from rfl).symm.trans ho)
      exact wp_value (run_mv a w _ _ _ _ _ _ _ e10') (hk _ _ (But.refl _ _) rfl)
    · obtain rfl := Option.some.inj ((show opYs[7]? = some opY7 from rfl).symm.trans ho)
      exact wp_value (run_indexP a w _ _ _ _ _ _ _ g n n k hk' hn (hD 5 (by simp)) (hD 6 (by simp))) (hk _ _ (But.refl _ _) rfl)
    · obtain rfl := Option.some.inj ((show opYs[8]? = some opY8 from rfl).symm.trans ho)
      exact wp_value (run_field1 a w _ _ _ _ _ _ g _ (hD 7 (by simp))) (hk _ _ (But.refl _ _) rfl)
    · obtain rfl := Option.some.inj ((show opYs[9]? = some opY9 from rfl).symm.trans ho)
      exact wp_value (run_loadF a w _ _ _ _ _ _ g _ _ _ _ _ (hD 8 (by simp)) (c2.but (hdr hH) (by simp))) (hk _ _ (But.refl _ _) rfl)
    · obtain rfl := Option.some.inj ((show opYs[10]? = some opY10 from rfl).symm.trans ho)
      exact wp_enter (run_addF a w _ _ _ _ _ _ _ _ _ (hD 4 (by simp)) (hD 9 (by simp))) (R := fun w' v => FracAt w' v f ∧ But [] w w') (AD w (hdr hH)) (fun v w' hv => hk v w' hv.2 hv.1)
    · obtain rfl := Option.some.inj ((show opYs[11]? = some opY11 from rfl).symm.trans ho)
      exact wp_value (run_loadF a w _ _ _ _ _ _ g5 0 _ _ _ _ e5' (c3.but (hdr hH) (by simp))) (hk _ _ (But.refl _ _) rfl)
    · obtain rfl := Option.some.inj ((show opYs[12]? = some opY12 from rfl).symm.trans ho)
      exact wp_enter (run_like a w _ _ _ _ _ _ _ _ _ rfl (hD 11 (by simp))) (R := fun w' v => v = .bool true ∧ But [] w w') ((LK w (hdr hH) _ (hD 10 (by simp))).mono fun e w' ⟨he, hb⟩ => ⟨_, he, rfl, hb⟩) (fun v w' hv => hk v w' hv.2 hv.1)
    · obtain rfl := Option.some.inj ((show opYs[13]? = some opY13 from rfl).symm.trans ho)
      exact wp_value (run_not a w _ _ _ _ _ _ true (hD 12 (by simp))) (hk _ _ (But.refl _ _) rfl)
  · intro a w h
    have ea := h.puts hT (fun i => match i with
      | 0 => .slice (some ⟨g, 0, none⟩) n n
      | 1 => .int .i64 (k : Int)
      | 2 => .pointer (some ⟨g, k * 12, none⟩)
      | 3 => .pointer (some ⟨g, k * 12, none⟩)
      | 4 => .agg #[.bool s1, .int .u64 x1, .int .u64 y1, .pointer p1]
      | 5 => .slice (some ⟨g, 0, none⟩) n n
      | 6 => .int .i64 (k : Int)
      | 7 => .pointer (some ⟨g, k * 12, none⟩)
      | 8 => .pointer (some ⟨g, k * 12 + 4, none⟩)
      | 9 => .agg #[.bool s2, .int .u64 x2, .int .u64 y2, .pointer p2]
      | 10 => a.eval (.tmp 55)
      | 11 => .agg #[.bool s3, .int .u64 x3, .int .u64 y3, .pointer p3]
      | 12 => .bool true
      | _ => .bool false) (fun i hi => by
      have hi' : i < 14 := hi
      have hc := h.has i hi rfl
      have : i = 0 ∨ i = 1 ∨ i = 2 ∨ i = 3 ∨ i = 4 ∨ i = 5 ∨ i = 6 ∨ i = 7 ∨ i = 8 ∨ i = 9 ∨ i = 10 ∨ i = 11 ∨ i = 12 ∨ i = 13 := by omega
      rcases this with rfl | rfl | rfl | rfl | rfl | rfl | rfl | rfl | rfl | rfl | rfl | rfl | rfl | rfl
      all_goals first | exact hc | rfl)
    rw [ea]
    exact hQ w (a.eval (.tmp 55)) (hdr h.but)
end Go.Proofs.YtnfnphbihgchhaaGreatDoor

namespace Go.Proofs.YtnfnphbihgchhaaGreatDoor
open Go.RowKit

def opZ0 : Oper := { dst := some 77, op := Op.move (Operand.tmp 7), type := 31, pos := "keep.go:318", after := #[], guard := none }
def opZ1 : Oper := { dst := some 78, op := Op.binOp BinOp.eql 31 (Operand.tmp 77) (Operand.const Value.nilIface) 31, type := 4, pos := "keep.go:318", after := #[{ on := 0, ground := Ground.data }], guard := none }
def opZ2 : Oper := { dst := some 79, op := Op.move (Operand.tmp 78), type := 4, pos := "keep.go:318", after := #[{ on := 1, ground := Ground.data }], guard := none }
def opZ3 : Oper := { dst := some 80, op := Op.move (Operand.tmp 6), type := 29, pos := "keep.go:318", after := #[{ on := 2, ground := Ground.guard }], guard := some (2, true) }
def opZ4 : Oper := { dst := some 81, op := Op.call { callee := Callee.builtin Builtin.len, args := #[Operand.tmp 80], argTypes := #[29] }, type := 3, pos := "keep.go:318", after := #[{ on := 3, ground := Ground.data }, { on := 2, ground := Ground.guard }], guard := some (2, true) }
def opZ5 : Oper := { dst := some 82, op := Op.move (Operand.tmp 1), type := 24, pos := "keep.go:318", after := #[{ on := 2, ground := Ground.guard }], guard := some (2, true) }
def opZ6 : Oper := { dst := some 83, op := Op.call { callee := Callee.builtin Builtin.len, args := #[Operand.tmp 82], argTypes := #[24] }, type := 3, pos := "keep.go:318", after := #[{ on := 5, ground := Ground.data }, { on := 2, ground := Ground.guard }], guard := some (2, true) }
def opZ7 : Oper := { dst := some 84, op := Op.binOp BinOp.eql 3 (Operand.tmp 81) (Operand.tmp 83) 3, type := 4, pos := "keep.go:318", after := #[{ on := 4, ground := Ground.data }, { on := 6, ground := Ground.data }, { on := 2, ground := Ground.guard }], guard := some (2, true) }
def opZ8 : Oper := { dst := some 85, op := Op.pick (Operand.tmp 79) (Operand.tmp 84) (Operand.const (Value.bool false)), type := 4, pos := "keep.go:318", after := #[{ on := 2, ground := Ground.data }, { on := 7, ground := Ground.data }], guard := none }
def opZ9 : Oper := { dst := some 86, op := Op.move (Operand.tmp 85), type := 4, pos := "keep.go:318", after := #[{ on := 8, ground := Ground.data }, { on := 2, ground := Ground.chain }], guard := none }
def opZ10 : Oper := { dst := some 87, op := Op.move (Operand.tmp 6), type := 29, pos := "keep.go:318", after := #[{ on := 9, ground := Ground.guard }], guard := some (9, true) }
def opZ11 : Oper := { dst := some 88, op := Op.move (Operand.tmp 6), type := 29, pos := "keep.go:318", after := #[{ on := 9, ground := Ground.guard }], guard := some (9, true) }
def opZ12 : Oper := { dst := some 89, op := Op.call { callee := Callee.builtin Builtin.len, args := #[Operand.tmp 88], argTypes := #[29] }, type := 3, pos := "keep.go:318", after := #[{ on := 11, ground := Ground.data }, { on := 9, ground := Ground.guard }], guard := some (9, true) }
def opZ13 : Oper := { dst := some 90, op := Op.binOp BinOp.sub 3 (Operand.tmp 89) (Operand.const (Value.int IntKind.i64 1)) 3, type := 3, pos := "keep.go:318", after := #[{ on := 12, ground := Ground.data }, { on := 9, ground := Ground.guard }], guard := some (9, true) }
def opZ14 : Oper := { dst := some 91, op := Op.indexAddr 29 (Operand.tmp 87) (Operand.tmp 90), type := 0, pos := "keep.go:318", after := #[{ on := 10, ground := Ground.data }, { on := 13, ground := Ground.data }, { on := 9, ground := Ground.guard }], guard := some (9, true) }
def opZ15 : Oper := { dst := some 92, op := Op.fieldAddr 41 (Operand.tmp 91) 2, type := 0, pos := "keep.go:318", after := #[{ on := 14, ground := Ground.data }, { on := 9, ground := Ground.guard }], guard := some (9, true) }
def opZ16 : Oper := { dst := some 93, op := Op.load 28 (Operand.tmp 92), type := 28, pos := "keep.go:318", after := #[{ on := 15, ground := Ground.data }, { on := 9, ground := Ground.guard }], guard := some (9, true) }
def opZ17 : Oper := { dst := some 94, op := Op.call { callee := Callee.value (Operand.func 12), args := #[Operand.tmp 93], argTypes := #[28] }, type := 3, pos := "keep.go:318", after := #[{ on := 16, ground := Ground.data }, { on := 9, ground := Ground.chain }, { on := 9, ground := Ground.guard }], guard := some (9, true) }
def opZ18 : Oper := { dst := some 95, op := Op.binOp BinOp.eql 3 (Operand.tmp 94) (Operand.const (Value.int IntKind.i64 0)) 3, type := 4, pos := "keep.go:318", after := #[{ on := 17, ground := Ground.data }, { on := 9, ground := Ground.guard }], guard := some (9, true) }
def opZ19 : Oper := { dst := some 96, op := Op.pick (Operand.tmp 86) (Operand.tmp 95) (Operand.const (Value.bool false)), type := 4, pos := "keep.go:318", after := #[{ on := 9, ground := Ground.data }, { on := 18, ground := Ground.data }], guard := none }
def opZ20 : Oper := { dst := some 97, op := Op.move (Operand.tmp 96), type := 4, pos := "keep.go:318", after := #[{ on := 19, ground := Ground.data }, { on := 17, ground := Ground.chain }], guard := none }
def opZ21 : Oper := { dst := some 98, op := Op.load 28 (Operand.tmp 8), type := 28, pos := "keep.go:318", after := #[{ on := 20, ground := Ground.guard }], guard := some (20, true) }
def opZ22 : Oper := { dst := some 99, op := Op.load 23 (Operand.tmp 2), type := 23, pos := "keep.go:318", after := #[{ on := 20, ground := Ground.guard }], guard := some (20, true) }
def opZ23 : Oper := { dst := some 100, op := Op.call { callee := Callee.value (Operand.func 5), args := #[Operand.tmp 99], argTypes := #[23] }, type := 28, pos := "keep.go:318", after := #[{ on := 22, ground := Ground.data }, { on := 20, ground := Ground.chain }, { on := 20, ground := Ground.guard }], guard := some (20, true) }
def opZ24 : Oper := { dst := some 101, op := Op.call { callee := Callee.value (Operand.func 9), args := #[Operand.tmp 98, Operand.tmp 100], argTypes := #[28, 28] }, type := 4, pos := "keep.go:318", after := #[{ on := 21, ground := Ground.data }, { on := 23, ground := Ground.data }, { on := 23, ground := Ground.chain }, { on := 20, ground := Ground.guard }], guard := some (20, true) }
def opZ25 : Oper := { dst := some 102, op := Op.pick (Operand.tmp 97) (Operand.tmp 101) (Operand.const (Value.bool false)), type := 4, pos := "keep.go:318", after := #[{ on := 20, ground := Ground.data }, { on := 24, ground := Ground.data }], guard := none }
def opZ26 : Oper := { dst := some 103, op := Op.move (Operand.tmp 102), type := 4, pos := "keep.go:318", after := #[{ on := 25, ground := Ground.data }, { on := 24, ground := Ground.chain }], guard := none }
def opZ27 : Oper := { dst := some 104, op := Op.load 28 (Operand.tmp 11), type := 28, pos := "keep.go:318", after := #[{ on := 26, ground := Ground.guard }], guard := some (26, true) }
def opZ28 : Oper := { dst := some 105, op := Op.load 23 (Operand.tmp 2), type := 23, pos := "keep.go:318", after := #[{ on := 26, ground := Ground.guard }], guard := some (26, true) }
def opZ29 : Oper := { dst := some 106, op := Op.call { callee := Callee.value (Operand.func 5), args := #[Operand.tmp 105], argTypes := #[23] }, type := 28, pos := "keep.go:318", after := #[{ on := 28, ground := Ground.data }, { on := 26, ground := Ground.chain }, { on := 26, ground := Ground.guard }], guard := some (26, true) }
def opZ30 : Oper := { dst := some 107, op := Op.call { callee := Callee.value (Operand.func 9), args := #[Operand.tmp 104, Operand.tmp 106], argTypes := #[28, 28] }, type := 4, pos := "keep.go:318", after := #[{ on := 27, ground := Ground.data }, { on := 29, ground := Ground.data }, { on := 29, ground := Ground.chain }, { on := 26, ground := Ground.guard }], guard := some (26, true) }
def opZ31 : Oper := { dst := some 108, op := Op.pick (Operand.tmp 103) (Operand.tmp 107) (Operand.const (Value.bool false)), type := 4, pos := "keep.go:318", after := #[{ on := 26, ground := Ground.data }, { on := 30, ground := Ground.data }], guard := none }
def opZ32 : Oper := { dst := some 4, op := Op.assign (Operand.tmp 108), type := 4, pos := "keep.go:318", after := #[{ on := 31, ground := Ground.data }, { on := 30, ground := Ground.chain }, { on := 0, ground := Ground.phase }, { on := 1, ground := Ground.phase }, { on := 2, ground := Ground.phase }, { on := 3, ground := Ground.phase }, { on := 4, ground := Ground.phase }, { on := 5, ground := Ground.phase }, { on := 6, ground := Ground.phase }, { on := 7, ground := Ground.phase }, { on := 8, ground := Ground.phase }, { on := 9, ground := Ground.phase }, { on := 10, ground := Ground.phase }, { on := 11, ground := Ground.phase }, { on := 12, ground := Ground.phase }, { on := 13, ground := Ground.phase }, { on := 14, ground := Ground.phase }, { on := 15, ground := Ground.phase }, { on := 16, ground := Ground.phase }, { on := 17, ground := Ground.phase }, { on := 18, ground := Ground.phase }, { on := 19, ground := Ground.phase }, { on := 20, ground := Ground.phase }, { on := 21, ground := Ground.phase }, { on := 22, ground := Ground.phase }, { on := 23, ground := Ground.phase }, { on := 24, ground := Ground.phase }, { on := 25, ground := Ground.phase }, { on := 26, ground := Ground.phase }, { on := 27, ground := Ground.phase }, { on := 28, ground := Ground.phase }, { on := 29, ground := Ground.phase }, { on := 30, ground := Ground.phase }, { on := 31, ground := Ground.phase }], guard := none }
def opZs : Array Oper := #[opZ0, opZ1, opZ2, opZ3, opZ4, opZ5, opZ6, opZ7, opZ8, opZ9, opZ10, opZ11, opZ12, opZ13, opZ14, opZ15, opZ16, opZ17, opZ18, opZ19, opZ20, opZ21, opZ22, opZ23, opZ24, opZ25, opZ26, opZ27, opZ28, opZ29, opZ30, opZ31, opZ32]
def opZT (i : Nat) : Nat := match i with
  | 0 => 77
  | 1 => 78
  | 2 => 79
  | 3 => 80
  | 4 => 81
  | 5 => 82
  | 6 => 83
  | 7 => 84
  | 8 => 85
  | 9 => 86
  | 10 => 87
  | 11 => 88
  | 12 => 89
  | 13 => 90
  | 14 => 91
  | 15 => 92
  | 16 => 93
  | 17 => 94
  | 18 => 95
  | 19 => 96
  | 20 => 97
  | 21 => 98
  | 22 => 99
  | 23 => 100
  | 24 => 101
  | 25 => 102
  | 26 => 103
  | 27 => 104
  | 28 => 105
  | 29 => 106
  | 30 => 107
  | 31 => 108
  | _ => 4
/-- what each operation's value is -/
def opZC (g : Nat) (n : Nat) (k : Nat) (q : Option Addr) (c : Nat) (a1 : Int) (a2 : Int) (s1 : Bool) (x1 : Int) (y1 : Int) (p1 : Option Addr) (s2 : Bool) (x2 : Int) (y2 : Int) (p2 : Option Addr) (s3 : Bool) (x3 : Int) (y3 : Int) (p3 : Option Addr) (s4 : Bool) (x4 : Int) (y4 : Int) (p4 : Option Addr) (i : Nat) (_w : World) (v : Value) : Prop := match i with
  | 0 => v = .nilIface
  | 1 => v = .bool true
  | 2 => v = .bool true
  | 3 => v = .slice (some ⟨g, 0, none⟩) n n
  | 4 => v = .int .i64 (n : Int)
  | 5 => v = .slice q n c
  | 6 => v = .int .i64 (n : Int)
  | 7 => v = .bool true
  | 8 => v = .bool true
  | 9 => v = .bool true
  | 10 => v = .slice (some ⟨g, 0, none⟩) n n
  | 11 => v = .slice (some ⟨g, 0, none⟩) n n
  | 12 => v = .int .i64 (n : Int)
  | 13 => v = .int .i64 (k : Int)
  | 14 => v = .pointer (some ⟨g, k * 12, none⟩)
  | 15 => v = .pointer (some ⟨g, k * 12 + 8, none⟩)
  | 16 => v = .agg #[.bool s1, .int .u64 x1, .int .u64 y1, .pointer p1]
  | 17 => v = .int .i64 0
  | 18 => v = .bool true
  | 19 => v = .bool true
  | 20 => v = .bool true
  | 21 => v = .agg #[.bool s2, .int .u64 x2, .int .u64 y2, .pointer p2]
  | 22 => v = .agg #[.int .i64 a1, .int .i64 a2]
  | 23 => v = .agg #[.bool s4, .int .u64 x4, .int .u64 y4, .pointer p4]
  | 24 => v = .bool true
  | 25 => v = .bool true
  | 26 => v = .bool true
  | 27 => v = .agg #[.bool s3, .int .u64 x3, .int .u64 y3, .pointer p3]
  | 28 => v = .agg #[.int .i64 a1, .int .i64 a2]
  | 29 => v = .agg #[.bool s4, .int .u64 x4, .int .u64 y4, .pointer p4]
  | 30 => v = .bool true
  | 31 => v = .bool true
  | _ => v = .bool true
theorem opZC_but {g : Nat} {n : Nat} {k : Nat} {q : Option Addr} {c : Nat} {a1 : Int} {a2 : Int} {s1 : Bool} {x1 : Int} {y1 : Int} {p1 : Option Addr} {s2 : Bool} {x2 : Int} {y2 : Int} {p2 : Option Addr} {s3 : Bool} {x3 : Int} {y3 : Int} {p3 : Option Addr} {s4 : Bool} {x4 : Int} {y4 : Int} {p4 : Option Addr} {i : Nat} {w w' : World} {v : Value} (h : opZC g n k q c a1 a2 s1 x1 y1 p1 s2 x2 y2 p2 s3 x3 y3 p3 s4 x4 y4 p4 i w v) (hi : i < 33) (_hb : But [] w w') : opZC g n k q c a1 a2 s1 x1 y1 p1 s2 x2 y2 p2 s3 x3 y3 p3 s4 x4 y4 p4 i w' v := by
  have : i = 0 ∨ i = 1 ∨ i = 2 ∨ i = 3 ∨ i = 4 ∨ i = 5 ∨ i = 6 ∨ i = 7 ∨ i = 8 ∨ i = 9 ∨ i = 10 ∨ i = 11 ∨ i = 12 ∨ i = 13 ∨ i = 14 ∨ i = 15 ∨ i = 16 ∨ i = 17 ∨ i = 18 ∨ i = 19 ∨ i = 20 ∨ i = 21 ∨ i = 22 ∨ i = 23 ∨ i = 24 ∨ i = 25 ∨ i = 26 ∨ i = 27 ∨ i = 28 ∨ i = 29 ∨ i = 30 ∨ i = 31 ∨ i = 32 := by omega
  rcases this with rfl | rfl | rfl | rfl | rfl | rfl | rfl | rfl | rfl | rfl | rfl | rfl | rfl | rfl | rfl | rfl | rfl | rfl | rfl | rfl | rfl | rfl | rfl | rfl | rfl | rfl | rfl | rfl | rfl | rfl | rfl | rfl | rfl
  all_goals exact h
theorem opZT_inj : ∀ i j, i < 33 → j < 33 → opZT i = opZT j → i = j := fun i j hi hj => (by decide : ∀ i, i < 33 → ∀ j, j < 33 → opZT i = opZT j → i = j) i hi j hj
set_option maxRecDepth 100000 in
theorem last_region (id : Nat) (Q : Exit → Act → World → Prop) (base : Act) (W0 : World) (g : Nat) (n : Nat) (k : Nat) (q : Option Addr) (c : Nat) (a1 : Int) (a2 : Int) (s1 : Bool) (x1 : Int) (y1 : Int) (p1 : Option Addr) (s2 : Bool) (x2 : Int) (y2 : Int) (p2 : Option Addr) (s3 : Bool) (x3 : Int) (y3 : Int) (p3 : Option Addr) (s4 : Bool) (x4 : Int) (y4 : Int) (p4 : Option Addr) (hs : 108 < base.tmps.size) (e7 : base.eval (.tmp 7) = .nilIface) (e6 : base.eval (.tmp 6) = .slice (some ⟨g, 0, none⟩) n n) (e1 : base.eval (.tmp 1) = .slice q n c)
    (g2 g8 g11 : Nat) (e2 : base.eval (.tmp 2) = .pointer (some ⟨g2, 0, none⟩)) (e8 : base.eval (.tmp 8) = .pointer (some ⟨g8, 0, none⟩)) (e11 : base.eval (.tmp 11) = .pointer (some ⟨g11, 0, none⟩)) (hnk : n = k + 1) (hn : n < 1000000) (c1 : P4o W0 g (k * 12 + 8) s1 x1 y1 p1) (c2 : P4 W0 g8 s2 x2 y2 p2) (c3 : P4 W0 g11 s3 x3 y3 p3) (cq0 : W0.cell? ⟨g2, 0, none⟩ = some (.int .i64 a1)) (cq1 : W0.cell? ⟨g2, 1, none⟩ = some (.int .i64 a2))
    (SG : ∀ w, But [] W0 w → Calls Tryz.prog 12 #[.agg #[.bool s1, .int .u64 x1, .int .u64 y1, .pointer p1]] w fun e w' => e = .returned (.int .i64 0) ∧ But [] w w')
    (PF : ∀ w, Calls Tryz.prog 5 #[.agg #[.int .i64 a1, .int .i64 a2]] w fun e w' => e = .returned (.agg #[.bool s4, .int .u64 x4, .int .u64 y4, .pointer p4]) ∧ But [] w w')
    (LK1 : ∀ w, But [] W0 w → Calls Tryz.prog 9 #[.agg #[.bool s2, .int .u64 x2, .int .u64 y2, .pointer p2], .agg #[.bool s4, .int .u64 x4, .int .u64 y4, .pointer p4]] w fun e w' => e = .returned (.bool true) ∧ But [] w w')
    (LK2 : ∀ w, But [] W0 w → Calls Tryz.prog 9 #[.agg #[.bool s3, .int .u64 x3, .int .u64 y3, .pointer p3], .agg #[.bool s4, .int .u64 x4, .int .u64 y4, .pointer p4]] w fun e w' => e = .returned (.bool true) ∧ But [] w w')
    (hQ : ∀ w, But [] W0 w → Q .normal (putted base [(77, .nilIface), (78, .bool true), (79, .bool true), (80, .slice (some ⟨g, 0, none⟩) n n), (81, .int .i64 (n : Int)), (82, .slice q n c), (83, .int .i64 (n : Int)), (84, .bool true), (85, .bool true), (86, .bool true), (87, .slice (some ⟨g, 0, none⟩) n n), (88, .slice (some ⟨g, 0, none⟩) n n), (89, .int .i64 (n : Int)), (90, .int .i64 (k : Int)), (91, .pointer (some ⟨g, k * 12, none⟩)), (92, .pointer (some ⟨g, k * 12 + 8, none⟩)), (93, .agg #[.bool s1, .int .u64 x1, .int .u64 y1, .pointer p1]), (94, .int .i64 0), (95, .bool true), (96, .bool true), (97, .bool true), (98, .agg #[.bool s2, .int .u64 x2, .int .u64 y2, .pointer p2]), (99, .agg #[.int .i64 a1, .int .i64 a2]), (100, .agg #[.bool s4, .int .u64 x4, .int .u64 y4, .pointer p4]), (101, .bool true), (102, .bool true), (103, .bool true), (104, .agg #[.bool s3, .int .u64 x3, .int .u64 y3, .pointer p3]), (105, .agg #[.int .i64 a1, .int .i64 a2]), (106, .agg #[.bool s4, .int .u64 x4, .int .u64 y4, .pointer p4]), (107, .bool true), (108, .bool true), (4, .bool true)]) w) :
    (Code.region id opZs true).wp Tryz.prog Q base W0 := by
  have hdr : ∀ {w}, But [] W0.drew w → But [] W0 w := fun h => (But.refl _ _).drew.trans' h
  have hT : ∀ i, i < 33 → opZT i < base.tmps.size := fun i hi => by
    have h : opZT i ≤ 108 := by revert i; decide
    omega
  refine region_go (by kernel_rfl) (low_of (by kernel_rfl)) (opZC g n k q c a1 a2 s1 x1 y1 p1 s2 x2 y2 p2 s3 x3 y3 p3 s4 x4 y4 p4) opZT (by kernel_rfl) ?_ opZT_inj hT (fun i w w' v hi h hb => opZC_but h hi hb) ?_ ?_
  · intro i o j want ho hg w v hv
    have hi : i < 33 := (Array.getElem?_eq_some_iff.1 ho).1
    have : i = 0 ∨ i = 1 ∨ i = 2 ∨ i = 3 ∨ i = 4 ∨ i = 5 ∨ i = 6 ∨ i = 7 ∨ i = 8 ∨ i = 9 ∨ i = 10 ∨ i = 11 ∨ i = 12 ∨ i = 13 ∨ i = 14 ∨ i = 15 ∨ i = 16 ∨ i = 17 ∨ i = 18 ∨ i = 19 ∨ i = 20 ∨ i = 21 ∨ i = 22 ∨ i = 23 ∨ i = 24 ∨ i = 25 ∨ i = 26 ∨ i = 27 ∨ i = 28 ∨ i = 29 ∨ i = 30 ∨ i = 31 ∨ i = 32 := by omega
    rcases this with rfl | rfl | rfl | rfl | rfl | rfl | rfl | rfl | rfl | rfl | rfl | rfl | rfl | rfl | rfl | rfl | rfl | rfl | rfl | rfl | rfl | rfl | rfl | rfl | rfl | rfl | rfl | rfl | rfl | rfl | rfl | rfl | rfl
    · obtain rfl := Option.some.inj ((show opZs[0]? = some opZ0 from rfl).symm.trans ho)
      exact absurd (show (none : Option (Nat × Bool)) = some (j, want) from hg) (by simp)
    · obtain rfl := Option.some.inj ((show opZs[1]? = some opZ1 from rfl).symm.trans ho)
      exact absurd (show (none : Option (Nat × Bool)) = some (j, want) from hg) (by simp)
    · obtain rfl := Option.some.inj ((show opZs[2]? = some opZ2 from rfl).symm.trans ho)
      exact absurd (show (none : Option (Nat × Bool)) = some (j, want) from hg) (by simp)
    · obtain rfl := Option.some.inj ((show opZs[3]? = some opZ3 from rfl).symm.trans ho)
      obtain ⟨rfl, rfl⟩ := Prod.mk.inj (Option.some.inj (show some (2, true) = some (j, want) from hg))
      exact hv
    · obtain rfl := Option.some.inj ((show opZs[4]? = some opZ4 from rfl).symm.trans ho)
      obtain ⟨rfl, rfl⟩ := Prod.mk.inj (Option.some.inj (show some (2, true) = some (j, want) from hg))
      exact hv
    · obtain rfl := Option.some.inj ((show opZs[5]? = some opZ5 from rfl).symm.trans ho)
      obtain ⟨rfl, rfl⟩ := Prod.mk.inj (Option.some.inj (show some (2, true) = some (j, want) from hg))
      exact hv
    · obtain rfl := Option.some.inj ((show opZs[6]? = some opZ6 from rfl).symm.trans ho)
      obtain ⟨rfl, rfl⟩ := Prod.mk.inj (Option.some.inj (show some (2, true) = some (j, want) from hg))
      exact hv
    · obtain rfl := Option.some.inj ((show opZs[7]? = some opZ7 from rfl).symm.trans ho)
      obtain ⟨rfl, rfl⟩ := Prod.mk.inj (Option.some.inj (show some (2, true) = some (j, want) from hg))
      exact hv
    · obtain rfl := Option.some.inj ((show opZs[8]? = some opZ8 from rfl).symm.trans ho)
      exact absurd (show (none : Option (Nat × Bool)) = some (j, want) from hg) (by simp)
    · obtain rfl := Option.some.inj ((show opZs[9]? = some opZ9 from rfl).symm.trans ho)
      exact absurd (show (none : Option (Nat × Bool)) = some (j, want) from hg) (by simp)
    · obtain rfl := Option.some.inj ((show opZs[10]? = some opZ10 from rfl).symm.trans ho)
      obtain ⟨rfl, rfl⟩ := Prod.mk.inj (Option.some.inj (show some (9, true) = some (j, want) from hg))
      exact hv
    · obtain rfl := Option.some.inj ((show opZs[11]? = some opZ11 from rfl).symm.trans ho)
      obtain ⟨rfl, rfl⟩ := Prod.mk.inj (Option.some.inj (show some (9, true) = some (j, want) from hg))
      exact hv
    · obtain rfl := Option.some.inj ((show opZs[12]? = some opZ12 from rfl).symm.trans ho)
      obtain ⟨rfl, rfl⟩ := Prod.mk.inj (Option.some.inj (show some (9, true) = some (j, want) from hg))
      exact hv
    · obtain rfl := Option.some.inj ((show opZs[13]? = some opZ13 from rfl).symm.trans ho)
      obtain ⟨rfl, rfl⟩ := Prod.mk.inj (Option.some.inj (show some (9, true) = some (j, want) from hg))
      exact hv
    · obtain rfl := Option.some.inj ((show opZs[14]? = some opZ14 from rfl).symm.trans ho)
      obtain ⟨rfl, rfl⟩ := Prod.mk.inj (Option.some.inj (show some (9, true) = some (j, want) from hg))
      exact hv
    · obtain rfl := Option.some.inj ((show opZs[15]? = some opZ15 from rfl).symm.trans ho)
      obtain ⟨rfl, rfl⟩ := Prod.mk.inj (Option.some.inj (show some (9, true) = some (j, want) from hg))
      exact hv
    · obtain rfl := Option.some.inj ((show opZs[16]? = some opZ16 from rfl).symm.trans ho)
      obtain ⟨rfl, rfl⟩ := Prod.mk.inj (Option.some.inj (show some (9, true) = some (j, want) from hg))
      exact hv
    · obtain rfl := Option.some.inj ((show opZs[17]? = some opZ17 from rfl).symm.trans ho)
      obtain ⟨rfl, rfl⟩ := Prod.mk.inj (Option.some.inj (show some (9, true) = some (j, want) from hg))
      exact hv
    · obtain rfl := Option.some.inj ((show opZs[18]? = some opZ18 from rfl).symm.trans ho)
      obtain ⟨rfl, rfl⟩ := Prod.mk.inj (Option.some.inj (show some (9, true) = some (j, want) from hg))
      exact hv
    · obtain rfl := Option.some.inj ((show opZs[19]? = some opZ19 from rfl).symm.trans ho)
      exact absurd (show (none : Option (Nat × Bool)) = some (j, want) from hg) (by simp)
    · obtain rfl := Option.some.inj ((show opZs[20]? = some opZ20 from rfl).symm.trans ho)
      exact absurd (show (none : Option (Nat × Bool)) = some (j, want) from hg) (by simp)
    · obtain rfl := Option.some.inj ((show opZs[21]? = some opZ21 from rfl).symm.trans ho)
      obtain ⟨rfl, rfl⟩ := Prod.mk.inj (Option.some.inj (show some (20, true) = some (j, want) from hg))
      exact hv
    · obtain rfl := Option.some.inj ((show opZs[22]? = some opZ22 from rfl).symm.trans ho)
      obtain ⟨rfl, rfl⟩ := Prod.mk.inj (Option.some.inj (show some (20, true) = some (j, want) from hg))
      exact hv
    · obtain rfl := Option.some.inj ((show opZs[23]? = some opZ23 from rfl).symm.trans ho)
      obtain ⟨rfl, rfl⟩ := Prod.mk.inj (Option.some.inj (show some (20, true) = some (j, want) from hg))
      exact hv
    · obtain rfl := Option.some.inj ((show opZs[24]? = some opZ24 from rfl).symm.trans ho)
      obtain ⟨rfl, rfl⟩ := Prod.mk.inj (Option.some.inj (show some (20, true) = some (j, want) from hg))
      exact hv
    · obtain rfl := Option.some.inj ((show opZs[25]? = some opZ25 from rfl).symm.trans ho)
      exact absurd (show (none : Option (Nat × Bool)) = some (j, want) from hg) (by simp)
    · obtain rfl := Option.some.inj ((show opZs[26]? = some opZ26 from rfl).symm.trans ho)
      exact absurd (show (none : Option (Nat × Bool)) = some (j, want) from hg) (by simp)
    · obtain rfl := Option.some.inj ((show opZs[27]? = some opZ27 from rfl).symm.trans ho)
      obtain ⟨rfl, rfl⟩ := Prod.mk.inj (Option.some.inj (show some (26, true) = some (j, want) from hg))
      exact hv
    · obtain rfl := Option.some.inj ((show opZs[28]? = some opZ28 from rfl).symm.trans ho)
      obtain ⟨rfl, rfl⟩ := Prod.mk.inj (Option.some.inj (show some (26, true) = some (j, want) from hg))
      exact hv
    · obtain rfl := Option.some.inj ((show opZs[29]? = some opZ29 from rfl).symm.trans ho)
      obtain ⟨rfl, rfl⟩ := Prod.mk.inj (Option.some.inj (show some (26, true) = some (j, want) from hg))
      exact hv
    · obtain rfl := Option.some.inj ((show opZs[30]? = some opZ30 from rfl).symm.trans ho)
      obtain ⟨rfl, rfl⟩ := Prod.mk.inj (Option.some.inj (show some (26, true) = some (j, want) from hg))
      exact hv
    · obtain rfl := Option.some.inj ((show opZs[31]? = some opZ31 from rfl).symm.trans ho)
      exact absurd (show (none : Option (Nat × Bool)) = some (j, want) from hg) (by simp)
    · obtain rfl := Option.some.inj ((show opZs[32]? = some opZ32 from rfl).symm.trans ho)
      exact absurd (show (none : Option (Nat × Bool)) = some (j, want) from hg) (by simp)
  · intro i o a w K ho hH he hdep hk
    have hi : i < 33 := (Array.getElem?_eq_some_iff.1 ho).1
    have hD := dep_have (ps := [(1, 0), (2, 1), (3, 2), (4, 2), (4, 3), (5, 2), (6, 2), (6, 5), (7, 2), (7, 4), (7, 6), (8, 2), (8, 7), (9, 2), (9, 8), (10, 9), (11, 9), (12, 9), (12, 11), (13, 9), (13, 12), (14, 9), (14, 10), (14, 13), (15, 9), (15, 14), (16, 9), (16, 15), (17, 9), (17, 16), (18, 9), (18, 17), (19, 9), (19, 18), (20, 17), (20, 19), (21, 20), (22, 20), (23, 20), (23, 22), (24, 20), (24, 21), (24, 23), (25, 20), (25, 24), (26, 24), (26, 25), (27, 26), (28, 26), (29, 26), (29, 28), (30, 26), (30, 27), (30, 29), (31, 26), (31, 30), (32, 0), (32, 1), (32, 2), (32, 3), (32, 4), (32, 5), (32, 6), (32, 7), (32, 8), (32, 9), (32, 10), (32, 11), (32, 12), (32, 13), (32, 14), (32, 15), (32, 16), (32, 17), (32, 18), (32, 19), (32, 20), (32, 21), (32, 22), (32, 23), (32, 24), (32, 25), (32, 26), (32, 27), (32, 28), (32, 29), (32, 30), (32, 31)]) (by kernel_rfl) ho (fun j => opZC g n k q c a1 a2 s1 x1 y1 p1 s2 x2 y2 p2 s3 x3 y3 p3 s4 x4 y4 p4 j w (a.eval (.tmp (opZT j)))) hdep
    have e2' := (he 2 (fun j hj e => absurd e.symm (by revert j; decide))).trans e2
    have e8' := (he 8 (fun j hj e => absurd e.symm (by revert j; decide))).trans e8
    have e11' := (he 11 (fun j hj e => absurd e.symm (by revert j; decide))).trans e11
    have e7' := (he 7 (fun j hj e => absurd e.symm (by revert j; decide))).trans e7
    have e6' := (he 6 (fun j hj e => absurd e.symm (by revert j; decide))).trans e6
    have e1' := (he 1 (fun j hj e => absurd e.symm (by revert j; decide))).trans e1
    have : i = 0 ∨ i = 1 ∨ i = 2 ∨ i = 3 ∨ i = 4 ∨ i = 5 ∨ i = 6 ∨ i = 7 ∨ i = 8 ∨ i = 9 ∨ i = 10 ∨ i = 11 ∨ i = 12 ∨ i = 13 ∨ i = 14 ∨ i = 15 ∨ i = 16 ∨ i = 17 ∨ i = 18 ∨ i = 19 ∨ i = 20 ∨ i = 21 ∨ i = 22 ∨ i = 23 ∨ i = 24 ∨ i = 25 ∨ i = 26 ∨ i = 27 ∨ i = 28 ∨ i = 29 ∨ i = 30 ∨ i = 31 ∨ i = 32 := by omega
    rcases this with rfl | rfl | rfl | rfl | rfl | rfl | rfl | rfl | rfl | rfl | rfl | rfl | rfl | rfl | rfl | rfl | rfl | rfl | rfl | rfl | rfl | rfl | rfl | rfl | rfl | rfl | rfl | rfl | rfl | rfl | rfl | rfl | rfl
    · obtain rfl := Option.some.inj ((show opZs[0]? = some opZ0 from rfl).symm.trans ho)
      exact wp_value (run_mv a w _ _ _ _ _ _ _ e7') (hk _ _ (But.refl _ _) rfl)
    · obtain rfl := Option.some.inj ((show opZs[1]? = some opZ1 from rfl).symm.trans ho)
      exact wp_value (run_eqnil a w _ _ _ _ _ _ (hD 0 (by simp))) (hk _ _ (But.refl _ _) rfl)
    · obtain rfl := Option.some.inj ((show opZs[2]? = some opZ2 from rfl).symm.trans ho)
      exact wp_value (run_mv a w _ _ _ _ _ _ _ (hD 1 (by simp))) (hk _ _ (But.refl _ _) rfl)
    · obtain rfl := Option.some.inj ((show opZs[3]? = some opZ3 from rfl).symm.trans ho)
      exact wp_value (run_mv a w _ _ _ _ _ _ _ e6') (hk _ _ (But.refl _ _) rfl)
    · obtain rfl := Option.some.inj ((show opZs[4]? = some opZ4 from rfl).symm.trans ho)
      exact wp_value (run_lenP a w _ _ _ _ _ _ _ _ _ (hD 3 (by simp))) (hk _ _ (But.refl _ _) rfl)
    · obtain rfl := Option.some.inj ((show opZs[5]? = some opZ5 from rfl).symm.trans ho)
      exact wp_value (run_mv a w _ _ _ _ _ _ _ e1') (hk _ _ (But.refl _ _) rfl)
    · obtain rfl := Option.some.inj ((show opZs[6]? = some opZ6 from rfl).symm.trans ho)
      exact wp_value (run_lenQ a w _ _ _ _ _ _ _ _ _ (hD 5 (by simp))) (hk _ _ (But.refl _ _) rfl)
    · obtain rfl := Option.some.inj ((show opZs[7]? = some opZ7 from rfl).symm.trans ho)
      exact wp_value (run_eqint a w _ _ _ _ _ _ _ _ (hD 4 (by simp)) (hD 6 (by simp))) (hk _ _ (But.refl _ _) rfl)
    · obtain rfl := Option.some.inj ((show opZs[8]? = some opZ8 from rfl).symm.trans ho)
      exact wp_value (run_pick a w _ _ _ _ _ _ _ _ (hD 2 (by simp)) (hD 7 (by simp))) (hk _ _ (But.refl _ _) rfl)
    · obtain rfl := Option.some.inj ((show opZs[9]? = some opZ9 from rfl).symm.trans ho)
      exact wp_value (run_mv a w _ _ _ _ _ _ _ (hD 8 (by simp))) (hk _ _ (But.refl _ _) rfl)
    · obtain rfl := Option.some.inj ((show opZs[10]? = some opZ10 from rfl).symm.trans ho)
      exact wp_value (run_mv a w _ _ _ _ _ _ _ e6') (hk _ _ (But.refl _ _) rfl)
    · obtain rfl := Option.some.inj ((show opZs[11]? = some opZ11 from rfl).symm.trans ho)
      exact wp_value (run_mv a w _ _ _ _ _ _ _ e6') (hk _ _ (But.refl _ _) rfl)
    · obtain rfl := Option.some.inj ((show opZs[12]? = some opZ12 from rfl).symm.trans ho)
      exact wp_value (run_lenP a w _ _ _ _ _ _ _ _ _ (hD 11 (by simp))) (hk _ _ (But.refl _ _) rfl)
    · obtain rfl := Option.some.inj ((show opZs[13]? = some opZ13 from rfl).symm.trans ho)
      exact wp_value (run_sub1 a w _ _ _ _ _ _ k (by omega) (by rw [← hnk]; exact (hD 12 (by simp)))) (hk _ _ (But.refl _ _) rfl)
    · obtain rfl := Option.some.inj ((show opZs[14]? = some opZ14 from rfl).symm.trans ho)
      exact wp_value (run_indexP a w _ _ _ _ _ _ _ g n n k (by omega) hn (hD 10 (by simp)) (hD 13 (by simp))) (hk _ _ (But.refl _ _) rfl)
    · obtain rfl := Option.some.inj ((show opZs[15]? = some opZ15 from rfl).symm.trans ho)
      exact wp_value (run_field2 a w _ _ _ _ _ _ g _ (hD 14 (by simp))) (hk _ _ (But.refl _ _) rfl)
    · obtain rfl := Option.some.inj ((show opZs[16]? = some opZ16 from rfl).symm.trans ho)
      exact wp_value (run_loadF a w _ _ _ _ _ _ g _ _ _ _ _ (hD 15 (by simp)) (c1.but (hdr hH) (by simp))) (hk _ _ (But.refl _ _) rfl)
    · obtain rfl := Option.some.inj ((show opZs[17]? = some opZ17 from rfl).symm.trans ho)
      exact wp_enter (run_sign a w _ _ _ _ _ _ _ (hD 16 (by simp))) (R := fun w' v => But [] w w' ∧ v = _) ((SG w (hdr hH)).mono fun e w' ⟨he, hb⟩ => ⟨_, he, hb, rfl⟩) (fun v w' hv => hk v w' hv.1 hv.2)
    · obtain rfl := Option.some.inj ((show opZs[18]? = some opZ18 from rfl).symm.trans ho)
      exact wp_value (run_eqzero a w _ _ _ _ _ _ (hD 17 (by simp))) (hk _ _ (But.refl _ _) rfl)
    · obtain rfl := Option.some.inj ((show opZs[19]? = some opZ19 from rfl).symm.trans ho)
      exact wp_value (run_pick a w _ _ _ _ _ _ _ _ (hD 9 (by simp)) (hD 18 (by simp))) (hk _ _ (But.refl _ _) rfl)
    · obtain rfl := Option.some.inj ((show opZs[20]? = some opZ20 from rfl).symm.trans ho)
      exact wp_value (run_mv a w _ _ _ _ _ _ _ (hD 19 (by simp))) (hk _ _ (But.refl _ _) rfl)
    · obtain rfl := Option.some.inj ((show opZs[21]? = some opZ21 from rfl).symm.trans ho)
      exact wp_value (run_loadF a w _ _ _ _ _ _ g8 0 _ _ _ _ e8' (c2.but (hdr hH) (by simp))) (hk _ _ (But.refl _ _) rfl)
    · obtain rfl := Option.some.inj ((show opZs[22]? = some opZ22 from rfl).symm.trans ho)
      exact wp_value (run_loadQ a w _ _ _ _ _ _ g2 _ _ e2' ((hdr hH).cell_some cq0 (by simp)) ((hdr hH).cell_some cq1 (by simp))) (hk _ _ (But.refl _ _) rfl)
    · obtain rfl := Option.some.inj ((show opZs[23]? = some opZ23 from rfl).symm.trans ho)
      exact wp_enter (run_plainF a w _ _ _ _ _ _ _ (hD 22 (by simp))) (R := fun w' v => But [] w w' ∧ v = _) ((PF w).mono fun e w' ⟨he, hb⟩ => ⟨_, he, hb, rfl⟩) (fun v w' hv => hk v w' hv.1 hv.2)
    · obtain rfl := Option.some.inj ((show opZs[24]? = some opZ24 from rfl).symm.trans ho)
      exact wp_enter (run_like a w _ _ _ _ _ _ _ _ _ (hD 21 (by simp)) (hD 23 (by simp))) (R := fun w' v => But [] w w' ∧ v = _) ((LK1 w (hdr hH)).mono fun e w' ⟨he, hb⟩ => ⟨_, he, hb, rfl⟩) (fun v w' hv => hk v w' hv.1 hv.2)
    · obtain rfl := Option.some.inj ((show opZs[25]? = some opZ25 from rfl).symm.trans ho)
      exact wp_value (run_pick a w _ _ _ _ _ _ _ _ (hD 20 (by simp)) (hD 24 (by simp))) (hk _ _ (But.refl _ _) rfl)
    · obtain rfl := Option.some.inj ((show opZs[26]? = some opZ26 from rfl).symm.trans ho)
      exact wp_value (run_mv a w _ _ _ _ _ _ _ (hD 25 (by simp))) (hk _ _ (But.refl _ _) rfl)
    · obtain rfl := Option.some.inj ((show opZs[27]? = some opZ27 from rfl).symm.trans ho)
      exact wp_value (run_loadF a w _ _ _ _ _ _ g11 0 _ _ _ _ e11' (c3.but (hdr hH) (by simp))) (hk _ _ (But.refl _ _) rfl)
    · obtain rfl := Option.some.inj ((show opZs[28]? = some opZ28 from rfl).symm.trans ho)
      exact wp_value (run_loadQ a w _ _ _ _ _ _ g2 _ _ e2' ((hdr hH).cell_some cq0 (by simp)) ((hdr hH).cell_some cq1 (by simp))) (hk _ _ (But.refl _ _) rfl)
    · obtain rfl := Option.some.inj ((show opZs[29]? = some opZ29 from rfl).symm.trans ho)
      exact wp_enter (run_plainF a w _ _ _ _ _ _ _ (hD 28 (by simp))) (R := fun w' v => But [] w w' ∧ v = _) ((PF w).mono fun e w' ⟨he, hb⟩ => ⟨_, he, hb, rfl⟩) (fun v w' hv => hk v w' hv.1 hv.2)
    · obtain rfl := Option.some.inj ((show opZs[30]? = some opZ30 from rfl).symm.trans ho)
      exact wp_enter (run_like a w _ _ _ _ _ _ _ _ _ (hD 27 (by simp)) (hD 29 (by simp))) (R := fun w' v => But [] w w' ∧ v = _) ((LK2 w (hdr hH)).mono fun e w' ⟨he, hb⟩ => ⟨_, he, hb, rfl⟩) (fun v w' hv => hk v w' hv.1 hv.2)
    · obtain rfl := Option.some.inj ((show opZs[31]? = some opZ31 from rfl).symm.trans ho)
      exact wp_value (run_pick a w _ _ _ _ _ _ _ _ (hD 26 (by simp)) (hD 30 (by simp))) (hk _ _ (But.refl _ _) rfl)
    · obtain rfl := Option.some.inj ((show opZs[32]? = some opZ32 from rfl).symm.trans ho)
      exact wp_value (run_as a w _ _ _ _ _ _ _ (hD 31 (by simp))) (hk _ _ (But.refl _ _) rfl)
  · intro a w h
    have ea := h.puts hT (fun i => match i with
      | 0 => .nilIface
      | 1 => .bool true
      | 2 => .bool true
      | 3 => .slice (some ⟨g, 0, none⟩) n n
      | 4 => .int .i64 (n : Int)
      | 5 => .slice q n c
      | 6 => .int .i64 (n : Int)
      | 7 => .bool true
      | 8 => .bool true
      | 9 => .bool true
      | 10 => .slice (some ⟨g, 0, none⟩) n n
      | 11 => .slice (some ⟨g, 0, none⟩) n n
      | 12 => .int .i64 (n : Int)
      | 13 => .int .i64 (k : Int)
      | 14 => .pointer (some ⟨g, k * 12, none⟩)
      | 15 => .pointer (some ⟨g, k * 12 + 8, none⟩)
      | 16 => .agg #[.bool s1, .int .u64 x1, .int .u64 y1, .pointer p1]
      | 17 => .int .i64 0
      | 18 => .bool true
      | 19 => .bool true
      | 20 => .bool true
      | 21 => .agg #[.bool s2, .int .u64 x2, .int .u64 y2, .pointer p2]
      | 22 => .agg #[.int .i64 a1, .int .i64 a2]
      | 23 => .agg #[.bool s4, .int .u64 x4, .int .u64 y4, .pointer p4]
      | 24 => .bool true
      | 25 => .bool true
      | 26 => .bool true
      | 27 => .agg #[.bool s3, .int .u64 x3, .int .u64 y3, .pointer p3]
      | 28 => .agg #[.int .i64 a1, .int .i64 a2]
      | 29 => .agg #[.bool s4, .int .u64 x4, .int .u64 y4, .pointer p4]
      | 30 => .bool true
      | 31 => .bool true
      | _ => .bool true) (fun i hi => by
      have hi' : i < 33 := hi
      have hc := h.has i hi rfl
      have : i = 0 ∨ i = 1 ∨ i = 2 ∨ i = 3 ∨ i = 4 ∨ i = 5 ∨ i = 6 ∨ i = 7 ∨ i = 8 ∨ i = 9 ∨ i = 10 ∨ i = 11 ∨ i = 12 ∨ i = 13 ∨ i = 14 ∨ i = 15 ∨ i = 16 ∨ i = 17 ∨ i = 18 ∨ i = 19 ∨ i = 20 ∨ i = 21 ∨ i = 22 ∨ i = 23 ∨ i = 24 ∨ i = 25 ∨ i = 26 ∨ i = 27 ∨ i = 28 ∨ i = 29 ∨ i = 30 ∨ i = 31 ∨ i = 32 := by omega
      rcases this with rfl | rfl | rfl | rfl | rfl | rfl | rfl | rfl | rfl | rfl | rfl | rfl | rfl | rfl | rfl | rfl | rfl | rfl | rfl | rfl | rfl | rfl | rfl | rfl | rfl | rfl | rfl | rfl | rfl | rfl | rfl | rfl | rfl
      all_goals exact hc)
    rw [ea]
    exact hQ w (hdr h.but)
end Go.Proofs.YtnfnphbihgchhaaGreatDoor

namespace Go.Proofs.YtnfnphbihgchhaaGreatDoor
open Go.RowKit

def opB0 : Oper := { dst := some 59, op := Op.load 28 (Operand.tmp 8), type := 28, pos := "keep.go:314", after := #[], guard := none }
def opB1 : Oper := { dst := some 60, op := Op.move (Operand.tmp 6), type := 29, pos := "keep.go:314", after := #[], guard := none }
def opB2 : Oper := { dst := some 61, op := Op.move (Operand.tmp 10), type := 3, pos := "keep.go:314", after := #[], guard := none }
def opB3 : Oper := { dst := some 62, op := Op.indexAddr 29 (Operand.tmp 60) (Operand.tmp 61), type := 0, pos := "keep.go:314", after := #[{ on := 1, ground := Ground.data }, { on := 2, ground := Ground.data }], guard := none }
def opB4 : Oper := { dst := some 63, op := Op.fieldAddr 41 (Operand.tmp 62) 1, type := 0, pos := "keep.go:314", after := #[{ on := 3, ground := Ground.data }], guard := none }
def opB5 : Oper := { dst := some 64, op := Op.load 28 (Operand.tmp 63), type := 28, pos := "keep.go:314", after := #[{ on := 4, ground := Ground.data }], guard := none }
def opB6 : Oper := { dst := some 65, op := Op.call { callee := Callee.value (Operand.func 10), args := #[Operand.tmp 59, Operand.tmp 64], argTypes := #[28, 28] }, type := 28, pos := "keep.go:314", after := #[{ on := 0, ground := Ground.data }, { on := 5, ground := Ground.data }], guard := none }
def opB7 : Oper := { dst := none, op := Op.store 28 (Operand.tmp 8) (Operand.tmp 65), type := 0, pos := "keep.go:314", after := #[{ on := 6, ground := Ground.data }, { on := 6, ground := Ground.chain }, { on := 0, ground := Ground.phase }, { on := 1, ground := Ground.phase }, { on := 2, ground := Ground.phase }, { on := 3, ground := Ground.phase }, { on := 4, ground := Ground.phase }, { on := 5, ground := Ground.phase }, { on := 6, ground := Ground.phase }], guard := none }
def opBs : Array Oper := #[opB0, opB1, opB2, opB3, opB4, opB5, opB6, opB7]
def opBT (i : Nat) : Nat := match i with
  | 0 => 59
  | 1 => 60
  | 2 => 61
  | 3 => 62
  | 4 => 63
  | 5 => 64
  | _ => 65
/-- what each operation's value is -/
def opBC (g : Nat) (n : Nat) (k : Nat) (s1 : Bool) (x1 : Int) (y1 : Int) (p1 : Option Addr) (s2 : Bool) (x2 : Int) (y2 : Int) (p2 : Option Addr) (f : Rat) (i : Nat) (w : World) (v : Value) : Prop := match i with
  | 0 => v = .agg #[.bool s1, .int .u64 x1, .int .u64 y1, .pointer p1]
  | 1 => v = .slice (some ⟨g, 0, none⟩) n n
  | 2 => v = .int .i64 (k : Int)
  | 3 => v = .pointer (some ⟨g, k * 12, none⟩)
  | 4 => v = .pointer (some ⟨g, k * 12 + 4, none⟩)
  | 5 => v = .agg #[.bool s2, .int .u64 x2, .int .u64 y2, .pointer p2]
  | _ => FracAt w v f
theorem opBC_but {g : Nat} {n : Nat} {k : Nat} {s1 : Bool} {x1 : Int} {y1 : Int} {p1 : Option Addr} {s2 : Bool} {x2 : Int} {y2 : Int} {p2 : Option Addr} {f : Rat} {i : Nat} {w w' : World} {v : Value} (h : opBC g n k s1 x1 y1 p1 s2 x2 y2 p2 f i w v) (hi : i < 7) (hb : But [] w w') : opBC g n k s1 x1 y1 p1 s2 x2 y2 p2 f i w' v := by
  have : i = 0 ∨ i = 1 ∨ i = 2 ∨ i = 3 ∨ i = 4 ∨ i = 5 ∨ i = 6 := by omega
  rcases this with rfl | rfl | rfl | rfl | rfl | rfl | rfl
  all_goals first | exact h | exact FracAt.but h hb | exact FracsAt.but h hb
theorem opBT_inj : ∀ i j, i < 7 → j < 7 → opBT i = opBT j → i = j := fun i j hi hj => (by decide : ∀ i, i < 7 → ∀ j, j < 7 → opBT i = opBT j → i = j) i hi j hj
set_option maxRecDepth 100000 in
theorem back_region (id : Nat) (Q : Exit → Act → World → Prop) (base : Act) (W0 : World) (g : Nat) (n : Nat) (k : Nat) (s1 : Bool) (x1 : Int) (y1 : Int) (p1 : Option Addr) (s2 : Bool) (x2 : Int) (y2 : Int) (p2 : Option Addr) (f : Rat) (gb : Nat) {sb : Bool} {xb yb : Int} {pb : Option Addr} (hs : 65 < base.tmps.size) (eb : base.eval (.tmp 8) = .pointer (some ⟨gb, 0, none⟩)) (cb : P4 W0 gb sb xb yb pb) (fzb : ∀ j, W0.frozen? ⟨gb, j, none⟩ = false) (e6 : base.eval (.tmp 6) = .slice (some ⟨g, 0, none⟩) n n) (e10 : base.eval (.tmp 10) = .int .i64 (k : Int))
    (hk' : k < n) (hn : n < 1000000) (c1 : P4 W0 gb s1 x1 y1 p1) (c2 : P4o W0 g (k * 12 + 4) s2 x2 y2 p2)
    (AD : ∀ w, But [] W0 w → Calls Tryz.prog 10 #[.agg #[.bool s1, .int .u64 x1, .int .u64 y1, .pointer p1], .agg #[.bool s2, .int .u64 x2, .int .u64 y2, .pointer p2]] w fun e w' => ∃ v, e = .returned v ∧ FracAt w' v f ∧ But [] w w')
    (hQ : ∀ w1 s' x' y' p', But [] W0 w1 → FracAt w1 (.agg #[.bool s', .int .u64 x', .int .u64 y', .pointer p']) (f) → Q .normal (putted base [(59, .agg #[.bool s1, .int .u64 x1, .int .u64 y1, .pointer p1]), (60, .slice (some ⟨g, 0, none⟩) n n), (61, .int .i64 (k : Int)), (62, .pointer (some ⟨g, k * 12, none⟩)), (63, .pointer (some ⟨g, k * 12 + 4, none⟩)), (64, .agg #[.bool s2, .int .u64 x2, .int .u64 y2, .pointer p2]), (65, (.agg #[.bool s', .int .u64 x', .int .u64 y', .pointer p']))]) (put4 w1 gb s' x' y' p')) :
    (Code.region id opBs true).wp Tryz.prog Q base W0 := by
  have hdr : ∀ {w}, But [] W0.drew w → But [] W0 w := fun h => (But.refl _ _).drew.trans' h
  have lgb : gb < W0.heap.size := lt_of_cell cb.1
  have hT : ∀ i, i < 7 → opBT i < base.tmps.size := fun i hi => by
    have h : opBT i ≤ 65 := by revert i; decide
    omega
  refine region_flow (by kernel_rfl) (low_of (by kernel_rfl)) (fun i o ho => (calm_of (ops := opBs) (by kernel_rfl) i o ho).1)
    (fun _ w => But [] W0.drew w) (opBC g n k s1 x1 y1 p1 s2 x2 y2 p2 f) opBT 7 rfl opBT_inj hT (But.refl _ _)
    (fun i hi => ?_) ?_ (fun a w => ∃ w1 s' x' y' p', a = putted base [(59, .agg #[.bool s1, .int .u64 x1, .int .u64 y1, .pointer p1]), (60, .slice (some ⟨g, 0, none⟩) n n), (61, .int .i64 (k : Int)), (62, .pointer (some ⟨g, k * 12, none⟩)), (63, .pointer (some ⟨g, k * 12 + 4, none⟩)), (64, .agg #[.bool s2, .int .u64 x2, .int .u64 y2, .pointer p2]), (65, (.agg #[.bool s', .int .u64 x', .int .u64 y', .pointer p']))] ∧ w = put4 w1 gb s' x' y' p' ∧ But [] W0 w1 ∧ FracAt w1 (.agg #[.bool s', .int .u64 x', .int .u64 y', .pointer p']) (f)) ?_ ?_
  · exact dep_of (ops := opBs) (ps := [(7, 0), (7, 1), (7, 2), (7, 3), (7, 4), (7, 5), (7, 6)]) (by kernel_rfl) 7 i (by
      have : i = 0 ∨ i = 1 ∨ i = 2 ∨ i = 3 ∨ i = 4 ∨ i = 5 ∨ i = 6 := by omega
      rcases this with rfl | rfl | rfl | rfl | rfl | rfl | rfl <;> simp)
  · intro dn i o a w K hi ho hdi hH he hdep hK
    have hD := fun j hj => (dep_have (ps := [(3, 1), (3, 2), (4, 3), (5, 4), (6, 0), (6, 5)]) (by kernel_rfl) ho (fun j => dn j = true ∧ opBC g n k s1 x1 y1 p1 s2 x2 y2 p2 f j w (a.eval (.tmp (opBT j)))) hdep j hj).2
    have hk : ∀ v w', But [] w w' → opBC g n k s1 x1 y1 p1 s2 x2 y2 p2 f i w' v → K (a.put (some (opBT i)) v) w' := fun v w' hb hv => hK v w' (hH.trans' hb) (fun j hj _ u hu => opBC_but hu hj hb) hv
    have eb' := (he 8 (fun j hj e => absurd e.symm (by revert j; decide))).trans eb
    have e6' := (he 6 (fun j hj e => absurd e.symm (by revert j; decide))).trans e6
    have e10' := (he 10 (fun j hj e => absurd e.symm (by revert j; decide))).trans e10
    have : i = 0 ∨ i = 1 ∨ i = 2 ∨ i = 3 ∨ i = 4 ∨ i = 5 ∨ i = 6 := by omega
    rcases this with rfl | rfl | rfl | rfl | rfl | rfl | rfl
    · obtain rfl := Option.some.inj ((show opBs[0]? = some opB0 from rfl).symm.trans ho)
      exact wp_value (run_loadF a w _ _ _ _ _ _ gb 0 _ _ _ _ eb' (c1.but (hdr hH) (by simp))) (hk _ _ (But.refl _ _) rfl)
    · obtain rfl := Option.some.inj ((show opBs[1]? = some opB1 from rfl).symm.trans ho)
      exact wp_value (run_mv a w _ _ _ _ _ _ _ e6') (hk _ _ (But.refl _ _) rfl)
    · obtain rfl := Option.some.inj ((show opBs[2]? = some opB2 from rfl).symm.trans ho)
      exact wp_value (run_mv a w _ _ _ _ _ _ _ e10') (hk _ _ (But.refl _ _) rfl)
    · obtain rfl := Option.some.inj ((show opBs[3]? = some opB3 from rfl).symm.trans ho)
      exact wp_value (run_indexP a w _ _ _ _ _ _ _ g n n k hk' hn (hD 1 (by simp)) (hD 2 (by simp))) (hk _ _ (But.refl _ _) rfl)
    · obtain rfl := Option.some.inj ((show opBs[4]? = some opB4 from rfl).symm.trans ho)
      exact wp_value (run_field1 a w _ _ _ _ _ _ g _ (hD 3 (by simp))) (hk _ _ (But.refl _ _) rfl)
    · obtain rfl := Option.some.inj ((show opBs[5]? = some opB5 from rfl).symm.trans ho)
      exact wp_value (run_loadF a w _ _ _ _ _ _ g _ _ _ _ _ (hD 4 (by simp)) (c2.but (hdr hH) (by simp))) (hk _ _ (But.refl _ _) rfl)
    · obtain rfl := Option.some.inj ((show opBs[6]? = some opB6 from rfl).symm.trans ho)
      exact wp_enter (run_addF a w _ _ _ _ _ _ _ _ _ (hD 0 (by simp)) (hD 5 (by simp))) (R := fun w' v => FracAt w' v f ∧ But [] w w') (AD w (hdr hH)) (fun v w' hv => hk v w' hv.2 hv.1)
  · intro dn o a w K ho hall h hK
    obtain rfl := Option.some.inj ((show opBs[7]? = some opB7 from rfl).symm.trans ho)
    have eb' := (h.eval 8 (fun j hj e => absurd e.symm (by revert j; decide))).trans eb
    have cl : FracAt w (a.eval (.tmp 65)) (f) := h.has 6 (by omega) (hall 6 (by omega))
    have cl' := cl
    obtain ⟨x', y', p', ev, -⟩ := cl.agg
    rw [ev] at cl'
    have ea := h.puts hT (fun i => match i with
      | 0 => .agg #[.bool s1, .int .u64 x1, .int .u64 y1, .pointer p1]
      | 1 => .slice (some ⟨g, 0, none⟩) n n
      | 2 => .int .i64 (k : Int)
      | 3 => .pointer (some ⟨g, k * 12, none⟩)
      | 4 => .pointer (some ⟨g, k * 12 + 4, none⟩)
      | 5 => .agg #[.bool s2, .int .u64 x2, .int .u64 y2, .pointer p2]
      | _ => .agg #[.bool (decide ((f).num < 0)), .int .u64 x', .int .u64 y', .pointer p']) (fun i hi => by
      have hc := h.has i hi (hall i hi)
      have : i = 0 ∨ i = 1 ∨ i = 2 ∨ i = 3 ∨ i = 4 ∨ i = 5 ∨ i = 6 := by omega
      rcases this with rfl | rfl | rfl | rfl | rfl | rfl | rfl
      all_goals first | exact ev | exact hc | rfl)
    exact wp_skipped (run_store4 a w _ _ _ _ _ gb _ x' y' p' eb' ev (cb.but (hdr h.mem) (by simp)) (fun j => ((hdr h.mem).frozen (p := ⟨gb, j, none⟩) lgb (by simp)).trans (fzb j))) (hK _ _ ⟨w, _, x', y', p', ea, rfl, hdr h.mem, cl'⟩)
  · rintro a w ⟨w1, s', x', y', p', rfl, rfl, h1, h2⟩
    exact hQ  w1 s' x' y' p' h1 h2
end Go.Proofs.YtnfnphbihgchhaaGreatDoor
