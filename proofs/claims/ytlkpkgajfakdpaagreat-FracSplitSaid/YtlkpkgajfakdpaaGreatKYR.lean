/- Single operations, by their runs: what regions that draw their order are made of. -/
import Derived.Test.YtlkpkgajfakdpaaGreatKR1
import Derived.Test.YtlkpkgajfakdpaaGreatKV1
namespace Go.Proofs.YtlkpkgajfakdpaaGreat
open Go.RowKit

theorem run_mv (a : Act) (w : World) (d t : Nat) (u : TypeId) (ps : String) (ed : Array Edge) (gd : Option (Nat × Bool)) (N : Value) (h : a.eval (.tmp t) = N) :
    (execOp a.eval { dst := some d, op := Op.move (.tmp t), type := u, pos := ps, after := ed, guard := gd }).run Tryz.prog w = .ok (.value (N)) w := by
  unfold execOp
  simp only [h]
  go_simp
theorem run_as (a : Act) (w : World) (d t : Nat) (u : TypeId) (ps : String) (ed : Array Edge) (gd : Option (Nat × Bool)) (N : Value) (h : a.eval (.tmp t) = N) :
    (execOp a.eval { dst := some d, op := Op.assign (.tmp t), type := u, pos := ps, after := ed, guard := gd }).run Tryz.prog w = .ok (.value (N)) w := by
  unfold execOp
  simp only [h]
  go_simp
theorem run_loadF (a : Act) (w : World) (d t : Nat) (u : TypeId) (ps : String) (ed : Array Edge) (gd : Option (Nat × Bool)) (b o : Nat) (s : Bool) (x y : Int) (p : Option Addr) (h1 : a.eval (.tmp t) = .pointer (some ⟨b, o, none⟩)) (hc : P4o w b o s x y p) :
    (execOp a.eval { dst := some d, op := Op.load 33 (.tmp t), type := u, pos := ps, after := ed, guard := gd }).run Tryz.prog w = .ok (.value (.agg #[.bool s, .int .u64 x, .int .u64 y, .pointer p])) w := by
  obtain ⟨c0, c1, c2, c3⟩ := hc
  unfold execOp
  simp only [h1]
  go_simp
theorem run_loadI (a : Act) (w : World) (d t : Nat) (u : TypeId) (ps : String) (ed : Array Edge) (gd : Option (Nat × Bool)) (b o : Nat) (x : Int) (h1 : a.eval (.tmp t) = .pointer (some ⟨b, o, none⟩)) (hc : w.cell? ⟨b, o, none⟩ = some (.int .i64 x)) :
    (execOp a.eval { dst := some d, op := Op.load 3 (.tmp t), type := u, pos := ps, after := ed, guard := gd }).run Tryz.prog w = .ok (.value (.int .i64 x)) w := by
  unfold execOp
  simp only [h1]
  go_simp
theorem run_loadS (a : Act) (w : World) (d t : Nat) (u : TypeId) (ps : String) (ed : Array Edge) (gd : Option (Nat × Bool)) (b : Nat) (v : Value) (q : Option Addr) (n c : Nat) (hv : v = .slice q n c) (h1 : a.eval (.tmp t) = .pointer (some ⟨b, 0, none⟩)) (hc : w.cell? ⟨b, 0, none⟩ = some v) :
    (execOp a.eval { dst := some d, op := Op.load 23 (.tmp t), type := u, pos := ps, after := ed, guard := gd }).run Tryz.prog w = .ok (.value v) w := by
  subst hv
  unfold execOp
  simp only [h1]
  go_simp
theorem run_loadT (a : Act) (w : World) (d t : Nat) (u : TypeId) (ps : String) (ed : Array Edge) (gd : Option (Nat × Bool)) (b : Nat) (v : Value) (q : Option Addr) (n c : Nat) (hv : v = .slice q n c) (h1 : a.eval (.tmp t) = .pointer (some ⟨b, 0, none⟩)) (hc : w.cell? ⟨b, 0, none⟩ = some v) :
    (execOp a.eval { dst := some d, op := Op.load 25 (.tmp t), type := u, pos := ps, after := ed, guard := gd }).run Tryz.prog w = .ok (.value v) w := by
  subst hv
  unfold execOp
  simp only [h1]
  go_simp
theorem run_indexF (a : Act) (w : World) (d t1 t2 : Nat) (u : TypeId) (ps : String) (ed : Array Edge) (gd : Option (Nat × Bool)) (b off n c k : Nat) (hk : k < n) (_hn : n < 1000000) (h1 : a.eval (.tmp t1) = .slice (some ⟨b, off, none⟩) n c) (h2 : a.eval (.tmp t2) = .int .i64 (k : Int)) :
    (execOp a.eval { dst := some d, op := Op.indexAddr 23 (.tmp t1) (.tmp t2), type := u, pos := ps, after := ed, guard := gd }).run Tryz.prog w = .ok (.value (.pointer (some ⟨b, off + k * 4, none⟩))) w := by
  unfold execOp
  simp only [h1, h2]
  go_simp
theorem run_indexI (a : Act) (w : World) (d t1 t2 : Nat) (u : TypeId) (ps : String) (ed : Array Edge) (gd : Option (Nat × Bool)) (b off n c k : Nat) (hk : k < n) (_hn : n < 1000000) (h1 : a.eval (.tmp t1) = .slice (some ⟨b, off, none⟩) n c) (h2 : a.eval (.tmp t2) = .int .i64 (k : Int)) :
    (execOp a.eval { dst := some d, op := Op.indexAddr 25 (.tmp t1) (.tmp t2), type := u, pos := ps, after := ed, guard := gd }).run Tryz.prog w = .ok (.value (.pointer (some ⟨b, off + k, none⟩))) w := by
  unfold execOp
  simp only [h1, h2]
  go_simp
theorem run_subI (a : Act) (w : World) (d t1 t2 : Nat) (u : TypeId) (ps : String) (ed : Array Edge) (gd : Option (Nat × Bool)) (x y : Int) (hx : 0 ≤ x) (hx2 : x < 4611686018427387904) (hy : 0 ≤ y) (hy2 : y < 4611686018427387904) (h1 : a.eval (.tmp t1) = .int .i64 x) (h2 : a.eval (.tmp t2) = .int .i64 y) :
    (execOp a.eval { dst := some d, op := Op.binOp BinOp.sub 3 (.tmp t1) (.tmp t2) 3, type := u, pos := ps, after := ed, guard := gd }).run Tryz.prog w = .ok (.value (.int .i64 (x - y))) w := by
  unfold execOp
  simp only [h1, h2]
  go_simp
  rw [IntKind.wrap_i64]
  omega
theorem run_neq0 (a : Act) (w : World) (d t : Nat) (u : TypeId) (ps : String) (ed : Array Edge) (gd : Option (Nat × Bool)) (x : Int) (h : a.eval (.tmp t) = .int .i64 x) :
    (execOp a.eval { dst := some d, op := Op.binOp BinOp.neq 3 (.tmp t) (.const (.int .i64 0)) 3, type := u, pos := ps, after := ed, guard := gd }).run Tryz.prog w = .ok (.value (.bool (x != 0))) w := by
  have e : a.eval (.const (.int .i64 0)) = .int .i64 0 := rfl
  unfold execOp
  simp only [h, e]
  go_simp
theorem run_addF (a : Act) (w : World) (d t1 t2 : Nat) (u : TypeId) (ps : String) (ed : Array Edge) (gd : Option (Nat × Bool)) (x1 x2 : Value) (h1 : a.eval (.tmp t1) = x1) (h2 : a.eval (.tmp t2) = x2) :
    (execOp a.eval { dst := some d, op := Op.call { callee := Callee.value (Operand.func 19), args := #[Operand.tmp t1, Operand.tmp t2], argTypes := #[33, 33] }, type := u, pos := ps, after := ed, guard := gd }).run Tryz.prog w = .ok (.enter 19 #[x1, x2]) w := by
  unfold execOp
  go_simp
  rw [← h1, ← h2]
  simp [Act.eval]
theorem run_subF (a : Act) (w : World) (d t1 t2 : Nat) (u : TypeId) (ps : String) (ed : Array Edge) (gd : Option (Nat × Bool)) (x1 x2 : Value) (h1 : a.eval (.tmp t1) = x1) (h2 : a.eval (.tmp t2) = x2) :
    (execOp a.eval { dst := some d, op := Op.call { callee := Callee.value (Operand.func 10), args := #[Operand.tmp t1, Operand.tmp t2], argTypes := #[33, 33] }, type := u, pos := ps, after := ed, guard := gd }).run Tryz.prog w = .ok (.enter 10 #[x1, x2]) w := by
  unfold execOp
  go_simp
  rw [← h1, ← h2]
  simp [Act.eval]
theorem run_mulF (a : Act) (w : World) (d t1 t2 : Nat) (u : TypeId) (ps : String) (ed : Array Edge) (gd : Option (Nat × Bool)) (x1 x2 : Value) (h1 : a.eval (.tmp t1) = x1) (h2 : a.eval (.tmp t2) = x2) :
    (execOp a.eval { dst := some d, op := Op.call { callee := Callee.value (Operand.func 8), args := #[Operand.tmp t1, Operand.tmp t2], argTypes := #[33, 33] }, type := u, pos := ps, after := ed, guard := gd }).run Tryz.prog w = .ok (.enter 8 #[x1, x2]) w := by
  unfold execOp
  go_simp
  rw [← h1, ← h2]
  simp [Act.eval]
theorem run_divF (a : Act) (w : World) (d t1 t2 : Nat) (u : TypeId) (ps : String) (ed : Array Edge) (gd : Option (Nat × Bool)) (x1 x2 : Value) (h1 : a.eval (.tmp t1) = x1) (h2 : a.eval (.tmp t2) = x2) :
    (execOp a.eval { dst := some d, op := Op.call { callee := Callee.value (Operand.func 9), args := #[Operand.tmp t1, Operand.tmp t2], argTypes := #[33, 33] }, type := u, pos := ps, after := ed, guard := gd }).run Tryz.prog w = .ok (.enter 9 #[x1, x2]) w := by
  unfold execOp
  go_simp
  rw [← h1, ← h2]
  simp [Act.eval]
theorem run_cmpF (a : Act) (w : World) (d t1 t2 : Nat) (u : TypeId) (ps : String) (ed : Array Edge) (gd : Option (Nat × Bool)) (x1 x2 : Value) (h1 : a.eval (.tmp t1) = x1) (h2 : a.eval (.tmp t2) = x2) :
    (execOp a.eval { dst := some d, op := Op.call { callee := Callee.value (Operand.func 11), args := #[Operand.tmp t1, Operand.tmp t2], argTypes := #[33, 33] }, type := u, pos := ps, after := ed, guard := gd }).run Tryz.prog w = .ok (.enter 11 #[x1, x2]) w := by
  unfold execOp
  go_simp
  rw [← h1, ← h2]
  simp [Act.eval]
theorem run_floorF (a : Act) (w : World) (d t1 : Nat) (u : TypeId) (ps : String) (ed : Array Edge) (gd : Option (Nat × Bool)) (x1 : Value) (h1 : a.eval (.tmp t1) = x1) :
    (execOp a.eval { dst := some d, op := Op.call { callee := Callee.value (Operand.func 33), args := #[Operand.tmp t1], argTypes := #[33] }, type := u, pos := ps, after := ed, guard := gd }).run Tryz.prog w = .ok (.enter 33 #[x1]) w := by
  unfold execOp
  go_simp
  rw [← h1]
  simp [Act.eval]
theorem run_turnF (a : Act) (w : World) (d t1 : Nat) (u : TypeId) (ps : String) (ed : Array Edge) (gd : Option (Nat × Bool)) (x1 : Value) (h1 : a.eval (.tmp t1) = x1) :
    (execOp a.eval { dst := some d, op := Op.call { callee := Callee.value (Operand.func 15), args := #[Operand.tmp t1], argTypes := #[33] }, type := u, pos := ps, after := ed, guard := gd }).run Tryz.prog w = .ok (.enter 15 #[x1]) w := by
  unfold execOp
  go_simp
  rw [← h1]
  simp [Act.eval]
theorem run_signF (a : Act) (w : World) (d t1 : Nat) (u : TypeId) (ps : String) (ed : Array Edge) (gd : Option (Nat × Bool)) (x1 : Value) (h1 : a.eval (.tmp t1) = x1) :
    (execOp a.eval { dst := some d, op := Op.call { callee := Callee.value (Operand.func 13), args := #[Operand.tmp t1], argTypes := #[33] }, type := u, pos := ps, after := ed, guard := gd }).run Tryz.prog w = .ok (.enter 13 #[x1]) w := by
  unfold execOp
  go_simp
  rw [← h1]
  simp [Act.eval]
theorem run_whole (a : Act) (w : World) (d t1 : Nat) (u : TypeId) (ps : String) (ed : Array Edge) (gd : Option (Nat × Bool)) (x1 : Value) (h1 : a.eval (.tmp t1) = x1) :
    (execOp a.eval { dst := some d, op := Op.call { callee := Callee.value (Operand.func 6), args := #[Operand.tmp t1], argTypes := #[3] }, type := u, pos := ps, after := ed, guard := gd }).run Tryz.prog w = .ok (.enter 6 #[x1]) w := by
  unfold execOp
  go_simp
  rw [← h1]
  simp [Act.eval]
theorem run_sumF (a : Act) (w : World) (d t1 : Nat) (u : TypeId) (ps : String) (ed : Array Edge) (gd : Option (Nat × Bool)) (x1 : Value) (h1 : a.eval (.tmp t1) = x1) :
    (execOp a.eval { dst := some d, op := Op.call { callee := Callee.value (Operand.func 14), args := #[Operand.tmp t1], argTypes := #[23] }, type := u, pos := ps, after := ed, guard := gd }).run Tryz.prog w = .ok (.enter 14 #[x1]) w := by
  unfold execOp
  go_simp
  rw [← h1]
  simp [Act.eval]
theorem run_sliceTo (a : Act) (w : World) (d t1 t2 : Nat) (u : TypeId) (ps : String) (ed : Array Edge) (gd : Option (Nat × Bool)) (b off n c k : Nat) (hk : k ≤ n) (hnc : n ≤ c) (_hn : c < 9223372036854775808) (h1 : a.eval (.tmp t1) = .slice (some ⟨b, off, none⟩) n c) (h2 : a.eval (.tmp t2) = .int .i64 (k : Int)) :
    (execOp a.eval { dst := some d, op := Op.slice 23 (.tmp t1) none (some (.tmp t2)) none, type := u, pos := ps, after := ed, guard := gd }).run Tryz.prog w = .ok (.value (.slice (some ⟨b, off, none⟩) k c)) w := by
  have a1 : (0 : Int) ≤ (k : Int) := by omega
  have a3 : (k : Int) ≤ (c : Int) := by omega
  unfold execOp
  simp only [h1, h2, Option.map_some, Option.map_none]
  go_simp
theorem run_sliceFrom (a : Act) (w : World) (d t1 t2 : Nat) (u : TypeId) (ps : String) (ed : Array Edge) (gd : Option (Nat × Bool)) (b off n c k : Nat) (hk : k < n) (hnc : n ≤ c) (_hn : c < 9223372036854775808) (h1 : a.eval (.tmp t1) = .slice (some ⟨b, off, none⟩) n c) (h2 : a.eval (.tmp t2) = .int .i64 (k : Int)) :
    (execOp a.eval { dst := some d, op := Op.slice 23 (.tmp t1) (some (.tmp t2)) none none, type := u, pos := ps, after := ed, guard := gd }).run Tryz.prog w = .ok (.value (.slice (some ⟨b, off + k * 4, none⟩) (n - k) (c - k))) w := by
  have a1 : (0 : Int) ≤ (k : Int) := by omega
  have a2 : (k : Int) ≤ (n : Int) := by omega
  have a3 : (n : Int) ≤ (c : Int) := by omega
  have a4 : (k : Int) < (c : Int) := by omega
  unfold execOp
  simp only [h1, h2, Option.map_some, Option.map_none]
  go_simp
  omega
theorem run_alloc4 (a : Act) (w : World) (d : Nat) (u : TypeId) (ps : String) (ed : Array Edge) (gd : Option (Nat × Bool)) :
    (execOp a.eval { dst := some d, op := Op.alloc 33, type := u, pos := ps, after := ed, guard := gd }).run Tryz.prog w = .ok (.value (.pointer (some ⟨w.heap.size, 0, none⟩))) (w.alloc (.cells #[.bool false, .int .u64 0, .int .u64 0, .pointer none] 33)) := by
  unfold execOp
  go_simp
/-- a place for a fraction, laid since -/
def Laid4 (B : Nat) (w : World) (v : Value) : Prop := ∃ b, v = .pointer (some ⟨b, 0, none⟩) ∧ B ≤ b ∧ P4 w b false 0 0 none ∧ ∀ j, w.frozen? ⟨b, j, none⟩ = false
theorem Laid4.but {B : Nat} {w w' : World} {v : Value} (h : Laid4 B w v) (hb : But [] w w') : Laid4 B w' v := by
  obtain ⟨b, e, h1, h2, h3⟩ := h
  have hl : b < w.heap.size := lt_of_cell h2.1
  exact ⟨b, e, h1, h2.but hb (by simp), fun j => (hb.frozen (p := ⟨b, j, none⟩) hl (by simp)).trans (h3 j)⟩
/-- a fraction and no error -/
def FracErr (f : Rat) (w : World) (v : Value) : Prop := ∃ u, v = .tuple #[u, .nilIface] ∧ FracAt w u f
theorem FracErr.but {f : Rat} {w w' : World} {v : Value} (h : FracErr f w v) (hb : But [] w w') : FracErr f w' v := by
  obtain ⟨u, e, hu⟩ := h
  exact ⟨u, e, hu.but hb⟩
/-- a place for a fraction, laid since, whatever lies there -/
def LaidAny (B : Nat) (w : World) (v : Value) : Prop := ∃ b, v = .pointer (some ⟨b, 0, none⟩) ∧ B ≤ b ∧ (∃ s x y p, P4 w b s x y p) ∧ ∀ j, w.frozen? ⟨b, j, none⟩ = false
theorem LaidAny.but {B : Nat} {w w' : World} {v : Value} (h : LaidAny B w v) (hb : But [] w w') : LaidAny B w' v := by
  obtain ⟨b, e, h1, ⟨s, x, y, p, h2⟩, h3⟩ := h
  have hl : b < w.heap.size := lt_of_cell h2.1
  exact ⟨b, e, h1, ⟨s, x, y, p, h2.but hb (by simp)⟩, fun j => (hb.frozen (p := ⟨b, j, none⟩) hl (by simp)).trans (h3 j)⟩
theorem LaidAny.put {B : Nat} {w : World} {v : Value} {g : Nat} {s0 : Bool} {x0 y0 : Int} {p0 : Option Addr} (h : LaidAny B w v) (hg : P4 w g s0 x0 y0 p0) (s' : Bool) (x' y' : Int) (p' : Option Addr) : LaidAny B (put4 w g s' x' y' p') v := by
  obtain ⟨b, e, h1, ⟨s, x, y, p, h2⟩, h3⟩ := h
  refine ⟨b, e, h1, ?_, fun j => by rw [put4_fz]; exact h3 j⟩
  by_cases eb : b = g
  · subst eb
    exact ⟨s', x', y', p', put4_p4 w b s' x' y' p' hg⟩
  · exact ⟨s, x, y, p, h2.but (put4_but w g s' x' y' p') (by simpa using eb)⟩
theorem FracErr.put {f : Rat} {w : World} {v : Value} {g : Nat} {s0 : Bool} {x0 y0 : Int} {p0 : Option Addr} (h : FracErr f w v) (hg : P4 w g s0 x0 y0 p0) (s' : Bool) (x' y' : Int) (p' : Option Addr) : FracErr f (put4 w g s' x' y' p') v := by
  obtain ⟨u, e, hu⟩ := h
  exact ⟨u, e, hu.over hg.1 (put4_but w g s' x' y' p')⟩
/-- a place, laid since, that holds a fraction -/
def Stored (B : Nat) (f : Rat) (w : World) (v : Value) : Prop := ∃ b s x y p, v = .pointer (some ⟨b, 0, none⟩) ∧ B ≤ b ∧ P4 w b s x y p ∧ FracAt w (.agg #[.bool s, .int .u64 x, .int .u64 y, .pointer p]) f
theorem Stored.but {B : Nat} {f : Rat} {w w' : World} {v : Value} (h : Stored B f w v) (hb : But [] w w') : Stored B f w' v := by
  obtain ⟨b, s, x, y, p, e, h1, h2, h3⟩ := h
  exact ⟨b, s, x, y, p, e, h1, h2.but hb (by simp), h3.but hb⟩
end Go.Proofs.YtlkpkgajfakdpaaGreat
