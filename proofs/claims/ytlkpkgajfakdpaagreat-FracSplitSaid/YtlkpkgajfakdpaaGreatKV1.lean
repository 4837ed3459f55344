/- What a unit becomes in a year, and a quotient where nothing is divided by 0, as the Go text of package flow makes them. -/
import Derived.Test.YtlkpkgajfakdpaaGreatKF9
import Derived.Test.YtlkpkgajfakdpaaGreatKFW
import Derived.Test.YtlkpkgajfakdpaaGreatKL2
import Derived.Test.YtlkpkgajfakdpaaGreatKR0
import Derived.Test.YtlkpkgajfakdpaaGreatKT1
namespace Go.Proofs.YtlkpkgajfakdpaaGreat
open Go.RowKit

theorem int_parts (n : Int) : ((n : Int) : Rat).num = n ∧ ((n : Int) : Rat).den = 1 := ⟨by simp, by simp⟩
theorem len_int (n : Int) (h : n.natAbs < 18446744073709551616) : Len ((n : Int) : Rat) 1 := by
  obtain ⟨h1, h2⟩ := int_parts n
  exact len_of (m := 1) (n := 1) (by rw [h1, Nat.pow_one]; exact h) (by rw [h2]; decide) 1 (Nat.le_refl _) (Nat.le_refl _)
theorem whole_is (x : Int) (h1 : -9223372036854775808 ≤ x) (h2 : x < 9223372036854775808) :
    ∃ (r : Bool) (p : Int), (∀ W, FracAt W (.agg #[.bool r, .int .u64 p, .int .u64 0, .pointer none]) ((x : Int) : Rat)) ∧ ∀ W, Calls Tryz.prog 6 #[.int .i64 x] W fun e w' => e = .returned (.agg #[.bool r, .int .u64 p, .int .u64 0, .pointer none]) ∧ But [] W w' := by
  obtain ⟨e1, e2⟩ := int_parts x
  refine ⟨decide (x < 0), ((x.natAbs : Nat) : Int), fun W => .inl ⟨by rw [e1]; omega, by rw [e2]; decide, by rw [e1, e2]; rfl⟩, fun W => ?_⟩
  have h := whole_any x h1 h2 W
  rw [show (((1 : Nat) : Int) - 1) = 0 from rfl] at h
  exact h

end Go.Proofs.YtlkpkgajfakdpaaGreat

namespace Go.Proofs.YtlkpkgajfakdpaaGreat
open Go.RowKit

theorem run_load4 (a : Act) (w : World) (d t : Nat) (u : TypeId) (ps : String) (ed : Array Edge) (b o : Nat) (s : Bool) (x y : Int) (p : Option Addr) (h1 : a.eval (.tmp t) = .pointer (some ⟨b, o, none⟩)) (hc : P4o w b o s x y p) :
    (execOp a.eval { dst := some d, op := Op.load 33 (.tmp t), type := u, pos := ps, after := ed, guard := none }).run Tryz.prog w = .ok (.value (.agg #[.bool s, .int .u64 x, .int .u64 y, .pointer p])) w := by
  obtain ⟨c0, c1, c2, c3⟩ := hc
  unfold execOp
  simp only [h1]
  go_simp
theorem run_load1 (a : Act) (w : World) (d t : Nat) (u : TypeId) (ps : String) (ed : Array Edge) (b : Nat) (q : Option Addr) (m c : Nat) (h1 : a.eval (.tmp t) = .pointer (some ⟨b, 0, none⟩)) (hc : w.cell? ⟨b, 0, none⟩ = some (.slice q m c)) :
    (execOp a.eval { dst := some d, op := Op.load 23 (.tmp t), type := u, pos := ps, after := ed, guard := none }).run Tryz.prog w = .ok (.value (.slice q m c)) w := by
  unfold execOp
  simp only [h1]
  go_simp
theorem run_moved (a : Act) (w : World) (d t : Nat) (u : TypeId) (ps : String) (ed : Array Edge) (N : Value) (h : a.eval (.tmp t) = N) :
    (execOp a.eval { dst := some d, op := Op.move (.tmp t), type := u, pos := ps, after := ed, guard := none }).run Tryz.prog w = .ok (.value N) w := by
  unfold execOp
  simp only [h]
  go_simp
theorem run_less1 (a : Act) (w : World) (d t : Nat) (u : TypeId) (ps : String) (ed : Array Edge) (k : Nat) (hk : k < 1000000) (h : a.eval (.tmp t) = .int .i64 ((k + 1 : Nat) : Int)) :
    (execOp a.eval { dst := some d, op := Op.binOp BinOp.sub 3 (.tmp t) (.const (.int .i64 1)) 3, type := u, pos := ps, after := ed, guard := none }).run Tryz.prog w = .ok (.value (.int .i64 (k : Int))) w := by
  have e : a.eval (.const (.int .i64 1)) = .int .i64 1 := rfl
  unfold execOp
  simp only [h, e]
  go_simp
  rw [IntKind.wrap_i64]
  omega
theorem run_indexed (a : Act) (w : World) (d t1 t2 : Nat) (u : TypeId) (ps : String) (ed : Array Edge) (b off n c k : Nat) (hk : k < n) (_hn : n < 1000000) (h1 : a.eval (.tmp t1) = .slice (some ⟨b, off, none⟩) n c) (h2 : a.eval (.tmp t2) = .int .i64 (k : Int)) :
    (execOp a.eval { dst := some d, op := Op.indexAddr 23 (.tmp t1) (.tmp t2), type := u, pos := ps, after := ed, guard := none }).run Tryz.prog w = .ok (.value (.pointer (some ⟨b, off + k * 4, none⟩))) w := by
  unfold execOp
  simp only [h1, h2]
  go_simp
theorem run_store4 (a : Act) (w : World) (t1 t2 : Nat) (u : TypeId) (ps : String) (ed : Array Edge) (g : Nat) (s : Bool) (x y : Int) (p : Option Addr) {s' : Bool} {x' y' : Int} {p' : Option Addr} (h1 : a.eval (.tmp t1) = .pointer (some ⟨g, 0, none⟩)) (h2 : a.eval (.tmp t2) = .agg #[.bool s, .int .u64 x, .int .u64 y, .pointer p]) (hc : P4 w g s' x' y' p') (fz : ∀ j, w.frozen? ⟨g, j, none⟩ = false) :
    (execOp a.eval { dst := none, op := Op.store 33 (.tmp t1) (.tmp t2), type := u, pos := ps, after := ed, guard := none }).run Tryz.prog w = .ok .skip ((((w.setCell ⟨g, 0, none⟩ (.bool s)).setCell ⟨g, 1, none⟩ (.int .u64 x)).setCell ⟨g, 2, none⟩ (.int .u64 y)).setCell ⟨g, 3, none⟩ (.pointer p)) := by
  obtain ⟨c0, c1, c2, c3⟩ := hc
  unfold execOp
  simp only [h1, h2]
  go_simp
/-- four cells written, at a block -/
def put4 (w : World) (g : Nat) (s : Bool) (x y : Int) (p : Option Addr) : World := (((w.setCell ⟨g, 0, none⟩ (.bool s)).setCell ⟨g, 1, none⟩ (.int .u64 x)).setCell ⟨g, 2, none⟩ (.int .u64 y)).setCell ⟨g, 3, none⟩ (.pointer p)
theorem put4_but (w : World) (g : Nat) (s : Bool) (x y : Int) (p : Option Addr) : But [g] w (put4 w g s x y p) := (((((But.refl [g] w).setCell (.inl (by simp)) _).setCell (.inl (by simp)) _).setCell (.inl (by simp)) _).setCell (.inl (by simp)) _)
theorem put4_p4 (w : World) (g : Nat) (s : Bool) (x y : Int) (p : Option Addr) {s' : Bool} {x' y' : Int} {p' : Option Addr} (hc : P4 w g s' x' y' p') : P4 (put4 w g s x y p) g s x y p := by
  obtain ⟨h1, -⟩ := set4_all w g (.bool s) (.int .u64 x) (.int .u64 y) (.pointer p) (by rw [hc.1]; rfl) (by rw [hc.2.1]; rfl) (by rw [hc.2.2.1]; rfl) (by rw [hc.2.2.2]; rfl)
  exact ⟨h1 0 (by omega), h1 1 (by omega), h1 2 (by omega), h1 3 (by omega)⟩
theorem put4_fz (w : World) (g : Nat) (s : Bool) (x y : Int) (p : Option Addr) (b j : Nat) : (put4 w g s x y p).frozen? ⟨b, j, none⟩ = w.frozen? ⟨b, j, none⟩ := by
  unfold put4
  simp only [World.frozen?_setCell]

/-- no operation has a guard, none defers -/
def calmOps (ops : Array Oper) : Bool := (List.range ops.size).all fun i => match ops[i]? with
  | some o => o.guard.isNone && (match o.op with | .defer _ => false | _ => true)
  | none => true
theorem calm_of {ops : Array Oper} (h : calmOps ops = true) : ∀ (i : Nat) (o : Oper), ops[i]? = some o → o.guard = none ∧ ∀ c, o.op ≠ .defer c := fun i o ho => by
  have hi : i < ops.size := (Array.getElem?_eq_some_iff.1 ho).1
  unfold calmOps at h
  rw [List.all_eq_true] at h
  have h1 := h i (List.mem_range.2 hi)
  simp only [ho, Bool.and_eq_true, Option.isNone_iff_eq_none] at h1
  exact ⟨h1.1, fun c e => by rw [e] at h1; simp at h1⟩

theorem dep_have {ops : Array Oper} {ps : List (Nat × Nat)} (h : depOps ops ps = true) {i : Nat} {o : Oper} (ho : ops[i]? = some o) (R : Nat → Prop) (hdep : ∀ e ∈ o.after, Region.binds .any e = true → R e.on) (j : Nat) (hij : (i, j) ∈ ps) : R j := by
  obtain ⟨o', ho', ed, hed, hbi, rfl⟩ := dep_of h i j hij
  rw [ho] at ho'
  obtain rfl := Option.some.inj ho'
  exact hdep ed hed hbi
end Go.Proofs.YtlkpkgajfakdpaaGreat

namespace Go.Proofs.YtlkpkgajfakdpaaGreat
open Go.RowKit

/-- blocks that have a cell stay as they are -/
structure Calm (A B : World) : Prop where
  size : A.heap.size ≤ B.heap.size
  block : ∀ k i v, A.cell? ⟨k, i, none⟩ = some v → B.heap[k]? = A.heap[k]?
theorem calm_of_grown {A B : World} {row : Option Nat} (hg : A.grownBy B row) (hr : ∀ r, row = some r → ∃ o : Obj, A.heap[r]? = some o ∧ o.isCells = false) : Calm A B :=
  ⟨hg.size, fun k i v h => by
    obtain ⟨o, ho, hc⟩ := cells_of_cell h
    exact grownBy_keeps_cells hg hr ho hc⟩
theorem Calm.cell {A B : World} (h : Calm A B) {k i : Nat} {v : Value} (hc : A.cell? ⟨k, i, none⟩ = some v) : B.cell? ⟨k, i, none⟩ = some v := (World.cell?_of_block (w := A) (h.block k i v hc)).trans hc
theorem Calm.frozen {A B : World} (h : Calm A B) {k i j : Nat} {v : Value} (hc : A.cell? ⟨k, i, none⟩ = some v) : B.frozen? ⟨k, j, none⟩ = A.frozen? ⟨k, j, none⟩ := World.frozen?_of_block (w := A) (a := ⟨k, j, none⟩) (h.block k i v hc)
theorem Sl.calm {k : IntKind} {A B : World} {v : Value} {xs : List Nat} (h : Sl k A v xs) (hb : Calm A B) : Sl k B v xs := by
  obtain ⟨a, cap, rfl, hc, h, hi⟩ := h
  refine ⟨a, cap, rfl, hc, fun i hi => ?_, fun b off e h0 => ?_⟩
  · obtain ⟨b, off, rfl, h2⟩ := h i hi
    exact ⟨b, off, rfl, hb.cell h2⟩
  · subst e
    obtain ⟨b2, off2, e2, h2⟩ := h 0 h0
    simp only [Option.some.injEq, Addr.mk.injEq] at e2
    obtain ⟨rfl, rfl, -⟩ := e2
    have hbl := hb.block _ _ _ h2
    exact fun i v hv => hi _ _ rfl h0 i v (by rw [← World.cell?_of_block (w := A) (w' := B) (a := ⟨_, i, none⟩) hbl]; exact hv)
theorem FracAt.calm {A B : World} {v : Value} {f : Rat} (h : FracAt A v f) (hb : Calm A B) : FracAt B v f := by
  rcases h with h | ⟨h1, b, v1, v2, h2, h3, h4, h5, h6⟩
  · exact .inl h
  · exact .inr ⟨h1, b, v1, v2, h2, hb.cell h3, hb.cell h4, h5.calm hb, h6.calm hb⟩
theorem P4o.calm {A B : World} {b o : Nat} {s : Bool} {x y : Int} {p : Option Addr} (h : P4o A b o s x y p) (hb : Calm A B) : P4o B b o s x y p := ⟨hb.cell h.1, hb.cell h.2.1, hb.cell h.2.2.1, hb.cell h.2.2.2⟩
theorem P4.calm {A B : World} {b : Nat} {s : Bool} {x y : Int} {p : Option Addr} (h : P4 A b s x y p) (hb : Calm A B) : P4 B b s x y p := ⟨hb.cell h.1, hb.cell h.2.1, hb.cell h.2.2.1, hb.cell h.2.2.2⟩
/-- a box that holds a fraction, and may be written -/
def BoxAt (w : World) (g : Nat) (f : Rat) : Prop := (∃ s x y p, P4 w g s x y p ∧ FracAt w (.agg #[.bool s, .int .u64 x, .int .u64 y, .pointer p]) f) ∧ ∀ j, w.frozen? ⟨g, j, none⟩ = false
theorem BoxAt.calm {A B : World} {g : Nat} {f : Rat} (h : BoxAt A g f) (hb : Calm A B) : BoxAt B g f := by
  obtain ⟨⟨s, x, y, p, h1, h2⟩, h3⟩ := h
  exact ⟨⟨s, x, y, p, h1.calm hb, h2.calm hb⟩, fun j => (hb.frozen h1.1).trans (h3 j)⟩
theorem BoxAt.but {A B : World} {g : Nat} {f : Rat} (h : BoxAt A g f) (hb : But [] A B) : BoxAt B g f := by
  obtain ⟨⟨s, x, y, p, h1, h2⟩, h3⟩ := h
  have hl : g < A.heap.size := lt_of_cell h1.1
  exact ⟨⟨s, x, y, p, h1.but hb (by simp), h2.but hb⟩, fun j => (hb.frozen (p := ⟨g, j, none⟩) hl (by simp)).trans (h3 j)⟩
theorem BoxAt.beside {A B : World} {g : Nat} {f : Rat} {l : List Nat} (h : BoxAt A g f) (hb : But l A B) (hn : g ∉ l) (hc : ∀ g ∈ l, ∃ s, A.cell? ⟨g, 0, none⟩ = some (.bool s)) : BoxAt B g f := by
  obtain ⟨⟨s, x, y, p, h1, h2⟩, h3⟩ := h
  have hl : g < A.heap.size := lt_of_cell h1.1
  exact ⟨⟨s, x, y, p, h1.but hb hn, h2.beside hb hc⟩, fun j => (hb.frozen (p := ⟨g, j, none⟩) hl hn).trans (h3 j)⟩
theorem BoxAt.put {w : World} {g : Nat} {f f' : Rat} (h : BoxAt w g f) {s : Bool} {x y : Int} {p : Option Addr} (hf : FracAt w (.agg #[.bool s, .int .u64 x, .int .u64 y, .pointer p]) f') : BoxAt (put4 w g s x y p) g f' := by
  obtain ⟨⟨s0, x0, y0, p0, h1, h2⟩, h3⟩ := h
  exact ⟨⟨s, x, y, p, put4_p4 w g s x y p h1, hf.over h1.1 (put4_but w g s x y p)⟩, fun j => (put4_fz w g s x y p g j).trans (h3 j)⟩
theorem BoxAt.new (w : World) (s : Bool) (x y : Int) (p : Option Addr) (f : Rat) (t : TypeId) (h : FracAt w (.agg #[.bool s, .int .u64 x, .int .u64 y, .pointer p]) f) : BoxAt (w.alloc (.cells #[.bool s, .int .u64 x, .int .u64 y, .pointer p] t)) w.heap.size f :=
  ⟨⟨s, x, y, p, ⟨by simp, by simp, by simp, by simp⟩, h.but ((But.refl _ _).alloc _)⟩, fun j => by simp⟩
theorem BoxAt.lt {w : World} {g : Nat} {f : Rat} (h : BoxAt w g f) : g < w.heap.size := by
  obtain ⟨⟨s, x, y, p, h1, -⟩, -⟩ := h
  exact lt_of_cell h1.1
theorem BoxAt.bool {w : World} {g : Nat} {f : Rat} (h : BoxAt w g f) : ∃ s, w.cell? ⟨g, 0, none⟩ = some (.bool s) := by
  obtain ⟨⟨s, x, y, p, h1, -⟩, -⟩ := h
  exact ⟨s, h1.1⟩
theorem LiesAt.calm {A B : World} {b o : Nat} {f : Rat} (h : LiesAt A b o f) (hb : Calm A B) : LiesAt B b o f := by
  obtain ⟨s, x, y, p, h1, h2⟩ := h
  exact ⟨s, x, y, p, h1.calm hb, h2.calm hb⟩
theorem FracsAt.calm {A B : World} {v : Value} {fs : List Rat} (h : FracsAt A v fs) (hb : Calm A B) : FracsAt B v fs := by
  obtain ⟨a, cap, e, hc, h⟩ := h
  refine ⟨a, cap, e, hc, fun i f hf => ?_⟩
  obtain ⟨b, off, e1, h1⟩ := h i f hf
  exact ⟨b, off, e1, h1.calm hb⟩
theorem FracsAt.get {w : World} {b off n cap : Nat} {fs : List Rat} (h : FracsAt w (.slice (some ⟨b, off, none⟩) n cap) fs) (i : Nat) (hi : i < n) : ∃ s x y p, P4o w b (off + i * 4) s x y p ∧ FracAt w (.agg #[.bool s, .int .u64 x, .int .u64 y, .pointer p]) (fs[i]?.getD 0) := by
  obtain ⟨a, cap', e, -, h⟩ := h
  simp only [Value.slice.injEq] at e
  obtain ⟨rfl, rfl, -⟩ := e
  obtain ⟨b', off', e2, s, x, y, p, h1, h2⟩ := h i fs[i] (List.getElem?_eq_getElem hi)
  simp only [Option.some.injEq, Addr.mk.injEq] at e2
  obtain ⟨rfl, rfl, -⟩ := e2
  exact ⟨s, x, y, p, h1, by rw [List.getElem?_eq_getElem hi]; exact h2⟩
/-- a fraction that comes back, in its four parts -/
theorem in_parts {P : Program} {f : FuncId} {args : Array Value} {w : World} {r : Rat} (h : Calls P f args w fun e w' => ∃ v, e = .returned v ∧ FracAt w' v r ∧ But [] w w') :
    Calls P f args w fun e w' => ∃ s x y p, e = .returned (.agg #[.bool s, .int .u64 x, .int .u64 y, .pointer p]) ∧ FracAt w' (.agg #[.bool s, .int .u64 x, .int .u64 y, .pointer p]) r ∧ But [] w w' :=
  h.mono fun e w' ⟨v, he, hv, hb⟩ => by
    obtain ⟨x, y, p, rfl, -⟩ := hv.agg
    exact ⟨_, x, y, p, he, hv, hb⟩
theorem zero_at (w : World) : FracAt w (.agg #[.bool false, .int .u64 0, .int .u64 0, .pointer none]) 0 := .inl ⟨by decide, by decide, rfl⟩
end Go.Proofs.YtlkpkgajfakdpaaGreat
