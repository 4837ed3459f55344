/- Single operations, boxes that hold fractions, and what stays where blocks turn that hold no cells. -/
import Derived.Test.YtjbboicccddhbaaGreatDoorKBF4
import Derived.Test.YtjbboicccddhbaaGreatDoorKBRK
namespace Go.Proofs.YtjbboicccddhbaaGreatDoor
open Go.RowKit

theorem run_load4 (a : Act) (w : World) (d t : Nat) (u : TypeId) (ps : String) (ed : Array Edge) (b o : Nat) (s : Bool) (x y : Int) (p : Option Addr) (h1 : a.eval (.tmp t) = .pointer (some ⟨b, o, none⟩)) (hc : P4o w b o s x y p) :
    (execOp a.eval { dst := some d, op := Op.load 27 (.tmp t), type := u, pos := ps, after := ed, guard := none }).run Tryz.prog w = .ok (.value (.agg #[.bool s, .int .u64 x, .int .u64 y, .pointer p])) w := by
  obtain ⟨c0, c1, c2, c3⟩ := hc
  unfold execOp
  simp only [h1]
  go_simp
theorem run_load1 (a : Act) (w : World) (d t : Nat) (u : TypeId) (ps : String) (ed : Array Edge) (b : Nat) (q : Option Addr) (m c : Nat) (h1 : a.eval (.tmp t) = .pointer (some ⟨b, 0, none⟩)) (hc : w.cell? ⟨b, 0, none⟩ = some (.slice q m c)) :
    (execOp a.eval { dst := some d, op := Op.load 75 (.tmp t), type := u, pos := ps, after := ed, guard := none }).run Tryz.prog w = .ok (.value (.slice q m c)) w := by
  unfold execOp
  simp only [h1]
  go_simp
theorem run_moved (a : Act) (w : World) (d t : Nat) (u : TypeId) (ps : String) (ed : Array Edge) (N : Value) (h : a.eval (.tmp t) = N) :
    (execOp a.eval { dst := some d, op := Op.move (.tmp t), type := u, pos := ps, after := ed, guard := none }).run Tryz.prog w = .ok (.value N) w := by
  unfold execOp
  simp only [h]
  go_simp
theorem run_less1 (a : Act) (w : World) (d t : Nat) (u : TypeId) (ps : String) (ed : Array Edge) (k : Nat) (hk : k < 1000000) (h : a.eval (.tmp t) = .int .i64 ((k + 1 : Nat) : Int)) :
    (execOp a.eval { dst := some d, op := Op.binOp BinOp.sub 3 (.tmp t) (.const (.int .i64 1)) 3, type := u, pos := ps, after := ed, guard := none }).run Tryz.prog w = .ok (.value (.int .i64 (k : Int))) w := by
  have e : a.eval (.const (.int .i64 1)) = .int .i64 1 := rfl
  unfold execOp
  simp only [h, e]
  go_simp
  rw [IntKind.wrap_i64]
  omega
theorem run_indexed (a : Act) (w : World) (d t1 t2 : Nat) (u : TypeId) (ps : String) (ed : Array Edge) (b off n c k : Nat) (hk : k < n) (_hn : n < 1000000) (h1 : a.eval (.tmp t1) = .slice (some ⟨b, off, none⟩) n c) (h2 : a.eval (.tmp t2) = .int .i64 (k : Int)) :
    (execOp a.eval { dst := some d, op := Op.indexAddr 75 (.tmp t1) (.tmp t2), type := u, pos := ps, after := ed, guard := none }).run Tryz.prog w = .ok (.value (.pointer (some ⟨b, off + k * 4, none⟩))) w := by
  unfold execOp
  simp only [h1, h2]
  go_simp
theorem run_store4 (a : Act) (w : World) (t1 t2 : Nat) (u : TypeId) (ps : String) (ed : Array Edge) (g : Nat) (s : Bool) (x y : Int) (p : Option Addr) {s' : Bool} {x' y' : Int} {p' : Option Addr} (h1 : a.eval (.tmp t1) = .pointer (some ⟨g, 0, none⟩)) (h2 : a.eval (.tmp t2) = .agg #[.bool s, .int .u64 x, .int .u64 y, .pointer p]) (hc : P4 w g s' x' y' p') (fz : ∀ j, w.frozen? ⟨g, j, none⟩ = false) :
    (execOp a.eval { dst := none, op := Op.store 27 (.tmp t1) (.tmp t2), type := u, pos := ps, after := ed, guard := none }).run Tryz.prog w = .ok .skip ((((w.setCell ⟨g, 0, none⟩ (.bool s)).setCell ⟨g, 1, none⟩ (.int .u64 x)).setCell ⟨g, 2, none⟩ (.int .u64 y)).setCell ⟨g, 3, none⟩ (.pointer p)) := by
  obtain ⟨c0, c1, c2, c3⟩ := hc
  unfold execOp
  simp only [h1, h2]
  go_simp
/-- four cells written, at a block -/
def put4 (w : World) (g : Nat) (s : Bool) (x y : Int) (p : Option Addr) : World := (((w.setCell ⟨g, 0, none⟩ (.bool s)).setCell ⟨g, 1, none⟩ (.int .u64 x)).setCell ⟨g, 2, none⟩ (.int .u64 y)).setCell ⟨g, 3, none⟩ (.pointer p)
theorem put4_but (w : World) (g : Nat) (s : Bool) (x y : Int) (p : Option Addr) : But [g] w (put4 w g s x y p) := (((((But.refl [g] w).setCell (.inl (by simp)) _).setCell (.inl (by simp)) _).setCell (.inl (by simp)) _).setCell (.inl (by simp)) _)
theorem put4_p4 (w : World) (g : Nat) (s : Bool) (x y : Int) (p : Option Addr) {s' : Bool} {x' y' : Int} {p' : Option Addr} (hc : P4 w g s' x' y' p') : P4 (put4 w g s x y p) g s x y p := by
  obtain ⟨h1, -⟩ := set4_all w g (.bool s) (.int .u64 x) (.int .u64 y) (.pointer p) (by rw [hc.1]; rfl) (by rw [hc.2.1]; rfl) (by rw [hc.2.2.1]; rfl) (by rw [hc.2.2.2]; rfl)
  exact ⟨h1 0 (by omega), h1 1 (by omega), h1 2 (by omega), h1 3 (by omega)⟩
theorem put4_fz (w : World) (g : Nat) (s : Bool) (x y : Int) (p : Option Addr) (b j : Nat) : (put4 w g s x y p).frozen? ⟨b, j, none⟩ = w.frozen? ⟨b, j, none⟩ := by
  unfold put4
  simp only [World.frozen?_setCell]
/-- no operation has a guard, none defers -/
def calmOps (ops : Array Oper) : Bool := (List.range ops.size).all fun i => match ops[i]? with
  | some o => o.guard.isNone && (match o.op with | .defer _ => false | _ => true)
  | none => true
theorem calm_of {ops : Array Oper} (h : calmOps ops = true) : ∀ (i : Nat) (o : Oper), ops[i]? = some o → o.guard = none ∧ ∀ c, o.op ≠ .defer c := fun i o ho => by
  have hi : i < ops.size := (Array.getElem?_eq_some_iff.1 ho).1
  unfold calmOps at h
  rw [List.all_eq_true] at h
  have h1 := h i (List.mem_range.2 hi)
  simp only [ho, Bool.and_eq_true, Option.isNone_iff_eq_none] at h1
  exact ⟨h1.1, fun c e => by rw [e] at h1; simp at h1⟩
theorem dep_have {ops : Array Oper} {ps : List (Nat × Nat)} (h : depOps ops ps = true) {i : Nat} {o : Oper} (ho : ops[i]? = some o) (R : Nat → Prop) (hdep : ∀ e ∈ o.after, Region.binds .any e = true → R e.on) (j : Nat) (hij : (i, j) ∈ ps) : R j := by
  obtain ⟨o', ho', ed, hed, hbi, rfl⟩ := dep_of h i j hij
  rw [ho] at ho'
  obtain rfl := Option.some.inj ho'
  exact hdep ed hed hbi
/-- blocks that have a cell stay as they are -/
structure Calm (A B : World) : Prop where
  size : A.heap.size ≤ B.heap.size
  block : ∀ k i v, A.cell? ⟨k, i, none⟩ = some v → B.heap[k]? = A.heap[k]?
theorem Calm.cell {A B : World} (h : Calm A B) {k i : Nat} {v : Value} (hc : A.cell? ⟨k, i, none⟩ = some v) : B.cell? ⟨k, i, none⟩ = some v := (World.cell?_of_block (w := A) (h.block k i v hc)).trans hc
theorem Calm.frozen {A B : World} (h : Calm A B) {k i j : Nat} {v : Value} (hc : A.cell? ⟨k, i, none⟩ = some v) : B.frozen? ⟨k, j, none⟩ = A.frozen? ⟨k, j, none⟩ := World.frozen?_of_block (w := A) (a := ⟨k, j, none⟩) (h.block k i v hc)
theorem Sl.calm {k : IntKind} {A B : World} {v : Value} {xs : List Nat} (h : Sl k A v xs) (hb : Calm A B) : Sl k B v xs := by
  obtain ⟨a, cap, rfl, hc, h, hi⟩ := h
  refine ⟨a, cap, rfl, hc, fun i hi => ?_, fun b off e h0 => ?_⟩
  · obtain ⟨b, off, rfl, h2⟩ := h i hi
    exact ⟨b, off, rfl, hb.cell h2⟩
  · subst e
    obtain ⟨b2, off2, e2, h2⟩ := h 0 h0
    simp only [Option.some.injEq, Addr.mk.injEq] at e2
    obtain ⟨rfl, rfl, -⟩ := e2
    have hbl := hb.block _ _ _ h2
    exact fun i v hv => hi _ _ rfl h0 i v (by rw [← World.cell?_of_block (w := A) (w' := B) (a := ⟨_, i, none⟩) hbl]; exact hv)
theorem FracAt.calm {A B : World} {v : Value} {f : Rat} (h : FracAt A v f) (hb : Calm A B) : FracAt B v f := by
  rcases h with h | ⟨h1, b, v1, v2, h2, h3, h4, h5, h6⟩
  · exact .inl h
  · exact .inr ⟨h1, b, v1, v2, h2, hb.cell h3, hb.cell h4, h5.calm hb, h6.calm hb⟩
theorem P4o.calm {A B : World} {b o : Nat} {s : Bool} {x y : Int} {p : Option Addr} (h : P4o A b o s x y p) (hb : Calm A B) : P4o B b o s x y p := ⟨hb.cell h.1, hb.cell h.2.1, hb.cell h.2.2.1, hb.cell h.2.2.2⟩
theorem P4.calm {A B : World} {b : Nat} {s : Bool} {x y : Int} {p : Option Addr} (h : P4 A b s x y p) (hb : Calm A B) : P4 B b s x y p := ⟨hb.cell h.1, hb.cell h.2.1, hb.cell h.2.2.1, hb.cell h.2.2.2⟩
/-- a box that holds a fraction, and may be written -/
def BoxAt (w : World) (g : Nat) (f : Rat) : Prop := (∃ s x y p, P4 w g s x y p ∧ FracAt w (.agg #[.bool s, .int .u64 x, .int .u64 y, .pointer p]) f) ∧ ∀ j, w.frozen? ⟨g, j, none⟩ = false
theorem BoxAt.calm {A B : World} {g : Nat} {f : Rat} (h : BoxAt A g f) (hb : Calm A B) : BoxAt B g f := by
  obtain ⟨⟨s, x, y, p, h1, h2⟩, h3⟩ := h
  exact ⟨⟨s, x, y, p, h1.calm hb, h2.calm hb⟩, fun j => (hb.frozen h1.1).trans (h3 j)⟩
theorem BoxAt.but {A B : World} {g : Nat} {f : Rat} (h : BoxAt A g f) (hb : But [] A B) : BoxAt B g f := by
  obtain ⟨⟨s, x, y, p, h1, h2⟩, h3⟩ := h
  have hl : g < A.heap.size := lt_of_cell h1.1
  exact ⟨⟨s, x, y, p, h1.but hb (by simp), h2.but hb⟩, fun j => (hb.frozen (p := ⟨g, j, none⟩) hl (by simp)).trans (h3 j)⟩
theorem BoxAt.beside {A B : World} {g : Nat} {f : Rat} {l : List Nat} (h : BoxAt A g f) (hb : But l A B) (hn : g ∉ l) (hc : ∀ g ∈ l, ∃ s, A.cell? ⟨g, 0, none⟩ = some (.bool s)) : BoxAt B g f := by
  obtain ⟨⟨s, x, y, p, h1, h2⟩, h3⟩ := h
  have hl : g < A.heap.size := lt_of_cell h1.1
  exact ⟨⟨s, x, y, p, h1.but hb hn, h2.beside hb hc⟩, fun j => (hb.frozen (p := ⟨g, j, none⟩) hl hn).trans (h3 j)⟩
theorem BoxAt.put {w : World} {g : Nat} {f f' : Rat} (h : BoxAt w g f) {s : Bool} {x y : Int} {p : Option Addr} (hf : FracAt w (.agg #[.bool s, .int .u64 x, .int .u64 y, .pointer p]) f') : BoxAt (put4 w g s x y p) g f' := by
  obtain ⟨⟨s0, x0, y0, p0, h1, h2⟩, h3⟩ := h
  exact ⟨⟨s, x, y, p, put4_p4 w g s x y p h1, hf.over h1.1 (put4_but w g s x y p)⟩, fun j => (put4_fz w g s x y p g j).trans (h3 j)⟩
theorem BoxAt.new (w : World) (s : Bool) (x y : Int) (p : Option Addr) (f : Rat) (t : TypeId) (h : FracAt w (.agg #[.bool s, .int .u64 x, .int .u64 y, .pointer p]) f) : BoxAt (w.alloc (.cells #[.bool s, .int .u64 x, .int .u64 y, .pointer p] t)) w.heap.size f :=
  ⟨⟨s, x, y, p, ⟨by simp, by simp, by simp, by simp⟩, h.but ((But.refl _ _).alloc _)⟩, fun j => by simp⟩
theorem BoxAt.lt {w : World} {g : Nat} {f : Rat} (h : BoxAt w g f) : g < w.heap.size := by
  obtain ⟨⟨s, x, y, p, h1, -⟩, -⟩ := h
  exact lt_of_cell h1.1
theorem BoxAt.bool {w : World} {g : Nat} {f : Rat} (h : BoxAt w g f) : ∃ s, w.cell? ⟨g, 0, none⟩ = some (.bool s) := by
  obtain ⟨⟨s, x, y, p, h1, -⟩, -⟩ := h
  exact ⟨s, h1.1⟩
theorem LiesAt.calm {A B : World} {b o : Nat} {f : Rat} (h : LiesAt A b o f) (hb : Calm A B) : LiesAt B b o f := by
  obtain ⟨s, x, y, p, h1, h2⟩ := h
  exact ⟨s, x, y, p, h1.calm hb, h2.calm hb⟩
theorem FracsAt.calm {A B : World} {v : Value} {fs : List Rat} (h : FracsAt A v fs) (hb : Calm A B) : FracsAt B v fs := by
  obtain ⟨a, cap, e, hc, h⟩ := h
  refine ⟨a, cap, e, hc, fun i f hf => ?_⟩
  obtain ⟨b, off, e1, h1⟩ := h i f hf
  exact ⟨b, off, e1, h1.calm hb⟩
theorem FracsAt.get {w : World} {b off n cap : Nat} {fs : List Rat} (h : FracsAt w (.slice (some ⟨b, off, none⟩) n cap) fs) (i : Nat) (hi : i < n) : ∃ s x y p, P4o w b (off + i * 4) s x y p ∧ FracAt w (.agg #[.bool s, .int .u64 x, .int .u64 y, .pointer p]) (fs[i]?.getD 0) := by
  obtain ⟨a, cap', e, -, h⟩ := h
  simp only [Value.slice.injEq] at e
  obtain ⟨rfl, rfl, -⟩ := e
  obtain ⟨b', off', e2, s, x, y, p, h1, h2⟩ := h i fs[i] (List.getElem?_eq_getElem hi)
  simp only [Option.some.injEq, Addr.mk.injEq] at e2
  obtain ⟨rfl, rfl, -⟩ := e2
  exact ⟨s, x, y, p, h1, by rw [List.getElem?_eq_getElem hi]; exact h2⟩
/-- a fraction that comes back, in its four parts -/
theorem in_parts {P : Program} {f : FuncId} {args : Array Value} {w : World} {r : Rat} (h : Calls P f args w fun e w' => ∃ v, e = .returned v ∧ FracAt w' v r ∧ But [] w w') :
    Calls P f args w fun e w' => ∃ s x y p, e = .returned (.agg #[.bool s, .int .u64 x, .int .u64 y, .pointer p]) ∧ FracAt w' (.agg #[.bool s, .int .u64 x, .int .u64 y, .pointer p]) r ∧ But [] w w' :=
  h.mono fun e w' ⟨v, he, hv, hb⟩ => by
    obtain ⟨x, y, p, rfl, -⟩ := hv.agg
    exact ⟨_, x, y, p, he, hv, hb⟩
theorem zero_at (w : World) : FracAt w (.agg #[.bool false, .int .u64 0, .int .u64 0, .pointer none]) 0 := .inl ⟨by decide, by decide, rfl⟩
theorem FracsAt.behind {w0 w w' : World} {v : Value} {fs : List Rat} {g : Nat} (h0 : FracsAt w0 v fs) (h : FracsAt w v fs) (hb : But [g] w w') (hg : w0.heap.size ≤ g) (hc : ∃ s, w.cell? ⟨g, 0, none⟩ = some (.bool s)) : FracsAt w' v fs := by
  obtain ⟨a0, cap0, e0, -, k0⟩ := h0
  obtain ⟨a, cap, rfl, hcp, k⟩ := h
  simp only [Value.slice.injEq] at e0
  obtain ⟨rfl, -, -⟩ := e0
  refine ⟨a, cap, rfl, hcp, fun i f hf => ?_⟩
  obtain ⟨b, off, rfl, h1⟩ := k i f hf
  obtain ⟨b', off', e', s, x, y, p, h2, -⟩ := k0 i f hf
  simp only [Option.some.injEq, Addr.mk.injEq] at e'
  obtain ⟨rfl, -, -⟩ := e'
  have hlt : b < w0.heap.size := lt_of_cell h2.1
  exact ⟨b, off, rfl, h1.beside hb (by simp; omega) (fun g' hg' => by simp at hg'; subst hg'; exact hc)⟩
theorem info_frac : ∃ i, Tryz.prog.info? 27 = some i ∧ i.zero = some (.agg #[.bool false, .int .u64 0, .int .u64 0, .pointer none]) ∧ i.size = 4 ∧ i.bytes = 32 := by
  have h : (Tryz.prog.info? 27).map (fun i => (i.zero, i.size, i.bytes)) = some (some (.agg #[.bool false, .int .u64 0, .int .u64 0, .pointer none]), 4, 32) := by kernel_rfl
  cases e : Tryz.prog.info? 27 with
  | none => rw [e] at h; simp at h
  | some i =>
    rw [e] at h
    simp only [Option.map_some, Option.some.injEq, Prod.mk.injEq] at h
    exact ⟨i, rfl, h.1, h.2.1, h.2.2⟩
theorem run_makeF (wx : World) (n : Nat) (h : n < 1000000) : (Instr.makeSlice 75 (.int .i64 (n : Int)) (.int .i64 (n : Int))).run Tryz.prog wx = .ok (.slice (some ⟨wx.heap.size, 0, none⟩) n n) (wx.alloc (.cells (madeCells #[.bool false, .int .u64 0, .int .u64 0, .pointer none] (n * 4)) 27)) := by
  obtain ⟨ti, hi, hz, hs, hbt⟩ := info_frac
  have hmk := run_make (P := Tryz.prog) wx 75 27 ti _ Tryz.underlying75 hi hz .i64 .i64 (n : Int) (n : Int) (by omega) (by omega) (by rw [hbt]; omega) (by omega)
  rw [hs, Int.toNat_natCast] at hmk
  exact hmk
theorem made_four (n o : Nat) (h : o < n * 4) : (madeCells #[Value.bool false, .int .u64 0, .int .u64 0, .pointer none] (n * 4))[o]? = (#[Value.bool false, .int .u64 0, .int .u64 0, .pointer none] : Array Value)[o % 4]? := by
  unfold madeCells
  rw [Array.getElem?_map, Array.getElem?_eq_getElem (by simpa using h), Array.getElem_range, Option.map_some]
  have : o % 4 = 0 ∨ o % 4 = 1 ∨ o % 4 = 2 ∨ o % 4 = 3 := by omega
  show some ((#[Value.bool false, .int .u64 0, .int .u64 0, .pointer none] : Array Value)[o % 4]!) = _
  rcases this with e | e | e | e <;> (rw [e]; rfl)
end Go.Proofs.YtjbboicccddhbaaGreatDoor

namespace Go.Proofs.YtjbboicccddhbaaGreatDoor
open Go.RowKit
set_option linter.unusedVariables false

/-- a block of n fractions, of which the first i are told -/
structure Row4 (w : World) (g n i : Nat) (F : Nat → Rat) : Prop where
  blank : ∀ j, i ≤ j → j < n → P4o w g (j * 4) false 0 0 none
  told : ∀ j, j < i → LiesAt w g (j * 4) (F j)
  loose : ∀ o, w.frozen? ⟨g, o, none⟩ = false
theorem Row4.made (w : World) (n : Nat) (F : Nat → Rat) : Row4 (w.alloc (.cells (madeCells #[Value.bool false, .int .u64 0, .int .u64 0, .pointer none] (n * 4)) 27)) w.heap.size n 0 F := by
  have hc : ∀ j k, j < n → k < 4 → (w.alloc (.cells (madeCells #[Value.bool false, .int .u64 0, .int .u64 0, .pointer none] (n * 4)) 27)).cell? ⟨w.heap.size, j * 4 + k, none⟩ = (#[Value.bool false, .int .u64 0, .int .u64 0, .pointer none] : Array Value)[k]? := fun j k hj hk => by
    rw [World.cell?_alloc_new, made_four n _ (by omega), show (j * 4 + k) % 4 = k from by omega]
  exact ⟨fun j _ hj => ⟨hc j 0 hj (by omega), hc j 1 hj (by omega), hc j 2 hj (by omega), hc j 3 hj (by omega)⟩, fun j hj => by omega, fun o => by simp⟩
theorem Row4.but {w w' : World} {g n i : Nat} {F : Nat → Rat} (h : Row4 w g n i F) (hb : But [] w w') (hg : g < w.heap.size) : Row4 w' g n i F :=
  ⟨fun j h1 h2 => (h.blank j h1 h2).but hb (by simp), fun j hj => (h.told j hj).but hb, fun o => (hb.frozen (p := ⟨g, o, none⟩) hg (by simp)).trans (h.loose o)⟩
theorem Row4.beside {w w' : World} {g n i : Nat} {F : Nat → Rat} {l : List Nat} (h : Row4 w g n i F) (hb : But l w w') (hg : g < w.heap.size) (hn : g ∉ l) (hc : ∀ g ∈ l, ∃ s, w.cell? ⟨g, 0, none⟩ = some (.bool s)) : Row4 w' g n i F :=
  ⟨fun j h1 h2 => (h.blank j h1 h2).but hb hn, fun j hj => (h.told j hj).beside hb hn hc, fun o => (hb.frozen (p := ⟨g, o, none⟩) hg hn).trans (h.loose o)⟩
theorem Row4.bool {w : World} {g n i : Nat} {F : Nat → Rat} (h : Row4 w g n i F) (h0 : 0 < n) : ∃ s, w.cell? ⟨g, 0, none⟩ = some (.bool s) := by
  rcases Nat.eq_zero_or_pos i with e | e
  · subst e
    have a := h.blank 0 (Nat.le_refl _) h0
    rw [Nat.zero_mul] at a
    exact ⟨_, a.1⟩
  · obtain ⟨s, x, y, p, a, -⟩ := h.told 0 e
    rw [Nat.zero_mul] at a
    exact ⟨_, a.1⟩
theorem Row4.next {w : World} {g n i : Nat} {F : Nat → Rat} (h : Row4 w g n i F) (hi : i < n) (s1 : Bool) (x1 y1 : Int) (p1 : Option Addr) (h1 : FracAt w (.agg #[.bool s1, .int .u64 x1, .int .u64 y1, .pointer p1]) (F i)) :
    Row4 (w.setCells g (i * 4) [.bool s1, .int .u64 x1, .int .u64 y1, .pointer p1]) g n (i + 1) F := by
  obtain ⟨c, hc⟩ := h.bool (by omega)
  have a1 := h.blank i (Nat.le_refl _) hi
  have hb := but_setCells w g [.bool s1, .int .u64 x1, .int .u64 y1, .pointer p1] (i * 4)
  have some4 : ∀ k, k < 4 → (w.cell? ⟨g, i * 4 + k, none⟩).isSome = true := fun k hk => by
    have : k = 0 ∨ k = 1 ∨ k = 2 ∨ k = 3 := by omega
    rcases this with rfl | rfl | rfl | rfl
    · rw [show i * 4 + 0 = i * 4 from rfl, a1.1]; rfl
    · rw [a1.2.1]; rfl
    · rw [a1.2.2.1]; rfl
    · rw [a1.2.2.2]; rfl
  have hin : ∀ k (hk : k < 4), (w.setCells g (i * 4) [.bool s1, .int .u64 x1, .int .u64 y1, .pointer p1]).cell? ⟨g, i * 4 + k, none⟩ = some ([Value.bool s1, .int .u64 x1, .int .u64 y1, .pointer p1][k]'hk) := fun k hk =>
    World.cell?_setCells_in g [.bool s1, .int .u64 x1, .int .u64 y1, .pointer p1] (i * 4) w (fun j hj => some4 j hj) k hk
  have hout : ∀ o, o < i * 4 ∨ i * 4 + 4 ≤ o → (w.setCells g (i * 4) [.bool s1, .int .u64 x1, .int .u64 y1, .pointer p1]).cell? ⟨g, o, none⟩ = w.cell? ⟨g, o, none⟩ := fun o ho => World.cell?_setCells_out g _ (i * 4) w _ (fun _ _ => by simp; omega)
  have keep : ∀ o s x y p, o + 4 ≤ i * 4 ∨ i * 4 + 4 ≤ o → P4o w g o s x y p → P4o (w.setCells g (i * 4) [.bool s1, .int .u64 x1, .int .u64 y1, .pointer p1]) g o s x y p := fun o s x y p ho hp => ⟨(hout o (by omega)).trans hp.1, (hout (o + 1) (by omega)).trans hp.2.1, (hout (o + 2) (by omega)).trans hp.2.2.1, (hout (o + 3) (by omega)).trans hp.2.2.2⟩
  have hfr : ∀ {v f}, FracAt w v f → FracAt (w.setCells g (i * 4) [.bool s1, .int .u64 x1, .int .u64 y1, .pointer p1]) v f := fun hf => hf.over hc hb
  refine ⟨fun j h1 h2 => keep _ _ _ _ _ (by omega) (h.blank j (by omega) h2), fun j hj => ?_, fun o => by rw [World.frozen?_setCells]; exact h.loose o⟩
  by_cases e : j = i
  · subst e
    exact ⟨s1, x1, y1, p1, ⟨hin 0 (by omega), hin 1 (by omega), hin 2 (by omega), hin 3 (by omega)⟩, hfr h1⟩
  · obtain ⟨t1, u1, v1, q1, b1, f1⟩ := h.told j (by omega)
    exact ⟨t1, u1, v1, q1, keep _ _ _ _ _ (by omega) b1, hfr f1⟩
theorem Row4.fracs {w : World} {g n : Nat} {F : Nat → Rat} (h : Row4 w g n n F) : FracsAt w (.slice (some ⟨g, 0, none⟩) n n) ((List.range n).map F) :=
  ⟨some ⟨g, 0, none⟩, n, by simp, by simp, fun i f hf => by
    rw [List.getElem?_map] at hf
    by_cases hi : i < n
    · rw [List.getElem?_range hi] at hf
      simp only [Option.map_some, Option.some.injEq] at hf
      subst hf
      exact ⟨g, 0, rfl, by rw [Nat.zero_add]; exact h.told i hi⟩
    · rw [List.getElem?_eq_none (by simp; omega)] at hf
      simp at hf⟩
end Go.Proofs.YtjbboicccddhbaaGreatDoor

namespace Go.Proofs.YtjbboicccddhbaaGreatDoor
open Go.RowKit
set_option linter.unusedVariables false

theorem run_mvK (a : Act) (w : World) (d t : Nat) (u : TypeId) (ps : String) (ed : Array Edge) (gd : Option (Nat × Bool)) (N : Value) (h : a.eval (.tmp t) = N) :
    (execOp a.eval { dst := some d, op := Op.move (.tmp t), type := u, pos := ps, after := ed, guard := gd }).run Tryz.prog w = .ok (.value N) w := by
  unfold execOp
  simp only [h]
  go_simp
theorem run_loadK (a : Act) (w : World) (d t : Nat) (u : TypeId) (ps : String) (ed : Array Edge) (gd : Option (Nat × Bool)) (b o : Nat) (s : Bool) (x y : Int) (p : Option Addr) (h1 : a.eval (.tmp t) = .pointer (some ⟨b, o, none⟩)) (hc : P4o w b o s x y p) :
    (execOp a.eval { dst := some d, op := Op.load 27 (.tmp t), type := u, pos := ps, after := ed, guard := gd }).run Tryz.prog w = .ok (.value (.agg #[.bool s, .int .u64 x, .int .u64 y, .pointer p])) w := by
  obtain ⟨c0, c1, c2, c3⟩ := hc
  unfold execOp
  simp only [h1]
  go_simp
theorem run_exK (a : Act) (w : World) (d t1 k : Nat) (u : TypeId) (ps : String) (ed : Array Edge) (gd : Option (Nat × Bool)) (xs : Array Value) (v : Value) (h1 : a.eval (.tmp t1) = .tuple xs) (h2 : xs[k]? = some v) :
    (execOp a.eval { dst := some d, op := Op.extract (.tmp t1) k, type := u, pos := ps, after := ed, guard := gd }).run Tryz.prog w = .ok (.value v) w := by
  unfold execOp
  simp only [h1]
  go_simp
theorem run_asK (a : Act) (w : World) (d t : Nat) (u : TypeId) (ps : String) (ed : Array Edge) (gd : Option (Nat × Bool)) (N : Value) (h : a.eval (.tmp t) = N) :
    (execOp a.eval { dst := some d, op := Op.assign (.tmp t), type := u, pos := ps, after := ed, guard := gd }).run Tryz.prog w = .ok (.value N) w := by
  unfold execOp
  simp only [h]
  go_simp
theorem run_mulK (a : Act) (w : World) (d t1 t2 : Nat) (u : TypeId) (ps : String) (ed : Array Edge) (gd : Option (Nat × Bool)) (x1 x2 : Value) (h1 : a.eval (.tmp t1) = x1) (h2 : a.eval (.tmp t2) = x2) :
    (execOp a.eval { dst := some d, op := Op.call { callee := Callee.value (Operand.func 37), args := #[Operand.tmp t1, Operand.tmp t2], argTypes := #[27, 27] }, type := u, pos := ps, after := ed, guard := gd }).run Tryz.prog w = .ok (.enter 37 #[x1, x2]) w := by
  unfold execOp
  go_simp
  rw [← h1, ← h2]
  simp [Act.eval]
theorem run_wholeK (a : Act) (w : World) (d t1 : Nat) (u : TypeId) (ps : String) (ed : Array Edge) (gd : Option (Nat × Bool)) (x1 : Value) (h1 : a.eval (.tmp t1) = x1) :
    (execOp a.eval { dst := some d, op := Op.call { callee := Callee.value (Operand.func 16), args := #[Operand.tmp t1], argTypes := #[3] }, type := u, pos := ps, after := ed, guard := gd }).run Tryz.prog w = .ok (.enter 16 #[x1]) w := by
  unfold execOp
  go_simp
  rw [← h1]
  simp [Act.eval]
theorem run_store4o (a : Act) (w : World) (t1 t2 : Nat) (u : TypeId) (ps : String) (ed : Array Edge) (g o : Nat) (s : Bool) (x y : Int) (p : Option Addr) {s' : Bool} {x' y' : Int} {p' : Option Addr} (h1 : a.eval (.tmp t1) = .pointer (some ⟨g, o, none⟩)) (h2 : a.eval (.tmp t2) = .agg #[.bool s, .int .u64 x, .int .u64 y, .pointer p]) (hc : P4o w g o s' x' y' p') (hf : ∀ o, w.frozen? ⟨g, o, none⟩ = false) :
    (execOp a.eval { dst := none, op := Op.store 27 (.tmp t1) (.tmp t2), type := u, pos := ps, after := ed, guard := none }).run Tryz.prog w = .ok .skip (w.setCells g o [.bool s, .int .u64 x, .int .u64 y, .pointer p]) := by
  obtain ⟨c0, c1, c2, c3⟩ := hc
  unfold execOp
  simp only [h1, h2]
  go_simp
  rfl
theorem run_indexK (a : Act) (w : World) (d t1 t2 : Nat) (u : TypeId) (ps : String) (ed : Array Edge) (gd : Option (Nat × Bool)) (b off n c k : Nat) (hk : k < n) (_hn : n < 1000000) (h1 : a.eval (.tmp t1) = .slice (some ⟨b, off, none⟩) n c) (h2 : a.eval (.tmp t2) = .int .i64 (k : Int)) :
    (execOp a.eval { dst := some d, op := Op.indexAddr 75 (.tmp t1) (.tmp t2), type := u, pos := ps, after := ed, guard := gd }).run Tryz.prog w = .ok (.value (.pointer (some ⟨b, off + k * 4, none⟩))) w := by
  unfold execOp
  simp only [h1, h2]
  go_simp
theorem run_indexT (a : Act) (w : World) (d t1 t2 : Nat) (u : TypeId) (ps : String) (ed : Array Edge) (gd : Option (Nat × Bool)) (b off n c k : Nat) (hk : k < n) (_hn : n < 1000000) (h1 : a.eval (.tmp t1) = .slice (some ⟨b, off, none⟩) n c) (h2 : a.eval (.tmp t2) = .int .i64 (k : Int)) :
    (execOp a.eval { dst := some d, op := Op.indexAddr 78 (.tmp t1) (.tmp t2), type := u, pos := ps, after := ed, guard := gd }).run Tryz.prog w = .ok (.value (.pointer (some ⟨b, off + k, none⟩))) w := by
  unfold execOp
  simp only [h1, h2]
  go_simp
theorem run_indexI (a : Act) (w : World) (d t1 t2 : Nat) (u : TypeId) (ps : String) (ed : Array Edge) (gd : Option (Nat × Bool)) (b off n c k : Nat) (hk : k < n) (_hn : n < 1000000) (h1 : a.eval (.tmp t1) = .slice (some ⟨b, off, none⟩) n c) (h2 : a.eval (.tmp t2) = .int .i64 (k : Int)) :
    (execOp a.eval { dst := some d, op := Op.indexAddr 53 (.tmp t1) (.tmp t2), type := u, pos := ps, after := ed, guard := gd }).run Tryz.prog w = .ok (.value (.pointer (some ⟨b, off + k, none⟩))) w := by
  unfold execOp
  simp only [h1, h2]
  go_simp
theorem run_indexJ (a : Act) (w : World) (d t1 t2 : Nat) (u : TypeId) (ps : String) (ed : Array Edge) (gd : Option (Nat × Bool)) (b off n c k : Nat) (hk : k < n) (_hn : n < 1000000) (h1 : a.eval (.tmp t1) = .slice (some ⟨b, off, none⟩) n c) (h2 : a.eval (.tmp t2) = .int .i64 (k : Int)) :
    (execOp a.eval { dst := some d, op := Op.indexAddr 73 (.tmp t1) (.tmp t2), type := u, pos := ps, after := ed, guard := gd }).run Tryz.prog w = .ok (.value (.pointer (some ⟨b, off + k, none⟩))) w := by
  unfold execOp
  simp only [h1, h2]
  go_simp
theorem run_indexN (a : Act) (w : World) (d t1 t2 : Nat) (u : TypeId) (ps : String) (ed : Array Edge) (gd : Option (Nat × Bool)) (b off n c k : Nat) (hk : k < n) (_hn : n < 1000000) (h1 : a.eval (.tmp t1) = .slice (some ⟨b, off, none⟩) n c) (h2 : a.eval (.tmp t2) = .int .i64 (k : Int)) :
    (execOp a.eval { dst := some d, op := Op.indexAddr 74 (.tmp t1) (.tmp t2), type := u, pos := ps, after := ed, guard := gd }).run Tryz.prog w = .ok (.value (.pointer (some ⟨b, off + k, none⟩))) w := by
  unfold execOp
  simp only [h1, h2]
  go_simp
theorem run_loadT (a : Act) (w : World) (d t : Nat) (u : TypeId) (ps : String) (ed : Array Edge) (gd : Option (Nat × Bool)) (b o : Nat) (q : Option Addr) (n c : Nat) (h1 : a.eval (.tmp t) = .pointer (some ⟨b, o, none⟩)) (hc : w.cell? ⟨b, o, none⟩ = some (.slice q n c)) :
    (execOp a.eval { dst := some d, op := Op.load 75 (.tmp t), type := u, pos := ps, after := ed, guard := gd }).run Tryz.prog w = .ok (.value (.slice q n c)) w := by
  unfold execOp
  simp only [h1]
  go_simp
theorem run_loadL (a : Act) (w : World) (d t : Nat) (u : TypeId) (ps : String) (ed : Array Edge) (gd : Option (Nat × Bool)) (b o : Nat) (q : Option Addr) (n c : Nat) (h1 : a.eval (.tmp t) = .pointer (some ⟨b, o, none⟩)) (hc : w.cell? ⟨b, o, none⟩ = some (.slice q n c)) :
    (execOp a.eval { dst := some d, op := Op.load 53 (.tmp t), type := u, pos := ps, after := ed, guard := gd }).run Tryz.prog w = .ok (.value (.slice q n c)) w := by
  unfold execOp
  simp only [h1]
  go_simp
theorem run_loadI (a : Act) (w : World) (d t : Nat) (u : TypeId) (ps : String) (ed : Array Edge) (gd : Option (Nat × Bool)) (b o : Nat) (z : Int) (h1 : a.eval (.tmp t) = .pointer (some ⟨b, o, none⟩)) (hc : w.cell? ⟨b, o, none⟩ = some (.int .i64 z)) :
    (execOp a.eval { dst := some d, op := Op.load 3 (.tmp t), type := u, pos := ps, after := ed, guard := gd }).run Tryz.prog w = .ok (.value (.int .i64 z)) w := by
  unfold execOp
  simp only [h1]
  go_simp
theorem run_minus1 (a : Act) (w : World) (d t : Nat) (u : TypeId) (ps : String) (ed : Array Edge) (gd : Option (Nat × Bool)) (k : Nat) (hk : k ≤ 1000000) (h1 : a.eval (.tmp t) = .int .i64 ((k + 1 : Nat) : Int)) :
    (execOp a.eval { dst := some d, op := Op.binOp BinOp.sub 3 (.tmp t) (.const (.int .i64 1)) 3, type := u, pos := ps, after := ed, guard := gd }).run Tryz.prog w = .ok (.value (.int .i64 ((k : Nat) : Int))) w := by
  unfold execOp
  simp only [h1]
  go_simp
  rw [IntKind.wrap_i64]
  omega
theorem run_plus1 (a : Act) (w : World) (d t : Nat) (u : TypeId) (ps : String) (ed : Array Edge) (gd : Option (Nat × Bool)) (k : Nat) (hk : k ≤ 1000000) (h1 : a.eval (.tmp t) = .int .i64 ((k : Nat) : Int)) :
    (execOp a.eval { dst := some d, op := Op.binOp BinOp.add 3 (.tmp t) (.const (.int .i64 1)) 3, type := u, pos := ps, after := ed, guard := gd }).run Tryz.prog w = .ok (.value (.int .i64 ((k + 1 : Nat) : Int))) w := by
  unfold execOp
  simp only [h1]
  go_simp
  rw [IntKind.wrap_i64]
  omega
theorem run_subK (a : Act) (w : World) (d t1 t2 : Nat) (u : TypeId) (ps : String) (ed : Array Edge) (gd : Option (Nat × Bool)) (x1 x2 : Value) (h1 : a.eval (.tmp t1) = x1) (h2 : a.eval (.tmp t2) = x2) :
    (execOp a.eval { dst := some d, op := Op.call { callee := Callee.value (Operand.func 18), args := #[Operand.tmp t1, Operand.tmp t2], argTypes := #[27, 27] }, type := u, pos := ps, after := ed, guard := gd }).run Tryz.prog w = .ok (.enter 18 #[x1, x2]) w := by
  unfold execOp
  go_simp
  rw [← h1, ← h2]
  simp [Act.eval]
theorem run_addK (a : Act) (w : World) (d t1 t2 : Nat) (u : TypeId) (ps : String) (ed : Array Edge) (gd : Option (Nat × Bool)) (x1 x2 : Value) (h1 : a.eval (.tmp t1) = x1) (h2 : a.eval (.tmp t2) = x2) :
    (execOp a.eval { dst := some d, op := Op.call { callee := Callee.value (Operand.func 21), args := #[Operand.tmp t1, Operand.tmp t2], argTypes := #[27, 27] }, type := u, pos := ps, after := ed, guard := gd }).run Tryz.prog w = .ok (.enter 21 #[x1, x2]) w := by
  unfold execOp
  go_simp
  rw [← h1, ← h2]
  simp [Act.eval]
theorem run_cmpK (a : Act) (w : World) (d t1 t2 : Nat) (u : TypeId) (ps : String) (ed : Array Edge) (gd : Option (Nat × Bool)) (x1 x2 : Value) (h1 : a.eval (.tmp t1) = x1) (h2 : a.eval (.tmp t2) = x2) :
    (execOp a.eval { dst := some d, op := Op.call { callee := Callee.value (Operand.func 22), args := #[Operand.tmp t1, Operand.tmp t2], argTypes := #[27, 27] }, type := u, pos := ps, after := ed, guard := gd }).run Tryz.prog w = .ok (.enter 22 #[x1, x2]) w := by
  unfold execOp
  go_simp
  rw [← h1, ← h2]
  simp [Act.eval]
theorem run_divK (a : Act) (w : World) (d t1 t2 : Nat) (u : TypeId) (ps : String) (ed : Array Edge) (gd : Option (Nat × Bool)) (x1 x2 : Value) (h1 : a.eval (.tmp t1) = x1) (h2 : a.eval (.tmp t2) = x2) :
    (execOp a.eval { dst := some d, op := Op.call { callee := Callee.value (Operand.func 36), args := #[Operand.tmp t1, Operand.tmp t2], argTypes := #[27, 27] }, type := u, pos := ps, after := ed, guard := gd }).run Tryz.prog w = .ok (.enter 36 #[x1, x2]) w := by
  unfold execOp
  go_simp
  rw [← h1, ← h2]
  simp [Act.eval]
end Go.Proofs.YtjbboicccddhbaaGreatDoor
