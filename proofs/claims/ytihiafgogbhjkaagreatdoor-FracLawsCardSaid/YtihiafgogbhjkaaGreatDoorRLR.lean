/- Three fractions made of three pairs in one statement, whatever order its operations come in. -/
import Derived.Test.YtihiafgogbhjkaaGreatDoorRD1
import Derived.Test.YtihiafgogbhjkaaGreatDoorRL2
namespace Go.Proofs.YtihiafgogbhjkaaGreatDoor
open Go.RowKit

/-- what holds ahead of each operation, in whatever order they come, holds of the region -/
theorem wpAny_inv {P : Program} {md : Region.Mode} {ops : Array Oper} {Q : Exit → Act → World → Prop} (J : Nat → Array Bool → Act → World → Prop)
    (h0 : ∀ l a w, J 0 l a w → Region.ready md ops l = []) (hend : ∀ n l a w, J n l a w → Region.ready md ops l = [] → Q .normal a w)
    (hstep : ∀ n l a w, J (n + 1) l a w → ∀ i ∈ Region.ready md ops l, wpOp P ops Q i (J n (l.setIfInBounds i true)) a w) :
    ∀ n l a w, J n l a w → wpAny P md ops Q n l a w
  | 0, l, a, w, h => ⟨h0 l a w h, hend 0 l a w h (h0 l a w h)⟩
  | n + 1, l, a, w, h => ⟨hend _ l a w h, fun i hi => wpOp_mono (fun a' w' h' => wpAny_inv J h0 hend hstep n _ a' w' h') (hstep n l a w h i hi)⟩

theorem wpOp_value {P : Program} {ops : Array Oper} {Q : Exit → Act → World → Prop} {i : Nat} {K : Act → World → Prop} {a : Act} {w w' : World} {o : Oper} {v : Value} (ho : ops[i]? = some o) (hg : o.guard = none) (hr : (execOp a.eval o).run P w = .ok (.value v) w') (h : K (a.put o.dst v) w') : wpOp P ops Q i K a w := by
  unfold wpOp
  simp only [ho, Region.wanted, hg, if_true, Oper.wp, hr, Oper.upon_value]
  exact .inl h
theorem wpOp_skip {P : Program} {ops : Array Oper} {Q : Exit → Act → World → Prop} {i : Nat} {K : Act → World → Prop} {a : Act} {w w' : World} {o : Oper} (ho : ops[i]? = some o) (hg : o.guard = none) (hr : (execOp a.eval o).run P w = .ok .skip w') (h : K (a.put o.dst undef) w') : wpOp P ops Q i K a w := by
  unfold wpOp
  simp only [ho, Region.wanted, hg, if_true, Oper.wp, hr, Oper.upon_skip]
  exact .inl h
theorem wpOp_enter {P : Program} {ops : Array Oper} {Q : Exit → Act → World → Prop} {i : Nat} {K : Act → World → Prop} {a : Act} {w : World} {o : Oper} {f : FuncId} {args : Array Value} (ho : ops[i]? = some o) (hg : o.guard = none) (hr : (execOp a.eval o).run P w = .ok (.enter f args) w) {R : World → Value → Prop} (hc : Calls P f args w fun e w' => ∃ v, e = .returned v ∧ R w' v) (h : ∀ v w', R w' v → K (a.put o.dst v) w') : wpOp P ops Q i K a w := by
  unfold wpOp
  simp only [ho, Region.wanted, hg, if_true, Oper.wp, hr, Oper.upon_enter]
  refine .inl (hc.mono ?_)
  rintro e w' ⟨v, rfl, hv⟩
  exact h v w' hv

theorem run_loadQ (a : Act) (w : World) (d t _p : Nat) (u : TypeId) (s : String) (ed : Array Edge) (g : Nat) (x y : Int) (ht : a.eval (.tmp t) = .pointer (some ⟨g, 0, none⟩)) (c0 : w.cell? ⟨g, 0, none⟩ = some (.int .i64 x)) (c1 : w.cell? ⟨g, 1, none⟩ = some (.int .i64 y)) :
    (execOp a.eval { dst := some d, op := Op.load 23 (.tmp t), type := u, pos := s, after := ed, guard := none }).run Tryz.prog w = .ok (.value (.agg #[.int .i64 x, .int .i64 y])) w := by
  unfold execOp
  simp only [ht]
  go_simp
theorem run_allocF (a : Act) (w : World) (d : Nat) (u : TypeId) (s : String) (ed : Array Edge) :
    (execOp a.eval { dst := some d, op := Op.alloc 27, type := u, pos := s, after := ed, guard := none }).run Tryz.prog w = .ok (.value (.pointer (some ⟨w.heap.size, 0, none⟩))) (w.alloc (.cells #[.bool false, .int .u64 0, .int .u64 0, .pointer none] 27)) := by
  unfold execOp
  go_simp
theorem run_storeF (a : Act) (w : World) (t1 t2 : Nat) (u : TypeId) (s : String) (ed : Array Edge) (g : Nat) (r : Bool) (p q : Int) (h1 : a.eval (.tmp t1) = .pointer (some ⟨g, 0, none⟩)) (h2 : a.eval (.tmp t2) = .agg #[.bool r, .int .u64 p, .int .u64 q, .pointer none]) (c0 : w.cell? ⟨g, 0, none⟩ = some (.bool false)) (c1 : w.cell? ⟨g, 1, none⟩ = some (.int .u64 0)) (c2 : w.cell? ⟨g, 2, none⟩ = some (.int .u64 0)) (c3 : w.cell? ⟨g, 3, none⟩ = some (.pointer none)) (fz : ∀ j, w.frozen? ⟨g, j, none⟩ = false) :
    (execOp a.eval { dst := none, op := Op.store 27 (.tmp t1) (.tmp t2), type := u, pos := s, after := ed, guard := none }).run Tryz.prog w = .ok .skip ((((w.setCell ⟨g, 0, none⟩ (.bool r)).setCell ⟨g, 1, none⟩ (.int .u64 p)).setCell ⟨g, 2, none⟩ (.int .u64 q)).setCell ⟨g, 3, none⟩ (.pointer none)) := by
  unfold execOp
  simp only [h1, h2]
  go_simp
theorem run_callF (a : Act) (w : World) (d t : Nat) (u : TypeId) (s : String) (ed : Array Edge) (x : Value) (ht : a.eval (.tmp t) = x) :
    (execOp a.eval { dst := some d, op := Op.call { callee := Callee.value (Operand.func 9), args := #[Operand.tmp t], argTypes := #[23] }, type := u, pos := s, after := ed, guard := none }).run Tryz.prog w = .ok (.enter 9 #[x]) w := by
  unfold execOp
  go_simp
  rw [← ht]
  simp [Act.eval]

/-- a fraction of words lies at a block -/
def Lies (w : World) (g : Nat) (r : Bool) (p q : Int) : Prop := w.cell? ⟨g, 0, none⟩ = some (.bool r) ∧ w.cell? ⟨g, 1, none⟩ = some (.int .u64 p) ∧ w.cell? ⟨g, 2, none⟩ = some (.int .u64 q) ∧ w.cell? ⟨g, 3, none⟩ = some (.pointer none)
theorem Lies.but {w w' : World} {g : Nat} {r : Bool} {p q : Int} {l : List Nat} (h : Lies w g r p q) (hb : But l w w') (hn : g ∉ l) : Lies w' g r p q := ⟨hb.cell_some h.1 hn, hb.cell_some h.2.1 hn, hb.cell_some h.2.2.1 hn, hb.cell_some h.2.2.2 hn⟩

theorem ev_ne (a : Act) (d t : Nat) (v : Value) (h : t ≠ d) : (a.put (some d) v).eval (.tmp t) = a.eval (.tmp t) := by
  show (a.tmps.setIfInBounds d v).getD t undef = a.tmps.getD t undef
  simp only [Array.getD_eq_getD_getElem?, Array.getElem?_setIfInBounds_ne (Ne.symm h)]
theorem ev_eq (a : Act) (d : Nat) (v : Value) (h : d < a.tmps.size) : (a.put (some d) v).eval (.tmp d) = v := by
  show (a.tmps.setIfInBounds d v).getD d undef = v
  simp [h]

/-- one of the three: its pair loaded, its fraction made, its place made, its fraction stored there, as far as that has come -/
structure Leg (W w : World) (a : Act) (ld cd pd : Nat) (A : Value) (r : Bool) (p q : Int) (la lc lp ls : Bool) (b : Nat) : Prop where
  e1 : la = true → a.eval (.tmp ld) = A
  e2 : lc = true → a.eval (.tmp cd) = .agg #[.bool r, .int .u64 p, .int .u64 q, .pointer none]
  e3 : lp = true → a.eval (.tmp pd) = .pointer (some ⟨b, 0, none⟩)
  e4 : lp = true → W.heap.size ≤ b ∧ b < w.heap.size ∧ (∀ j, w.frozen? ⟨b, j, none⟩ = false)
  e5 : lp = true → ls = true → Lies w b r p q
  e6 : lp = true → ls = false → Lies w b false 0 0
theorem Leg.put {W w : World} {a : Act} {ld cd pd : Nat} {A : Value} {r : Bool} {p q : Int} {la lc lp ls : Bool} {b : Nat} (h : Leg W w a ld cd pd A r p q la lc lp ls b) (d : Nat) (v : Value) (h1 : ld ≠ d) (h2 : cd ≠ d) (h3 : pd ≠ d) : Leg W w (a.put (some d) v) ld cd pd A r p q la lc lp ls b :=
  ⟨fun e => (ev_ne a d ld v h1).trans (h.e1 e), fun e => (ev_ne a d cd v h2).trans (h.e2 e), fun e => (ev_ne a d pd v h3).trans (h.e3 e), h.e4, h.e5, h.e6⟩
theorem Leg.world {W w w' : World} {a : Act} {ld cd pd : Nat} {A : Value} {r : Bool} {p q : Int} {la lc lp ls : Bool} {b : Nat} {l : List Nat} (h : Leg W w a ld cd pd A r p q la lc lp ls b) (hb : But l w w') (hn : lp = true → b ∉ l) : Leg W w' a ld cd pd A r p q la lc lp ls b :=
  ⟨h.e1, h.e2, h.e3, fun e => ⟨(h.e4 e).1, Nat.lt_of_lt_of_le (h.e4 e).2.1 hb.size, fun j => (hb.frozen (p := ⟨b, j, none⟩) (h.e4 e).2.1 (hn e)).trans ((h.e4 e).2.2 j)⟩, fun e f => (h.e5 e f).but hb (hn e), fun e f => (h.e6 e f).but hb (hn e)⟩
theorem Leg.load {W w : World} {a : Act} {ld cd pd : Nat} {A : Value} {r : Bool} {p q : Int} {lc lp ls : Bool} {b : Nat} (h : Leg W w a ld cd pd A r p q false lc lp ls b) (hs : ld < a.tmps.size) (h2 : cd ≠ ld) (h3 : pd ≠ ld) : Leg W w (a.put (some ld) A) ld cd pd A r p q true lc lp ls b :=
  ⟨fun _ => ev_eq a ld A hs, fun e => (ev_ne a ld cd A h2).trans (h.e2 e), fun e => (ev_ne a ld pd A h3).trans (h.e3 e), h.e4, h.e5, h.e6⟩
theorem Leg.call {W w : World} {a : Act} {ld cd pd : Nat} {A : Value} {r : Bool} {p q : Int} {la lp ls : Bool} {b : Nat} (h : Leg W w a ld cd pd A r p q la false lp ls b) (hs : cd < a.tmps.size) (h1 : ld ≠ cd) (h3 : pd ≠ cd) : Leg W w (a.put (some cd) (.agg #[.bool r, .int .u64 p, .int .u64 q, .pointer none])) ld cd pd A r p q la true lp ls b :=
  ⟨fun e => (ev_ne a cd ld _ h1).trans (h.e1 e), fun _ => ev_eq a cd _ hs, fun e => (ev_ne a cd pd _ h3).trans (h.e3 e), h.e4, h.e5, h.e6⟩
theorem Leg.place {W w : World} {a : Act} {ld cd pd : Nat} {A : Value} {r : Bool} {p q : Int} {la lc : Bool} {b : Nat} (h : Leg W w a ld cd pd A r p q la lc false false b) (hB : But [] W w) (hs : pd < a.tmps.size) (h1 : ld ≠ pd) (h2 : cd ≠ pd) : Leg W (w.alloc (.cells #[.bool false, .int .u64 0, .int .u64 0, .pointer none] 27)) (a.put (some pd) (.pointer (some ⟨w.heap.size, 0, none⟩))) ld cd pd A r p q la lc true false w.heap.size :=
  ⟨fun e => (ev_ne a pd ld _ h1).trans (h.e1 e), fun e => (ev_ne a pd cd _ h2).trans (h.e2 e), fun _ => ev_eq a pd _ hs, fun _ => ⟨hB.size, by simp, fun j => by simp⟩, fun _ f => by simp at f, fun _ _ => ⟨by simp, by simp, by simp, by simp⟩⟩
theorem Leg.store {W w : World} {a : Act} {ld cd pd : Nat} {A : Value} {r : Bool} {p q : Int} {la lc : Bool} {b : Nat} (h : Leg W w a ld cd pd A r p q la lc true false b) : Leg W ((((w.setCell ⟨b, 0, none⟩ (.bool r)).setCell ⟨b, 1, none⟩ (.int .u64 p)).setCell ⟨b, 2, none⟩ (.int .u64 q)).setCell ⟨b, 3, none⟩ (.pointer none)) a ld cd pd A r p q la lc true true b := by
  obtain ⟨c0, c1, c2, c3⟩ := h.e6 rfl rfl
  obtain ⟨s1, s2, s3⟩ := h.e4 rfl
  have o := fun (w : World) (i j : Nat) (v : Value) (hij : i ≠ j) => World.cell?_setCell_other w ⟨b, i, none⟩ ⟨b, j, none⟩ v (fun e => hij (Addr.mk.inj e).2.1)
  refine ⟨h.e1, h.e2, h.e3, fun _ => ⟨s1, by simpa using s2, fun j => by simpa using s3 j⟩, fun _ _ => ⟨?_, ?_, ?_, ?_⟩, fun _ f => by simp at f⟩
  · rw [o _ 3 0 _ (by omega), o _ 2 0 _ (by omega), o _ 1 0 _ (by omega)]
    exact World.cell?_setCell_same _ _ _ c0
  · rw [o _ 3 1 _ (by omega), o _ 2 1 _ (by omega)]
    exact World.cell?_setCell_same _ _ _ (by rw [o _ 0 1 _ (by omega)]; exact c1)
  · rw [o _ 3 2 _ (by omega)]
    exact World.cell?_setCell_same _ _ _ (by rw [o _ 1 2 _ (by omega), o _ 0 2 _ (by omega)]; exact c2)
  · exact World.cell?_setCell_same _ _ _ (by rw [o _ 2 3 _ (by omega), o _ 1 3 _ (by omega), o _ 0 3 _ (by omega)]; exact c3)

/-- the statement's operations, as the program has them -/
def ops3 : Array Oper := #[
  { dst := some 12, op := Op.load 23 (Operand.tmp 3), type := 23, pos := "keep.go:76", after := #[], guard := none },
  { dst := some 13, op := Op.call { callee := Callee.value (Operand.func 9), args := #[Operand.tmp 12], argTypes := #[23] }, type := 27, pos := "keep.go:76", after := #[{ on := 0, ground := Ground.data }], guard := none },
  { dst := some 14, op := Op.load 23 (Operand.tmp 4), type := 23, pos := "keep.go:76", after := #[], guard := none },
  { dst := some 15, op := Op.call { callee := Callee.value (Operand.func 9), args := #[Operand.tmp 14], argTypes := #[23] }, type := 27, pos := "keep.go:76", after := #[{ on := 2, ground := Ground.data }, { on := 1, ground := Ground.chain }], guard := none },
  { dst := some 16, op := Op.load 23 (Operand.tmp 5), type := 23, pos := "keep.go:76", after := #[], guard := none },
  { dst := some 17, op := Op.call { callee := Callee.value (Operand.func 9), args := #[Operand.tmp 16], argTypes := #[23] }, type := 27, pos := "keep.go:76", after := #[{ on := 4, ground := Ground.data }, { on := 3, ground := Ground.chain }], guard := none },
  { dst := some 7, op := Op.alloc 27, type := 0, pos := "keep.go:76", after := #[], guard := none },
  { dst := some 8, op := Op.alloc 27, type := 0, pos := "keep.go:76", after := #[], guard := none },
  { dst := some 9, op := Op.alloc 27, type := 0, pos := "keep.go:76", after := #[], guard := none },
  { dst := none, op := Op.store 27 (Operand.tmp 7) (Operand.tmp 13), type := 0, pos := "keep.go:76", after := #[{ on := 6, ground := Ground.data }, { on := 1, ground := Ground.data }, { on := 5, ground := Ground.chain }, { on := 0, ground := Ground.phase }, { on := 1, ground := Ground.phase }, { on := 2, ground := Ground.textOnly Departure.lateStores }, { on := 3, ground := Ground.textOnly Departure.lateStoresUnsure }, { on := 4, ground := Ground.textOnly Departure.lateStores }, { on := 5, ground := Ground.textOnly Departure.lateStoresUnsure }, { on := 6, ground := Ground.phase }, { on := 7, ground := Ground.phase }, { on := 8, ground := Ground.phase }], guard := none },
  { dst := none, op := Op.store 27 (Operand.tmp 8) (Operand.tmp 15), type := 0, pos := "keep.go:76", after := #[{ on := 7, ground := Ground.data }, { on := 3, ground := Ground.data }, { on := 9, ground := Ground.chain }, { on := 0, ground := Ground.phase }, { on := 1, ground := Ground.phase }, { on := 2, ground := Ground.phase }, { on := 3, ground := Ground.phase }, { on := 4, ground := Ground.textOnly Departure.lateStores }, { on := 5, ground := Ground.textOnly Departure.lateStoresUnsure }, { on := 6, ground := Ground.phase }, { on := 7, ground := Ground.phase }, { on := 8, ground := Ground.phase }, { on := 9, ground := Ground.phase }], guard := none },
  { dst := none, op := Op.store 27 (Operand.tmp 9) (Operand.tmp 17), type := 0, pos := "keep.go:76", after := #[{ on := 8, ground := Ground.data }, { on := 5, ground := Ground.data }, { on := 10, ground := Ground.chain }, { on := 0, ground := Ground.phase }, { on := 1, ground := Ground.phase }, { on := 2, ground := Ground.phase }, { on := 3, ground := Ground.phase }, { on := 4, ground := Ground.phase }, { on := 5, ground := Ground.phase }, { on := 6, ground := Ground.phase }, { on := 7, ground := Ground.phase }, { on := 8, ground := Ground.phase }, { on := 9, ground := Ground.phase }, { on := 10, ground := Ground.phase }], guard := none }]
def cb (b : Bool) : Nat := if b then 0 else 1
theorem cb_zero {b : Bool} (h : cb b = 0) : b = true := by cases b <;> simp [cb] at h ⊢

/-- what holds ahead of each operation -/
structure J3 (W : World) (base : Act) (Ax Ay Az : Value) (rx ry rz : Bool) (px qx py qy pz qz : Int) (l0 l1 l2 l3 l4 l5 l6 l7 l8 l9 l10 l11 : Bool) (bx bY bz : Nat) (a : Act) (w : World) : Prop where
  but : But [] W w
  size : a.tmps.size = base.tmps.size
  defers : a.defers = base.defers
  rest : ∀ t, t ≠ 7 → t ≠ 8 → t ≠ 9 → t ≠ 12 → t ≠ 13 → t ≠ 14 → t ≠ 15 → t ≠ 16 → t ≠ 17 → a.tmps[t]? = base.tmps[t]?
  x : Leg W w a 12 13 7 Ax rx px qx l0 l1 l6 l9 bx
  y : Leg W w a 14 15 8 Ay ry py qy l2 l3 l7 l10 bY
  z : Leg W w a 16 17 9 Az rz pz qz l4 l5 l8 l11 bz
  xy : l6 = true → l7 = true → bx ≠ bY
  xz : l6 = true → l8 = true → bx ≠ bz
  yz : l7 = true → l8 = true → bY ≠ bz
  dx : l9 = true → l6 = true
  dy : l10 = true → l7 = true
  dz : l11 = true → l8 = true

theorem rest_put {base a : Act} {d : Nat} {v : Value} (hr : ∀ t, t ≠ 7 → t ≠ 8 → t ≠ 9 → t ≠ 12 → t ≠ 13 → t ≠ 14 → t ≠ 15 → t ≠ 16 → t ≠ 17 → a.tmps[t]? = base.tmps[t]?) (hd : d = 7 ∨ d = 8 ∨ d = 9 ∨ d = 12 ∨ d = 13 ∨ d = 14 ∨ d = 15 ∨ d = 16 ∨ d = 17) : ∀ t, t ≠ 7 → t ≠ 8 → t ≠ 9 → t ≠ 12 → t ≠ 13 → t ≠ 14 → t ≠ 15 → t ≠ 16 → t ≠ 17 → (a.put (some d) v).tmps[t]? = base.tmps[t]? := fun t h1 h2 h3 h4 h5 h6 h7 h8 h9 => by
  rw [← hr t h1 h2 h3 h4 h5 h6 h7 h8 h9]
  show (a.tmps.setIfInBounds d v)[t]? = a.tmps[t]?
  exact Array.getElem?_setIfInBounds_ne (by omega)
theorem size_put {base a : Act} {d : Nat} {v : Value} (h : a.tmps.size = base.tmps.size) : (a.put (some d) v).tmps.size = base.tmps.size := by
  rw [← h]
  show (a.tmps.setIfInBounds d v).size = a.tmps.size
  simp
end Go.Proofs.YtihiafgogbhjkaaGreatDoor

namespace Go.Proofs.YtihiafgogbhjkaaGreatDoor
open Go.RowKit

theorem ev_rest {W : World} {base : Act} {Ax Ay Az : Value} {rx ry rz : Bool} {px qx py qy pz qz : Int} {l0 l1 l2 l3 l4 l5 l6 l7 l8 l9 l10 l11 : Bool} {bx bY bz : Nat} {a : Act} {w : World} (h : J3 W base Ax Ay Az rx ry rz px qx py qy pz qz l0 l1 l2 l3 l4 l5 l6 l7 l8 l9 l10 l11 bx bY bz a w) (t : Nat) (ht : t < 6) : a.eval (.tmp t) = base.eval (.tmp t) := by
  show a.tmps.getD t undef = base.tmps.getD t undef
  simp only [Array.getD_eq_getD_getElem?, h.rest t (by omega) (by omega) (by omega) (by omega) (by omega) (by omega) (by omega) (by omega) (by omega)]
/-- the invariant, over the row of what has come -/
def JJ (W : World) (base : Act) (a1 a2 b1 b2 c1 c2 : Int) (rx ry rz : Bool) (px qx py qy pz qz : Int) (n : Nat) (l : Array Bool) (a : Act) (w : World) : Prop :=
  ∃ (l0 l1 l2 l3 l4 l5 l6 l7 l8 l9 l10 l11 : Bool) (bx bY bz : Nat), l = #[l0, l1, l2, l3, l4, l5, l6, l7, l8, l9, l10, l11] ∧ n = cb l0 + cb l1 + cb l2 + cb l3 + cb l4 + cb l5 + cb l6 + cb l7 + cb l8 + cb l9 + cb l10 + cb l11 ∧ J3 W base (.agg #[.int .i64 a1, .int .i64 a2]) (.agg #[.int .i64 b1, .int .i64 b2]) (.agg #[.int .i64 c1, .int .i64 c2]) rx ry rz px qx py qy pz qz l0 l1 l2 l3 l4 l5 l6 l7 l8 l9 l10 l11 bx bY bz a w

theorem step0 {W : World} {base : Act} {a1 a2 b1 b2 c1 c2 : Int} {rx ry rz : Bool} {px qx py qy pz qz : Int} {Q : Exit → Act → World → Prop} (n : Nat) {l1 l2 l3 l4 l5 l6 l7 l8 l9 l10 l11 : Bool} {bx bY bz : Nat} {ga : Nat} {a : Act} {w : World} (hn : n + 1 = cb false + cb l1 + cb l2 + cb l3 + cb l4 + cb l5 + cb l6 + cb l7 + cb l8 + cb l9 + cb l10 + cb l11) (h : J3 W base (.agg #[.int .i64 a1, .int .i64 a2]) (.agg #[.int .i64 b1, .int .i64 b2]) (.agg #[.int .i64 c1, .int .i64 c2]) rx ry rz px qx py qy pz qz false l1 l2 l3 l4 l5 l6 l7 l8 l9 l10 l11 bx bY bz a w) (hs : 17 < base.tmps.size) (hp : base.eval (.tmp 3) = .pointer (some ⟨ga, 0, none⟩)) (c0 : W.cell? ⟨ga, 0, none⟩ = some (.int .i64 a1)) (c1' : W.cell? ⟨ga, 1, none⟩ = some (.int .i64 a2)) : wpOp Tryz.prog ops3 Q 0 (JJ W base a1 a2 b1 b2 c1 c2 rx ry rz px qx py qy pz qz n (#[false, l1, l2, l3, l4, l5, l6, l7, l8, l9, l10, l11].setIfInBounds 0 true)) a w := by
  have hsz : 17 < a.tmps.size := by rw [h.size]; exact hs
  refine wpOp_value rfl rfl (run_loadQ a w _ _ 0 _ _ _ ga _ _ ((ev_rest h 3 (by omega)).trans hp) (h.but.cell_some c0 (by simp)) (h.but.cell_some c1' (by simp))) ?_
  exact ⟨true, l1, l2, l3, l4, l5, l6, l7, l8, l9, l10, l11, bx, bY, bz, rfl, by simp [cb] at hn ⊢; omega, ⟨h.but, size_put h.size, h.defers, rest_put h.rest (by omega), h.x.load (by omega) (by omega) (by omega), h.y.put 12 _ (by omega) (by omega) (by omega), h.z.put 12 _ (by omega) (by omega) (by omega), h.xy, h.xz, h.yz, h.dx, h.dy, h.dz⟩⟩
theorem step1 {W : World} {base : Act} {a1 a2 b1 b2 c1 c2 : Int} {rx ry rz : Bool} {px qx py qy pz qz : Int} {Q : Exit → Act → World → Prop} (n : Nat) {l2 l3 l4 l5 l6 l7 l8 l9 l10 l11 : Bool} {bx bY bz : Nat} {a : Act} {w : World} (hn : n + 1 = cb true + cb false + cb l2 + cb l3 + cb l4 + cb l5 + cb l6 + cb l7 + cb l8 + cb l9 + cb l10 + cb l11) (h : J3 W base (.agg #[.int .i64 a1, .int .i64 a2]) (.agg #[.int .i64 b1, .int .i64 b2]) (.agg #[.int .i64 c1, .int .i64 c2]) rx ry rz px qx py qy pz qz true false l2 l3 l4 l5 l6 l7 l8 l9 l10 l11 bx bY bz a w) (hs : 17 < base.tmps.size) (hc : ∀ w, Calls Tryz.prog 9 #[.agg #[.int .i64 a1, .int .i64 a2]] w fun e w' => e = .returned (.agg #[.bool rx, .int .u64 px, .int .u64 qx, .pointer none]) ∧ But [] w w') : wpOp Tryz.prog ops3 Q 1 (JJ W base a1 a2 b1 b2 c1 c2 rx ry rz px qx py qy pz qz n (#[true, false, l2, l3, l4, l5, l6, l7, l8, l9, l10, l11].setIfInBounds 1 true)) a w := by
  have hsz : 17 < a.tmps.size := by rw [h.size]; exact hs
  refine wpOp_enter (R := fun w' v => v = .agg #[.bool rx, .int .u64 px, .int .u64 qx, .pointer none] ∧ But [] w w') rfl rfl (run_callF a w _ _ _ _ _ _ (h.x.e1 rfl)) ((hc w).mono fun e w' hh => ⟨_, hh.1, rfl, hh.2⟩) ?_
  rintro v w' ⟨rfl, hb⟩
  exact ⟨true, true, l2, l3, l4, l5, l6, l7, l8, l9, l10, l11, bx, bY, bz, rfl, by simp [cb] at hn ⊢; omega, ⟨h.but.trans' hb, size_put h.size, h.defers, rest_put h.rest (by omega), (h.x.world hb (fun _ => by simp)).call (by omega) (by omega) (by omega), (h.y.world hb (fun _ => by simp)).put 13 _ (by omega) (by omega) (by omega), (h.z.world hb (fun _ => by simp)).put 13 _ (by omega) (by omega) (by omega), h.xy, h.xz, h.yz, h.dx, h.dy, h.dz⟩⟩
theorem step6 {W : World} {base : Act} {a1 a2 b1 b2 c1 c2 : Int} {rx ry rz : Bool} {px qx py qy pz qz : Int} {Q : Exit → Act → World → Prop} (n : Nat) {l0 l1 l2 l3 l4 l5 l7 l8 l9 l10 l11 : Bool} {bx bY bz : Nat} {a : Act} {w : World} (hn : n + 1 = cb l0 + cb l1 + cb l2 + cb l3 + cb l4 + cb l5 + cb false + cb l7 + cb l8 + cb l9 + cb l10 + cb l11) (h : J3 W base (.agg #[.int .i64 a1, .int .i64 a2]) (.agg #[.int .i64 b1, .int .i64 b2]) (.agg #[.int .i64 c1, .int .i64 c2]) rx ry rz px qx py qy pz qz l0 l1 l2 l3 l4 l5 false l7 l8 l9 l10 l11 bx bY bz a w) (hs : 17 < base.tmps.size) : wpOp Tryz.prog ops3 Q 6 (JJ W base a1 a2 b1 b2 c1 c2 rx ry rz px qx py qy pz qz n (#[l0, l1, l2, l3, l4, l5, false, l7, l8, l9, l10, l11].setIfInBounds 6 true)) a w := by
  have hsz : 17 < a.tmps.size := by rw [h.size]; exact hs
  have hf : l9 = false := by cases hx : l9 with | false => rfl | true => exact absurd (h.dx hx) (by simp)
  subst hf
  refine wpOp_value rfl rfl (run_allocF a w _ _ _ _) ?_
  exact ⟨l0, l1, l2, l3, l4, l5, true, l7, l8, false, l10, l11, w.heap.size, bY, bz, rfl, by simp [cb] at hn ⊢; omega, ⟨h.but.alloc _, size_put h.size, h.defers, rest_put h.rest (by omega), h.x.place h.but (by omega) (by omega) (by omega), (h.y.world ((But.refl [] w).alloc _) (fun _ => by simp)).put 7 _ (by omega) (by omega) (by omega), (h.z.world ((But.refl [] w).alloc _) (fun _ => by simp)).put 7 _ (by omega) (by omega) (by omega), fun _ e => Ne.symm (Nat.ne_of_lt (h.y.e4 e).2.1), fun _ e => Ne.symm (Nat.ne_of_lt (h.z.e4 e).2.1), h.yz, fun e => by simp at e, h.dy, h.dz⟩⟩
theorem step9 {W : World} {base : Act} {a1 a2 b1 b2 c1 c2 : Int} {rx ry rz : Bool} {px qx py qy pz qz : Int} {Q : Exit → Act → World → Prop} (n : Nat) {l0 l2 l3 l4 l5 l7 l8 l10 l11 : Bool} {bx bY bz : Nat} {a : Act} {w : World} (hn : n + 1 = cb l0 + cb true + cb l2 + cb l3 + cb l4 + cb l5 + cb true + cb l7 + cb l8 + cb false + cb l10 + cb l11) (h : J3 W base (.agg #[.int .i64 a1, .int .i64 a2]) (.agg #[.int .i64 b1, .int .i64 b2]) (.agg #[.int .i64 c1, .int .i64 c2]) rx ry rz px qx py qy pz qz l0 true l2 l3 l4 l5 true l7 l8 false l10 l11 bx bY bz a w) (hs : 17 < base.tmps.size) : wpOp Tryz.prog ops3 Q 9 (JJ W base a1 a2 b1 b2 c1 c2 rx ry rz px qx py qy pz qz n (#[l0, true, l2, l3, l4, l5, true, l7, l8, false, l10, l11].setIfInBounds 9 true)) a w := by
  have hsz : 17 < a.tmps.size := by rw [h.size]; exact hs
  obtain ⟨k0, k1, k2, k3⟩ := h.x.e6 rfl rfl
  obtain ⟨s1, s2, s3⟩ := h.x.e4 rfl
  refine wpOp_skip rfl rfl (run_storeF a w _ _ _ _ _ bx _ _ _ (h.x.e3 rfl) (h.x.e2 rfl) k0 k1 k2 k3 s3) ?_
  have hbg : But [bx] w ((((w.setCell ⟨bx, 0, none⟩ (.bool rx)).setCell ⟨bx, 1, none⟩ (.int .u64 px)).setCell ⟨bx, 2, none⟩ (.int .u64 qx)).setCell ⟨bx, 3, none⟩ (.pointer none)) := (((((But.refl [bx] w).setCell (.inl (by simp)) _).setCell (.inl (by simp)) _).setCell (.inl (by simp)) _).setCell (.inl (by simp)) _)
  have hbw : But [] W ((((w.setCell ⟨bx, 0, none⟩ (.bool rx)).setCell ⟨bx, 1, none⟩ (.int .u64 px)).setCell ⟨bx, 2, none⟩ (.int .u64 qx)).setCell ⟨bx, 3, none⟩ (.pointer none)) := ((((h.but.setCell (.inr s1) _).setCell (.inr s1) _).setCell (.inr s1) _).setCell (.inr s1) _)
  exact ⟨l0, true, l2, l3, l4, l5, true, l7, l8, true, l10, l11, bx, bY, bz, rfl, by simp [cb] at hn ⊢; omega, ⟨hbw, h.size, h.defers, h.rest, h.x.store, h.y.world hbg (fun e => by simpa using Ne.symm (h.xy rfl e)), h.z.world hbg (fun e => by simpa using Ne.symm (h.xz rfl e)), h.xy, h.xz, h.yz, fun _ => rfl, h.dy, h.dz⟩⟩
theorem step2 {W : World} {base : Act} {a1 a2 b1 b2 c1 c2 : Int} {rx ry rz : Bool} {px qx py qy pz qz : Int} {Q : Exit → Act → World → Prop} (n : Nat) {l0 l1 l3 l4 l5 l6 l7 l8 l9 l10 l11 : Bool} {bx bY bz : Nat} {gb : Nat} {a : Act} {w : World} (hn : n + 1 = cb l0 + cb l1 + cb false + cb l3 + cb l4 + cb l5 + cb l6 + cb l7 + cb l8 + cb l9 + cb l10 + cb l11) (h : J3 W base (.agg #[.int .i64 a1, .int .i64 a2]) (.agg #[.int .i64 b1, .int .i64 b2]) (.agg #[.int .i64 c1, .int .i64 c2]) rx ry rz px qx py qy pz qz l0 l1 false l3 l4 l5 l6 l7 l8 l9 l10 l11 bx bY bz a w) (hs : 17 < base.tmps.size) (hp : base.eval (.tmp 4) = .pointer (some ⟨gb, 0, none⟩)) (c0 : W.cell? ⟨gb, 0, none⟩ = some (.int .i64 b1)) (c1' : W.cell? ⟨gb, 1, none⟩ = some (.int .i64 b2)) : wpOp Tryz.prog ops3 Q 2 (JJ W base a1 a2 b1 b2 c1 c2 rx ry rz px qx py qy pz qz n (#[l0, l1, false, l3, l4, l5, l6, l7, l8, l9, l10, l11].setIfInBounds 2 true)) a w := by
  have hsz : 17 < a.tmps.size := by rw [h.size]; exact hs
  refine wpOp_value rfl rfl (run_loadQ a w _ _ 0 _ _ _ gb _ _ ((ev_rest h 4 (by omega)).trans hp) (h.but.cell_some c0 (by simp)) (h.but.cell_some c1' (by simp))) ?_
  exact ⟨l0, l1, true, l3, l4, l5, l6, l7, l8, l9, l10, l11, bx, bY, bz, rfl, by simp [cb] at hn ⊢; omega, ⟨h.but, size_put h.size, h.defers, rest_put h.rest (by omega), h.x.put 14 _ (by omega) (by omega) (by omega), h.y.load (by omega) (by omega) (by omega), h.z.put 14 _ (by omega) (by omega) (by omega), h.xy, h.xz, h.yz, h.dx, h.dy, h.dz⟩⟩
theorem step3 {W : World} {base : Act} {a1 a2 b1 b2 c1 c2 : Int} {rx ry rz : Bool} {px qx py qy pz qz : Int} {Q : Exit → Act → World → Prop} (n : Nat) {l0 l1 l4 l5 l6 l7 l8 l9 l10 l11 : Bool} {bx bY bz : Nat} {a : Act} {w : World} (hn : n + 1 = cb l0 + cb l1 + cb true + cb false + cb l4 + cb l5 + cb l6 + cb l7 + cb l8 + cb l9 + cb l10 + cb l11) (h : J3 W base (.agg #[.int .i64 a1, .int .i64 a2]) (.agg #[.int .i64 b1, .int .i64 b2]) (.agg #[.int .i64 c1, .int .i64 c2]) rx ry rz px qx py qy pz qz l0 l1 true false l4 l5 l6 l7 l8 l9 l10 l11 bx bY bz a w) (hs : 17 < base.tmps.size) (hc : ∀ w, Calls Tryz.prog 9 #[.agg #[.int .i64 b1, .int .i64 b2]] w fun e w' => e = .returned (.agg #[.bool ry, .int .u64 py, .int .u64 qy, .pointer none]) ∧ But [] w w') : wpOp Tryz.prog ops3 Q 3 (JJ W base a1 a2 b1 b2 c1 c2 rx ry rz px qx py qy pz qz n (#[l0, l1, true, false, l4, l5, l6, l7, l8, l9, l10, l11].setIfInBounds 3 true)) a w := by
  have hsz : 17 < a.tmps.size := by rw [h.size]; exact hs
  refine wpOp_enter (R := fun w' v => v = .agg #[.bool ry, .int .u64 py, .int .u64 qy, .pointer none] ∧ But [] w w') rfl rfl (run_callF a w _ _ _ _ _ _ (h.y.e1 rfl)) ((hc w).mono fun e w' hh => ⟨_, hh.1, rfl, hh.2⟩) ?_
  rintro v w' ⟨rfl, hb⟩
  exact ⟨l0, l1, true, true, l4, l5, l6, l7, l8, l9, l10, l11, bx, bY, bz, rfl, by simp [cb] at hn ⊢; omega, ⟨h.but.trans' hb, size_put h.size, h.defers, rest_put h.rest (by omega), (h.x.world hb (fun _ => by simp)).put 15 _ (by omega) (by omega) (by omega), (h.y.world hb (fun _ => by simp)).call (by omega) (by omega) (by omega), (h.z.world hb (fun _ => by simp)).put 15 _ (by omega) (by omega) (by omega), h.xy, h.xz, h.yz, h.dx, h.dy, h.dz⟩⟩
theorem step7 {W : World} {base : Act} {a1 a2 b1 b2 c1 c2 : Int} {rx ry rz : Bool} {px qx py qy pz qz : Int} {Q : Exit → Act → World → Prop} (n : Nat) {l0 l1 l2 l3 l4 l5 l6 l8 l9 l10 l11 : Bool} {bx bY bz : Nat} {a : Act} {w : World} (hn : n + 1 = cb l0 + cb l1 + cb l2 + cb l3 + cb l4 + cb l5 + cb l6 + cb false + cb l8 + cb l9 + cb l10 + cb l11) (h : J3 W base (.agg #[.int .i64 a1, .int .i64 a2]) (.agg #[.int .i64 b1, .int .i64 b2]) (.agg #[.int .i64 c1, .int .i64 c2]) rx ry rz px qx py qy pz qz l0 l1 l2 l3 l4 l5 l6 false l8 l9 l10 l11 bx bY bz a w) (hs : 17 < base.tmps.size) : wpOp Tryz.prog ops3 Q 7 (JJ W base a1 a2 b1 b2 c1 c2 rx ry rz px qx py qy pz qz n (#[l0, l1, l2, l3, l4, l5, l6, false, l8, l9, l10, l11].setIfInBounds 7 true)) a w := by
  have hsz : 17 < a.tmps.size := by rw [h.size]; exact hs
  have hf : l10 = false := by cases hx : l10 with | false => rfl | true => exact absurd (h.dy hx) (by simp)
  subst hf
  refine wpOp_value rfl rfl (run_allocF a w _ _ _ _) ?_
  exact ⟨l0, l1, l2, l3, l4, l5, l6, true, l8, l9, false, l11, bx, w.heap.size, bz, rfl, by simp [cb] at hn ⊢; omega, ⟨h.but.alloc _, size_put h.size, h.defers, rest_put h.rest (by omega), (h.x.world ((But.refl [] w).alloc _) (fun _ => by simp)).put 8 _ (by omega) (by omega) (by omega), h.y.place h.but (by omega) (by omega) (by omega), (h.z.world ((But.refl [] w).alloc _) (fun _ => by simp)).put 8 _ (by omega) (by omega) (by omega), fun e _ => Nat.ne_of_lt (h.x.e4 e).2.1, h.xz, fun _ e => Ne.symm (Nat.ne_of_lt (h.z.e4 e).2.1), h.dx, fun e => by simp at e, h.dz⟩⟩
theorem step10 {W : World} {base : Act} {a1 a2 b1 b2 c1 c2 : Int} {rx ry rz : Bool} {px qx py qy pz qz : Int} {Q : Exit → Act → World → Prop} (n : Nat) {l0 l1 l2 l4 l5 l6 l8 l9 l11 : Bool} {bx bY bz : Nat} {a : Act} {w : World} (hn : n + 1 = cb l0 + cb l1 + cb l2 + cb true + cb l4 + cb l5 + cb l6 + cb true + cb l8 + cb l9 + cb false + cb l11) (h : J3 W base (.agg #[.int .i64 a1, .int .i64 a2]) (.agg #[.int .i64 b1, .int .i64 b2]) (.agg #[.int .i64 c1, .int .i64 c2]) rx ry rz px qx py qy pz qz l0 l1 l2 true l4 l5 l6 true l8 l9 false l11 bx bY bz a w) (hs : 17 < base.tmps.size) : wpOp Tryz.prog ops3 Q 10 (JJ W base a1 a2 b1 b2 c1 c2 rx ry rz px qx py qy pz qz n (#[l0, l1, l2, true, l4, l5, l6, true, l8, l9, false, l11].setIfInBounds 10 true)) a w := by
  have hsz : 17 < a.tmps.size := by rw [h.size]; exact hs
  obtain ⟨k0, k1, k2, k3⟩ := h.y.e6 rfl rfl
  obtain ⟨s1, s2, s3⟩ := h.y.e4 rfl
  refine wpOp_skip rfl rfl (run_storeF a w _ _ _ _ _ bY _ _ _ (h.y.e3 rfl) (h.y.e2 rfl) k0 k1 k2 k3 s3) ?_
  have hbg : But [bY] w ((((w.setCell ⟨bY, 0, none⟩ (.bool ry)).setCell ⟨bY, 1, none⟩ (.int .u64 py)).setCell ⟨bY, 2, none⟩ (.int .u64 qy)).setCell ⟨bY, 3, none⟩ (.pointer none)) := (((((But.refl [bY] w).setCell (.inl (by simp)) _).setCell (.inl (by simp)) _).setCell (.inl (by simp)) _).setCell (.inl (by simp)) _)
  have hbw : But [] W ((((w.setCell ⟨bY, 0, none⟩ (.bool ry)).setCell ⟨bY, 1, none⟩ (.int .u64 py)).setCell ⟨bY, 2, none⟩ (.int .u64 qy)).setCell ⟨bY, 3, none⟩ (.pointer none)) := ((((h.but.setCell (.inr s1) _).setCell (.inr s1) _).setCell (.inr s1) _).setCell (.inr s1) _)
  exact ⟨l0, l1, l2, true, l4, l5, l6, true, l8, l9, true, l11, bx, bY, bz, rfl, by simp [cb] at hn ⊢; omega, ⟨hbw, h.size, h.defers, h.rest, h.x.world hbg (fun e => by simpa using h.xy e rfl), h.y.store, h.z.world hbg (fun e => by simpa using Ne.symm (h.yz rfl e)), h.xy, h.xz, h.yz, h.dx, fun _ => rfl, h.dz⟩⟩
theorem step4 {W : World} {base : Act} {a1 a2 b1 b2 c1 c2 : Int} {rx ry rz : Bool} {px qx py qy pz qz : Int} {Q : Exit → Act → World → Prop} (n : Nat) {l0 l1 l2 l3 l5 l6 l7 l8 l9 l10 l11 : Bool} {bx bY bz : Nat} {gc : Nat} {a : Act} {w : World} (hn : n + 1 = cb l0 + cb l1 + cb l2 + cb l3 + cb false + cb l5 + cb l6 + cb l7 + cb l8 + cb l9 + cb l10 + cb l11) (h : J3 W base (.agg #[.int .i64 a1, .int .i64 a2]) (.agg #[.int .i64 b1, .int .i64 b2]) (.agg #[.int .i64 c1, .int .i64 c2]) rx ry rz px qx py qy pz qz l0 l1 l2 l3 false l5 l6 l7 l8 l9 l10 l11 bx bY bz a w) (hs : 17 < base.tmps.size) (hp : base.eval (.tmp 5) = .pointer (some ⟨gc, 0, none⟩)) (c0 : W.cell? ⟨gc, 0, none⟩ = some (.int .i64 c1)) (c1' : W.cell? ⟨gc, 1, none⟩ = some (.int .i64 c2)) : wpOp Tryz.prog ops3 Q 4 (JJ W base a1 a2 b1 b2 c1 c2 rx ry rz px qx py qy pz qz n (#[l0, l1, l2, l3, false, l5, l6, l7, l8, l9, l10, l11].setIfInBounds 4 true)) a w := by
  have hsz : 17 < a.tmps.size := by rw [h.size]; exact hs
  refine wpOp_value rfl rfl (run_loadQ a w _ _ 0 _ _ _ gc _ _ ((ev_rest h 5 (by omega)).trans hp) (h.but.cell_some c0 (by simp)) (h.but.cell_some c1' (by simp))) ?_
  exact ⟨l0, l1, l2, l3, true, l5, l6, l7, l8, l9, l10, l11, bx, bY, bz, rfl, by simp [cb] at hn ⊢; omega, ⟨h.but, size_put h.size, h.defers, rest_put h.rest (by omega), h.x.put 16 _ (by omega) (by omega) (by omega), h.y.put 16 _ (by omega) (by omega) (by omega), h.z.load (by omega) (by omega) (by omega), h.xy, h.xz, h.yz, h.dx, h.dy, h.dz⟩⟩
theorem step5 {W : World} {base : Act} {a1 a2 b1 b2 c1 c2 : Int} {rx ry rz : Bool} {px qx py qy pz qz : Int} {Q : Exit → Act → World → Prop} (n : Nat) {l0 l1 l2 l3 l6 l7 l8 l9 l10 l11 : Bool} {bx bY bz : Nat} {a : Act} {w : World} (hn : n + 1 = cb l0 + cb l1 + cb l2 + cb l3 + cb true + cb false + cb l6 + cb l7 + cb l8 + cb l9 + cb l10 + cb l11) (h : J3 W base (.agg #[.int .i64 a1, .int .i64 a2]) (.agg #[.int .i64 b1, .int .i64 b2]) (.agg #[.int .i64 c1, .int .i64 c2]) rx ry rz px qx py qy pz qz l0 l1 l2 l3 true false l6 l7 l8 l9 l10 l11 bx bY bz a w) (hs : 17 < base.tmps.size) (hc : ∀ w, Calls Tryz.prog 9 #[.agg #[.int .i64 c1, .int .i64 c2]] w fun e w' => e = .returned (.agg #[.bool rz, .int .u64 pz, .int .u64 qz, .pointer none]) ∧ But [] w w') : wpOp Tryz.prog ops3 Q 5 (JJ W base a1 a2 b1 b2 c1 c2 rx ry rz px qx py qy pz qz n (#[l0, l1, l2, l3, true, false, l6, l7, l8, l9, l10, l11].setIfInBounds 5 true)) a w := by
  have hsz : 17 < a.tmps.size := by rw [h.size]; exact hs
  refine wpOp_enter (R := fun w' v => v = .agg #[.bool rz, .int .u64 pz, .int .u64 qz, .pointer none] ∧ But [] w w') rfl rfl (run_callF a w _ _ _ _ _ _ (h.z.e1 rfl)) ((hc w).mono fun e w' hh => ⟨_, hh.1, rfl, hh.2⟩) ?_
  rintro v w' ⟨rfl, hb⟩
  exact ⟨l0, l1, l2, l3, true, true, l6, l7, l8, l9, l10, l11, bx, bY, bz, rfl, by simp [cb] at hn ⊢; omega, ⟨h.but.trans' hb, size_put h.size, h.defers, rest_put h.rest (by omega), (h.x.world hb (fun _ => by simp)).put 17 _ (by omega) (by omega) (by omega), (h.y.world hb (fun _ => by simp)).put 17 _ (by omega) (by omega) (by omega), (h.z.world hb (fun _ => by simp)).call (by omega) (by omega) (by omega), h.xy, h.xz, h.yz, h.dx, h.dy, h.dz⟩⟩
theorem step8 {W : World} {base : Act} {a1 a2 b1 b2 c1 c2 : Int} {rx ry rz : Bool} {px qx py qy pz qz : Int} {Q : Exit → Act → World → Prop} (n : Nat) {l0 l1 l2 l3 l4 l5 l6 l7 l9 l10 l11 : Bool} {bx bY bz : Nat} {a : Act} {w : World} (hn : n + 1 = cb l0 + cb l1 + cb l2 + cb l3 + cb l4 + cb l5 + cb l6 + cb l7 + cb false + cb l9 + cb l10 + cb l11) (h : J3 W base (.agg #[.int .i64 a1, .int .i64 a2]) (.agg #[.int .i64 b1, .int .i64 b2]) (.agg #[.int .i64 c1, .int .i64 c2]) rx ry rz px qx py qy pz qz l0 l1 l2 l3 l4 l5 l6 l7 false l9 l10 l11 bx bY bz a w) (hs : 17 < base.tmps.size) : wpOp Tryz.prog ops3 Q 8 (JJ W base a1 a2 b1 b2 c1 c2 rx ry rz px qx py qy pz qz n (#[l0, l1, l2, l3, l4, l5, l6, l7, false, l9, l10, l11].setIfInBounds 8 true)) a w := by
  have hsz : 17 < a.tmps.size := by rw [h.size]; exact hs
  have hf : l11 = false := by cases hx : l11 with | false => rfl | true => exact absurd (h.dz hx) (by simp)
  subst hf
  refine wpOp_value rfl rfl (run_allocF a w _ _ _ _) ?_
  exact ⟨l0, l1, l2, l3, l4, l5, l6, l7, true, l9, l10, false, bx, bY, w.heap.size, rfl, by simp [cb] at hn ⊢; omega, ⟨h.but.alloc _, size_put h.size, h.defers, rest_put h.rest (by omega), (h.x.world ((But.refl [] w).alloc _) (fun _ => by simp)).put 9 _ (by omega) (by omega) (by omega), (h.y.world ((But.refl [] w).alloc _) (fun _ => by simp)).put 9 _ (by omega) (by omega) (by omega), h.z.place h.but (by omega) (by omega) (by omega), h.xy, fun e _ => Nat.ne_of_lt (h.x.e4 e).2.1, fun e _ => Nat.ne_of_lt (h.y.e4 e).2.1, h.dx, h.dy, fun e => by simp at e⟩⟩
theorem step11 {W : World} {base : Act} {a1 a2 b1 b2 c1 c2 : Int} {rx ry rz : Bool} {px qx py qy pz qz : Int} {Q : Exit → Act → World → Prop} (n : Nat) {l0 l1 l2 l3 l4 l6 l7 l9 l10 : Bool} {bx bY bz : Nat} {a : Act} {w : World} (hn : n + 1 = cb l0 + cb l1 + cb l2 + cb l3 + cb l4 + cb true + cb l6 + cb l7 + cb true + cb l9 + cb l10 + cb false) (h : J3 W base (.agg #[.int .i64 a1, .int .i64 a2]) (.agg #[.int .i64 b1, .int .i64 b2]) (.agg #[.int .i64 c1, .int .i64 c2]) rx ry rz px qx py qy pz qz l0 l1 l2 l3 l4 true l6 l7 true l9 l10 false bx bY bz a w) (hs : 17 < base.tmps.size) : wpOp Tryz.prog ops3 Q 11 (JJ W base a1 a2 b1 b2 c1 c2 rx ry rz px qx py qy pz qz n (#[l0, l1, l2, l3, l4, true, l6, l7, true, l9, l10, false].setIfInBounds 11 true)) a w := by
  have hsz : 17 < a.tmps.size := by rw [h.size]; exact hs
  obtain ⟨k0, k1, k2, k3⟩ := h.z.e6 rfl rfl
  obtain ⟨s1, s2, s3⟩ := h.z.e4 rfl
  refine wpOp_skip rfl rfl (run_storeF a w _ _ _ _ _ bz _ _ _ (h.z.e3 rfl) (h.z.e2 rfl) k0 k1 k2 k3 s3) ?_
  have hbg : But [bz] w ((((w.setCell ⟨bz, 0, none⟩ (.bool rz)).setCell ⟨bz, 1, none⟩ (.int .u64 pz)).setCell ⟨bz, 2, none⟩ (.int .u64 qz)).setCell ⟨bz, 3, none⟩ (.pointer none)) := (((((But.refl [bz] w).setCell (.inl (by simp)) _).setCell (.inl (by simp)) _).setCell (.inl (by simp)) _).setCell (.inl (by simp)) _)
  have hbw : But [] W ((((w.setCell ⟨bz, 0, none⟩ (.bool rz)).setCell ⟨bz, 1, none⟩ (.int .u64 pz)).setCell ⟨bz, 2, none⟩ (.int .u64 qz)).setCell ⟨bz, 3, none⟩ (.pointer none)) := ((((h.but.setCell (.inr s1) _).setCell (.inr s1) _).setCell (.inr s1) _).setCell (.inr s1) _)
  exact ⟨l0, l1, l2, l3, l4, true, l6, l7, true, l9, l10, true, bx, bY, bz, rfl, by simp [cb] at hn ⊢; omega, ⟨hbw, h.size, h.defers, h.rest, h.x.world hbg (fun e => by simpa using h.xz e rfl), h.y.world hbg (fun e => by simpa using h.yz e rfl), h.z.store, h.xy, h.xz, h.yz, h.dx, h.dy, fun _ => rfl⟩⟩
end Go.Proofs.YtihiafgogbhjkaaGreatDoor

namespace Go.Proofs.YtihiafgogbhjkaaGreatDoor
open Go.RowKit

theorem rdy0 (l0 l1 l2 l3 l4 l5 l6 l7 l8 l9 l10 l11 : Bool) : 0 ∈ Region.ready .any ops3 #[l0, l1, l2, l3, l4, l5, l6, l7, l8, l9, l10, l11] ↔ l0 = false := by
  rw [mem_ready]
  constructor
  · rintro ⟨h, o, ho, hd⟩
    have ho' : o = ops3[0] := (Option.some.inj ho).symm
    subst ho'
    exact h
  · rintro h
    refine ⟨h, _, rfl, fun e he hb => ?_⟩
    simp [ops3] at he
theorem rdy1 (l0 l1 l2 l3 l4 l5 l6 l7 l8 l9 l10 l11 : Bool) : 1 ∈ Region.ready .any ops3 #[l0, l1, l2, l3, l4, l5, l6, l7, l8, l9, l10, l11] ↔ l1 = false ∧ l0 = true := by
  rw [mem_ready]
  constructor
  · rintro ⟨h, o, ho, hd⟩
    have ho' : o = ops3[1] := (Option.some.inj ho).symm
    subst ho'
    refine ⟨h, ?_⟩
    · exact hd ⟨0, .data⟩ (by simp [ops3]) rfl
  · rintro ⟨h, d0⟩
    refine ⟨h, _, rfl, fun e he hb => ?_⟩
    simp [ops3] at he
    (repeat' rcases he with rfl | he) <;> first | assumption | (simp [Region.binds] at hb) | (subst he; first | assumption | (simp [Region.binds] at hb))
theorem rdy2 (l0 l1 l2 l3 l4 l5 l6 l7 l8 l9 l10 l11 : Bool) : 2 ∈ Region.ready .any ops3 #[l0, l1, l2, l3, l4, l5, l6, l7, l8, l9, l10, l11] ↔ l2 = false := by
  rw [mem_ready]
  constructor
  · rintro ⟨h, o, ho, hd⟩
    have ho' : o = ops3[2] := (Option.some.inj ho).symm
    subst ho'
    exact h
  · rintro h
    refine ⟨h, _, rfl, fun e he hb => ?_⟩
    simp [ops3] at he
theorem rdy3 (l0 l1 l2 l3 l4 l5 l6 l7 l8 l9 l10 l11 : Bool) : 3 ∈ Region.ready .any ops3 #[l0, l1, l2, l3, l4, l5, l6, l7, l8, l9, l10, l11] ↔ l3 = false ∧ l2 = true ∧ l1 = true := by
  rw [mem_ready]
  constructor
  · rintro ⟨h, o, ho, hd⟩
    have ho' : o = ops3[3] := (Option.some.inj ho).symm
    subst ho'
    refine ⟨h, ?_, ?_⟩
    · exact hd ⟨2, .data⟩ (by simp [ops3]) rfl
    · exact hd ⟨1, .chain⟩ (by simp [ops3]) rfl
  · rintro ⟨h, d2, d1⟩
    refine ⟨h, _, rfl, fun e he hb => ?_⟩
    simp [ops3] at he
    (repeat' rcases he with rfl | he) <;> first | assumption | (simp [Region.binds] at hb) | (subst he; first | assumption | (simp [Region.binds] at hb))
theorem rdy4 (l0 l1 l2 l3 l4 l5 l6 l7 l8 l9 l10 l11 : Bool) : 4 ∈ Region.ready .any ops3 #[l0, l1, l2, l3, l4, l5, l6, l7, l8, l9, l10, l11] ↔ l4 = false := by
  rw [mem_ready]
  constructor
  · rintro ⟨h, o, ho, hd⟩
    have ho' : o = ops3[4] := (Option.some.inj ho).symm
    subst ho'
    exact h
  · rintro h
    refine ⟨h, _, rfl, fun e he hb => ?_⟩
    simp [ops3] at he
theorem rdy5 (l0 l1 l2 l3 l4 l5 l6 l7 l8 l9 l10 l11 : Bool) : 5 ∈ Region.ready .any ops3 #[l0, l1, l2, l3, l4, l5, l6, l7, l8, l9, l10, l11] ↔ l5 = false ∧ l4 = true ∧ l3 = true := by
  rw [mem_ready]
  constructor
  · rintro ⟨h, o, ho, hd⟩
    have ho' : o = ops3[5] := (Option.some.inj ho).symm
    subst ho'
    refine ⟨h, ?_, ?_⟩
    · exact hd ⟨4, .data⟩ (by simp [ops3]) rfl
    · exact hd ⟨3, .chain⟩ (by simp [ops3]) rfl
  · rintro ⟨h, d4, d3⟩
    refine ⟨h, _, rfl, fun e he hb => ?_⟩
    simp [ops3] at he
    (repeat' rcases he with rfl | he) <;> first | assumption | (simp [Region.binds] at hb) | (subst he; first | assumption | (simp [Region.binds] at hb))
theorem rdy6 (l0 l1 l2 l3 l4 l5 l6 l7 l8 l9 l10 l11 : Bool) : 6 ∈ Region.ready .any ops3 #[l0, l1, l2, l3, l4, l5, l6, l7, l8, l9, l10, l11] ↔ l6 = false := by
  rw [mem_ready]
  constructor
  · rintro ⟨h, o, ho, hd⟩
    have ho' : o = ops3[6] := (Option.some.inj ho).symm
    subst ho'
    exact h
  · rintro h
    refine ⟨h, _, rfl, fun e he hb => ?_⟩
    simp [ops3] at he
theorem rdy7 (l0 l1 l2 l3 l4 l5 l6 l7 l8 l9 l10 l11 : Bool) : 7 ∈ Region.ready .any ops3 #[l0, l1, l2, l3, l4, l5, l6, l7, l8, l9, l10, l11] ↔ l7 = false := by
  rw [mem_ready]
  constructor
  · rintro ⟨h, o, ho, hd⟩
    have ho' : o = ops3[7] := (Option.some.inj ho).symm
    subst ho'
    exact h
  · rintro h
    refine ⟨h, _, rfl, fun e he hb => ?_⟩
    simp [ops3] at he
theorem rdy8 (l0 l1 l2 l3 l4 l5 l6 l7 l8 l9 l10 l11 : Bool) : 8 ∈ Region.ready .any ops3 #[l0, l1, l2, l3, l4, l5, l6, l7, l8, l9, l10, l11] ↔ l8 = false := by
  rw [mem_ready]
  constructor
  · rintro ⟨h, o, ho, hd⟩
    have ho' : o = ops3[8] := (Option.some.inj ho).symm
    subst ho'
    exact h
  · rintro h
    refine ⟨h, _, rfl, fun e he hb => ?_⟩
    simp [ops3] at he
theorem rdy9 (l0 l1 l2 l3 l4 l5 l6 l7 l8 l9 l10 l11 : Bool) : 9 ∈ Region.ready .any ops3 #[l0, l1, l2, l3, l4, l5, l6, l7, l8, l9, l10, l11] ↔ l9 = false ∧ l6 = true ∧ l1 = true ∧ l5 = true ∧ l0 = true ∧ l7 = true ∧ l8 = true := by
  rw [mem_ready]
  constructor
  · rintro ⟨h, o, ho, hd⟩
    have ho' : o = ops3[9] := (Option.some.inj ho).symm
    subst ho'
    refine ⟨h, ?_, ?_, ?_, ?_, ?_, ?_⟩
    · exact hd ⟨6, .data⟩ (by simp [ops3]) rfl
    · exact hd ⟨1, .data⟩ (by simp [ops3]) rfl
    · exact hd ⟨5, .chain⟩ (by simp [ops3]) rfl
    · exact hd ⟨0, .phase⟩ (by simp [ops3]) rfl
    · exact hd ⟨7, .phase⟩ (by simp [ops3]) rfl
    · exact hd ⟨8, .phase⟩ (by simp [ops3]) rfl
  · rintro ⟨h, d6, d1, d5, d0, d7, d8⟩
    refine ⟨h, _, rfl, fun e he hb => ?_⟩
    simp [ops3] at he
    (repeat' rcases he with rfl | he) <;> first | assumption | (simp [Region.binds] at hb) | (subst he; first | assumption | (simp [Region.binds] at hb))
theorem rdy10 (l0 l1 l2 l3 l4 l5 l6 l7 l8 l9 l10 l11 : Bool) : 10 ∈ Region.ready .any ops3 #[l0, l1, l2, l3, l4, l5, l6, l7, l8, l9, l10, l11] ↔ l10 = false ∧ l7 = true ∧ l3 = true ∧ l9 = true ∧ l0 = true ∧ l1 = true ∧ l2 = true ∧ l6 = true ∧ l8 = true := by
  rw [mem_ready]
  constructor
  · rintro ⟨h, o, ho, hd⟩
    have ho' : o = ops3[10] := (Option.some.inj ho).symm
    subst ho'
    refine ⟨h, ?_, ?_, ?_, ?_, ?_, ?_, ?_, ?_⟩
    · exact hd ⟨7, .data⟩ (by simp [ops3]) rfl
    · exact hd ⟨3, .data⟩ (by simp [ops3]) rfl
    · exact hd ⟨9, .chain⟩ (by simp [ops3]) rfl
    · exact hd ⟨0, .phase⟩ (by simp [ops3]) rfl
    · exact hd ⟨1, .phase⟩ (by simp [ops3]) rfl
    · exact hd ⟨2, .phase⟩ (by simp [ops3]) rfl
    · exact hd ⟨6, .phase⟩ (by simp [ops3]) rfl
    · exact hd ⟨8, .phase⟩ (by simp [ops3]) rfl
  · rintro ⟨h, d7, d3, d9, d0, d1, d2, d6, d8⟩
    refine ⟨h, _, rfl, fun e he hb => ?_⟩
    simp [ops3] at he
    (repeat' rcases he with rfl | he) <;> first | assumption | (simp [Region.binds] at hb) | (subst he; first | assumption | (simp [Region.binds] at hb))
theorem rdy11 (l0 l1 l2 l3 l4 l5 l6 l7 l8 l9 l10 l11 : Bool) : 11 ∈ Region.ready .any ops3 #[l0, l1, l2, l3, l4, l5, l6, l7, l8, l9, l10, l11] ↔ l11 = false ∧ l8 = true ∧ l5 = true ∧ l10 = true ∧ l0 = true ∧ l1 = true ∧ l2 = true ∧ l3 = true ∧ l4 = true ∧ l6 = true ∧ l7 = true ∧ l9 = true := by
  rw [mem_ready]
  constructor
  · rintro ⟨h, o, ho, hd⟩
    have ho' : o = ops3[11] := (Option.some.inj ho).symm
    subst ho'
    refine ⟨h, ?_, ?_, ?_, ?_, ?_, ?_, ?_, ?_, ?_, ?_, ?_⟩
    · exact hd ⟨8, .data⟩ (by simp [ops3]) rfl
    · exact hd ⟨5, .data⟩ (by simp [ops3]) rfl
    · exact hd ⟨10, .chain⟩ (by simp [ops3]) rfl
    · exact hd ⟨0, .phase⟩ (by simp [ops3]) rfl
    · exact hd ⟨1, .phase⟩ (by simp [ops3]) rfl
    · exact hd ⟨2, .phase⟩ (by simp [ops3]) rfl
    · exact hd ⟨3, .phase⟩ (by simp [ops3]) rfl
    · exact hd ⟨4, .phase⟩ (by simp [ops3]) rfl
    · exact hd ⟨6, .phase⟩ (by simp [ops3]) rfl
    · exact hd ⟨7, .phase⟩ (by simp [ops3]) rfl
    · exact hd ⟨9, .phase⟩ (by simp [ops3]) rfl
  · rintro ⟨h, d8, d5, d10, d0, d1, d2, d3, d4, d6, d7, d9⟩
    refine ⟨h, _, rfl, fun e he hb => ?_⟩
    simp [ops3] at he
    (repeat' rcases he with rfl | he) <;> first | assumption | (simp [Region.binds] at hb) | (subst he; first | assumption | (simp [Region.binds] at hb))

theorem all_true (l0 l1 l2 l3 l4 l5 l6 l7 l8 l9 l10 l11 : Bool) (h : Region.ready .any ops3 #[l0, l1, l2, l3, l4, l5, l6, l7, l8, l9, l10, l11] = []) : l0 = true ∧ l1 = true ∧ l2 = true ∧ l3 = true ∧ l4 = true ∧ l5 = true ∧ l6 = true ∧ l7 = true ∧ l8 = true ∧ l9 = true ∧ l10 = true ∧ l11 = true := by
  have no : ∀ i, i ∉ Region.ready .any ops3 #[l0, l1, l2, l3, l4, l5, l6, l7, l8, l9, l10, l11] := fun i hi => by rw [h] at hi; simp at hi
  have t0 : l0 = true := by
    cases e : l0 with
    | true => rfl
    | false => exact absurd ((rdy0 l0 l1 l2 l3 l4 l5 l6 l7 l8 l9 l10 l11).2 e) (no 0)
  have t1 : l1 = true := by
    cases e : l1 with
    | true => rfl
    | false => exact absurd ((rdy1 l0 l1 l2 l3 l4 l5 l6 l7 l8 l9 l10 l11).2 ⟨e, t0⟩) (no 1)
  have t2 : l2 = true := by
    cases e : l2 with
    | true => rfl
    | false => exact absurd ((rdy2 l0 l1 l2 l3 l4 l5 l6 l7 l8 l9 l10 l11).2 e) (no 2)
  have t3 : l3 = true := by
    cases e : l3 with
    | true => rfl
    | false => exact absurd ((rdy3 l0 l1 l2 l3 l4 l5 l6 l7 l8 l9 l10 l11).2 ⟨e, t2, t1⟩) (no 3)
  have t4 : l4 = true := by
    cases e : l4 with
    | true => rfl
    | false => exact absurd ((rdy4 l0 l1 l2 l3 l4 l5 l6 l7 l8 l9 l10 l11).2 e) (no 4)
  have t5 : l5 = true := by
    cases e : l5 with
    | true => rfl
    | false => exact absurd ((rdy5 l0 l1 l2 l3 l4 l5 l6 l7 l8 l9 l10 l11).2 ⟨e, t4, t3⟩) (no 5)
  have t6 : l6 = true := by
    cases e : l6 with
    | true => rfl
    | false => exact absurd ((rdy6 l0 l1 l2 l3 l4 l5 l6 l7 l8 l9 l10 l11).2 e) (no 6)
  have t7 : l7 = true := by
    cases e : l7 with
    | true => rfl
    | false => exact absurd ((rdy7 l0 l1 l2 l3 l4 l5 l6 l7 l8 l9 l10 l11).2 e) (no 7)
  have t8 : l8 = true := by
    cases e : l8 with
    | true => rfl
    | false => exact absurd ((rdy8 l0 l1 l2 l3 l4 l5 l6 l7 l8 l9 l10 l11).2 e) (no 8)
  have t9 : l9 = true := by
    cases e : l9 with
    | true => rfl
    | false => exact absurd ((rdy9 l0 l1 l2 l3 l4 l5 l6 l7 l8 l9 l10 l11).2 ⟨e, t6, t1, t5, t0, t7, t8⟩) (no 9)
  have t10 : l10 = true := by
    cases e : l10 with
    | true => rfl
    | false => exact absurd ((rdy10 l0 l1 l2 l3 l4 l5 l6 l7 l8 l9 l10 l11).2 ⟨e, t7, t3, t9, t0, t1, t2, t6, t8⟩) (no 10)
  have t11 : l11 = true := by
    cases e : l11 with
    | true => rfl
    | false => exact absurd ((rdy11 l0 l1 l2 l3 l4 l5 l6 l7 l8 l9 l10 l11).2 ⟨e, t8, t5, t10, t0, t1, t2, t3, t4, t6, t7, t9⟩) (no 11)
  exact ⟨t0, t1, t2, t3, t4, t5, t6, t7, t8, t9, t10, t11⟩

theorem region3 (id : Nat) (W0 : World) (base : Act) (a1 a2 b1 b2 c1 c2 : Int) (rx ry rz : Bool) (px qx py qy pz qz : Int) (Q : Exit → Act → World → Prop) (ga gb gc : Nat) (hs : 17 < base.tmps.size)
    (h3 : base.eval (.tmp 3) = .pointer (some ⟨ga, 0, none⟩)) (h4 : base.eval (.tmp 4) = .pointer (some ⟨gb, 0, none⟩)) (h5 : base.eval (.tmp 5) = .pointer (some ⟨gc, 0, none⟩))
    (ca0 : W0.cell? ⟨ga, 0, none⟩ = some (.int .i64 a1)) (ca1 : W0.cell? ⟨ga, 1, none⟩ = some (.int .i64 a2)) (cb0 : W0.cell? ⟨gb, 0, none⟩ = some (.int .i64 b1)) (cb1 : W0.cell? ⟨gb, 1, none⟩ = some (.int .i64 b2)) (cc0 : W0.cell? ⟨gc, 0, none⟩ = some (.int .i64 c1)) (cc1 : W0.cell? ⟨gc, 1, none⟩ = some (.int .i64 c2))
    (hx : ∀ w, Calls Tryz.prog 9 #[.agg #[.int .i64 a1, .int .i64 a2]] w fun e w' => e = .returned (.agg #[.bool rx, .int .u64 px, .int .u64 qx, .pointer none]) ∧ But [] w w')
    (hy : ∀ w, Calls Tryz.prog 9 #[.agg #[.int .i64 b1, .int .i64 b2]] w fun e w' => e = .returned (.agg #[.bool ry, .int .u64 py, .int .u64 qy, .pointer none]) ∧ But [] w w')
    (hz : ∀ w, Calls Tryz.prog 9 #[.agg #[.int .i64 c1, .int .i64 c2]] w fun e w' => e = .returned (.agg #[.bool rz, .int .u64 pz, .int .u64 qz, .pointer none]) ∧ But [] w w')
    (hQ : ∀ a w bx bY bz, J3 W0.drew base (.agg #[.int .i64 a1, .int .i64 a2]) (.agg #[.int .i64 b1, .int .i64 b2]) (.agg #[.int .i64 c1, .int .i64 c2]) rx ry rz px qx py qy pz qz true true true true true true true true true true true true bx bY bz a w → Q .normal a w) : (Code.region id ops3 true).wp Tryz.prog Q base W0 := by
  obtain ⟨W, hW⟩ : ∃ W, W = W0.drew := ⟨_, rfl⟩
  have hd : But [] W0 W := by rw [hW]; exact (But.refl _ _).drew
  replace ca0 := hd.cell_some ca0 (by simp)
  replace ca1 := hd.cell_some ca1 (by simp)
  replace cb0 := hd.cell_some cb0 (by simp)
  replace cb1 := hd.cell_some cb1 (by simp)
  replace cc0 := hd.cell_some cc0 (by simp)
  replace cc1 := hd.cell_some cc1 (by simp)
  rw [← hW] at hQ
  refine wp_region_any (by kernel_rfl) ?_
  show wpAny Tryz.prog .any ops3 Q 12 (Array.replicate 12 false) base W0.drew
  rw [← hW]
  refine wpAny_inv (JJ W base a1 a2 b1 b2 c1 c2 rx ry rz px qx py qy pz qz) ?_ ?_ ?_ 12 _ _ _ ?_
  · rintro l a w ⟨l0, l1, l2, l3, l4, l5, l6, l7, l8, l9, l10, l11, bx, bY, bz, rfl, hn, -⟩
    have e : l0 = true ∧ l1 = true ∧ l2 = true ∧ l3 = true ∧ l4 = true ∧ l5 = true ∧ l6 = true ∧ l7 = true ∧ l8 = true ∧ l9 = true ∧ l10 = true ∧ l11 = true := ⟨cb_zero (by omega), cb_zero (by omega), cb_zero (by omega), cb_zero (by omega), cb_zero (by omega), cb_zero (by omega), cb_zero (by omega), cb_zero (by omega), cb_zero (by omega), cb_zero (by omega), cb_zero (by omega), cb_zero (by omega)⟩
    obtain ⟨rfl, rfl, rfl, rfl, rfl, rfl, rfl, rfl, rfl, rfl, rfl, rfl⟩ := e
    show Region.ready .any ops3 #[true, true, true, true, true, true, true, true, true, true, true, true] = []
    rfl
  · rintro n l a w ⟨l0, l1, l2, l3, l4, l5, l6, l7, l8, l9, l10, l11, bx, bY, bz, rfl, -, h⟩ hr
    obtain ⟨rfl, rfl, rfl, rfl, rfl, rfl, rfl, rfl, rfl, rfl, rfl, rfl⟩ := all_true _ _ _ _ _ _ _ _ _ _ _ _ hr
    exact hQ a w bx bY bz h
  · rintro n l a w ⟨l0, l1, l2, l3, l4, l5, l6, l7, l8, l9, l10, l11, bx, bY, bz, rfl, hn, h⟩ i hi
    have hi12 : i < 12 := by
      obtain ⟨-, o, ho, -⟩ := mem_ready.1 hi
      exact (Array.getElem?_eq_some_iff.1 ho).1
    have hc : i = 0 ∨ i = 1 ∨ i = 2 ∨ i = 3 ∨ i = 4 ∨ i = 5 ∨ i = 6 ∨ i = 7 ∨ i = 8 ∨ i = 9 ∨ i = 10 ∨ i = 11 := by omega
    rcases hc with rfl | rfl | rfl | rfl | rfl | rfl | rfl | rfl | rfl | rfl | rfl | rfl
    · obtain rfl := (rdy0 l0 l1 l2 l3 l4 l5 l6 l7 l8 l9 l10 l11).1 hi
      exact step0 n hn h hs h3 ca0 ca1
    · obtain ⟨rfl, rfl⟩ := (rdy1 l0 l1 l2 l3 l4 l5 l6 l7 l8 l9 l10 l11).1 hi
      exact step1 n hn h hs hx
    · obtain rfl := (rdy2 l0 l1 l2 l3 l4 l5 l6 l7 l8 l9 l10 l11).1 hi
      exact step2 n hn h hs h4 cb0 cb1
    · obtain ⟨rfl, rfl, -⟩ := (rdy3 l0 l1 l2 l3 l4 l5 l6 l7 l8 l9 l10 l11).1 hi
      exact step3 n hn h hs hy
    · obtain rfl := (rdy4 l0 l1 l2 l3 l4 l5 l6 l7 l8 l9 l10 l11).1 hi
      exact step4 n hn h hs h5 cc0 cc1
    · obtain ⟨rfl, rfl, -⟩ := (rdy5 l0 l1 l2 l3 l4 l5 l6 l7 l8 l9 l10 l11).1 hi
      exact step5 n hn h hs hz
    · obtain rfl := (rdy6 l0 l1 l2 l3 l4 l5 l6 l7 l8 l9 l10 l11).1 hi
      exact step6 n hn h hs
    · obtain rfl := (rdy7 l0 l1 l2 l3 l4 l5 l6 l7 l8 l9 l10 l11).1 hi
      exact step7 n hn h hs
    · obtain rfl := (rdy8 l0 l1 l2 l3 l4 l5 l6 l7 l8 l9 l10 l11).1 hi
      exact step8 n hn h hs
    · obtain ⟨rfl, rfl, rfl, -, -, -, -⟩ := (rdy9 l0 l1 l2 l3 l4 l5 l6 l7 l8 l9 l10 l11).1 hi
      exact step9 n hn h hs
    · obtain ⟨rfl, rfl, rfl, -, -, -, -, -, -⟩ := (rdy10 l0 l1 l2 l3 l4 l5 l6 l7 l8 l9 l10 l11).1 hi
      exact step10 n hn h hs
    · obtain ⟨rfl, rfl, rfl, -, -, -, -, -, -, -, -, -⟩ := (rdy11 l0 l1 l2 l3 l4 l5 l6 l7 l8 l9 l10 l11).1 hi
      exact step11 n hn h hs
  · exact ⟨false, false, false, false, false, false, false, false, false, false, false, false, 0, 0, 0, rfl, rfl, ⟨But.refl _ _, rfl, rfl, fun _ _ _ _ _ _ _ _ _ _ => rfl, ⟨by simp, by simp, by simp, by simp, by simp, by simp⟩, ⟨by simp, by simp, by simp, by simp, by simp, by simp⟩, ⟨by simp, by simp, by simp, by simp, by simp, by simp⟩, by simp, by simp, by simp, by simp, by simp, by simp⟩⟩

theorem slot_at {a : Act} {t : Nat} {v : Value} (h : a.eval (.tmp t) = v) (hs : t < a.tmps.size) : a.tmps[t]? = some v := by
  have e : a.tmps.getD t undef = v := h
  rw [Array.getD_eq_getD_getElem?, Array.getElem?_eq_getElem hs] at e
  rw [Array.getElem?_eq_getElem hs]
  exact congrArg some e
theorem put_at (a : Act) (d t : Nat) (v : Value) : (a.put (some d) v).tmps[t]? = if d = t then (if d < a.tmps.size then some v else none) else a.tmps[t]? := by
  show (a.tmps.setIfInBounds d v)[t]? = _
  rw [Array.getElem?_setIfInBounds]
theorem put_size (a : Act) (d : Nat) (v : Value) : (a.put (some d) v).tmps.size = a.tmps.size := by
  show (a.tmps.setIfInBounds d v).size = a.tmps.size
  simp
theorem act_ext {a b : Act} (h1 : ∀ t : Nat, a.tmps[t]? = b.tmps[t]?) (h2 : a.defers = b.defers) : a = b := by
  cases a
  cases b
  simp only at h1 h2
  rw [Array.ext_getElem? h1, h2]
/-- values put into slots, one after the other -/
def puts (base : Act) (ps : List (Nat × Value)) : Act := ps.foldl (fun b p => b.put (some p.1) p.2) base
theorem puts_eq : ∀ (ps : List (Nat × Value)) (base a : Act), a.defers = base.defers → a.tmps.size = base.tmps.size → (∀ p ∈ ps, a.tmps[p.1]? = some p.2) → (∀ t, (∀ p ∈ ps, t ≠ p.1) → a.tmps[t]? = base.tmps[t]?) → a = puts base ps
  | [], base, a, h1, _, _, h4 => act_ext (fun t => h4 t (fun p hp => by simp at hp)) h1
  | (d, v) :: ps, base, a, h1, h2, h3, h4 => by
    have hd := h3 (d, v) (by simp)
    simp only at hd
    have hlt : d < base.tmps.size := by
      rw [← h2]
      exact (Array.getElem?_eq_some_iff.1 hd).1
    refine puts_eq ps (base.put (some d) v) a h1 (by rw [put_size]; exact h2) (fun p hp => h3 p (by simp [hp])) (fun t ht => ?_)
    rw [put_at]
    by_cases e : d = t
    · subst e
      rw [if_pos rfl, if_pos hlt]
      exact hd
    · rw [if_neg e]
      refine h4 t (fun p hp => ?_)
      rcases List.mem_cons.1 hp with rfl | hp
      · exact Ne.symm e
      · exact ht p hp
theorem act_eq {W w : World} {base a : Act} {Ax Ay Az : Value} {rx ry rz : Bool} {px qx py qy pz qz : Int} {bx bY bz : Nat} (h : J3 W base Ax Ay Az rx ry rz px qx py qy pz qz true true true true true true true true true true true true bx bY bz a w) (hs : 17 < base.tmps.size) :
    a = puts base [(7, .pointer (some ⟨bx, 0, none⟩)), (8, .pointer (some ⟨bY, 0, none⟩)), (9, .pointer (some ⟨bz, 0, none⟩)), (12, Ax), (13, .agg #[.bool rx, .int .u64 px, .int .u64 qx, .pointer none]), (14, Ay), (15, .agg #[.bool ry, .int .u64 py, .int .u64 qy, .pointer none]), (16, Az), (17, .agg #[.bool rz, .int .u64 pz, .int .u64 qz, .pointer none])] := by
  have hsz : 17 < a.tmps.size := by rw [h.size]; exact hs
  have s7 := slot_at (h.x.e3 rfl) (by omega)
  have s8 := slot_at (h.y.e3 rfl) (by omega)
  have s9 := slot_at (h.z.e3 rfl) (by omega)
  have s12 := slot_at (h.x.e1 rfl) (by omega)
  have s13 := slot_at (h.x.e2 rfl) (by omega)
  have s14 := slot_at (h.y.e1 rfl) (by omega)
  have s15 := slot_at (h.y.e2 rfl) (by omega)
  have s16 := slot_at (h.z.e1 rfl) (by omega)
  have s17 := slot_at (h.z.e2 rfl) (by omega)
  refine puts_eq _ base a h.defers h.size (fun p hp => ?_) (fun t ht => ?_)
  · simp only [List.mem_cons, List.not_mem_nil, or_false] at hp
    rcases hp with rfl | rfl | rfl | rfl | rfl | rfl | rfl | rfl | rfl
    · exact s7
    · exact s8
    · exact s9
    · exact s12
    · exact s13
    · exact s14
    · exact s15
    · exact s16
    · exact s17
  · exact h.rest t (ht (7, .pointer (some ⟨bx, 0, none⟩)) (by simp)) (ht (8, .pointer (some ⟨bY, 0, none⟩)) (by simp)) (ht (9, .pointer (some ⟨bz, 0, none⟩)) (by simp)) (ht (12, Ax) (by simp)) (ht (13, .agg #[.bool rx, .int .u64 px, .int .u64 qx, .pointer none]) (by simp)) (ht (14, Ay) (by simp)) (ht (15, .agg #[.bool ry, .int .u64 py, .int .u64 qy, .pointer none]) (by simp)) (ht (16, Az) (by simp)) (ht (17, .agg #[.bool rz, .int .u64 pz, .int .u64 qz, .pointer none]) (by simp))
end Go.Proofs.YtihiafgogbhjkaaGreatDoor
