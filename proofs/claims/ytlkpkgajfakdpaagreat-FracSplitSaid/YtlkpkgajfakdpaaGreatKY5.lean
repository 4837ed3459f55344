/- Two places are compared by what was cut off: the closure of the Go text of package frac, its first statement in whatever order. -/
import Derived.Test.YtlkpkgajfakdpaaGreatKF6
import Derived.Test.YtlkpkgajfakdpaaGreatKR0
import Derived.Test.YtlkpkgajfakdpaaGreatKSS
import Derived.Test.YtlkpkgajfakdpaaGreatKY4
namespace Go.Proofs.YtlkpkgajfakdpaaGreat
open Go.RowKit

def opCu0 : Oper := { dst := some 10, op := Op.load 23 (Operand.tmp 2), type := 23, pos := "split.go:90", after := #[], guard := none }
def opCu1 : Oper := { dst := some 11, op := Op.move (Operand.tmp 1), type := 3, pos := "split.go:90", after := #[], guard := none }
def opCu2 : Oper := { dst := some 12, op := Op.indexAddr 23 (Operand.tmp 10) (Operand.tmp 11), type := 0, pos := "split.go:90", after := #[{ on := 0, ground := Ground.data }, { on := 1, ground := Ground.data }], guard := none }
def opCu3 : Oper := { dst := some 13, op := Op.load 33 (Operand.tmp 12), type := 33, pos := "split.go:90", after := #[{ on := 2, ground := Ground.data }], guard := none }
def opCu4 : Oper := { dst := some 14, op := Op.load 23 (Operand.tmp 2), type := 23, pos := "split.go:90", after := #[], guard := none }
def opCu5 : Oper := { dst := some 15, op := Op.move (Operand.tmp 0), type := 3, pos := "split.go:90", after := #[], guard := none }
def opCu6 : Oper := { dst := some 16, op := Op.indexAddr 23 (Operand.tmp 14) (Operand.tmp 15), type := 0, pos := "split.go:90", after := #[{ on := 4, ground := Ground.data }, { on := 5, ground := Ground.data }], guard := none }
def opCu7 : Oper := { dst := some 17, op := Op.load 33 (Operand.tmp 16), type := 33, pos := "split.go:90", after := #[{ on := 6, ground := Ground.data }], guard := none }
def opCu8 : Oper := { dst := some 18, op := Op.call { callee := Callee.value (Operand.func 10), args := #[Operand.tmp 13, Operand.tmp 17], argTypes := #[33, 33] }, type := 33, pos := "split.go:90", after := #[{ on := 3, ground := Ground.data }, { on := 7, ground := Ground.data }], guard := none }
def opCu9 : Oper := { dst := some 19, op := Op.load 25 (Operand.tmp 3), type := 25, pos := "split.go:90", after := #[{ on := 19, ground := Ground.gcOnly Departure.lateStores }], guard := none }
def opCu10 : Oper := { dst := some 20, op := Op.move (Operand.tmp 1), type := 3, pos := "split.go:90", after := #[{ on := 19, ground := Ground.gcOnly Departure.lateStores }], guard := none }
def opCu11 : Oper := { dst := some 21, op := Op.indexAddr 25 (Operand.tmp 19) (Operand.tmp 20), type := 0, pos := "split.go:90", after := #[{ on := 9, ground := Ground.data }, { on := 10, ground := Ground.data }, { on := 19, ground := Ground.gcOnly Departure.lateStores }], guard := none }
def opCu12 : Oper := { dst := some 22, op := Op.load 3 (Operand.tmp 21), type := 3, pos := "split.go:90", after := #[{ on := 11, ground := Ground.data }, { on := 19, ground := Ground.gcOnly Departure.lateStores }], guard := none }
def opCu13 : Oper := { dst := some 23, op := Op.load 25 (Operand.tmp 3), type := 25, pos := "split.go:90", after := #[{ on := 19, ground := Ground.gcOnly Departure.lateStores }], guard := none }
def opCu14 : Oper := { dst := some 24, op := Op.move (Operand.tmp 0), type := 3, pos := "split.go:90", after := #[{ on := 19, ground := Ground.gcOnly Departure.lateStores }], guard := none }
def opCu15 : Oper := { dst := some 25, op := Op.indexAddr 25 (Operand.tmp 23) (Operand.tmp 24), type := 0, pos := "split.go:90", after := #[{ on := 13, ground := Ground.data }, { on := 14, ground := Ground.data }, { on := 19, ground := Ground.gcOnly Departure.lateStores }], guard := none }
def opCu16 : Oper := { dst := some 26, op := Op.load 3 (Operand.tmp 25), type := 3, pos := "split.go:90", after := #[{ on := 15, ground := Ground.data }, { on := 19, ground := Ground.gcOnly Departure.lateStores }], guard := none }
def opCu17 : Oper := { dst := some 27, op := Op.binOp BinOp.sub 3 (Operand.tmp 22) (Operand.tmp 26) 3, type := 3, pos := "split.go:90", after := #[{ on := 12, ground := Ground.data }, { on := 16, ground := Ground.data }, { on := 19, ground := Ground.gcOnly Departure.lateStores }], guard := none }
def opCu18 : Oper := { dst := some 8, op := Op.alloc 33, type := 0, pos := "split.go:90", after := #[], guard := none }
def opCu19 : Oper := { dst := none, op := Op.store 33 (Operand.tmp 8) (Operand.tmp 18), type := 0, pos := "split.go:90", after := #[{ on := 18, ground := Ground.data }, { on := 8, ground := Ground.data }, { on := 8, ground := Ground.chain }, { on := 0, ground := Ground.phase }, { on := 1, ground := Ground.phase }, { on := 2, ground := Ground.phase }, { on := 3, ground := Ground.phase }, { on := 4, ground := Ground.phase }, { on := 5, ground := Ground.phase }, { on := 6, ground := Ground.phase }, { on := 7, ground := Ground.phase }, { on := 8, ground := Ground.phase }, { on := 9, ground := Ground.textOnly Departure.lateStores }, { on := 10, ground := Ground.textOnly Departure.lateStores }, { on := 11, ground := Ground.textOnly Departure.lateStores }, { on := 12, ground := Ground.textOnly Departure.lateStores }, { on := 13, ground := Ground.textOnly Departure.lateStores }, { on := 14, ground := Ground.textOnly Departure.lateStores }, { on := 15, ground := Ground.textOnly Departure.lateStores }, { on := 16, ground := Ground.textOnly Departure.lateStores }, { on := 17, ground := Ground.textOnly Departure.lateStores }, { on := 18, ground := Ground.phase }], guard := none }
def opCu20 : Oper := { dst := some 9, op := Op.assign (Operand.tmp 27), type := 3, pos := "split.go:90", after := #[{ on := 17, ground := Ground.data }, { on := 19, ground := Ground.chain }, { on := 0, ground := Ground.phase }, { on := 1, ground := Ground.phase }, { on := 2, ground := Ground.phase }, { on := 3, ground := Ground.phase }, { on := 4, ground := Ground.phase }, { on := 5, ground := Ground.phase }, { on := 6, ground := Ground.phase }, { on := 7, ground := Ground.phase }, { on := 8, ground := Ground.phase }, { on := 9, ground := Ground.phase }, { on := 10, ground := Ground.phase }, { on := 11, ground := Ground.phase }, { on := 12, ground := Ground.phase }, { on := 13, ground := Ground.phase }, { on := 14, ground := Ground.phase }, { on := 15, ground := Ground.phase }, { on := 16, ground := Ground.phase }, { on := 17, ground := Ground.phase }, { on := 18, ground := Ground.phase }, { on := 19, ground := Ground.phase }], guard := none }
def opCus : Array Oper := #[opCu0, opCu1, opCu2, opCu3, opCu4, opCu5, opCu6, opCu7, opCu8, opCu9, opCu10, opCu11, opCu12, opCu13, opCu14, opCu15, opCu16, opCu17, opCu18, opCu19, opCu20]
def opCuT (i : Nat) : Nat := match i with
  | 0 => 10
  | 1 => 11
  | 2 => 12
  | 3 => 13
  | 4 => 14
  | 5 => 15
  | 6 => 16
  | 7 => 17
  | 8 => 18
  | 9 => 19
  | 10 => 20
  | 11 => 21
  | 12 => 22
  | 13 => 23
  | 14 => 24
  | 15 => 25
  | 16 => 26
  | 17 => 27
  | 18 => 8
  | _ => 9
/-- what each operation's value is -/
def opCuC (B : Nat) (b : Nat) (off : Nat) (n : Nat) (c : Nat) (b2 : Nat) (off2 : Nat) (c2 : Nat) (ii : Nat) (k : Nat) (si : Int) (sk : Int) (s1 : Bool) (x1 : Int) (y1 : Int) (p1 : Option Addr) (s2 : Bool) (x2 : Int) (y2 : Int) (p2 : Option Addr) (f : Rat) (i : Nat) (w : World) (v : Value) : Prop := match i with
  | 0 => v = .slice (some ⟨b, off, none⟩) n c
  | 1 => v = .int .i64 (k : Int)
  | 2 => v = .pointer (some ⟨b, off + k * 4, none⟩)
  | 3 => v = .agg #[.bool s1, .int .u64 x1, .int .u64 y1, .pointer p1]
  | 4 => v = .slice (some ⟨b, off, none⟩) n c
  | 5 => v = .int .i64 (ii : Int)
  | 6 => v = .pointer (some ⟨b, off + ii * 4, none⟩)
  | 7 => v = .agg #[.bool s2, .int .u64 x2, .int .u64 y2, .pointer p2]
  | 8 => FracAt w v f
  | 9 => v = .slice (some ⟨b2, off2, none⟩) n c2
  | 10 => v = .int .i64 (k : Int)
  | 11 => v = .pointer (some ⟨b2, off2 + k, none⟩)
  | 12 => v = .int .i64 sk
  | 13 => v = .slice (some ⟨b2, off2, none⟩) n c2
  | 14 => v = .int .i64 (ii : Int)
  | 15 => v = .pointer (some ⟨b2, off2 + ii, none⟩)
  | 16 => v = .int .i64 si
  | 17 => v = .int .i64 (sk - si)
  | 18 => LaidAny B w v
  | _ => True
theorem opCuC_but {B : Nat} {b : Nat} {off : Nat} {n : Nat} {c : Nat} {b2 : Nat} {off2 : Nat} {c2 : Nat} {ii : Nat} {k : Nat} {si : Int} {sk : Int} {s1 : Bool} {x1 : Int} {y1 : Int} {p1 : Option Addr} {s2 : Bool} {x2 : Int} {y2 : Int} {p2 : Option Addr} {f : Rat} {i : Nat} {w w' : World} {v : Value} (h : opCuC B b off n c b2 off2 c2 ii k si sk s1 x1 y1 p1 s2 x2 y2 p2 f i w v) (hi : i < 20) (hb : But [] w w') : opCuC B b off n c b2 off2 c2 ii k si sk s1 x1 y1 p1 s2 x2 y2 p2 f i w' v := by
  have : i = 0 ∨ i = 1 ∨ i = 2 ∨ i = 3 ∨ i = 4 ∨ i = 5 ∨ i = 6 ∨ i = 7 ∨ i = 8 ∨ i = 9 ∨ i = 10 ∨ i = 11 ∨ i = 12 ∨ i = 13 ∨ i = 14 ∨ i = 15 ∨ i = 16 ∨ i = 17 ∨ i = 18 ∨ i = 19 := by omega
  rcases this with rfl | rfl | rfl | rfl | rfl | rfl | rfl | rfl | rfl | rfl | rfl | rfl | rfl | rfl | rfl | rfl | rfl | rfl | rfl | rfl
  · exact (show v = .slice (some ⟨b, off, none⟩) n c from h)
  · exact (show v = .int .i64 (k : Int) from h)
  · exact (show v = .pointer (some ⟨b, off + k * 4, none⟩) from h)
  · exact (show v = .agg #[.bool s1, .int .u64 x1, .int .u64 y1, .pointer p1] from h)
  · exact (show v = .slice (some ⟨b, off, none⟩) n c from h)
  · exact (show v = .int .i64 (ii : Int) from h)
  · exact (show v = .pointer (some ⟨b, off + ii * 4, none⟩) from h)
  · exact (show v = .agg #[.bool s2, .int .u64 x2, .int .u64 y2, .pointer p2] from h)
  · exact FracAt.but (show FracAt w v f from h) hb
  · exact (show v = .slice (some ⟨b2, off2, none⟩) n c2 from h)
  · exact (show v = .int .i64 (k : Int) from h)
  · exact (show v = .pointer (some ⟨b2, off2 + k, none⟩) from h)
  · exact (show v = .int .i64 sk from h)
  · exact (show v = .slice (some ⟨b2, off2, none⟩) n c2 from h)
  · exact (show v = .int .i64 (ii : Int) from h)
  · exact (show v = .pointer (some ⟨b2, off2 + ii, none⟩) from h)
  · exact (show v = .int .i64 si from h)
  · exact (show v = .int .i64 (sk - si) from h)
  · exact LaidAny.but (show LaidAny B w v from h) hb
  · exact trivial
theorem opCuC_put {B : Nat} {b : Nat} {off : Nat} {n : Nat} {c : Nat} {b2 : Nat} {off2 : Nat} {c2 : Nat} {ii : Nat} {k : Nat} {si : Int} {sk : Int} {s1 : Bool} {x1 : Int} {y1 : Int} {p1 : Option Addr} {s2 : Bool} {x2 : Int} {y2 : Int} {p2 : Option Addr} {f : Rat} {i : Nat} {w : World} {v : Value} {g0 : Nat} {s0 : Bool} {x0 y0 : Int} {p0 : Option Addr} (hg : P4 w g0 s0 x0 y0 p0) (s' : Bool) (x' y' : Int) (p' : Option Addr) (h : opCuC B b off n c b2 off2 c2 ii k si sk s1 x1 y1 p1 s2 x2 y2 p2 f i w v) (hi : i < 20) : opCuC B b off n c b2 off2 c2 ii k si sk s1 x1 y1 p1 s2 x2 y2 p2 f i (put4 w g0 s' x' y' p') v := by
  have : i = 0 ∨ i = 1 ∨ i = 2 ∨ i = 3 ∨ i = 4 ∨ i = 5 ∨ i = 6 ∨ i = 7 ∨ i = 8 ∨ i = 9 ∨ i = 10 ∨ i = 11 ∨ i = 12 ∨ i = 13 ∨ i = 14 ∨ i = 15 ∨ i = 16 ∨ i = 17 ∨ i = 18 ∨ i = 19 := by omega
  rcases this with rfl | rfl | rfl | rfl | rfl | rfl | rfl | rfl | rfl | rfl | rfl | rfl | rfl | rfl | rfl | rfl | rfl | rfl | rfl | rfl
  · exact (show v = .slice (some ⟨b, off, none⟩) n c from h)
  · exact (show v = .int .i64 (k : Int) from h)
  · exact (show v = .pointer (some ⟨b, off + k * 4, none⟩) from h)
  · exact (show v = .agg #[.bool s1, .int .u64 x1, .int .u64 y1, .pointer p1] from h)
  · exact (show v = .slice (some ⟨b, off, none⟩) n c from h)
  · exact (show v = .int .i64 (ii : Int) from h)
  · exact (show v = .pointer (some ⟨b, off + ii * 4, none⟩) from h)
  · exact (show v = .agg #[.bool s2, .int .u64 x2, .int .u64 y2, .pointer p2] from h)
  · exact FracAt.over (show FracAt w v f from h) hg.1 (put4_but _ _ _ _ _ _)
  · exact (show v = .slice (some ⟨b2, off2, none⟩) n c2 from h)
  · exact (show v = .int .i64 (k : Int) from h)
  · exact (show v = .pointer (some ⟨b2, off2 + k, none⟩) from h)
  · exact (show v = .int .i64 sk from h)
  · exact (show v = .slice (some ⟨b2, off2, none⟩) n c2 from h)
  · exact (show v = .int .i64 (ii : Int) from h)
  · exact (show v = .pointer (some ⟨b2, off2 + ii, none⟩) from h)
  · exact (show v = .int .i64 si from h)
  · exact (show v = .int .i64 (sk - si) from h)
  · exact LaidAny.put (show LaidAny B w v from h) hg _ _ _ _
  · exact trivial
theorem opCuT_inj : ∀ i j, i < 20 → j < 20 → opCuT i = opCuT j → i = j := fun i j hi hj => (by decide : ∀ i, i < 20 → ∀ j, j < 20 → opCuT i = opCuT j → i = j) i hi j hj
set_option maxHeartbeats 2000000 in
set_option maxRecDepth 100000 in
theorem cut_region (id : Nat) (Q : Exit → Act → World → Prop) (base : Act) (W0 : World) (B : Nat) (b : Nat) (off : Nat) (n : Nat) (c : Nat) (b2 : Nat) (off2 : Nat) (c2 : Nat) (ii : Nat) (k : Nat) (si : Int) (sk : Int) (s1 : Bool) (x1 : Int) (y1 : Int) (p1 : Option Addr) (s2 : Bool) (x2 : Int) (y2 : Int) (p2 : Option Addr) (f : Rat) (hs : 27 < base.tmps.size) (g2 g3 : Nat) (hBW : B = W0.heap.size) (e2 : base.eval (.tmp 2) = .pointer (some ⟨g2, 0, none⟩)) (e3 : base.eval (.tmp 3) = .pointer (some ⟨g3, 0, none⟩)) (e1 : base.eval (.tmp 1) = .int .i64 (k : Int)) (e0 : base.eval (.tmp 0) = .int .i64 (ii : Int))
    (hkn : k < n) (hin : ii < n) (hn : n < 1000000) (cw : W0.cell? ⟨g2, 0, none⟩ = some (.slice (some ⟨b, off, none⟩) n c)) (cs : W0.cell? ⟨g3, 0, none⟩ = some (.slice (some ⟨b2, off2, none⟩) n c2)) (c1 : P4o W0 b (off + k * 4) s1 x1 y1 p1) (c2' : P4o W0 b (off + ii * 4) s2 x2 y2 p2) (d1 : W0.cell? ⟨b2, off2 + k, none⟩ = some (.int .i64 sk)) (d2 : W0.cell? ⟨b2, off2 + ii, none⟩ = some (.int .i64 si)) (hk1 : 0 ≤ sk) (hk2 : sk < 4611686018427387904) (hi1 : 0 ≤ si) (hi2 : si < 4611686018427387904)
    (SB : ∀ w, But [] W0 w → Calls Tryz.prog 10 #[.agg #[.bool s1, .int .u64 x1, .int .u64 y1, .pointer p1], .agg #[.bool s2, .int .u64 x2, .int .u64 y2, .pointer p2]] w fun e w' => ∃ v, e = .returned v ∧ FracAt w' v f ∧ But [] w w')
    (hQ : ∀ w1 bn v8 v19 s' x' y' p', But [] W0 w1 → B ≤ bn → P4 w1 bn s' x' y' p' → FracAt w1 (.agg #[.bool s', .int .u64 x', .int .u64 y', .pointer p']) (f) → Q .normal (putted base [(10, .slice (some ⟨b, off, none⟩) n c), (11, .int .i64 (k : Int)), (12, .pointer (some ⟨b, off + k * 4, none⟩)), (13, .agg #[.bool s1, .int .u64 x1, .int .u64 y1, .pointer p1]), (14, .slice (some ⟨b, off, none⟩) n c), (15, .int .i64 (ii : Int)), (16, .pointer (some ⟨b, off + ii * 4, none⟩)), (17, .agg #[.bool s2, .int .u64 x2, .int .u64 y2, .pointer p2]), (18, v8), (19, .slice (some ⟨b2, off2, none⟩) n c2), (20, .int .i64 (k : Int)), (21, .pointer (some ⟨b2, off2 + k, none⟩)), (22, .int .i64 sk), (23, .slice (some ⟨b2, off2, none⟩) n c2), (24, .int .i64 (ii : Int)), (25, .pointer (some ⟨b2, off2 + ii, none⟩)), (26, .int .i64 si), (27, .int .i64 (sk - si)), (8, .pointer (some ⟨bn, 0, none⟩)), (9, v19), (9, .int .i64 (sk - si))]) w1) :
    (Code.region id opCus true).wp Tryz.prog Q base W0 := by
  have hdr : ∀ {w}, But [] W0.drew w → But [] W0 w := fun h => (But.refl _ _).drew.trans' h
  have hT : ∀ i, i < 20 → opCuT i < base.tmps.size := fun i hi => by
    have h : opCuT i ≤ 27 := by revert i; decide
    omega
  refine region_flow3 (by kernel_rfl) (low_of (by kernel_rfl)) (fun i o ho => (calm_of (ops := opCus) (by kernel_rfl) i o ho).1)
    (opCuC B b off n c b2 off2 c2 ii k si sk s1 x1 y1 p1 s2 x2 y2 p2 f) opCuT 20 19 18 (by omega) (Stored B (f)) rfl opCuT_inj hT (fun i w w' v hi h hb => opCuC_but h hi hb) (fun _ _ => trivial) (fun w w' v h hb => h.but hb)
    (fun i hi => ?_) (dep_of (ops := opCus) (ps := [(19, 18)]) (by kernel_rfl) 19 18 (by simp)) ?_ ?_ (fun a w => ∃ w1 bn v8 v19 s' x' y' p', a = putted base [(10, .slice (some ⟨b, off, none⟩) n c), (11, .int .i64 (k : Int)), (12, .pointer (some ⟨b, off + k * 4, none⟩)), (13, .agg #[.bool s1, .int .u64 x1, .int .u64 y1, .pointer p1]), (14, .slice (some ⟨b, off, none⟩) n c), (15, .int .i64 (ii : Int)), (16, .pointer (some ⟨b, off + ii * 4, none⟩)), (17, .agg #[.bool s2, .int .u64 x2, .int .u64 y2, .pointer p2]), (18, v8), (19, .slice (some ⟨b2, off2, none⟩) n c2), (20, .int .i64 (k : Int)), (21, .pointer (some ⟨b2, off2 + k, none⟩)), (22, .int .i64 sk), (23, .slice (some ⟨b2, off2, none⟩) n c2), (24, .int .i64 (ii : Int)), (25, .pointer (some ⟨b2, off2 + ii, none⟩)), (26, .int .i64 si), (27, .int .i64 (sk - si)), (8, .pointer (some ⟨bn, 0, none⟩)), (9, v19), (9, .int .i64 (sk - si))] ∧ w = w1 ∧ But [] W0 w1 ∧ B ≤ bn ∧ P4 w1 bn s' x' y' p' ∧ FracAt w1 (.agg #[.bool s', .int .u64 x', .int .u64 y', .pointer p']) (f)) ?_ ?_ (by omega)
  · exact dep_of (ops := opCus) (ps := [(20, 0), (20, 1), (20, 2), (20, 3), (20, 4), (20, 5), (20, 6), (20, 7), (20, 8), (20, 9), (20, 10), (20, 11), (20, 12), (20, 13), (20, 14), (20, 15), (20, 16), (20, 17), (20, 18), (20, 19)]) (by kernel_rfl) 20 i (by
      have : i = 0 ∨ i = 1 ∨ i = 2 ∨ i = 3 ∨ i = 4 ∨ i = 5 ∨ i = 6 ∨ i = 7 ∨ i = 8 ∨ i = 9 ∨ i = 10 ∨ i = 11 ∨ i = 12 ∨ i = 13 ∨ i = 14 ∨ i = 15 ∨ i = 16 ∨ i = 17 ∨ i = 18 ∨ i = 19 := by omega
      rcases this with rfl | rfl | rfl | rfl | rfl | rfl | rfl | rfl | rfl | rfl | rfl | rfl | rfl | rfl | rfl | rfl | rfl | rfl | rfl | rfl <;> simp)
  · intro i o a w K hi hiq ho hH he hdep hK
    have hD := dep_have (ps := [(2, 0), (2, 1), (3, 2), (6, 4), (6, 5), (7, 6), (8, 3), (8, 7), (11, 9), (11, 10), (12, 11), (15, 13), (15, 14), (16, 15), (17, 12), (17, 16), (19, 0), (19, 1), (19, 2), (19, 3), (19, 4), (19, 5), (19, 6), (19, 7), (19, 8), (19, 18)]) (by kernel_rfl) ho (fun j => opCuC B b off n c b2 off2 c2 ii k si sk s1 x1 y1 p1 s2 x2 y2 p2 f j w (a.eval (.tmp (opCuT j)))) hdep
    have hk : ∀ v w', But [] w w' → opCuC B b off n c b2 off2 c2 ii k si sk s1 x1 y1 p1 s2 x2 y2 p2 f i w' v → K (a.put (some (opCuT i)) v) w' := hK
    have e2' := (he 2 (fun j hj e => absurd e.symm (by revert j; decide))).trans e2
    have e3' := (he 3 (fun j hj e => absurd e.symm (by revert j; decide))).trans e3
    have e1' := (he 1 (fun j hj e => absurd e.symm (by revert j; decide))).trans e1
    have e0' := (he 0 (fun j hj e => absurd e.symm (by revert j; decide))).trans e0
    have : i = 0 ∨ i = 1 ∨ i = 2 ∨ i = 3 ∨ i = 4 ∨ i = 5 ∨ i = 6 ∨ i = 7 ∨ i = 8 ∨ i = 9 ∨ i = 10 ∨ i = 11 ∨ i = 12 ∨ i = 13 ∨ i = 14 ∨ i = 15 ∨ i = 16 ∨ i = 17 ∨ i = 18 ∨ i = 19 := by omega
    rcases this with rfl | rfl | rfl | rfl | rfl | rfl | rfl | rfl | rfl | rfl | rfl | rfl | rfl | rfl | rfl | rfl | rfl | rfl | rfl | rfl
    · obtain rfl := Option.some.inj ((show opCus[0]? = some opCu0 from rfl).symm.trans ho)
      exact wp_value (run_loadS a w _ _ _ _ _ _ g2 _ _ _ _ rfl e2' ((hdr hH).cell_some cw (by simp))) (hk _ _ (But.refl _ _) rfl)
    · obtain rfl := Option.some.inj ((show opCus[1]? = some opCu1 from rfl).symm.trans ho)
      exact wp_value (run_mv a w _ _ _ _ _ _ _ e1') (hk _ _ (But.refl _ _) rfl)
    · obtain rfl := Option.some.inj ((show opCus[2]? = some opCu2 from rfl).symm.trans ho)
      exact wp_value (run_indexF a w _ _ _ _ _ _ _ b off n c k hkn hn (hD 0 (by simp)) (hD 1 (by simp))) (hk _ _ (But.refl _ _) rfl)
    · obtain rfl := Option.some.inj ((show opCus[3]? = some opCu3 from rfl).symm.trans ho)
      exact wp_value (run_loadF a w _ _ _ _ _ _ b _ _ _ _ _ (hD 2 (by simp)) (c1.but (hdr hH) (by simp))) (hk _ _ (But.refl _ _) rfl)
    · obtain rfl := Option.some.inj ((show opCus[4]? = some opCu4 from rfl).symm.trans ho)
      exact wp_value (run_loadS a w _ _ _ _ _ _ g2 _ _ _ _ rfl e2' ((hdr hH).cell_some cw (by simp))) (hk _ _ (But.refl _ _) rfl)
    · obtain rfl := Option.some.inj ((show opCus[5]? = some opCu5 from rfl).symm.trans ho)
      exact wp_value (run_mv a w _ _ _ _ _ _ _ e0') (hk _ _ (But.refl _ _) rfl)
    · obtain rfl := Option.some.inj ((show opCus[6]? = some opCu6 from rfl).symm.trans ho)
      exact wp_value (run_indexF a w _ _ _ _ _ _ _ b off n c ii hin hn (hD 4 (by simp)) (hD 5 (by simp))) (hk _ _ (But.refl _ _) rfl)
    · obtain rfl := Option.some.inj ((show opCus[7]? = some opCu7 from rfl).symm.trans ho)
      exact wp_value (run_loadF a w _ _ _ _ _ _ b _ _ _ _ _ (hD 6 (by simp)) (c2'.but (hdr hH) (by simp))) (hk _ _ (But.refl _ _) rfl)
    · obtain rfl := Option.some.inj ((show opCus[8]? = some opCu8 from rfl).symm.trans ho)
      exact wp_enter (run_subF a w _ _ _ _ _ _ _ _ _ (hD 3 (by simp)) (hD 7 (by simp))) (R := fun w' v => FracAt w' v (f) ∧ But [] w w') (SB w (hdr hH)) (fun v w' hv => hk v w' hv.2 hv.1)
    · obtain rfl := Option.some.inj ((show opCus[9]? = some opCu9 from rfl).symm.trans ho)
      exact wp_value (run_loadT a w _ _ _ _ _ _ g3 _ _ _ _ rfl e3' ((hdr hH).cell_some cs (by simp))) (hk _ _ (But.refl _ _) rfl)
    · obtain rfl := Option.some.inj ((show opCus[10]? = some opCu10 from rfl).symm.trans ho)
      exact wp_value (run_mv a w _ _ _ _ _ _ _ e1') (hk _ _ (But.refl _ _) rfl)
    · obtain rfl := Option.some.inj ((show opCus[11]? = some opCu11 from rfl).symm.trans ho)
      exact wp_value (run_indexI a w _ _ _ _ _ _ _ b2 off2 n c2 k hkn hn (hD 9 (by simp)) (hD 10 (by simp))) (hk _ _ (But.refl _ _) rfl)
    · obtain rfl := Option.some.inj ((show opCus[12]? = some opCu12 from rfl).symm.trans ho)
      exact wp_value (run_loadI a w _ _ _ _ _ _ b2 _ _ (hD 11 (by simp)) ((hdr hH).cell_some d1 (by simp))) (hk _ _ (But.refl _ _) rfl)
    · obtain rfl := Option.some.inj ((show opCus[13]? = some opCu13 from rfl).symm.trans ho)
      exact wp_value (run_loadT a w _ _ _ _ _ _ g3 _ _ _ _ rfl e3' ((hdr hH).cell_some cs (by simp))) (hk _ _ (But.refl _ _) rfl)
    · obtain rfl := Option.some.inj ((show opCus[14]? = some opCu14 from rfl).symm.trans ho)
      exact wp_value (run_mv a w _ _ _ _ _ _ _ e0') (hk _ _ (But.refl _ _) rfl)
    · obtain rfl := Option.some.inj ((show opCus[15]? = some opCu15 from rfl).symm.trans ho)
      exact wp_value (run_indexI a w _ _ _ _ _ _ _ b2 off2 n c2 ii hin hn (hD 13 (by simp)) (hD 14 (by simp))) (hk _ _ (But.refl _ _) rfl)
    · obtain rfl := Option.some.inj ((show opCus[16]? = some opCu16 from rfl).symm.trans ho)
      exact wp_value (run_loadI a w _ _ _ _ _ _ b2 _ _ (hD 15 (by simp)) ((hdr hH).cell_some d2 (by simp))) (hk _ _ (But.refl _ _) rfl)
    · obtain rfl := Option.some.inj ((show opCus[17]? = some opCu17 from rfl).symm.trans ho)
      exact wp_value (run_subI a w _ _ _ _ _ _ _ sk si hk1 hk2 hi1 hi2 (hD 12 (by simp)) (hD 16 (by simp))) (hk _ _ (But.refl _ _) rfl)
    · obtain rfl := Option.some.inj ((show opCus[18]? = some opCu18 from rfl).symm.trans ho)
      exact wp_value (run_alloc4 a w _ _ _ _ _) (hk _ _ ((But.refl _ _).alloc _) ⟨w.heap.size, rfl, by rw [hBW]; exact (hdr hH).size, ⟨false, 0, 0, none, by simp, by simp, by simp, by simp⟩, fun j => by simp⟩)
    · exact absurd rfl hiq
  · intro o a w K ho hH he hdep hK
    have hD := dep_have (ps := [(19, 18), (19, 8)]) (by kernel_rfl) ho (fun j => opCuC B b off n c b2 off2 c2 ii k si sk s1 x1 y1 p1 s2 x2 y2 p2 f j w (a.eval (.tmp (opCuT j)))) hdep
    obtain rfl := Option.some.inj ((show opCus[19]? = some opCu19 from rfl).symm.trans ho)
    have cl : FracAt w (a.eval (.tmp 18)) (f) := hD 8 (by simp)
    obtain ⟨bn, eb, hb1, ⟨s0, x0, y0, p0, hb2⟩, hb3⟩ : LaidAny B w (a.eval (.tmp 8)) := hD 18 (by simp)
    have cl' := cl
    obtain ⟨x', y', p', ev, -⟩ := cl.agg
    rw [ev] at cl'
    exact wp_skipped (run_store4 a w _ _ _ _ _ bn _ x' y' p' eb ev hb2 hb3) (hK _ (hH.trans (put4_but w bn _ x' y' p') (fun x hx => by simp at hx; subst hx; exact .inr (by rw [hBW] at hb1; exact hb1))) (fun j hj u hu => opCuC_put hb2 _ x' y' p' hu hj) ⟨bn, _, x', y', p', eb, hb1, put4_p4 w bn _ x' y' p' hb2, cl'.over hb2.1 (put4_but w bn _ x' y' p')⟩)
  · intro dn o a w K ho hall h hst hK
    obtain rfl := Option.some.inj ((show opCus[20]? = some opCu20 from rfl).symm.trans ho)
    obtain ⟨bn, s', x', y', p', eb, hb1, hb2, hb3⟩ := hst
    have eb : a.eval (.tmp 8) = .pointer (some ⟨bn, 0, none⟩) := eb
    have ea := h.puts hT (fun i => match i with
      | 0 => .slice (some ⟨b, off, none⟩) n c
      | 1 => .int .i64 (k : Int)
      | 2 => .pointer (some ⟨b, off + k * 4, none⟩)
      | 3 => .agg #[.bool s1, .int .u64 x1, .int .u64 y1, .pointer p1]
      | 4 => .slice (some ⟨b, off, none⟩) n c
      | 5 => .int .i64 (ii : Int)
      | 6 => .pointer (some ⟨b, off + ii * 4, none⟩)
      | 7 => .agg #[.bool s2, .int .u64 x2, .int .u64 y2, .pointer p2]
      | 8 => a.eval (.tmp 18)
      | 9 => .slice (some ⟨b2, off2, none⟩) n c2
      | 10 => .int .i64 (k : Int)
      | 11 => .pointer (some ⟨b2, off2 + k, none⟩)
      | 12 => .int .i64 sk
      | 13 => .slice (some ⟨b2, off2, none⟩) n c2
      | 14 => .int .i64 (ii : Int)
      | 15 => .pointer (some ⟨b2, off2 + ii, none⟩)
      | 16 => .int .i64 si
      | 17 => .int .i64 (sk - si)
      | 18 => .pointer (some ⟨bn, 0, none⟩)
      | _ => a.eval (.tmp 9)) (fun i hi => by
      have hc := h.has i hi (hall i hi)
      have : i = 0 ∨ i = 1 ∨ i = 2 ∨ i = 3 ∨ i = 4 ∨ i = 5 ∨ i = 6 ∨ i = 7 ∨ i = 8 ∨ i = 9 ∨ i = 10 ∨ i = 11 ∨ i = 12 ∨ i = 13 ∨ i = 14 ∨ i = 15 ∨ i = 16 ∨ i = 17 ∨ i = 18 ∨ i = 19 := by omega
      rcases this with rfl | rfl | rfl | rfl | rfl | rfl | rfl | rfl | rfl | rfl | rfl | rfl | rfl | rfl | rfl | rfl | rfl | rfl | rfl | rfl
      · exact hc
      · exact hc
      · exact hc
      · exact hc
      · exact hc
      · exact hc
      · exact hc
      · exact hc
      · rfl
      · exact hc
      · exact hc
      · exact hc
      · exact hc
      · exact hc
      · exact hc
      · exact hc
      · exact hc
      · exact hc
      · exact eb
      · rfl)
    have ea2 : a = putted base [(10, .slice (some ⟨b, off, none⟩) n c), (11, .int .i64 (k : Int)), (12, .pointer (some ⟨b, off + k * 4, none⟩)), (13, .agg #[.bool s1, .int .u64 x1, .int .u64 y1, .pointer p1]), (14, .slice (some ⟨b, off, none⟩) n c), (15, .int .i64 (ii : Int)), (16, .pointer (some ⟨b, off + ii * 4, none⟩)), (17, .agg #[.bool s2, .int .u64 x2, .int .u64 y2, .pointer p2]), (18, a.eval (.tmp 18)), (19, .slice (some ⟨b2, off2, none⟩) n c2), (20, .int .i64 (k : Int)), (21, .pointer (some ⟨b2, off2 + k, none⟩)), (22, .int .i64 sk), (23, .slice (some ⟨b2, off2, none⟩) n c2), (24, .int .i64 (ii : Int)), (25, .pointer (some ⟨b2, off2 + ii, none⟩)), (26, .int .i64 si), (27, .int .i64 (sk - si)), (8, .pointer (some ⟨bn, 0, none⟩)), (9, a.eval (.tmp 9))] := ea
    have ea3 : a.put (some 9) (.int .i64 (sk - si)) = putted base ([(10, .slice (some ⟨b, off, none⟩) n c), (11, .int .i64 (k : Int)), (12, .pointer (some ⟨b, off + k * 4, none⟩)), (13, .agg #[.bool s1, .int .u64 x1, .int .u64 y1, .pointer p1]), (14, .slice (some ⟨b, off, none⟩) n c), (15, .int .i64 (ii : Int)), (16, .pointer (some ⟨b, off + ii * 4, none⟩)), (17, .agg #[.bool s2, .int .u64 x2, .int .u64 y2, .pointer p2]), (18, a.eval (.tmp 18)), (19, .slice (some ⟨b2, off2, none⟩) n c2), (20, .int .i64 (k : Int)), (21, .pointer (some ⟨b2, off2 + k, none⟩)), (22, .int .i64 sk), (23, .slice (some ⟨b2, off2, none⟩) n c2), (24, .int .i64 (ii : Int)), (25, .pointer (some ⟨b2, off2 + ii, none⟩)), (26, .int .i64 si), (27, .int .i64 (sk - si)), (8, .pointer (some ⟨bn, 0, none⟩)), (9, a.eval (.tmp 9))] ++ [(9, .int .i64 (sk - si))]) := (congrArg (fun z : Act => z.put (some 9) (.int .i64 (sk - si))) ea2).trans (putted_snoc _ _ _ _)
    have hev : a.eval (.tmp 27) = .int .i64 (sk - si) := h.has 17 (by omega) (hall 17 (by omega))
    exact wp_value (run_as _ _ _ _ _ _ _ _ _ hev) (hK _ _ ⟨w, bn, a.eval (.tmp 18), a.eval (.tmp 9), s', x', y', p', ea3, rfl, hdr h.mem, hb1, hb2, hb3⟩)
  · rintro a w ⟨w1, bn, v8, v19, s', x', y', p', rfl, rfl, h1, h2, h3, h4⟩
    exact hQ _ bn v8 v19 s' x' y' p' h1 h2 h3 h4

set_option maxHeartbeats 2000000 in
set_option maxRecDepth 100000 in
theorem or_two (w : World) (b : Nat) (x y : Int) (c0 : w.cell? ⟨b, 0, none⟩ = some (.int .i64 x)) (c1 : w.cell? ⟨b, 1, none⟩ = some (.int .i64 y)) (r : Int) (hr : Hid (r = if x = 0 then y else x)) :
    Calls Tryz.prog 37 #[.slice (some ⟨b, 0, none⟩) 2 2] w fun e w' => e = .returned (.int .i64 r) ∧ w' = w := by
  go_enter Tryz.func37, Tryz.ntmps37
  go_wp2
  go_loopw [8] (fun i wr => ∃ k : Nat, k ≤ 2 ∧ i = .int .i64 (k : Int) ∧ (1 ≤ k → x = 0) ∧ (2 ≤ k → y = 0) ∧ wr = w) (fun i _ => 2 - (intOf i).toNat)
  case atStart => exact ⟨0, by omega, rfl, by omega, by omega, rfl⟩
  case round =>
    obtain ⟨k, hk, rfl, h1, h2, rfl⟩ := hrel
    have : k = 0 ∨ k = 1 ∨ k = 2 := by omega
    rcases this with rfl | rfl | rfl
    · by_cases hx : x = 0
      · subst hx
        go_wp2
        exact ⟨⟨1, by omega, by go_num, by simp, by omega, by simp⟩, by simp [intOf]⟩
      · have hb : (x != 0) = true := by simp [hx]
        have er : r = x := by rw [unhide hr, if_neg hx]
        clear hr
        subst er
        go_wp2
        go_ret
        exact ⟨rfl, rfl⟩
    · have er : r = y := by rw [unhide hr, if_pos (h1 (by omega))]
      obtain rfl := h1 (by omega)
      clear hr
      subst er
      by_cases hy : r = 0
      · obtain rfl := hy
        go_wp2
        exact ⟨⟨2, by omega, by go_num, by simp, by simp, by simp⟩, by simp [intOf]⟩
      · have hb : (r != 0) = true := by simp [hy]
        go_wp2
        go_ret
        exact ⟨rfl, rfl⟩
    · have er : r = 0 := by rw [unhide hr, if_pos (h1 (by omega))]; exact h2 (by omega)
      obtain rfl := h1 (by omega)
      obtain rfl := h2 (by omega)
      clear hr
      subst er
      go_wp2
      go_ret
      exact ⟨rfl, rfl⟩
end Go.Proofs.YtlkpkgajfakdpaaGreat

namespace Go.Proofs.YtlkpkgajfakdpaaGreat
open Go.RowKit

/-- which of two places comes first -/
def cfN (wf : Nat → Rat) (F : Nat → Nat) (one : Rat) (i k : Nat) : Int := if sg (wf k - wf i - one * (((F k : Int) - (F i : Int) : Int) : Rat)) = 0 then (i : Int) - (k : Int) else sg (wf k - wf i - one * (((F k : Int) - (F i : Int) : Int) : Rat))
/-- the slice v holds whole numbers -/
def IntsAt (w : World) (b off n : Nat) (F : Nat → Nat) : Prop := ∀ i, i < n → w.cell? ⟨b, off + i, none⟩ = some (.int .i64 (F i : Int))
theorem IntsAt.but {w w' : World} {b off n : Nat} {F : Nat → Nat} {l : List Nat} (h : IntsAt w b off n F) (hb : But l w w') (hn : b ∉ l) : IntsAt w' b off n F := fun i hi => hb.cell_some (h i hi) hn

set_option maxHeartbeats 4000000 in
set_option maxRecDepth 100000 in
theorem closure_any (W : World) (b off n c b2 off2 c2 g2 g3 g4 : Nat) (ws : List Rat) (F : Nat → Nat) (one : Rat) {so : Bool} {xo yo : Int} {po : Option Addr}
    (cw : W.cell? ⟨g2, 0, none⟩ = some (.slice (some ⟨b, off, none⟩) n c)) (cs : W.cell? ⟨g3, 0, none⟩ = some (.slice (some ⟨b2, off2, none⟩) n c2)) (co : P4 W g4 so xo yo po) (ho : FracAt W (.agg #[.bool so, .int .u64 xo, .int .u64 yo, .pointer po]) one)
    (hws : FracsAt W (.slice (some ⟨b, off, none⟩) n c) ws) (hn : n = ws.length) (hn2 : n ≤ 100) (hl : ∀ f ∈ ws, Len f 1) (hF : IntsAt W b2 off2 n F) (hFl : ∀ i, i < n → F i < 4611686018427387904) (lo : Len one 150)
    (i k : Nat) (hi : i < n) (hk : k < n) (r : Int) (hr : Hid (r = cfN (fun j => ws[j]?.getD 0) F one i k)) :
    Calls Tryz.prog 36 #[.int .i64 (i : Int), .int .i64 (k : Int), .pointer (some ⟨g2, 0, none⟩), .pointer (some ⟨g3, 0, none⟩), .pointer (some ⟨g4, 0, none⟩)] W fun e w' => e = .returned (.int .i64 r) ∧ But [] W w' := by
  obtain ⟨s1, x1, y1, p1, c1, f1⟩ := hws.get k hk
  obtain ⟨s2, x2, y2, p2, c2', f2⟩ := hws.get i hi
  have l1 : Len (ws[k]?.getD 0) 1 := by rw [List.getElem?_eq_getElem (by omega)]; exact hl _ (List.getElem_mem _)
  have l2 : Len (ws[i]?.getD 0) 1 := by rw [List.getElem?_eq_getElem (by omega)]; exact hl _ (List.getElem_mem _)
  have d1 := hF k hk
  have d2 := hF i hi
  have m1 := hFl k hk
  have m2 := hFl i hi
  have SB := hide (fun W' (h : But [] W W') => fracSub_any _ _ _ _ W' (f1.but h) (f2.but h) (l1.mono (by omega)) (l2.mono (by omega)))
  have lf : Len (ws[k]?.getD 0 - ws[i]?.getD 0) 4 := len_sub l1 l2 4 (by omega)
  unfold cfN at hr
  generalize ws[k]?.getD 0 - ws[i]?.getD 0 = f at *
  obtain ⟨z, hz⟩ : ∃ z : Int, z = (F k : Int) - (F i : Int) := ⟨_, rfl⟩
  rw [← hz] at hr
  obtain ⟨q, hq⟩ : ∃ q : Int, q = sg (f - one * ((z : Int) : Rat)) := ⟨_, rfl⟩
  rw [← hq] at hr
  have CT := hide (fun W' v (hv : FracAt W' v f) (h : But [] W W') => cmpTimes_any v _ f one z W' hv (ho.but h) lf lo (by omega) (by omega) q hq)
  have CO := hide co
  clear f1 f2 l1 l2 hws hl hF hFl lf lo ho co hn hq
  go_enter Tryz.func36, Tryz.ntmps36
  go_wp2
  refine cut_region 1 _ _ W W.heap.size b off n c b2 off2 c2 i k (F i : Int) (F k : Int) s1 x1 y1 p1 s2 x2 y2 p2 f (by simp) g2 g3 rfl (by simp [Act.eval]) (by simp [Act.eval]) (by simp [Act.eval]) (by simp [Act.eval]) hk hi (by omega) cw cs c1 c2' d1 d2 (by omega) (by omega) (by omega) (by omega) (unhide SB) ?_
  intro w1 bn v8 v19 s' x' y' p' hb1 hge hp hf
  rw [← hz]
  have HB1 := hide hb1
  have CT1 := hide (unhide CT w1 _ hf hb1)
  obtain ⟨a0, a1, a2, a3⟩ := hp
  obtain ⟨o0, o1, o2, o3⟩ := (unhide CO).but hb1 (by simp)
  clear hb1 hf SB CT CO cw cs c1 c2' d1 d2 hz hge
  simp only [putted, List.foldl_cons, List.foldl_nil, Act.put, List.setIfInBounds_toArray, List.set_cons_zero, List.set_cons_succ]
  go_wp2_with fail
  refine (unhide CT1).mono ?_
  rintro e w2 ⟨rfl, hb2⟩
  have HB2 : Hid (But [] W w2) := (unhide HB1).trans' hb2
  clear hb2 CT1 HB1 a0 a1 a2 a3 o0 o1 o2 o3
  have OR : Hid (∀ (W2 : World) (g : Nat), W2.cell? ⟨g, 0, none⟩ = some (.int .i64 q) → W2.cell? ⟨g, 1, none⟩ = some (.int .i64 ((i : Int) - (k : Int))) → Calls Tryz.prog 37 #[.slice (some ⟨g, 0, none⟩) 2 2] W2 fun e w' => e = .returned (.int .i64 r) ∧ w' = W2) := fun W2 g h0 h1 => or_two W2 g _ _ h0 h1 r hr
  clear hr
  have hw : IntKind.i64.wrap ((i : Int) - (k : Int)) = (i : Int) - (k : Int) := by rw [IntKind.wrap_i64]; omega
  go_wp2_with fail
  refine (unhide OR _ _ (by simp) (by simp)).mono ?_
  rintro e w3 ⟨rfl, rfl⟩
  go_wp2
  go_ret
  exact ⟨rfl, (unhide HB2).alloc _⟩
end Go.Proofs.YtlkpkgajfakdpaaGreat
