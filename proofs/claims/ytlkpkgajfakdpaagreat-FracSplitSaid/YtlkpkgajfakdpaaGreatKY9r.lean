/- Statements of the law FracSplit that draw their order: a share, and how far off it is. -/
import Derived.Test.YtlkpkgajfakdpaaGreatKF9
import Derived.Test.YtlkpkgajfakdpaaGreatKR0
import Derived.Test.YtlkpkgajfakdpaaGreatKR1
import Derived.Test.YtlkpkgajfakdpaaGreatKT2
import Derived.Test.YtlkpkgajfakdpaaGreatKY7p
import Derived.Test.YtlkpkgajfakdpaaGreatKY8
import Derived.Test.YtlkpkgajfakdpaaGreatKYR
namespace Go.Proofs.YtlkpkgajfakdpaaGreat
open Go.RowKit

theorem run_ext0 (a : Act) (w : World) (d t : Nat) (ty : TypeId) (ps : String) (ed : Array Edge) (gd : Option (Nat × Bool)) (u : Value) (h : a.eval (.tmp t) = .tuple #[u, .nilIface]) :
    (execOp a.eval { dst := some d, op := Op.extract (.tmp t) 0, type := ty, pos := ps, after := ed, guard := gd }).run Tryz.prog w = .ok (.value (u)) w := by
  unfold execOp
  simp only [h]
  go_simp
theorem run_ext1 (a : Act) (w : World) (d t : Nat) (ty : TypeId) (ps : String) (ed : Array Edge) (gd : Option (Nat × Bool)) (u : Value) (h : a.eval (.tmp t) = .tuple #[u, .nilIface]) :
    (execOp a.eval { dst := some d, op := Op.extract (.tmp t) 1, type := ty, pos := ps, after := ed, guard := gd }).run Tryz.prog w = .ok (.value (.nilIface)) w := by
  unfold execOp
  simp only [h]
  go_simp
def opQu0 : Oper := { dst := some 67, op := Op.move (Operand.tmp 0), type := 3, pos := "keep.go:105", after := #[], guard := none }
def opQu1 : Oper := { dst := some 68, op := Op.call { callee := Callee.value (Operand.func 6), args := #[Operand.tmp 67], argTypes := #[3] }, type := 33, pos := "keep.go:105", after := #[{ on := 0, ground := Ground.data }], guard := none }
def opQu2 : Oper := { dst := some 69, op := Op.move (Operand.tmp 5), type := 23, pos := "keep.go:105", after := #[], guard := none }
def opQu3 : Oper := { dst := some 70, op := Op.move (Operand.tmp 11), type := 3, pos := "keep.go:105", after := #[], guard := none }
def opQu4 : Oper := { dst := some 71, op := Op.indexAddr 23 (Operand.tmp 69) (Operand.tmp 70), type := 0, pos := "keep.go:105", after := #[{ on := 2, ground := Ground.data }, { on := 3, ground := Ground.data }], guard := none }
def opQu5 : Oper := { dst := some 72, op := Op.load 33 (Operand.tmp 71), type := 33, pos := "keep.go:105", after := #[{ on := 4, ground := Ground.data }], guard := none }
def opQu6 : Oper := { dst := some 73, op := Op.call { callee := Callee.value (Operand.func 8), args := #[Operand.tmp 68, Operand.tmp 72], argTypes := #[33, 33] }, type := 33, pos := "keep.go:105", after := #[{ on := 1, ground := Ground.data }, { on := 5, ground := Ground.data }, { on := 1, ground := Ground.chain }], guard := none }
def opQu7 : Oper := { dst := some 74, op := Op.load 33 (Operand.tmp 9), type := 33, pos := "keep.go:105", after := #[], guard := none }
def opQu8 : Oper := { dst := some 75, op := Op.call { callee := Callee.value (Operand.func 9), args := #[Operand.tmp 73, Operand.tmp 74], argTypes := #[33, 33] }, type := 36, pos := "keep.go:105", after := #[{ on := 6, ground := Ground.data }, { on := 7, ground := Ground.data }, { on := 6, ground := Ground.chain }], guard := none }
def opQu9 : Oper := { dst := some 66, op := Op.move (Operand.tmp 75), type := 36, pos := "keep.go:105", after := #[{ on := 8, ground := Ground.data }], guard := none }
def opQu10 : Oper := { dst := some 76, op := Op.extract (Operand.tmp 66) 0, type := 33, pos := "keep.go:105", after := #[{ on := 9, ground := Ground.data }], guard := none }
def opQu11 : Oper := { dst := some 77, op := Op.extract (Operand.tmp 66) 1, type := 27, pos := "keep.go:105", after := #[{ on := 9, ground := Ground.data }, { on := 13, ground := Ground.gcOnly Departure.lateStores }], guard := none }
def opQu12 : Oper := { dst := some 12, op := Op.alloc 33, type := 0, pos := "keep.go:105", after := #[], guard := none }
def opQu13 : Oper := { dst := none, op := Op.store 33 (Operand.tmp 12) (Operand.tmp 76), type := 0, pos := "keep.go:105", after := #[{ on := 12, ground := Ground.data }, { on := 10, ground := Ground.data }, { on := 8, ground := Ground.chain }, { on := 0, ground := Ground.phase }, { on := 1, ground := Ground.phase }, { on := 2, ground := Ground.phase }, { on := 3, ground := Ground.phase }, { on := 4, ground := Ground.phase }, { on := 5, ground := Ground.phase }, { on := 6, ground := Ground.phase }, { on := 7, ground := Ground.phase }, { on := 8, ground := Ground.phase }, { on := 9, ground := Ground.phase }, { on := 10, ground := Ground.phase }, { on := 11, ground := Ground.textOnly Departure.lateStores }, { on := 12, ground := Ground.phase }], guard := none }
def opQu14 : Oper := { dst := some 13, op := Op.assign (Operand.tmp 77), type := 27, pos := "keep.go:105", after := #[{ on := 11, ground := Ground.data }, { on := 13, ground := Ground.chain }, { on := 0, ground := Ground.phase }, { on := 1, ground := Ground.phase }, { on := 2, ground := Ground.phase }, { on := 3, ground := Ground.phase }, { on := 4, ground := Ground.phase }, { on := 5, ground := Ground.phase }, { on := 6, ground := Ground.phase }, { on := 7, ground := Ground.phase }, { on := 8, ground := Ground.phase }, { on := 9, ground := Ground.phase }, { on := 10, ground := Ground.phase }, { on := 11, ground := Ground.phase }, { on := 12, ground := Ground.phase }, { on := 13, ground := Ground.phase }], guard := none }
def opQus : Array Oper := #[opQu0, opQu1, opQu2, opQu3, opQu4, opQu5, opQu6, opQu7, opQu8, opQu9, opQu10, opQu11, opQu12, opQu13, opQu14]
def opQuT (i : Nat) : Nat := match i with
  | 0 => 67
  | 1 => 68
  | 2 => 69
  | 3 => 70
  | 4 => 71
  | 5 => 72
  | 6 => 73
  | 7 => 74
  | 8 => 75
  | 9 => 66
  | 10 => 76
  | 11 => 77
  | 12 => 12
  | _ => 13
/-- what each operation's value is -/
def opQuC (B : Nat) (U : Int) (b : Nat) (off : Nat) (n : Nat) (c : Nat) (k : Nat) (s1 : Bool) (x1 : Int) (y1 : Int) (p1 : Option Addr) (s2 : Bool) (x2 : Int) (y2 : Int) (p2 : Option Addr) (s3 : Bool) (x3 : Int) (y3 : Int) (p3 : Option Addr) (f0 : Rat) (f : Rat) (i : Nat) (w : World) (v : Value) : Prop := match i with
  | 0 => v = .int .i64 U
  | 1 => v = .agg #[.bool s1, .int .u64 x1, .int .u64 y1, .pointer p1]
  | 2 => v = .slice (some ⟨b, off, none⟩) n c
  | 3 => v = .int .i64 (k : Int)
  | 4 => v = .pointer (some ⟨b, off + k * 4, none⟩)
  | 5 => v = .agg #[.bool s2, .int .u64 x2, .int .u64 y2, .pointer p2]
  | 6 => FracAt w v f0
  | 7 => v = .agg #[.bool s3, .int .u64 x3, .int .u64 y3, .pointer p3]
  | 8 => FracErr f w v
  | 9 => FracErr f w v
  | 10 => FracAt w v f
  | 11 => v = .nilIface
  | 12 => LaidAny B w v
  | _ => True
theorem opQuC_but {B : Nat} {U : Int} {b : Nat} {off : Nat} {n : Nat} {c : Nat} {k : Nat} {s1 : Bool} {x1 : Int} {y1 : Int} {p1 : Option Addr} {s2 : Bool} {x2 : Int} {y2 : Int} {p2 : Option Addr} {s3 : Bool} {x3 : Int} {y3 : Int} {p3 : Option Addr} {f0 : Rat} {f : Rat} {i : Nat} {w w' : World} {v : Value} (h : opQuC B U b off n c k s1 x1 y1 p1 s2 x2 y2 p2 s3 x3 y3 p3 f0 f i w v) (hi : i < 14) (hb : But [] w w') : opQuC B U b off n c k s1 x1 y1 p1 s2 x2 y2 p2 s3 x3 y3 p3 f0 f i w' v := by
  have : i = 0 ∨ i = 1 ∨ i = 2 ∨ i = 3 ∨ i = 4 ∨ i = 5 ∨ i = 6 ∨ i = 7 ∨ i = 8 ∨ i = 9 ∨ i = 10 ∨ i = 11 ∨ i = 12 ∨ i = 13 := by omega
  rcases this with rfl | rfl | rfl | rfl | rfl | rfl | rfl | rfl | rfl | rfl | rfl | rfl | rfl | rfl
  · exact (show v = .int .i64 U from h)
  · exact (show v = .agg #[.bool s1, .int .u64 x1, .int .u64 y1, .pointer p1] from h)
  · exact (show v = .slice (some ⟨b, off, none⟩) n c from h)
  · exact (show v = .int .i64 (k : Int) from h)
  · exact (show v = .pointer (some ⟨b, off + k * 4, none⟩) from h)
  · exact (show v = .agg #[.bool s2, .int .u64 x2, .int .u64 y2, .pointer p2] from h)
  · exact FracAt.but (show FracAt w v f0 from h) hb
  · exact (show v = .agg #[.bool s3, .int .u64 x3, .int .u64 y3, .pointer p3] from h)
  · exact FracErr.but (show FracErr f w v from h) hb
  · exact FracErr.but (show FracErr f w v from h) hb
  · exact FracAt.but (show FracAt w v f from h) hb
  · exact (show v = .nilIface from h)
  · exact LaidAny.but (show LaidAny B w v from h) hb
  · exact trivial
theorem opQuC_put {B : Nat} {U : Int} {b : Nat} {off : Nat} {n : Nat} {c : Nat} {k : Nat} {s1 : Bool} {x1 : Int} {y1 : Int} {p1 : Option Addr} {s2 : Bool} {x2 : Int} {y2 : Int} {p2 : Option Addr} {s3 : Bool} {x3 : Int} {y3 : Int} {p3 : Option Addr} {f0 : Rat} {f : Rat} {i : Nat} {w : World} {v : Value} {g0 : Nat} {s0 : Bool} {x0 y0 : Int} {p0 : Option Addr} (hg : P4 w g0 s0 x0 y0 p0) (s' : Bool) (x' y' : Int) (p' : Option Addr) (h : opQuC B U b off n c k s1 x1 y1 p1 s2 x2 y2 p2 s3 x3 y3 p3 f0 f i w v) (hi : i < 14) : opQuC B U b off n c k s1 x1 y1 p1 s2 x2 y2 p2 s3 x3 y3 p3 f0 f i (put4 w g0 s' x' y' p') v := by
  have : i = 0 ∨ i = 1 ∨ i = 2 ∨ i = 3 ∨ i = 4 ∨ i = 5 ∨ i = 6 ∨ i = 7 ∨ i = 8 ∨ i = 9 ∨ i = 10 ∨ i = 11 ∨ i = 12 ∨ i = 13 := by omega
  rcases this with rfl | rfl | rfl | rfl | rfl | rfl | rfl | rfl | rfl | rfl | rfl | rfl | rfl | rfl
  · exact (show v = .int .i64 U from h)
  · exact (show v = .agg #[.bool s1, .int .u64 x1, .int .u64 y1, .pointer p1] from h)
  · exact (show v = .slice (some ⟨b, off, none⟩) n c from h)
  · exact (show v = .int .i64 (k : Int) from h)
  · exact (show v = .pointer (some ⟨b, off + k * 4, none⟩) from h)
  · exact (show v = .agg #[.bool s2, .int .u64 x2, .int .u64 y2, .pointer p2] from h)
  · exact FracAt.over (show FracAt w v f0 from h) hg.1 (put4_but _ _ _ _ _ _)
  · exact (show v = .agg #[.bool s3, .int .u64 x3, .int .u64 y3, .pointer p3] from h)
  · exact FracErr.put (show FracErr f w v from h) hg _ _ _ _
  · exact FracErr.put (show FracErr f w v from h) hg _ _ _ _
  · exact FracAt.over (show FracAt w v f from h) hg.1 (put4_but _ _ _ _ _ _)
  · exact (show v = .nilIface from h)
  · exact LaidAny.put (show LaidAny B w v from h) hg _ _ _ _
  · exact trivial
theorem opQuT_inj : ∀ i j, i < 14 → j < 14 → opQuT i = opQuT j → i = j := fun i j hi hj => (by decide : ∀ i, i < 14 → ∀ j, j < 14 → opQuT i = opQuT j → i = j) i hi j hj
set_option maxHeartbeats 2000000 in
set_option maxRecDepth 100000 in
theorem quot_region (id : Nat) (Q : Exit → Act → World → Prop) (base : Act) (W0 : World) (B : Nat) (U : Int) (b : Nat) (off : Nat) (n : Nat) (c : Nat) (k : Nat) (s1 : Bool) (x1 : Int) (y1 : Int) (p1 : Option Addr) (s2 : Bool) (x2 : Int) (y2 : Int) (p2 : Option Addr) (s3 : Bool) (x3 : Int) (y3 : Int) (p3 : Option Addr) (f0 : Rat) (f : Rat) (hs : 77 < base.tmps.size) (g9 : Nat) (hBW : B = W0.heap.size) (e0 : base.eval (.tmp 0) = .int .i64 U) (e5 : base.eval (.tmp 5) = .slice (some ⟨b, off, none⟩) n c) (e11 : base.eval (.tmp 11) = .int .i64 (k : Int)) (e9 : base.eval (.tmp 9) = .pointer (some ⟨g9, 0, none⟩))
    (hk' : k < n) (hn : n < 1000000) (c2 : P4o W0 b (off + k * 4) s2 x2 y2 p2) (c3 : P4 W0 g9 s3 x3 y3 p3)
    (WH : ∀ w, Calls Tryz.prog 6 #[.int .i64 U] w fun e w' => e = .returned (.agg #[.bool s1, .int .u64 x1, .int .u64 y1, .pointer p1]) ∧ But [] w w')
    (MU : ∀ w, But [] W0 w → Calls Tryz.prog 8 #[.agg #[.bool s1, .int .u64 x1, .int .u64 y1, .pointer p1], .agg #[.bool s2, .int .u64 x2, .int .u64 y2, .pointer p2]] w fun e w' => ∃ v, e = .returned v ∧ FracAt w' v f0 ∧ But [] w w')
    (DI : ∀ w, But [] W0 w → ∀ v, FracAt w v f0 → Calls Tryz.prog 9 #[v, .agg #[.bool s3, .int .u64 x3, .int .u64 y3, .pointer p3]] w fun e w' => ∃ v, e = .returned (.tuple #[v, .nilIface]) ∧ FracAt w' v f ∧ But [] w w')
    (hQ : ∀ w1 bn v6 v8 v9 v10 v13 s' x' y' p', But [] W0 w1 → B ≤ bn → P4 w1 bn s' x' y' p' → FracAt w1 (.agg #[.bool s', .int .u64 x', .int .u64 y', .pointer p']) (f) → Q .normal (putted base [(67, .int .i64 U), (68, .agg #[.bool s1, .int .u64 x1, .int .u64 y1, .pointer p1]), (69, .slice (some ⟨b, off, none⟩) n c), (70, .int .i64 (k : Int)), (71, .pointer (some ⟨b, off + k * 4, none⟩)), (72, .agg #[.bool s2, .int .u64 x2, .int .u64 y2, .pointer p2]), (73, v6), (74, .agg #[.bool s3, .int .u64 x3, .int .u64 y3, .pointer p3]), (75, v8), (66, v9), (76, v10), (77, .nilIface), (12, .pointer (some ⟨bn, 0, none⟩)), (13, v13), (13, .nilIface)]) w1) :
    (Code.region id opQus true).wp Tryz.prog Q base W0 := by
  have hdr : ∀ {w}, But [] W0.drew w → But [] W0 w := fun h => (But.refl _ _).drew.trans' h
  have hT : ∀ i, i < 14 → opQuT i < base.tmps.size := fun i hi => by
    have h : opQuT i ≤ 77 := by revert i; decide
    omega
  refine region_flow3 (by kernel_rfl) (low_of (by kernel_rfl)) (fun i o ho => (calm_of (ops := opQus) (by kernel_rfl) i o ho).1)
    (opQuC B U b off n c k s1 x1 y1 p1 s2 x2 y2 p2 s3 x3 y3 p3 f0 f) opQuT 14 13 12 (by omega) (Stored B (f)) rfl opQuT_inj hT (fun i w w' v hi h hb => opQuC_but h hi hb) (fun _ _ => trivial) (fun w w' v h hb => h.but hb)
    (fun i hi => ?_) (dep_of (ops := opQus) (ps := [(13, 12)]) (by kernel_rfl) 13 12 (by simp)) ?_ ?_ (fun a w => ∃ w1 bn v6 v8 v9 v10 v13 s' x' y' p', a = putted base [(67, .int .i64 U), (68, .agg #[.bool s1, .int .u64 x1, .int .u64 y1, .pointer p1]), (69, .slice (some ⟨b, off, none⟩) n c), (70, .int .i64 (k : Int)), (71, .pointer (some ⟨b, off + k * 4, none⟩)), (72, .agg #[.bool s2, .int .u64 x2, .int .u64 y2, .pointer p2]), (73, v6), (74, .agg #[.bool s3, .int .u64 x3, .int .u64 y3, .pointer p3]), (75, v8), (66, v9), (76, v10), (77, .nilIface), (12, .pointer (some ⟨bn, 0, none⟩)), (13, v13), (13, .nilIface)] ∧ w = w1 ∧ But [] W0 w1 ∧ B ≤ bn ∧ P4 w1 bn s' x' y' p' ∧ FracAt w1 (.agg #[.bool s', .int .u64 x', .int .u64 y', .pointer p']) (f)) ?_ ?_ (by omega)
  · exact dep_of (ops := opQus) (ps := [(14, 0), (14, 1), (14, 2), (14, 3), (14, 4), (14, 5), (14, 6), (14, 7), (14, 8), (14, 9), (14, 10), (14, 11), (14, 12), (14, 13)]) (by kernel_rfl) 14 i (by
      have : i = 0 ∨ i = 1 ∨ i = 2 ∨ i = 3 ∨ i = 4 ∨ i = 5 ∨ i = 6 ∨ i = 7 ∨ i = 8 ∨ i = 9 ∨ i = 10 ∨ i = 11 ∨ i = 12 ∨ i = 13 := by omega
      rcases this with rfl | rfl | rfl | rfl | rfl | rfl | rfl | rfl | rfl | rfl | rfl | rfl | rfl | rfl <;> simp)
  · intro i o a w K hi hiq ho hH he hdep hK
    have hD := dep_have (ps := [(1, 0), (4, 2), (4, 3), (5, 4), (6, 1), (6, 5), (8, 6), (8, 7), (9, 8), (10, 9), (11, 9), (13, 0), (13, 1), (13, 2), (13, 3), (13, 4), (13, 5), (13, 6), (13, 7), (13, 8), (13, 9), (13, 10), (13, 12)]) (by kernel_rfl) ho (fun j => opQuC B U b off n c k s1 x1 y1 p1 s2 x2 y2 p2 s3 x3 y3 p3 f0 f j w (a.eval (.tmp (opQuT j)))) hdep
    have hk : ∀ v w', But [] w w' → opQuC B U b off n c k s1 x1 y1 p1 s2 x2 y2 p2 s3 x3 y3 p3 f0 f i w' v → K (a.put (some (opQuT i)) v) w' := hK
    have e0' := (he 0 (fun j hj e => absurd e.symm (by revert j; decide))).trans e0
    have e5' := (he 5 (fun j hj e => absurd e.symm (by revert j; decide))).trans e5
    have e11' := (he 11 (fun j hj e => absurd e.symm (by revert j; decide))).trans e11
    have e9' := (he 9 (fun j hj e => absurd e.symm (by revert j; decide))).trans e9
    have : i = 0 ∨ i = 1 ∨ i = 2 ∨ i = 3 ∨ i = 4 ∨ i = 5 ∨ i = 6 ∨ i = 7 ∨ i = 8 ∨ i = 9 ∨ i = 10 ∨ i = 11 ∨ i = 12 ∨ i = 13 := by omega
    rcases this with rfl | rfl | rfl | rfl | rfl | rfl | rfl | rfl | rfl | rfl | rfl | rfl | rfl | rfl
    · obtain rfl := Option.some.inj ((show opQus[0]? = some opQu0 from rfl).symm.trans ho)
      exact wp_value (run_mv a w _ _ _ _ _ _ _ e0') (hk _ _ (But.refl _ _) rfl)
    · obtain rfl := Option.some.inj ((show opQus[1]? = some opQu1 from rfl).symm.trans ho)
      exact wp_enter (run_whole a w _ _ _ _ _ _ _ (hD 0 (by simp))) (R := fun w' v => But [] w w' ∧ v = _) ((WH w).mono fun e w' ⟨he, hb⟩ => ⟨_, he, hb, rfl⟩) (fun v w' hv => hk v w' hv.1 hv.2)
    · obtain rfl := Option.some.inj ((show opQus[2]? = some opQu2 from rfl).symm.trans ho)
      exact wp_value (run_mv a w _ _ _ _ _ _ _ e5') (hk _ _ (But.refl _ _) rfl)
    · obtain rfl := Option.some.inj ((show opQus[3]? = some opQu3 from rfl).symm.trans ho)
      exact wp_value (run_mv a w _ _ _ _ _ _ _ e11') (hk _ _ (But.refl _ _) rfl)
    · obtain rfl := Option.some.inj ((show opQus[4]? = some opQu4 from rfl).symm.trans ho)
      exact wp_value (run_indexF a w _ _ _ _ _ _ _ b off n c k hk' hn (hD 2 (by simp)) (hD 3 (by simp))) (hk _ _ (But.refl _ _) rfl)
    · obtain rfl := Option.some.inj ((show opQus[5]? = some opQu5 from rfl).symm.trans ho)
      exact wp_value (run_loadF a w _ _ _ _ _ _ b _ _ _ _ _ (hD 4 (by simp)) (c2.but (hdr hH) (by simp))) (hk _ _ (But.refl _ _) rfl)
    · obtain rfl := Option.some.inj ((show opQus[6]? = some opQu6 from rfl).symm.trans ho)
      exact wp_enter (run_mulF a w _ _ _ _ _ _ _ _ _ (hD 1 (by simp)) (hD 5 (by simp))) (R := fun w' v => FracAt w' v (f0) ∧ But [] w w') (MU w (hdr hH)) (fun v w' hv => hk v w' hv.2 hv.1)
    · obtain rfl := Option.some.inj ((show opQus[7]? = some opQu7 from rfl).symm.trans ho)
      exact wp_value (run_loadF a w _ _ _ _ _ _ g9 0 _ _ _ _ e9' (c3.but (hdr hH) (by simp))) (hk _ _ (But.refl _ _) rfl)
    · obtain rfl := Option.some.inj ((show opQus[8]? = some opQu8 from rfl).symm.trans ho)
      exact wp_enter (run_divF a w _ _ _ _ _ _ _ _ _ rfl (hD 7 (by simp))) (R := fun w' v => FracErr f w' v ∧ But [] w w') ((DI w (hdr hH) _ (hD 6 (by simp))).mono fun e w' ⟨v, he, hf, hb⟩ => ⟨_, he, ⟨v, rfl, hf⟩, hb⟩) (fun v w' hv => hk v w' hv.2 hv.1)
    · obtain rfl := Option.some.inj ((show opQus[9]? = some opQu9 from rfl).symm.trans ho)
      exact wp_value (run_mv a w _ _ _ _ _ _ _ rfl) (hk _ _ (But.refl _ _) (hD 8 (by simp)))
    · obtain rfl := Option.some.inj ((show opQus[10]? = some opQu10 from rfl).symm.trans ho)
      obtain ⟨u, eu, hu⟩ : FracErr f w _ := (hD 9 (by simp))
      exact wp_value (run_ext0 a w _ _ _ _ _ _ u eu) (hk _ _ (But.refl _ _) hu)
    · obtain rfl := Option.some.inj ((show opQus[11]? = some opQu11 from rfl).symm.trans ho)
      obtain ⟨u, eu, hu⟩ : FracErr f w _ := (hD 9 (by simp))
      exact wp_value (run_ext1 a w _ _ _ _ _ _ u eu) (hk _ _ (But.refl _ _) rfl)
    · obtain rfl := Option.some.inj ((show opQus[12]? = some opQu12 from rfl).symm.trans ho)
      exact wp_value (run_alloc4 a w _ _ _ _ _) (hk _ _ ((But.refl _ _).alloc _) ⟨w.heap.size, rfl, by rw [hBW]; exact (hdr hH).size, ⟨false, 0, 0, none, by simp, by simp, by simp, by simp⟩, fun j => by simp⟩)
    · exact absurd rfl hiq
  · intro o a w K ho hH he hdep hK
    have hD := dep_have (ps := [(13, 12), (13, 10)]) (by kernel_rfl) ho (fun j => opQuC B U b off n c k s1 x1 y1 p1 s2 x2 y2 p2 s3 x3 y3 p3 f0 f j w (a.eval (.tmp (opQuT j)))) hdep
    obtain rfl := Option.some.inj ((show opQus[13]? = some opQu13 from rfl).symm.trans ho)
    have cl : FracAt w (a.eval (.tmp 76)) (f) := hD 10 (by simp)
    obtain ⟨bn, eb, hb1, ⟨s0, x0, y0, p0, hb2⟩, hb3⟩ : LaidAny B w (a.eval (.tmp 12)) := hD 12 (by simp)
    have cl' := cl
    obtain ⟨x', y', p', ev, -⟩ := cl.agg
    rw [ev] at cl'
    exact wp_skipped (run_store4 a w _ _ _ _ _ bn _ x' y' p' eb ev hb2 hb3) (hK _ (hH.trans (put4_but w bn _ x' y' p') (fun x hx => by simp at hx; subst hx; exact .inr (by rw [hBW] at hb1; exact hb1))) (fun j hj u hu => opQuC_put hb2 _ x' y' p' hu hj) ⟨bn, _, x', y', p', eb, hb1, put4_p4 w bn _ x' y' p' hb2, cl'.over hb2.1 (put4_but w bn _ x' y' p')⟩)
  · intro dn o a w K ho hall h hst hK
    obtain rfl := Option.some.inj ((show opQus[14]? = some opQu14 from rfl).symm.trans ho)
    obtain ⟨bn, s', x', y', p', eb, hb1, hb2, hb3⟩ := hst
    have eb : a.eval (.tmp 12) = .pointer (some ⟨bn, 0, none⟩) := eb
    have ea := h.puts hT (fun i => match i with
      | 0 => .int .i64 U
      | 1 => .agg #[.bool s1, .int .u64 x1, .int .u64 y1, .pointer p1]
      | 2 => .slice (some ⟨b, off, none⟩) n c
      | 3 => .int .i64 (k : Int)
      | 4 => .pointer (some ⟨b, off + k * 4, none⟩)
      | 5 => .agg #[.bool s2, .int .u64 x2, .int .u64 y2, .pointer p2]
      | 6 => a.eval (.tmp 73)
      | 7 => .agg #[.bool s3, .int .u64 x3, .int .u64 y3, .pointer p3]
      | 8 => a.eval (.tmp 75)
      | 9 => a.eval (.tmp 66)
      | 10 => a.eval (.tmp 76)
      | 11 => .nilIface
      | 12 => .pointer (some ⟨bn, 0, none⟩)
      | _ => a.eval (.tmp 13)) (fun i hi => by
      have hc := h.has i hi (hall i hi)
      have : i = 0 ∨ i = 1 ∨ i = 2 ∨ i = 3 ∨ i = 4 ∨ i = 5 ∨ i = 6 ∨ i = 7 ∨ i = 8 ∨ i = 9 ∨ i = 10 ∨ i = 11 ∨ i = 12 ∨ i = 13 := by omega
      rcases this with rfl | rfl | rfl | rfl | rfl | rfl | rfl | rfl | rfl | rfl | rfl | rfl | rfl | rfl
      · exact hc
      · exact hc
      · exact hc
      · exact hc
      · exact hc
      · exact hc
      · rfl
      · exact hc
      · rfl
      · rfl
      · rfl
      · exact hc
      · exact eb
      · rfl)
    have ea2 : a = putted base [(67, .int .i64 U), (68, .agg #[.bool s1, .int .u64 x1, .int .u64 y1, .pointer p1]), (69, .slice (some ⟨b, off, none⟩) n c), (70, .int .i64 (k : Int)), (71, .pointer (some ⟨b, off + k * 4, none⟩)), (72, .agg #[.bool s2, .int .u64 x2, .int .u64 y2, .pointer p2]), (73, a.eval (.tmp 73)), (74, .agg #[.bool s3, .int .u64 x3, .int .u64 y3, .pointer p3]), (75, a.eval (.tmp 75)), (66, a.eval (.tmp 66)), (76, a.eval (.tmp 76)), (77, .nilIface), (12, .pointer (some ⟨bn, 0, none⟩)), (13, a.eval (.tmp 13))] := ea
    have ea3 : a.put (some 13) (.nilIface) = putted base ([(67, .int .i64 U), (68, .agg #[.bool s1, .int .u64 x1, .int .u64 y1, .pointer p1]), (69, .slice (some ⟨b, off, none⟩) n c), (70, .int .i64 (k : Int)), (71, .pointer (some ⟨b, off + k * 4, none⟩)), (72, .agg #[.bool s2, .int .u64 x2, .int .u64 y2, .pointer p2]), (73, a.eval (.tmp 73)), (74, .agg #[.bool s3, .int .u64 x3, .int .u64 y3, .pointer p3]), (75, a.eval (.tmp 75)), (66, a.eval (.tmp 66)), (76, a.eval (.tmp 76)), (77, .nilIface), (12, .pointer (some ⟨bn, 0, none⟩)), (13, a.eval (.tmp 13))] ++ [(13, .nilIface)]) := (congrArg (fun z : Act => z.put (some 13) (.nilIface)) ea2).trans (putted_snoc _ _ _ _)
    have hev : a.eval (.tmp 77) = .nilIface := h.has 11 (by omega) (hall 11 (by omega))
    exact wp_value (run_as _ _ _ _ _ _ _ _ _ hev) (hK _ _ ⟨w, bn, a.eval (.tmp 73), a.eval (.tmp 75), a.eval (.tmp 66), a.eval (.tmp 76), a.eval (.tmp 13), s', x', y', p', ea3, rfl, hdr h.mem, hb1, hb2, hb3⟩)
  · rintro a w ⟨w1, bn, v6, v8, v9, v10, v13, s', x', y', p', rfl, rfl, h1, h2, h3, h4⟩
    exact hQ _ bn v6 v8 v9 v10 v13 s' x' y' p' h1 h2 h3 h4
def opOf0 : Oper := { dst := some 78, op := Op.load 33 (Operand.tmp 12), type := 33, pos := "keep.go:106", after := #[], guard := none }
def opOf1 : Oper := { dst := some 79, op := Op.move (Operand.tmp 8), type := 25, pos := "keep.go:106", after := #[], guard := none }
def opOf2 : Oper := { dst := some 80, op := Op.move (Operand.tmp 11), type := 3, pos := "keep.go:106", after := #[], guard := none }
def opOf3 : Oper := { dst := some 81, op := Op.indexAddr 25 (Operand.tmp 79) (Operand.tmp 80), type := 0, pos := "keep.go:106", after := #[{ on := 1, ground := Ground.data }, { on := 2, ground := Ground.data }], guard := none }
def opOf4 : Oper := { dst := some 82, op := Op.load 3 (Operand.tmp 81), type := 3, pos := "keep.go:106", after := #[{ on := 3, ground := Ground.data }], guard := none }
def opOf5 : Oper := { dst := some 83, op := Op.call { callee := Callee.value (Operand.func 6), args := #[Operand.tmp 82], argTypes := #[3] }, type := 33, pos := "keep.go:106", after := #[{ on := 4, ground := Ground.data }], guard := none }
def opOf6 : Oper := { dst := some 84, op := Op.call { callee := Callee.value (Operand.func 10), args := #[Operand.tmp 78, Operand.tmp 83], argTypes := #[33, 33] }, type := 33, pos := "keep.go:106", after := #[{ on := 0, ground := Ground.data }, { on := 5, ground := Ground.data }, { on := 5, ground := Ground.chain }], guard := none }
def opOf7 : Oper := { dst := some 14, op := Op.alloc 33, type := 0, pos := "keep.go:106", after := #[], guard := none }
def opOf8 : Oper := { dst := none, op := Op.store 33 (Operand.tmp 14) (Operand.tmp 84), type := 0, pos := "keep.go:106", after := #[{ on := 7, ground := Ground.data }, { on := 6, ground := Ground.data }, { on := 6, ground := Ground.chain }, { on := 0, ground := Ground.phase }, { on := 1, ground := Ground.phase }, { on := 2, ground := Ground.phase }, { on := 3, ground := Ground.phase }, { on := 4, ground := Ground.phase }, { on := 5, ground := Ground.phase }, { on := 6, ground := Ground.phase }, { on := 7, ground := Ground.phase }], guard := none }
def opOfs : Array Oper := #[opOf0, opOf1, opOf2, opOf3, opOf4, opOf5, opOf6, opOf7, opOf8]
def opOfT (i : Nat) : Nat := match i with
  | 0 => 78
  | 1 => 79
  | 2 => 80
  | 3 => 81
  | 4 => 82
  | 5 => 83
  | 6 => 84
  | _ => 14
/-- what each operation's value is -/
def opOfC (B : Nat) (b2 : Nat) (n : Nat) (c2 : Nat) (k : Nat) (l : Int) (s1 : Bool) (x1 : Int) (y1 : Int) (p1 : Option Addr) (s2 : Bool) (x2 : Int) (y2 : Int) (p2 : Option Addr) (f : Rat) (i : Nat) (w : World) (v : Value) : Prop := match i with
  | 0 => v = .agg #[.bool s1, .int .u64 x1, .int .u64 y1, .pointer p1]
  | 1 => v = .slice (some ⟨b2, 0, none⟩) n c2
  | 2 => v = .int .i64 (k : Int)
  | 3 => v = .pointer (some ⟨b2, 0 + k, none⟩)
  | 4 => v = .int .i64 l
  | 5 => v = .agg #[.bool s2, .int .u64 x2, .int .u64 y2, .pointer p2]
  | 6 => FracAt w v f
  | _ => Laid4 B w v
theorem opOfC_but {B : Nat} {b2 : Nat} {n : Nat} {c2 : Nat} {k : Nat} {l : Int} {s1 : Bool} {x1 : Int} {y1 : Int} {p1 : Option Addr} {s2 : Bool} {x2 : Int} {y2 : Int} {p2 : Option Addr} {f : Rat} {i : Nat} {w w' : World} {v : Value} (h : opOfC B b2 n c2 k l s1 x1 y1 p1 s2 x2 y2 p2 f i w v) (hi : i < 8) (hb : But [] w w') : opOfC B b2 n c2 k l s1 x1 y1 p1 s2 x2 y2 p2 f i w' v := by
  have : i = 0 ∨ i = 1 ∨ i = 2 ∨ i = 3 ∨ i = 4 ∨ i = 5 ∨ i = 6 ∨ i = 7 := by omega
  rcases this with rfl | rfl | rfl | rfl | rfl | rfl | rfl | rfl
  all_goals first | exact h | exact FracAt.but h hb | exact FracsAt.but h hb | exact Laid4.but h hb | exact FracErr.but h hb
theorem opOfT_inj : ∀ i j, i < 8 → j < 8 → opOfT i = opOfT j → i = j := fun i j hi hj => (by decide : ∀ i, i < 8 → ∀ j, j < 8 → opOfT i = opOfT j → i = j) i hi j hj
set_option maxRecDepth 100000 in
theorem off_region (id : Nat) (Q : Exit → Act → World → Prop) (base : Act) (W0 : World) (B : Nat) (b2 : Nat) (n : Nat) (c2 : Nat) (k : Nat) (l : Int) (s1 : Bool) (x1 : Int) (y1 : Int) (p1 : Option Addr) (s2 : Bool) (x2 : Int) (y2 : Int) (p2 : Option Addr) (f : Rat) (hs : 84 < base.tmps.size) (g12 : Nat) (hBW : B ≤ W0.heap.size) (e12 : base.eval (.tmp 12) = .pointer (some ⟨g12, 0, none⟩)) (e8 : base.eval (.tmp 8) = .slice (some ⟨b2, 0, none⟩) n c2) (e11 : base.eval (.tmp 11) = .int .i64 (k : Int))
    (hk' : k < n) (hn : n < 1000000) (c1 : P4 W0 g12 s1 x1 y1 p1) (d1 : W0.cell? ⟨b2, 0 + k, none⟩ = some (.int .i64 l))
    (WH : ∀ w, Calls Tryz.prog 6 #[.int .i64 l] w fun e w' => e = .returned (.agg #[.bool s2, .int .u64 x2, .int .u64 y2, .pointer p2]) ∧ But [] w w')
    (SB : ∀ w, But [] W0 w → Calls Tryz.prog 10 #[.agg #[.bool s1, .int .u64 x1, .int .u64 y1, .pointer p1], .agg #[.bool s2, .int .u64 x2, .int .u64 y2, .pointer p2]] w fun e w' => ∃ v, e = .returned v ∧ FracAt w' v f ∧ But [] w w')
    (hQ : ∀ w1 bn s' x' y' p', But [] W0 w1 → B ≤ bn → P4 w1 bn false 0 0 none → (∀ j, w1.frozen? ⟨bn, j, none⟩ = false) → FracAt w1 (.agg #[.bool s', .int .u64 x', .int .u64 y', .pointer p']) (f) → Q .normal (putted base [(78, .agg #[.bool s1, .int .u64 x1, .int .u64 y1, .pointer p1]), (79, .slice (some ⟨b2, 0, none⟩) n c2), (80, .int .i64 (k : Int)), (81, .pointer (some ⟨b2, 0 + k, none⟩)), (82, .int .i64 l), (83, .agg #[.bool s2, .int .u64 x2, .int .u64 y2, .pointer p2]), (84, (.agg #[.bool s', .int .u64 x', .int .u64 y', .pointer p'])), (14, .pointer (some ⟨bn, 0, none⟩))]) (put4 w1 bn s' x' y' p')) :
    (Code.region id opOfs true).wp Tryz.prog Q base W0 := by
  have hdr : ∀ {w}, But [] W0.drew w → But [] W0 w := fun h => (But.refl _ _).drew.trans' h
  have hT : ∀ i, i < 8 → opOfT i < base.tmps.size := fun i hi => by
    have h : opOfT i ≤ 84 := by revert i; decide
    omega
  refine region_flow (by kernel_rfl) (low_of (by kernel_rfl)) (fun i o ho => (calm_of (ops := opOfs) (by kernel_rfl) i o ho).1)
    (fun _ w => But [] W0.drew w) (opOfC B b2 n c2 k l s1 x1 y1 p1 s2 x2 y2 p2 f) opOfT 8 rfl opOfT_inj hT (But.refl _ _)
    (fun i hi => ?_) ?_ (fun a w => ∃ w1 bn s' x' y' p', a = putted base [(78, .agg #[.bool s1, .int .u64 x1, .int .u64 y1, .pointer p1]), (79, .slice (some ⟨b2, 0, none⟩) n c2), (80, .int .i64 (k : Int)), (81, .pointer (some ⟨b2, 0 + k, none⟩)), (82, .int .i64 l), (83, .agg #[.bool s2, .int .u64 x2, .int .u64 y2, .pointer p2]), (84, (.agg #[.bool s', .int .u64 x', .int .u64 y', .pointer p'])), (14, .pointer (some ⟨bn, 0, none⟩))] ∧ w = put4 w1 bn s' x' y' p' ∧ But [] W0 w1 ∧ B ≤ bn ∧ P4 w1 bn false 0 0 none ∧ (∀ j, w1.frozen? ⟨bn, j, none⟩ = false) ∧ FracAt w1 (.agg #[.bool s', .int .u64 x', .int .u64 y', .pointer p']) (f)) ?_ ?_
  · exact dep_of (ops := opOfs) (ps := [(8, 0), (8, 1), (8, 2), (8, 3), (8, 4), (8, 5), (8, 6), (8, 7)]) (by kernel_rfl) 8 i (by
      have : i = 0 ∨ i = 1 ∨ i = 2 ∨ i = 3 ∨ i = 4 ∨ i = 5 ∨ i = 6 ∨ i = 7 := by omega
      rcases this with rfl | rfl | rfl | rfl | rfl | rfl | rfl | rfl <;> simp)
  · intro dn i o a w K hi ho hdi hH he hdep hK
    have hD := fun j hj => (dep_have (ps := [(3, 1), (3, 2), (4, 3), (5, 4), (6, 0), (6, 5)]) (by kernel_rfl) ho (fun j => dn j = true ∧ opOfC B b2 n c2 k l s1 x1 y1 p1 s2 x2 y2 p2 f j w (a.eval (.tmp (opOfT j)))) hdep j hj).2
    have hk : ∀ v w', But [] w w' → opOfC B b2 n c2 k l s1 x1 y1 p1 s2 x2 y2 p2 f i w' v → K (a.put (some (opOfT i)) v) w' := fun v w' hb hv => hK v w' (hH.trans' hb) (fun j hj _ u hu => opOfC_but hu hj hb) hv
    have e12' := (he 12 (fun j hj e => absurd e.symm (by revert j; decide))).trans e12
    have e8' := (he 8 (fun j hj e => absurd e.symm (by revert j; decide))).trans e8
    have e11' := (he 11 (fun j hj e => absurd e.symm (by revert j; decide))).trans e11
    have : i = 0 ∨ i = 1 ∨ i = 2 ∨ i = 3 ∨ i = 4 ∨ i = 5 ∨ i = 6 ∨ i = 7 := by omega
    rcases this with rfl | rfl | rfl | rfl | rfl | rfl | rfl | rfl
    · obtain rfl := Option.some.inj ((show opOfs[0]? = some opOf0 from rfl).symm.trans ho)
      exact wp_value (run_loadF a w _ _ _ _ _ _ g12 0 _ _ _ _ e12' (c1.but (hdr hH) (by simp))) (hk _ _ (But.refl _ _) rfl)
    · obtain rfl := Option.some.inj ((show opOfs[1]? = some opOf1 from rfl).symm.trans ho)
      exact wp_value (run_mv a w _ _ _ _ _ _ _ e8') (hk _ _ (But.refl _ _) rfl)
    · obtain rfl := Option.some.inj ((show opOfs[2]? = some opOf2 from rfl).symm.trans ho)
      exact wp_value (run_mv a w _ _ _ _ _ _ _ e11') (hk _ _ (But.refl _ _) rfl)
    · obtain rfl := Option.some.inj ((show opOfs[3]? = some opOf3 from rfl).symm.trans ho)
      exact wp_value (run_indexI a w _ _ _ _ _ _ _ b2 0 n c2 k hk' hn (hD 1 (by simp)) (hD 2 (by simp))) (hk _ _ (But.refl _ _) rfl)
    · obtain rfl := Option.some.inj ((show opOfs[4]? = some opOf4 from rfl).symm.trans ho)
      exact wp_value (run_loadI a w _ _ _ _ _ _ b2 _ _ (hD 3 (by simp)) ((hdr hH).cell_some d1 (by simp))) (hk _ _ (But.refl _ _) rfl)
    · obtain rfl := Option.some.inj ((show opOfs[5]? = some opOf5 from rfl).symm.trans ho)
      exact wp_enter (run_whole a w _ _ _ _ _ _ _ (hD 4 (by simp))) (R := fun w' v => But [] w w' ∧ v = _) ((WH w).mono fun e w' ⟨he, hb⟩ => ⟨_, he, hb, rfl⟩) (fun v w' hv => hk v w' hv.1 hv.2)
    · obtain rfl := Option.some.inj ((show opOfs[6]? = some opOf6 from rfl).symm.trans ho)
      exact wp_enter (run_subF a w _ _ _ _ _ _ _ _ _ (hD 0 (by simp)) (hD 5 (by simp))) (R := fun w' v => FracAt w' v (f) ∧ But [] w w') (SB w (hdr hH)) (fun v w' hv => hk v w' hv.2 hv.1)
    · obtain rfl := Option.some.inj ((show opOfs[7]? = some opOf7 from rfl).symm.trans ho)
      exact wp_value (run_alloc4 a w _ _ _ _ _) (hk _ _ ((But.refl _ _).alloc _) ⟨w.heap.size, rfl, Nat.le_trans hBW (hdr hH).size, ⟨by simp, by simp, by simp, by simp⟩, fun j => by simp⟩)
  · intro dn o a w K ho hall h hK
    obtain rfl := Option.some.inj ((show opOfs[8]? = some opOf8 from rfl).symm.trans ho)
    have cl : FracAt w (a.eval (.tmp 84)) (f) := h.has 6 (by omega) (hall 6 (by omega))
    obtain ⟨bn, eb, hb1, hb2, hb3⟩ : Laid4 B w (a.eval (.tmp 14)) := h.has 7 (by omega) (hall 7 (by omega))
    have cl' := cl
    obtain ⟨x', y', p', ev, -⟩ := cl.agg
    rw [ev] at cl'
    have ea := h.puts hT (fun i => match i with
      | 0 => .agg #[.bool s1, .int .u64 x1, .int .u64 y1, .pointer p1]
      | 1 => .slice (some ⟨b2, 0, none⟩) n c2
      | 2 => .int .i64 (k : Int)
      | 3 => .pointer (some ⟨b2, 0 + k, none⟩)
      | 4 => .int .i64 l
      | 5 => .agg #[.bool s2, .int .u64 x2, .int .u64 y2, .pointer p2]
      | 6 => .agg #[.bool (decide ((f).num < 0)), .int .u64 x', .int .u64 y', .pointer p']
      | _ => .pointer (some ⟨bn, 0, none⟩)) (fun i hi => by
      have hc := h.has i hi (hall i hi)
      have : i = 0 ∨ i = 1 ∨ i = 2 ∨ i = 3 ∨ i = 4 ∨ i = 5 ∨ i = 6 ∨ i = 7 := by omega
      rcases this with rfl | rfl | rfl | rfl | rfl | rfl | rfl | rfl
      all_goals first | exact ev | exact eb | exact hc | rfl)
    exact wp_skipped (run_store4 a w _ _ _ _ _ bn _ x' y' p' eb ev hb2 hb3) (hK _ _ ⟨w, bn, _, x', y', p', ea, rfl, hdr h.mem, hb1, hb2, hb3, cl'⟩)
  · rintro a w ⟨w1, bn, s', x', y', p', rfl, rfl, h1, h2, h3, h4, h5⟩
    exact hQ  w1 bn s' x' y' p' h1 h2 h3 h4 h5
end Go.Proofs.YtlkpkgajfakdpaaGreat

namespace Go.Proofs.YtlkpkgajfakdpaaGreat
open Go.RowKit

theorem run_nenil (a : Act) (w : World) (d t : Nat) (u : TypeId) (ps : String) (ed : Array Edge) (gd : Option (Nat × Bool)) (h : a.eval (.tmp t) = .nilIface) :
    (execOp a.eval { dst := some d, op := Op.binOp BinOp.neq 27 (.tmp t) (.const .nilIface) 27, type := u, pos := ps, after := ed, guard := gd }).run Tryz.prog w = .ok (.value (.bool false)) w := by
  have e : a.eval (.const (.nilIface)) = .nilIface := rfl
  unfold execOp
  simp only [h, e]
  go_simp
theorem run_lss0 (a : Act) (w : World) (d t : Nat) (u : TypeId) (ps : String) (ed : Array Edge) (gd : Option (Nat × Bool)) (x : Int) (hx : ¬ x < 0) (h : a.eval (.tmp t) = .int .i64 x) :
    (execOp a.eval { dst := some d, op := Op.binOp BinOp.lss 3 (.tmp t) (.const (.int .i64 0)) 3, type := u, pos := ps, after := ed, guard := gd }).run Tryz.prog w = .ok (.value (.bool false)) w := by
  have e : a.eval (.const (.int .i64 0)) = .int .i64 0 := rfl
  unfold execOp
  simp only [h, e]
  go_simp
theorem run_geq0 (a : Act) (w : World) (d t : Nat) (u : TypeId) (ps : String) (ed : Array Edge) (gd : Option (Nat × Bool)) (x : Int) (hx : x < 0) (h : a.eval (.tmp t) = .int .i64 x) :
    (execOp a.eval { dst := some d, op := Op.binOp BinOp.geq 3 (.tmp t) (.const (.int .i64 0)) 3, type := u, pos := ps, after := ed, guard := gd }).run Tryz.prog w = .ok (.value (.bool false)) w := by
  have e : a.eval (.const (.int .i64 0)) = .int .i64 0 := rfl
  unfold execOp
  simp only [h, e]
  go_simp
theorem run_leq0 (a : Act) (w : World) (d t : Nat) (u : TypeId) (ps : String) (ed : Array Edge) (gd : Option (Nat × Bool)) (x : Int) (hx : 0 < x) (h : a.eval (.tmp t) = .int .i64 x) :
    (execOp a.eval { dst := some d, op := Op.binOp BinOp.leq 3 (.tmp t) (.const (.int .i64 0)) 3, type := u, pos := ps, after := ed, guard := gd }).run Tryz.prog w = .ok (.value (.bool false)) w := by
  have e : a.eval (.const (.int .i64 0)) = .int .i64 0 := rfl
  unfold execOp
  simp only [h, e]
  go_simp
theorem run_gtr0 (a : Act) (w : World) (d t : Nat) (u : TypeId) (ps : String) (ed : Array Edge) (gd : Option (Nat × Bool)) (x : Int) (g : Bool) (hg : decide (x > 0) = g) (h : a.eval (.tmp t) = .int .i64 x) :
    (execOp a.eval { dst := some d, op := Op.binOp BinOp.gtr 3 (.tmp t) (.const (.int .i64 0)) 3, type := u, pos := ps, after := ed, guard := gd }).run Tryz.prog w = .ok (.value (.bool g)) w := by
  have e : a.eval (.const (.int .i64 0)) = .int .i64 0 := rfl
  unfold execOp
  simp only [h, e]
  subst hg
  go_simp
theorem run_lssI (a : Act) (w : World) (d t1 t2 : Nat) (u : TypeId) (ps : String) (ed : Array Edge) (gd : Option (Nat × Bool)) (x y : Int) (hx : ¬ x < y) (h1 : a.eval (.tmp t1) = .int .i64 x) (h2 : a.eval (.tmp t2) = .int .i64 y) :
    (execOp a.eval { dst := some d, op := Op.binOp BinOp.lss 3 (.tmp t1) (.tmp t2) 3, type := u, pos := ps, after := ed, guard := gd }).run Tryz.prog w = .ok (.value (.bool false)) w := by
  unfold execOp
  simp only [h1, h2]
  go_simp
theorem run_pickT (a : Act) (w : World) (d t1 t2 : Nat) (u : TypeId) (ps : String) (ed : Array Edge) (gd : Option (Nat × Bool)) (v : Value) (h1 : a.eval (.tmp t1) = .bool false) (h2 : a.eval (.tmp t2) = v) :
    (execOp a.eval { dst := some d, op := Op.pick (.tmp t1) (.const (.bool true)) (.tmp t2), type := u, pos := ps, after := ed, guard := gd }).run Tryz.prog w = .ok (.value v) w := by
  unfold execOp
  simp only [h1, h2]
  go_simp
theorem run_pickF (a : Act) (w : World) (d t1 t2 : Nat) (u : TypeId) (ps : String) (ed : Array Edge) (gd : Option (Nat × Bool)) (g : Bool) (v : Value) (h1 : a.eval (.tmp t1) = .bool g) (h2 : a.eval (.tmp t2) = v) (hv : g = true → v = .bool false) :
    (execOp a.eval { dst := some d, op := Op.pick (.tmp t1) (.tmp t2) (.const (.bool false)), type := u, pos := ps, after := ed, guard := gd }).run Tryz.prog w = .ok (.value (.bool false)) w := by
  unfold execOp
  simp only [h1, h2]
  cases g with
  | true => rw [hv rfl]; go_simp
  | false => go_simp
theorem run_whole1 (a : Act) (w : World) (d : Nat) (u : TypeId) (ps : String) (ed : Array Edge) (gd : Option (Nat × Bool)) :
    (execOp a.eval { dst := some d, op := Op.call { callee := Callee.value (Operand.func 6), args := #[Operand.const (Value.int IntKind.i64 1)], argTypes := #[3] }, type := u, pos := ps, after := ed, guard := gd }).run Tryz.prog w = .ok (.enter 6 #[.int .i64 1]) w := by
  unfold execOp
  go_simp
theorem run_wholem1 (a : Act) (w : World) (d : Nat) (u : TypeId) (ps : String) (ed : Array Edge) (gd : Option (Nat × Bool)) :
    (execOp a.eval { dst := some d, op := Op.call { callee := Callee.value (Operand.func 6), args := #[Operand.const (Value.int IntKind.i64 (-1))], argTypes := #[3] }, type := u, pos := ps, after := ed, guard := gd }).run Tryz.prog w = .ok (.enter 6 #[.int .i64 (-1)]) w := by
  unfold execOp
  go_simp
def opNe0 : Oper := { dst := some 85, op := Op.move (Operand.tmp 13), type := 27, pos := "keep.go:107", after := #[], guard := none }
def opNe1 : Oper := { dst := some 86, op := Op.binOp BinOp.neq 27 (Operand.tmp 85) (Operand.const Value.nilIface) 27, type := 4, pos := "keep.go:107", after := #[{ on := 0, ground := Ground.data }], guard := none }
def opNe2 : Oper := { dst := some 87, op := Op.move (Operand.tmp 86), type := 4, pos := "keep.go:107", after := #[{ on := 1, ground := Ground.data }], guard := none }
def opNe3 : Oper := { dst := some 88, op := Op.move (Operand.tmp 8), type := 25, pos := "keep.go:107", after := #[{ on := 2, ground := Ground.guard }], guard := some (2, false) }
def opNe4 : Oper := { dst := some 89, op := Op.move (Operand.tmp 11), type := 3, pos := "keep.go:107", after := #[{ on := 2, ground := Ground.guard }], guard := some (2, false) }
def opNe5 : Oper := { dst := some 90, op := Op.indexAddr 25 (Operand.tmp 88) (Operand.tmp 89), type := 0, pos := "keep.go:107", after := #[{ on := 3, ground := Ground.data }, { on := 4, ground := Ground.data }, { on := 2, ground := Ground.guard }], guard := some (2, false) }
def opNe6 : Oper := { dst := some 91, op := Op.load 3 (Operand.tmp 90), type := 3, pos := "keep.go:107", after := #[{ on := 5, ground := Ground.data }, { on := 2, ground := Ground.guard }], guard := some (2, false) }
def opNe7 : Oper := { dst := some 92, op := Op.binOp BinOp.lss 3 (Operand.tmp 91) (Operand.const (Value.int IntKind.i64 0)) 3, type := 4, pos := "keep.go:107", after := #[{ on := 6, ground := Ground.data }, { on := 2, ground := Ground.guard }], guard := some (2, false) }
def opNe8 : Oper := { dst := some 93, op := Op.pick (Operand.tmp 87) (Operand.const (Value.bool true)) (Operand.tmp 92), type := 4, pos := "keep.go:107", after := #[{ on := 2, ground := Ground.data }, { on := 7, ground := Ground.data }], guard := none }
def opNe9 : Oper := { dst := some 94, op := Op.move (Operand.tmp 93), type := 4, pos := "keep.go:107", after := #[{ on := 8, ground := Ground.data }, { on := 2, ground := Ground.chain }], guard := none }
def opNe10 : Oper := { dst := some 95, op := Op.load 33 (Operand.tmp 14), type := 33, pos := "keep.go:107", after := #[{ on := 9, ground := Ground.guard }], guard := some (9, false) }
def opNe11 : Oper := { dst := some 96, op := Op.call { callee := Callee.value (Operand.func 6), args := #[Operand.const (Value.int IntKind.i64 1)], argTypes := #[3] }, type := 33, pos := "keep.go:107", after := #[{ on := 9, ground := Ground.chain }, { on := 9, ground := Ground.guard }], guard := some (9, false) }
def opNe12 : Oper := { dst := some 97, op := Op.call { callee := Callee.value (Operand.func 11), args := #[Operand.tmp 95, Operand.tmp 96], argTypes := #[33, 33] }, type := 3, pos := "keep.go:107", after := #[{ on := 10, ground := Ground.data }, { on := 11, ground := Ground.data }, { on := 11, ground := Ground.chain }, { on := 9, ground := Ground.guard }], guard := some (9, false) }
def opNe13 : Oper := { dst := some 98, op := Op.binOp BinOp.geq 3 (Operand.tmp 97) (Operand.const (Value.int IntKind.i64 0)) 3, type := 4, pos := "keep.go:107", after := #[{ on := 12, ground := Ground.data }, { on := 9, ground := Ground.guard }], guard := some (9, false) }
def opNe14 : Oper := { dst := some 99, op := Op.pick (Operand.tmp 94) (Operand.const (Value.bool true)) (Operand.tmp 98), type := 4, pos := "keep.go:107", after := #[{ on := 9, ground := Ground.data }, { on := 13, ground := Ground.data }], guard := none }
def opNe15 : Oper := { dst := some 100, op := Op.move (Operand.tmp 99), type := 4, pos := "keep.go:107", after := #[{ on := 14, ground := Ground.data }, { on := 12, ground := Ground.chain }], guard := none }
def opNe16 : Oper := { dst := some 101, op := Op.load 33 (Operand.tmp 14), type := 33, pos := "keep.go:107", after := #[{ on := 15, ground := Ground.guard }], guard := some (15, false) }
def opNe17 : Oper := { dst := some 102, op := Op.call { callee := Callee.value (Operand.func 6), args := #[Operand.const (Value.int IntKind.i64 (-1))], argTypes := #[3] }, type := 33, pos := "keep.go:107", after := #[{ on := 15, ground := Ground.chain }, { on := 15, ground := Ground.guard }], guard := some (15, false) }
def opNe18 : Oper := { dst := some 103, op := Op.call { callee := Callee.value (Operand.func 11), args := #[Operand.tmp 101, Operand.tmp 102], argTypes := #[33, 33] }, type := 3, pos := "keep.go:107", after := #[{ on := 16, ground := Ground.data }, { on := 17, ground := Ground.data }, { on := 17, ground := Ground.chain }, { on := 15, ground := Ground.guard }], guard := some (15, false) }
def opNe19 : Oper := { dst := some 104, op := Op.binOp BinOp.leq 3 (Operand.tmp 103) (Operand.const (Value.int IntKind.i64 0)) 3, type := 4, pos := "keep.go:107", after := #[{ on := 18, ground := Ground.data }, { on := 15, ground := Ground.guard }], guard := some (15, false) }
def opNe20 : Oper := { dst := some 105, op := Op.pick (Operand.tmp 100) (Operand.const (Value.bool true)) (Operand.tmp 104), type := 4, pos := "keep.go:107", after := #[{ on := 15, ground := Ground.data }, { on := 19, ground := Ground.data }], guard := none }
def opNes : Array Oper := #[opNe0, opNe1, opNe2, opNe3, opNe4, opNe5, opNe6, opNe7, opNe8, opNe9, opNe10, opNe11, opNe12, opNe13, opNe14, opNe15, opNe16, opNe17, opNe18, opNe19, opNe20]
def opNeT (i : Nat) : Nat := match i with
  | 0 => 85
  | 1 => 86
  | 2 => 87
  | 3 => 88
  | 4 => 89
  | 5 => 90
  | 6 => 91
  | 7 => 92
  | 8 => 93
  | 9 => 94
  | 10 => 95
  | 11 => 96
  | 12 => 97
  | 13 => 98
  | 14 => 99
  | 15 => 100
  | 16 => 101
  | 17 => 102
  | 18 => 103
  | 19 => 104
  | _ => 105
/-- what each operation's value is -/
def opNeC (b2 : Nat) (n : Nat) (c2 : Nat) (k : Nat) (l : Int) (s1 : Bool) (x1 : Int) (y1 : Int) (p1 : Option Addr) (s2 : Bool) (x2 : Int) (y2 : Int) (p2 : Option Addr) (s3 : Bool) (x3 : Int) (y3 : Int) (p3 : Option Addr) (i : Nat) (_w : World) (v : Value) : Prop := match i with
  | 0 => v = .nilIface
  | 1 => v = .bool false
  | 2 => v = .bool false
  | 3 => v = .slice (some ⟨b2, 0, none⟩) n c2
  | 4 => v = .int .i64 (k : Int)
  | 5 => v = .pointer (some ⟨b2, 0 + k, none⟩)
  | 6 => v = .int .i64 l
  | 7 => v = .bool false
  | 8 => v = .bool false
  | 9 => v = .bool false
  | 10 => v = .agg #[.bool s1, .int .u64 x1, .int .u64 y1, .pointer p1]
  | 11 => v = .agg #[.bool s2, .int .u64 x2, .int .u64 y2, .pointer p2]
  | 12 => v = .int .i64 (-1)
  | 13 => v = .bool false
  | 14 => v = .bool false
  | 15 => v = .bool false
  | 16 => v = .agg #[.bool s1, .int .u64 x1, .int .u64 y1, .pointer p1]
  | 17 => v = .agg #[.bool s3, .int .u64 x3, .int .u64 y3, .pointer p3]
  | 18 => v = .int .i64 1
  | 19 => v = .bool false
  | _ => v = .bool false
theorem opNeC_but {b2 : Nat} {n : Nat} {c2 : Nat} {k : Nat} {l : Int} {s1 : Bool} {x1 : Int} {y1 : Int} {p1 : Option Addr} {s2 : Bool} {x2 : Int} {y2 : Int} {p2 : Option Addr} {s3 : Bool} {x3 : Int} {y3 : Int} {p3 : Option Addr} {i : Nat} {w w' : World} {v : Value} (h : opNeC b2 n c2 k l s1 x1 y1 p1 s2 x2 y2 p2 s3 x3 y3 p3 i w v) (hi : i < 21) (_hb : But [] w w') : opNeC b2 n c2 k l s1 x1 y1 p1 s2 x2 y2 p2 s3 x3 y3 p3 i w' v := by
  have : i = 0 ∨ i = 1 ∨ i = 2 ∨ i = 3 ∨ i = 4 ∨ i = 5 ∨ i = 6 ∨ i = 7 ∨ i = 8 ∨ i = 9 ∨ i = 10 ∨ i = 11 ∨ i = 12 ∨ i = 13 ∨ i = 14 ∨ i = 15 ∨ i = 16 ∨ i = 17 ∨ i = 18 ∨ i = 19 ∨ i = 20 := by omega
  rcases this with rfl | rfl | rfl | rfl | rfl | rfl | rfl | rfl | rfl | rfl | rfl | rfl | rfl | rfl | rfl | rfl | rfl | rfl | rfl | rfl | rfl
  all_goals first | exact h | exact FracAt.but h hb | exact FracsAt.but h hb
theorem opNeT_inj : ∀ i j, i < 21 → j < 21 → opNeT i = opNeT j → i = j := fun i j hi hj => (by decide : ∀ i, i < 21 → ∀ j, j < 21 → opNeT i = opNeT j → i = j) i hi j hj
set_option maxRecDepth 100000 in
theorem near_region (id : Nat) (Q : Exit → Act → World → Prop) (base : Act) (W0 : World) (b2 : Nat) (n : Nat) (c2 : Nat) (k : Nat) (l : Int) (s1 : Bool) (x1 : Int) (y1 : Int) (p1 : Option Addr) (s2 : Bool) (x2 : Int) (y2 : Int) (p2 : Option Addr) (s3 : Bool) (x3 : Int) (y3 : Int) (p3 : Option Addr) (hs : 105 < base.tmps.size) (g14 : Nat) (e13 : base.eval (.tmp 13) = .nilIface) (e8 : base.eval (.tmp 8) = .slice (some ⟨b2, 0, none⟩) n c2) (e11 : base.eval (.tmp 11) = .int .i64 (k : Int)) (e14 : base.eval (.tmp 14) = .pointer (some ⟨g14, 0, none⟩))
    (hk' : k < n) (hn : n < 1000000) (hl : ¬ l < 0) (c1 : P4 W0 g14 s1 x1 y1 p1) (d1 : W0.cell? ⟨b2, 0 + k, none⟩ = some (.int .i64 l))
    (W1 : ∀ w, Calls Tryz.prog 6 #[.int .i64 1] w fun e w' => e = .returned (.agg #[.bool s2, .int .u64 x2, .int .u64 y2, .pointer p2]) ∧ But [] w w')
    (W2 : ∀ w, Calls Tryz.prog 6 #[.int .i64 (-1)] w fun e w' => e = .returned (.agg #[.bool s3, .int .u64 x3, .int .u64 y3, .pointer p3]) ∧ But [] w w')
    (CA : ∀ w, But [] W0 w → Calls Tryz.prog 11 #[.agg #[.bool s1, .int .u64 x1, .int .u64 y1, .pointer p1], .agg #[.bool s2, .int .u64 x2, .int .u64 y2, .pointer p2]] w fun e w' => e = .returned (.int .i64 (-1)) ∧ But [] w w')
    (CB : ∀ w, But [] W0 w → Calls Tryz.prog 11 #[.agg #[.bool s1, .int .u64 x1, .int .u64 y1, .pointer p1], .agg #[.bool s3, .int .u64 x3, .int .u64 y3, .pointer p3]] w fun e w' => e = .returned (.int .i64 1) ∧ But [] w w')
    (hQ : ∀ w, But [] W0 w → Q .normal (putted base [(85, .nilIface), (86, .bool false), (87, .bool false), (88, .slice (some ⟨b2, 0, none⟩) n c2), (89, .int .i64 (k : Int)), (90, .pointer (some ⟨b2, 0 + k, none⟩)), (91, .int .i64 l), (92, .bool false), (93, .bool false), (94, .bool false), (95, .agg #[.bool s1, .int .u64 x1, .int .u64 y1, .pointer p1]), (96, .agg #[.bool s2, .int .u64 x2, .int .u64 y2, .pointer p2]), (97, .int .i64 (-1)), (98, .bool false), (99, .bool false), (100, .bool false), (101, .agg #[.bool s1, .int .u64 x1, .int .u64 y1, .pointer p1]), (102, .agg #[.bool s3, .int .u64 x3, .int .u64 y3, .pointer p3]), (103, .int .i64 1), (104, .bool false), (105, .bool false)]) w) :
    (Code.region id opNes true).wp Tryz.prog Q base W0 := by
  have hdr : ∀ {w}, But [] W0.drew w → But [] W0 w := fun h => (But.refl _ _).drew.trans' h
  have hT : ∀ i, i < 21 → opNeT i < base.tmps.size := fun i hi => by
    have h : opNeT i ≤ 105 := by revert i; decide
    omega
  refine region_go (by kernel_rfl) (low_of (by kernel_rfl)) (opNeC b2 n c2 k l s1 x1 y1 p1 s2 x2 y2 p2 s3 x3 y3 p3) opNeT (by kernel_rfl) ?_ opNeT_inj hT (fun i w w' v hi h hb => opNeC_but h hi hb) ?_ ?_
  · intro i o j want ho hg w v hv
    have hi : i < 21 := (Array.getElem?_eq_some_iff.1 ho).1
    have : i = 0 ∨ i = 1 ∨ i = 2 ∨ i = 3 ∨ i = 4 ∨ i = 5 ∨ i = 6 ∨ i = 7 ∨ i = 8 ∨ i = 9 ∨ i = 10 ∨ i = 11 ∨ i = 12 ∨ i = 13 ∨ i = 14 ∨ i = 15 ∨ i = 16 ∨ i = 17 ∨ i = 18 ∨ i = 19 ∨ i = 20 := by omega
    rcases this with rfl | rfl | rfl | rfl | rfl | rfl | rfl | rfl | rfl | rfl | rfl | rfl | rfl | rfl | rfl | rfl | rfl | rfl | rfl | rfl | rfl
    · obtain rfl := Option.some.inj ((show opNes[0]? = some opNe0 from rfl).symm.trans ho)
      exact absurd (show (none : Option (Nat × Bool)) = some (j, want) from hg) (by simp)
    · obtain rfl := Option.some.inj ((show opNes[1]? = some opNe1 from rfl).symm.trans ho)
      exact absurd (show (none : Option (Nat × Bool)) = some (j, want) from hg) (by simp)
    · obtain rfl := Option.some.inj ((show opNes[2]? = some opNe2 from rfl).symm.trans ho)
      exact absurd (show (none : Option (Nat × Bool)) = some (j, want) from hg) (by simp)
    · obtain rfl := Option.some.inj ((show opNes[3]? = some opNe3 from rfl).symm.trans ho)
      obtain ⟨rfl, rfl⟩ := Prod.mk.inj (Option.some.inj (show some (2, false) = some (j, want) from hg))
      exact hv
    · obtain rfl := Option.some.inj ((show opNes[4]? = some opNe4 from rfl).symm.trans ho)
      obtain ⟨rfl, rfl⟩ := Prod.mk.inj (Option.some.inj (show some (2, false) = some (j, want) from hg))
      exact hv
    · obtain rfl := Option.some.inj ((show opNes[5]? = some opNe5 from rfl).symm.trans ho)
      obtain ⟨rfl, rfl⟩ := Prod.mk.inj (Option.some.inj (show some (2, false) = some (j, want) from hg))
      exact hv
    · obtain rfl := Option.some.inj ((show opNes[6]? = some opNe6 from rfl).symm.trans ho)
      obtain ⟨rfl, rfl⟩ := Prod.mk.inj (Option.some.inj (show some (2, false) = some (j, want) from hg))
      exact hv
    · obtain rfl := Option.some.inj ((show opNes[7]? = some opNe7 from rfl).symm.trans ho)
      obtain ⟨rfl, rfl⟩ := Prod.mk.inj (Option.some.inj (show some (2, false) = some (j, want) from hg))
      exact hv
    · obtain rfl := Option.some.inj ((show opNes[8]? = some opNe8 from rfl).symm.trans ho)
      exact absurd (show (none : Option (Nat × Bool)) = some (j, want) from hg) (by simp)
    · obtain rfl := Option.some.inj ((show opNes[9]? = some opNe9 from rfl).symm.trans ho)
      exact absurd (show (none : Option (Nat × Bool)) = some (j, want) from hg) (by simp)
    · obtain rfl := Option.some.inj ((show opNes[10]? = some opNe10 from rfl).symm.trans ho)
      obtain ⟨rfl, rfl⟩ := Prod.mk.inj (Option.some.inj (show some (9, false) = some (j, want) from hg))
      exact hv
    · obtain rfl := Option.some.inj ((show opNes[11]? = some opNe11 from rfl).symm.trans ho)
      obtain ⟨rfl, rfl⟩ := Prod.mk.inj (Option.some.inj (show some (9, false) = some (j, want) from hg))
      exact hv
    · obtain rfl := Option.some.inj ((show opNes[12]? = some opNe12 from rfl).symm.trans ho)
      obtain ⟨rfl, rfl⟩ := Prod.mk.inj (Option.some.inj (show some (9, false) = some (j, want) from hg))
      exact hv
    · obtain rfl := Option.some.inj ((show opNes[13]? = some opNe13 from rfl).symm.trans ho)
      obtain ⟨rfl, rfl⟩ := Prod.mk.inj (Option.some.inj (show some (9, false) = some (j, want) from hg))
      exact hv
    · obtain rfl := Option.some.inj ((show opNes[14]? = some opNe14 from rfl).symm.trans ho)
      exact absurd (show (none : Option (Nat × Bool)) = some (j, want) from hg) (by simp)
    · obtain rfl := Option.some.inj ((show opNes[15]? = some opNe15 from rfl).symm.trans ho)
      exact absurd (show (none : Option (Nat × Bool)) = some (j, want) from hg) (by simp)
    · obtain rfl := Option.some.inj ((show opNes[16]? = some opNe16 from rfl).symm.trans ho)
      obtain ⟨rfl, rfl⟩ := Prod.mk.inj (Option.some.inj (show some (15, false) = some (j, want) from hg))
      exact hv
    · obtain rfl := Option.some.inj ((show opNes[17]? = some opNe17 from rfl).symm.trans ho)
      obtain ⟨rfl, rfl⟩ := Prod.mk.inj (Option.some.inj (show some (15, false) = some (j, want) from hg))
      exact hv
    · obtain rfl := Option.some.inj ((show opNes[18]? = some opNe18 from rfl).symm.trans ho)
      obtain ⟨rfl, rfl⟩ := Prod.mk.inj (Option.some.inj (show some (15, false) = some (j, want) from hg))
      exact hv
    · obtain rfl := Option.some.inj ((show opNes[19]? = some opNe19 from rfl).symm.trans ho)
      obtain ⟨rfl, rfl⟩ := Prod.mk.inj (Option.some.inj (show some (15, false) = some (j, want) from hg))
      exact hv
    · obtain rfl := Option.some.inj ((show opNes[20]? = some opNe20 from rfl).symm.trans ho)
      exact absurd (show (none : Option (Nat × Bool)) = some (j, want) from hg) (by simp)
  · intro i o a w K ho hH he hdep hk
    have hi : i < 21 := (Array.getElem?_eq_some_iff.1 ho).1
    have hD := dep_have (ps := [(1, 0), (2, 1), (3, 2), (4, 2), (5, 2), (5, 3), (5, 4), (6, 2), (6, 5), (7, 2), (7, 6), (8, 2), (8, 7), (9, 2), (9, 8), (10, 9), (11, 9), (12, 9), (12, 10), (12, 11), (13, 9), (13, 12), (14, 9), (14, 13), (15, 12), (15, 14), (16, 15), (17, 15), (18, 15), (18, 16), (18, 17), (19, 15), (19, 18), (20, 15), (20, 19)]) (by kernel_rfl) ho (fun j => opNeC b2 n c2 k l s1 x1 y1 p1 s2 x2 y2 p2 s3 x3 y3 p3 j w (a.eval (.tmp (opNeT j)))) hdep
    have e13' := (he 13 (fun j hj e => absurd e.symm (by revert j; decide))).trans e13
    have e8' := (he 8 (fun j hj e => absurd e.symm (by revert j; decide))).trans e8
    have e11' := (he 11 (fun j hj e => absurd e.symm (by revert j; decide))).trans e11
    have e14' := (he 14 (fun j hj e => absurd e.symm (by revert j; decide))).trans e14
    have : i = 0 ∨ i = 1 ∨ i = 2 ∨ i = 3 ∨ i = 4 ∨ i = 5 ∨ i = 6 ∨ i = 7 ∨ i = 8 ∨ i = 9 ∨ i = 10 ∨ i = 11 ∨ i = 12 ∨ i = 13 ∨ i = 14 ∨ i = 15 ∨ i = 16 ∨ i = 17 ∨ i = 18 ∨ i = 19 ∨ i = 20 := by omega
    rcases this with rfl | rfl | rfl | rfl | rfl | rfl | rfl | rfl | rfl | rfl | rfl | rfl | rfl | rfl | rfl | rfl | rfl | rfl | rfl | rfl | rfl
    · obtain rfl := Option.some.inj ((show opNes[0]? = some opNe0 from rfl).symm.trans ho)
      exact wp_value (run_mv a w _ _ _ _ _ _ _ e13') (hk _ _ (But.refl _ _) rfl)
    · obtain rfl := Option.some.inj ((show opNes[1]? = some opNe1 from rfl).symm.trans ho)
      exact wp_value (run_nenil a w _ _ _ _ _ _ (hD 0 (by simp))) (hk _ _ (But.refl _ _) rfl)
    · obtain rfl := Option.some.inj ((show opNes[2]? = some opNe2 from rfl).symm.trans ho)
      exact wp_value (run_mv a w _ _ _ _ _ _ _ (hD 1 (by simp))) (hk _ _ (But.refl _ _) rfl)
    · obtain rfl := Option.some.inj ((show opNes[3]? = some opNe3 from rfl).symm.trans ho)
      exact wp_value (run_mv a w _ _ _ _ _ _ _ e8') (hk _ _ (But.refl _ _) rfl)
    · obtain rfl := Option.some.inj ((show opNes[4]? = some opNe4 from rfl).symm.trans ho)
      exact wp_value (run_mv a w _ _ _ _ _ _ _ e11') (hk _ _ (But.refl _ _) rfl)
    · obtain rfl := Option.some.inj ((show opNes[5]? = some opNe5 from rfl).symm.trans ho)
      exact wp_value (run_indexI a w _ _ _ _ _ _ _ b2 0 n c2 k hk' hn (hD 3 (by simp)) (hD 4 (by simp))) (hk _ _ (But.refl _ _) rfl)
    · obtain rfl := Option.some.inj ((show opNes[6]? = some opNe6 from rfl).symm.trans ho)
      exact wp_value (run_loadI a w _ _ _ _ _ _ b2 _ _ (hD 5 (by simp)) ((hdr hH).cell_some d1 (by simp))) (hk _ _ (But.refl _ _) rfl)
    · obtain rfl := Option.some.inj ((show opNes[7]? = some opNe7 from rfl).symm.trans ho)
      exact wp_value (run_lss0 a w _ _ _ _ _ _ l hl (hD 6 (by simp))) (hk _ _ (But.refl _ _) rfl)
    · obtain rfl := Option.some.inj ((show opNes[8]? = some opNe8 from rfl).symm.trans ho)
      exact wp_value (run_pickT a w _ _ _ _ _ _ _ _ (hD 2 (by simp)) (hD 7 (by simp))) (hk _ _ (But.refl _ _) rfl)
    · obtain rfl := Option.some.inj ((show opNes[9]? = some opNe9 from rfl).symm.trans ho)
      exact wp_value (run_mv a w _ _ _ _ _ _ _ (hD 8 (by simp))) (hk _ _ (But.refl _ _) rfl)
    · obtain rfl := Option.some.inj ((show opNes[10]? = some opNe10 from rfl).symm.trans ho)
      exact wp_value (run_loadF a w _ _ _ _ _ _ g14 0 _ _ _ _ e14' (c1.but (hdr hH) (by simp))) (hk _ _ (But.refl _ _) rfl)
    · obtain rfl := Option.some.inj ((show opNes[11]? = some opNe11 from rfl).symm.trans ho)
      exact wp_enter (run_whole1 a w _ _ _ _ _) (R := fun w' v => But [] w w' ∧ v = _) ((W1 w).mono fun e w' ⟨he, hb⟩ => ⟨_, he, hb, rfl⟩) (fun v w' hv => hk v w' hv.1 hv.2)
    · obtain rfl := Option.some.inj ((show opNes[12]? = some opNe12 from rfl).symm.trans ho)
      exact wp_enter (run_cmpF a w _ _ _ _ _ _ _ _ _ (hD 10 (by simp)) (hD 11 (by simp))) (R := fun w' v => But [] w w' ∧ v = _) ((CA w (hdr hH)).mono fun e w' ⟨he, hb⟩ => ⟨_, he, hb, rfl⟩) (fun v w' hv => hk v w' hv.1 hv.2)
    · obtain rfl := Option.some.inj ((show opNes[13]? = some opNe13 from rfl).symm.trans ho)
      exact wp_value (run_geq0 a w _ _ _ _ _ _ _ (by omega) (hD 12 (by simp))) (hk _ _ (But.refl _ _) rfl)
    · obtain rfl := Option.some.inj ((show opNes[14]? = some opNe14 from rfl).symm.trans ho)
      exact wp_value (run_pickT a w _ _ _ _ _ _ _ _ (hD 9 (by simp)) (hD 13 (by simp))) (hk _ _ (But.refl _ _) rfl)
    · obtain rfl := Option.some.inj ((show opNes[15]? = some opNe15 from rfl).symm.trans ho)
      exact wp_value (run_mv a w _ _ _ _ _ _ _ (hD 14 (by simp))) (hk _ _ (But.refl _ _) rfl)
    · obtain rfl := Option.some.inj ((show opNes[16]? = some opNe16 from rfl).symm.trans ho)
      exact wp_value (run_loadF a w _ _ _ _ _ _ g14 0 _ _ _ _ e14' (c1.but (hdr hH) (by simp))) (hk _ _ (But.refl _ _) rfl)
    · obtain rfl := Option.some.inj ((show opNes[17]? = some opNe17 from rfl).symm.trans ho)
      exact wp_enter (run_wholem1 a w _ _ _ _ _) (R := fun w' v => But [] w w' ∧ v = _) ((W2 w).mono fun e w' ⟨he, hb⟩ => ⟨_, he, hb, rfl⟩) (fun v w' hv => hk v w' hv.1 hv.2)
    · obtain rfl := Option.some.inj ((show opNes[18]? = some opNe18 from rfl).symm.trans ho)
      exact wp_enter (run_cmpF a w _ _ _ _ _ _ _ _ _ (hD 16 (by simp)) (hD 17 (by simp))) (R := fun w' v => But [] w w' ∧ v = _) ((CB w (hdr hH)).mono fun e w' ⟨he, hb⟩ => ⟨_, he, hb, rfl⟩) (fun v w' hv => hk v w' hv.1 hv.2)
    · obtain rfl := Option.some.inj ((show opNes[19]? = some opNe19 from rfl).symm.trans ho)
      exact wp_value (run_leq0 a w _ _ _ _ _ _ _ (by omega) (hD 18 (by simp))) (hk _ _ (But.refl _ _) rfl)
    · obtain rfl := Option.some.inj ((show opNes[20]? = some opNe20 from rfl).symm.trans ho)
      exact wp_value (run_pickT a w _ _ _ _ _ _ _ _ (hD 15 (by simp)) (hD 19 (by simp))) (hk _ _ (But.refl _ _) rfl)
  · intro a w h
    have ea := h.puts hT (fun i => match i with
      | 0 => .nilIface
      | 1 => .bool false
      | 2 => .bool false
      | 3 => .slice (some ⟨b2, 0, none⟩) n c2
      | 4 => .int .i64 (k : Int)
      | 5 => .pointer (some ⟨b2, 0 + k, none⟩)
      | 6 => .int .i64 l
      | 7 => .bool false
      | 8 => .bool false
      | 9 => .bool false
      | 10 => .agg #[.bool s1, .int .u64 x1, .int .u64 y1, .pointer p1]
      | 11 => .agg #[.bool s2, .int .u64 x2, .int .u64 y2, .pointer p2]
      | 12 => .int .i64 (-1)
      | 13 => .bool false
      | 14 => .bool false
      | 15 => .bool false
      | 16 => .agg #[.bool s1, .int .u64 x1, .int .u64 y1, .pointer p1]
      | 17 => .agg #[.bool s3, .int .u64 x3, .int .u64 y3, .pointer p3]
      | 18 => .int .i64 1
      | 19 => .bool false
      | _ => .bool false) (fun i hi => by
      have hi' : i < 21 := hi
      have hc := h.has i hi rfl
      have : i = 0 ∨ i = 1 ∨ i = 2 ∨ i = 3 ∨ i = 4 ∨ i = 5 ∨ i = 6 ∨ i = 7 ∨ i = 8 ∨ i = 9 ∨ i = 10 ∨ i = 11 ∨ i = 12 ∨ i = 13 ∨ i = 14 ∨ i = 15 ∨ i = 16 ∨ i = 17 ∨ i = 18 ∨ i = 19 ∨ i = 20 := by omega
      rcases this with rfl | rfl | rfl | rfl | rfl | rfl | rfl | rfl | rfl | rfl | rfl | rfl | rfl | rfl | rfl | rfl | rfl | rfl | rfl | rfl | rfl
      all_goals first | exact hc | rfl)
    rw [ea]
    exact hQ w (hdr h.but)
def opMt0 : Oper := { dst := some 112, op := Op.move (Operand.tmp 5), type := 23, pos := "keep.go:111", after := #[], guard := none }
def opMt1 : Oper := { dst := some 113, op := Op.move (Operand.tmp 11), type := 3, pos := "keep.go:111", after := #[], guard := none }
def opMt2 : Oper := { dst := some 114, op := Op.indexAddr 23 (Operand.tmp 112) (Operand.tmp 113), type := 0, pos := "keep.go:111", after := #[{ on := 0, ground := Ground.data }, { on := 1, ground := Ground.data }], guard := none }
def opMt3 : Oper := { dst := some 115, op := Op.load 33 (Operand.tmp 114), type := 33, pos := "keep.go:111", after := #[{ on := 2, ground := Ground.data }], guard := none }
def opMt4 : Oper := { dst := some 116, op := Op.move (Operand.tmp 5), type := 23, pos := "keep.go:111", after := #[], guard := none }
def opMt5 : Oper := { dst := some 117, op := Op.move (Operand.tmp 15), type := 3, pos := "keep.go:111", after := #[], guard := none }
def opMt6 : Oper := { dst := some 118, op := Op.indexAddr 23 (Operand.tmp 116) (Operand.tmp 117), type := 0, pos := "keep.go:111", after := #[{ on := 4, ground := Ground.data }, { on := 5, ground := Ground.data }], guard := none }
def opMt7 : Oper := { dst := some 119, op := Op.load 33 (Operand.tmp 118), type := 33, pos := "keep.go:111", after := #[{ on := 6, ground := Ground.data }], guard := none }
def opMt8 : Oper := { dst := some 120, op := Op.call { callee := Callee.value (Operand.func 11), args := #[Operand.tmp 115, Operand.tmp 119], argTypes := #[33, 33] }, type := 3, pos := "keep.go:111", after := #[{ on := 3, ground := Ground.data }, { on := 7, ground := Ground.data }], guard := none }
def opMt9 : Oper := { dst := some 121, op := Op.binOp BinOp.gtr 3 (Operand.tmp 120) (Operand.const (Value.int IntKind.i64 0)) 3, type := 4, pos := "keep.go:111", after := #[{ on := 8, ground := Ground.data }], guard := none }
def opMt10 : Oper := { dst := some 122, op := Op.move (Operand.tmp 121), type := 4, pos := "keep.go:111", after := #[{ on := 9, ground := Ground.data }, { on := 8, ground := Ground.chain }], guard := none }
def opMt11 : Oper := { dst := some 123, op := Op.move (Operand.tmp 8), type := 25, pos := "keep.go:111", after := #[{ on := 10, ground := Ground.guard }], guard := some (10, true) }
def opMt12 : Oper := { dst := some 124, op := Op.move (Operand.tmp 11), type := 3, pos := "keep.go:111", after := #[{ on := 10, ground := Ground.guard }], guard := some (10, true) }
def opMt13 : Oper := { dst := some 125, op := Op.indexAddr 25 (Operand.tmp 123) (Operand.tmp 124), type := 0, pos := "keep.go:111", after := #[{ on := 11, ground := Ground.data }, { on := 12, ground := Ground.data }, { on := 10, ground := Ground.guard }], guard := some (10, true) }
def opMt14 : Oper := { dst := some 126, op := Op.load 3 (Operand.tmp 125), type := 3, pos := "keep.go:111", after := #[{ on := 13, ground := Ground.data }, { on := 10, ground := Ground.guard }], guard := some (10, true) }
def opMt15 : Oper := { dst := some 127, op := Op.move (Operand.tmp 8), type := 25, pos := "keep.go:111", after := #[{ on := 10, ground := Ground.guard }], guard := some (10, true) }
def opMt16 : Oper := { dst := some 128, op := Op.move (Operand.tmp 15), type := 3, pos := "keep.go:111", after := #[{ on := 10, ground := Ground.guard }], guard := some (10, true) }
def opMt17 : Oper := { dst := some 129, op := Op.indexAddr 25 (Operand.tmp 127) (Operand.tmp 128), type := 0, pos := "keep.go:111", after := #[{ on := 15, ground := Ground.data }, { on := 16, ground := Ground.data }, { on := 10, ground := Ground.guard }], guard := some (10, true) }
def opMt18 : Oper := { dst := some 130, op := Op.load 3 (Operand.tmp 129), type := 3, pos := "keep.go:111", after := #[{ on := 17, ground := Ground.data }, { on := 10, ground := Ground.guard }], guard := some (10, true) }
def opMt19 : Oper := { dst := some 131, op := Op.binOp BinOp.lss 3 (Operand.tmp 126) (Operand.tmp 130) 3, type := 4, pos := "keep.go:111", after := #[{ on := 14, ground := Ground.data }, { on := 18, ground := Ground.data }, { on := 10, ground := Ground.guard }], guard := some (10, true) }
def opMt20 : Oper := { dst := some 132, op := Op.pick (Operand.tmp 122) (Operand.tmp 131) (Operand.const (Value.bool false)), type := 4, pos := "keep.go:111", after := #[{ on := 10, ground := Ground.data }, { on := 19, ground := Ground.data }], guard := none }
def opMts : Array Oper := #[opMt0, opMt1, opMt2, opMt3, opMt4, opMt5, opMt6, opMt7, opMt8, opMt9, opMt10, opMt11, opMt12, opMt13, opMt14, opMt15, opMt16, opMt17, opMt18, opMt19, opMt20]
def opMtT (i : Nat) : Nat := match i with
  | 0 => 112
  | 1 => 113
  | 2 => 114
  | 3 => 115
  | 4 => 116
  | 5 => 117
  | 6 => 118
  | 7 => 119
  | 8 => 120
  | 9 => 121
  | 10 => 122
  | 11 => 123
  | 12 => 124
  | 13 => 125
  | 14 => 126
  | 15 => 127
  | 16 => 128
  | 17 => 129
  | 18 => 130
  | 19 => 131
  | _ => 132
/-- what each operation's value is -/
def opMtC (b : Nat) (off : Nat) (n : Nat) (c : Nat) (b2 : Nat) (c2 : Nat) (ii : Nat) (k : Nat) (q : Int) (li : Int) (lk : Int) (s1 : Bool) (x1 : Int) (y1 : Int) (p1 : Option Addr) (s2 : Bool) (x2 : Int) (y2 : Int) (p2 : Option Addr) (i : Nat) (_w : World) (v : Value) : Prop := match i with
  | 0 => v = .slice (some ⟨b, off, none⟩) n c
  | 1 => v = .int .i64 (ii : Int)
  | 2 => v = .pointer (some ⟨b, off + ii * 4, none⟩)
  | 3 => v = .agg #[.bool s1, .int .u64 x1, .int .u64 y1, .pointer p1]
  | 4 => v = .slice (some ⟨b, off, none⟩) n c
  | 5 => v = .int .i64 (k : Int)
  | 6 => v = .pointer (some ⟨b, off + k * 4, none⟩)
  | 7 => v = .agg #[.bool s2, .int .u64 x2, .int .u64 y2, .pointer p2]
  | 8 => v = .int .i64 q
  | 9 => v = .bool true
  | 10 => v = .bool true
  | 11 => v = .slice (some ⟨b2, 0, none⟩) n c2
  | 12 => v = .int .i64 (ii : Int)
  | 13 => v = .pointer (some ⟨b2, 0 + ii, none⟩)
  | 14 => v = .int .i64 li
  | 15 => v = .slice (some ⟨b2, 0, none⟩) n c2
  | 16 => v = .int .i64 (k : Int)
  | 17 => v = .pointer (some ⟨b2, 0 + k, none⟩)
  | 18 => v = .int .i64 lk
  | 19 => v = .bool false
  | _ => v = .bool false
theorem opMtC_but {b : Nat} {off : Nat} {n : Nat} {c : Nat} {b2 : Nat} {c2 : Nat} {ii : Nat} {k : Nat} {q : Int} {li : Int} {lk : Int} {s1 : Bool} {x1 : Int} {y1 : Int} {p1 : Option Addr} {s2 : Bool} {x2 : Int} {y2 : Int} {p2 : Option Addr} {i : Nat} {w w' : World} {v : Value} (h : opMtC b off n c b2 c2 ii k q li lk s1 x1 y1 p1 s2 x2 y2 p2 i w v) (hi : i < 21) (_hb : But [] w w') : opMtC b off n c b2 c2 ii k q li lk s1 x1 y1 p1 s2 x2 y2 p2 i w' v := by
  have : i = 0 ∨ i = 1 ∨ i = 2 ∨ i = 3 ∨ i = 4 ∨ i = 5 ∨ i = 6 ∨ i = 7 ∨ i = 8 ∨ i = 9 ∨ i = 10 ∨ i = 11 ∨ i = 12 ∨ i = 13 ∨ i = 14 ∨ i = 15 ∨ i = 16 ∨ i = 17 ∨ i = 18 ∨ i = 19 ∨ i = 20 := by omega
  rcases this with rfl | rfl | rfl | rfl | rfl | rfl | rfl | rfl | rfl | rfl | rfl | rfl | rfl | rfl | rfl | rfl | rfl | rfl | rfl | rfl | rfl
  all_goals first | exact h | exact FracAt.but h hb | exact FracsAt.but h hb
theorem opMtT_inj : ∀ i j, i < 21 → j < 21 → opMtT i = opMtT j → i = j := fun i j hi hj => (by decide : ∀ i, i < 21 → ∀ j, j < 21 → opMtT i = opMtT j → i = j) i hi j hj
set_option maxRecDepth 100000 in
theorem more_true (id : Nat) (Q : Exit → Act → World → Prop) (base : Act) (W0 : World) (b : Nat) (off : Nat) (n : Nat) (c : Nat) (b2 : Nat) (c2 : Nat) (ii : Nat) (k : Nat) (q : Int) (li : Int) (lk : Int) (s1 : Bool) (x1 : Int) (y1 : Int) (p1 : Option Addr) (s2 : Bool) (x2 : Int) (y2 : Int) (p2 : Option Addr) (hs : 132 < base.tmps.size) (e5 : base.eval (.tmp 5) = .slice (some ⟨b, off, none⟩) n c) (e11 : base.eval (.tmp 11) = .int .i64 (ii : Int)) (e15 : base.eval (.tmp 15) = .int .i64 (k : Int)) (e8 : base.eval (.tmp 8) = .slice (some ⟨b2, 0, none⟩) n c2)
    (hi' : ii < n) (hk' : k < n) (hn : n < 1000000) (hq : decide (q > 0) = true) (c1 : P4o W0 b (off + ii * 4) s1 x1 y1 p1) (c2' : P4o W0 b (off + k * 4) s2 x2 y2 p2) (hll : ¬ li < lk) (d1 : W0.cell? ⟨b2, 0 + ii, none⟩ = some (.int .i64 li)) (d2 : W0.cell? ⟨b2, 0 + k, none⟩ = some (.int .i64 lk))
    (CM : ∀ w, But [] W0 w → Calls Tryz.prog 11 #[.agg #[.bool s1, .int .u64 x1, .int .u64 y1, .pointer p1], .agg #[.bool s2, .int .u64 x2, .int .u64 y2, .pointer p2]] w fun e w' => e = .returned (.int .i64 q) ∧ But [] w w')
    (hQ : ∀ w, But [] W0 w → Q .normal (putted base [(112, .slice (some ⟨b, off, none⟩) n c), (113, .int .i64 (ii : Int)), (114, .pointer (some ⟨b, off + ii * 4, none⟩)), (115, .agg #[.bool s1, .int .u64 x1, .int .u64 y1, .pointer p1]), (116, .slice (some ⟨b, off, none⟩) n c), (117, .int .i64 (k : Int)), (118, .pointer (some ⟨b, off + k * 4, none⟩)), (119, .agg #[.bool s2, .int .u64 x2, .int .u64 y2, .pointer p2]), (120, .int .i64 q), (121, .bool true), (122, .bool true), (123, .slice (some ⟨b2, 0, none⟩) n c2), (124, .int .i64 (ii : Int)), (125, .pointer (some ⟨b2, 0 + ii, none⟩)), (126, .int .i64 li), (127, .slice (some ⟨b2, 0, none⟩) n c2), (128, .int .i64 (k : Int)), (129, .pointer (some ⟨b2, 0 + k, none⟩)), (130, .int .i64 lk), (131, .bool false), (132, .bool false)]) w) :
    (Code.region id opMts true).wp Tryz.prog Q base W0 := by
  have hdr : ∀ {w}, But [] W0.drew w → But [] W0 w := fun h => (But.refl _ _).drew.trans' h
  have hT : ∀ i, i < 21 → opMtT i < base.tmps.size := fun i hi => by
    have h : opMtT i ≤ 132 := by revert i; decide
    omega
  refine region_go (by kernel_rfl) (low_of (by kernel_rfl)) (opMtC b off n c b2 c2 ii k q li lk s1 x1 y1 p1 s2 x2 y2 p2) opMtT (by kernel_rfl) ?_ opMtT_inj hT (fun i w w' v hi h hb => opMtC_but h hi hb) ?_ ?_
  · intro i o j want ho hg w v hv
    have hi : i < 21 := (Array.getElem?_eq_some_iff.1 ho).1
    have : i = 0 ∨ i = 1 ∨ i = 2 ∨ i = 3 ∨ i = 4 ∨ i = 5 ∨ i = 6 ∨ i = 7 ∨ i = 8 ∨ i = 9 ∨ i = 10 ∨ i = 11 ∨ i = 12 ∨ i = 13 ∨ i = 14 ∨ i = 15 ∨ i = 16 ∨ i = 17 ∨ i = 18 ∨ i = 19 ∨ i = 20 := by omega
    rcases this with rfl | rfl | rfl | rfl | rfl | rfl | rfl | rfl | rfl | rfl | rfl | rfl | rfl | rfl | rfl | rfl | rfl | rfl | rfl | rfl | rfl
    · obtain rfl := Option.some.inj ((show opMts[0]? = some opMt0 from rfl).symm.trans ho)
      exact absurd (show (none : Option (Nat × Bool)) = some (j, want) from hg) (by simp)
    · obtain rfl := Option.some.inj ((show opMts[1]? = some opMt1 from rfl).symm.trans ho)
      exact absurd (show (none : Option (Nat × Bool)) = some (j, want) from hg) (by simp)
    · obtain rfl := Option.some.inj ((show opMts[2]? = some opMt2 from rfl).symm.trans ho)
      exact absurd (show (none : Option (Nat × Bool)) = some (j, want) from hg) (by simp)
    · obtain rfl := Option.some.inj ((show opMts[3]? = some opMt3 from rfl).symm.trans ho)
      exact absurd (show (none : Option (Nat × Bool)) = some (j, want) from hg) (by simp)
    · obtain rfl := Option.some.inj ((show opMts[4]? = some opMt4 from rfl).symm.trans ho)
      exact absurd (show (none : Option (Nat × Bool)) = some (j, want) from hg) (by simp)
    · obtain rfl := Option.some.inj ((show opMts[5]? = some opMt5 from rfl).symm.trans ho)
      exact absurd (show (none : Option (Nat × Bool)) = some (j, want) from hg) (by simp)
    · obtain rfl := Option.some.inj ((show opMts[6]? = some opMt6 from rfl).symm.trans ho)
      exact absurd (show (none : Option (Nat × Bool)) = some (j, want) from hg) (by simp)
    · obtain rfl := Option.some.inj ((show opMts[7]? = some opMt7 from rfl).symm.trans ho)
      exact absurd (show (none : Option (Nat × Bool)) = some (j, want) from hg) (by simp)
    · obtain rfl := Option.some.inj ((show opMts[8]? = some opMt8 from rfl).symm.trans ho)
      exact absurd (show (none : Option (Nat × Bool)) = some (j, want) from hg) (by simp)
    · obtain rfl := Option.some.inj ((show opMts[9]? = some opMt9 from rfl).symm.trans ho)
      exact absurd (show (none : Option (Nat × Bool)) = some (j, want) from hg) (by simp)
    · obtain rfl := Option.some.inj ((show opMts[10]? = some opMt10 from rfl).symm.trans ho)
      exact absurd (show (none : Option (Nat × Bool)) = some (j, want) from hg) (by simp)
    · obtain rfl := Option.some.inj ((show opMts[11]? = some opMt11 from rfl).symm.trans ho)
      obtain ⟨rfl, rfl⟩ := Prod.mk.inj (Option.some.inj (show some (10, true) = some (j, want) from hg))
      exact hv
    · obtain rfl := Option.some.inj ((show opMts[12]? = some opMt12 from rfl).symm.trans ho)
      obtain ⟨rfl, rfl⟩ := Prod.mk.inj (Option.some.inj (show some (10, true) = some (j, want) from hg))
      exact hv
    · obtain rfl := Option.some.inj ((show opMts[13]? = some opMt13 from rfl).symm.trans ho)
      obtain ⟨rfl, rfl⟩ := Prod.mk.inj (Option.some.inj (show some (10, true) = some (j, want) from hg))
      exact hv
    · obtain rfl := Option.some.inj ((show opMts[14]? = some opMt14 from rfl).symm.trans ho)
      obtain ⟨rfl, rfl⟩ := Prod.mk.inj (Option.some.inj (show some (10, true) = some (j, want) from hg))
      exact hv
    · obtain rfl := Option.some.inj ((show opMts[15]? = some opMt15 from rfl).symm.trans ho)
      obtain ⟨rfl, rfl⟩ := Prod.mk.inj (Option.some.inj (show some (10, true) = some (j, want) from hg))
      exact hv
    · obtain rfl := Option.some.inj ((show opMts[16]? = some opMt16 from rfl).symm.trans ho)
      obtain ⟨rfl, rfl⟩ := Prod.mk.inj (Option.some.inj (show some (10, true) = some (j, want) from hg))
      exact hv
    · obtain rfl := Option.some.inj ((show opMts[17]? = some opMt17 from rfl).symm.trans ho)
      obtain ⟨rfl, rfl⟩ := Prod.mk.inj (Option.some.inj (show some (10, true) = some (j, want) from hg))
      exact hv
    · obtain rfl := Option.some.inj ((show opMts[18]? = some opMt18 from rfl).symm.trans ho)
      obtain ⟨rfl, rfl⟩ := Prod.mk.inj (Option.some.inj (show some (10, true) = some (j, want) from hg))
      exact hv
    · obtain rfl := Option.some.inj ((show opMts[19]? = some opMt19 from rfl).symm.trans ho)
      obtain ⟨rfl, rfl⟩ := Prod.mk.inj (Option.some.inj (show some (10, true) = some (j, want) from hg))
      exact hv
    · obtain rfl := Option.some.inj ((show opMts[20]? = some opMt20 from rfl).symm.trans ho)
      exact absurd (show (none : Option (Nat × Bool)) = some (j, want) from hg) (by simp)
  · intro i o a w K ho hH he hdep hk
    have hi : i < 21 := (Array.getElem?_eq_some_iff.1 ho).1
    have hD := dep_have (ps := [(2, 0), (2, 1), (3, 2), (6, 4), (6, 5), (7, 6), (8, 3), (8, 7), (9, 8), (10, 8), (10, 9), (11, 10), (12, 10), (13, 10), (13, 11), (13, 12), (14, 10), (14, 13), (15, 10), (16, 10), (17, 10), (17, 15), (17, 16), (18, 10), (18, 17), (19, 10), (19, 14), (19, 18), (20, 10), (20, 19)]) (by kernel_rfl) ho (fun j => opMtC b off n c b2 c2 ii k q li lk s1 x1 y1 p1 s2 x2 y2 p2 j w (a.eval (.tmp (opMtT j)))) hdep
    have e5' := (he 5 (fun j hj e => absurd e.symm (by revert j; decide))).trans e5
    have e11' := (he 11 (fun j hj e => absurd e.symm (by revert j; decide))).trans e11
    have e15' := (he 15 (fun j hj e => absurd e.symm (by revert j; decide))).trans e15
    have e8' := (he 8 (fun j hj e => absurd e.symm (by revert j; decide))).trans e8
    have : i = 0 ∨ i = 1 ∨ i = 2 ∨ i = 3 ∨ i = 4 ∨ i = 5 ∨ i = 6 ∨ i = 7 ∨ i = 8 ∨ i = 9 ∨ i = 10 ∨ i = 11 ∨ i = 12 ∨ i = 13 ∨ i = 14 ∨ i = 15 ∨ i = 16 ∨ i = 17 ∨ i = 18 ∨ i = 19 ∨ i = 20 := by omega
    rcases this with rfl | rfl | rfl | rfl | rfl | rfl | rfl | rfl | rfl | rfl | rfl | rfl | rfl | rfl | rfl | rfl | rfl | rfl | rfl | rfl | rfl
    · obtain rfl := Option.some.inj ((show opMts[0]? = some opMt0 from rfl).symm.trans ho)
      exact wp_value (run_mv a w _ _ _ _ _ _ _ e5') (hk _ _ (But.refl _ _) rfl)
    · obtain rfl := Option.some.inj ((show opMts[1]? = some opMt1 from rfl).symm.trans ho)
      exact wp_value (run_mv a w _ _ _ _ _ _ _ e11') (hk _ _ (But.refl _ _) rfl)
    · obtain rfl := Option.some.inj ((show opMts[2]? = some opMt2 from rfl).symm.trans ho)
      exact wp_value (run_indexF a w _ _ _ _ _ _ _ b off n c ii hi' hn (hD 0 (by simp)) (hD 1 (by simp))) (hk _ _ (But.refl _ _) rfl)
    · obtain rfl := Option.some.inj ((show opMts[3]? = some opMt3 from rfl).symm.trans ho)
      exact wp_value (run_loadF a w _ _ _ _ _ _ b _ _ _ _ _ (hD 2 (by simp)) (c1.but (hdr hH) (by simp))) (hk _ _ (But.refl _ _) rfl)
    · obtain rfl := Option.some.inj ((show opMts[4]? = some opMt4 from rfl).symm.trans ho)
      exact wp_value (run_mv a w _ _ _ _ _ _ _ e5') (hk _ _ (But.refl _ _) rfl)
    · obtain rfl := Option.some.inj ((show opMts[5]? = some opMt5 from rfl).symm.trans ho)
      exact wp_value (run_mv a w _ _ _ _ _ _ _ e15') (hk _ _ (But.refl _ _) rfl)
    · obtain rfl := Option.some.inj ((show opMts[6]? = some opMt6 from rfl).symm.trans ho)
      exact wp_value (run_indexF a w _ _ _ _ _ _ _ b off n c k hk' hn (hD 4 (by simp)) (hD 5 (by simp))) (hk _ _ (But.refl _ _) rfl)
    · obtain rfl := Option.some.inj ((show opMts[7]? = some opMt7 from rfl).symm.trans ho)
      exact wp_value (run_loadF a w _ _ _ _ _ _ b _ _ _ _ _ (hD 6 (by simp)) (c2'.but (hdr hH) (by simp))) (hk _ _ (But.refl _ _) rfl)
    · obtain rfl := Option.some.inj ((show opMts[8]? = some opMt8 from rfl).symm.trans ho)
      exact wp_enter (run_cmpF a w _ _ _ _ _ _ _ _ _ (hD 3 (by simp)) (hD 7 (by simp))) (R := fun w' v => But [] w w' ∧ v = _) ((CM w (hdr hH)).mono fun e w' ⟨he, hb⟩ => ⟨_, he, hb, rfl⟩) (fun v w' hv => hk v w' hv.1 hv.2)
    · obtain rfl := Option.some.inj ((show opMts[9]? = some opMt9 from rfl).symm.trans ho)
      exact wp_value (run_gtr0 a w _ _ _ _ _ _ q _ hq (hD 8 (by simp))) (hk _ _ (But.refl _ _) rfl)
    · obtain rfl := Option.some.inj ((show opMts[10]? = some opMt10 from rfl).symm.trans ho)
      exact wp_value (run_mv a w _ _ _ _ _ _ _ (hD 9 (by simp))) (hk _ _ (But.refl _ _) rfl)
    · obtain rfl := Option.some.inj ((show opMts[11]? = some opMt11 from rfl).symm.trans ho)
      exact wp_value (run_mv a w _ _ _ _ _ _ _ e8') (hk _ _ (But.refl _ _) rfl)
    · obtain rfl := Option.some.inj ((show opMts[12]? = some opMt12 from rfl).symm.trans ho)
      exact wp_value (run_mv a w _ _ _ _ _ _ _ e11') (hk _ _ (But.refl _ _) rfl)
    · obtain rfl := Option.some.inj ((show opMts[13]? = some opMt13 from rfl).symm.trans ho)
      exact wp_value (run_indexI a w _ _ _ _ _ _ _ b2 0 n c2 ii hi' hn (hD 11 (by simp)) (hD 12 (by simp))) (hk _ _ (But.refl _ _) rfl)
    · obtain rfl := Option.some.inj ((show opMts[14]? = some opMt14 from rfl).symm.trans ho)
      exact wp_value (run_loadI a w _ _ _ _ _ _ b2 _ _ (hD 13 (by simp)) ((hdr hH).cell_some d1 (by simp))) (hk _ _ (But.refl _ _) rfl)
    · obtain rfl := Option.some.inj ((show opMts[15]? = some opMt15 from rfl).symm.trans ho)
      exact wp_value (run_mv a w _ _ _ _ _ _ _ e8') (hk _ _ (But.refl _ _) rfl)
    · obtain rfl := Option.some.inj ((show opMts[16]? = some opMt16 from rfl).symm.trans ho)
      exact wp_value (run_mv a w _ _ _ _ _ _ _ e15') (hk _ _ (But.refl _ _) rfl)
    · obtain rfl := Option.some.inj ((show opMts[17]? = some opMt17 from rfl).symm.trans ho)
      exact wp_value (run_indexI a w _ _ _ _ _ _ _ b2 0 n c2 k hk' hn (hD 15 (by simp)) (hD 16 (by simp))) (hk _ _ (But.refl _ _) rfl)
    · obtain rfl := Option.some.inj ((show opMts[18]? = some opMt18 from rfl).symm.trans ho)
      exact wp_value (run_loadI a w _ _ _ _ _ _ b2 _ _ (hD 17 (by simp)) ((hdr hH).cell_some d2 (by simp))) (hk _ _ (But.refl _ _) rfl)
    · obtain rfl := Option.some.inj ((show opMts[19]? = some opMt19 from rfl).symm.trans ho)
      exact wp_value (run_lssI a w _ _ _ _ _ _ _ li lk hll (hD 14 (by simp)) (hD 18 (by simp))) (hk _ _ (But.refl _ _) rfl)
    · obtain rfl := Option.some.inj ((show opMts[20]? = some opMt20 from rfl).symm.trans ho)
      exact wp_value (run_pickF a w _ _ _ _ _ _ _ _ _ (hD 10 (by simp)) (hD 19 (by simp)) (fun _ => rfl)) (hk _ _ (But.refl _ _) rfl)
  · intro a w h
    have ea := h.puts hT (fun i => match i with
      | 0 => .slice (some ⟨b, off, none⟩) n c
      | 1 => .int .i64 (ii : Int)
      | 2 => .pointer (some ⟨b, off + ii * 4, none⟩)
      | 3 => .agg #[.bool s1, .int .u64 x1, .int .u64 y1, .pointer p1]
      | 4 => .slice (some ⟨b, off, none⟩) n c
      | 5 => .int .i64 (k : Int)
      | 6 => .pointer (some ⟨b, off + k * 4, none⟩)
      | 7 => .agg #[.bool s2, .int .u64 x2, .int .u64 y2, .pointer p2]
      | 8 => .int .i64 q
      | 9 => .bool true
      | 10 => .bool true
      | 11 => .slice (some ⟨b2, 0, none⟩) n c2
      | 12 => .int .i64 (ii : Int)
      | 13 => .pointer (some ⟨b2, 0 + ii, none⟩)
      | 14 => .int .i64 li
      | 15 => .slice (some ⟨b2, 0, none⟩) n c2
      | 16 => .int .i64 (k : Int)
      | 17 => .pointer (some ⟨b2, 0 + k, none⟩)
      | 18 => .int .i64 lk
      | 19 => .bool false
      | _ => .bool false) (fun i hi => by
      have hi' : i < 21 := hi
      have hc := h.has i hi rfl
      have : i = 0 ∨ i = 1 ∨ i = 2 ∨ i = 3 ∨ i = 4 ∨ i = 5 ∨ i = 6 ∨ i = 7 ∨ i = 8 ∨ i = 9 ∨ i = 10 ∨ i = 11 ∨ i = 12 ∨ i = 13 ∨ i = 14 ∨ i = 15 ∨ i = 16 ∨ i = 17 ∨ i = 18 ∨ i = 19 ∨ i = 20 := by omega
      rcases this with rfl | rfl | rfl | rfl | rfl | rfl | rfl | rfl | rfl | rfl | rfl | rfl | rfl | rfl | rfl | rfl | rfl | rfl | rfl | rfl | rfl
      all_goals first | exact hc | rfl)
    rw [ea]
    exact hQ w (hdr h.but)
def opMf0 : Oper := { dst := some 112, op := Op.move (Operand.tmp 5), type := 23, pos := "keep.go:111", after := #[], guard := none }
def opMf1 : Oper := { dst := some 113, op := Op.move (Operand.tmp 11), type := 3, pos := "keep.go:111", after := #[], guard := none }
def opMf2 : Oper := { dst := some 114, op := Op.indexAddr 23 (Operand.tmp 112) (Operand.tmp 113), type := 0, pos := "keep.go:111", after := #[{ on := 0, ground := Ground.data }, { on := 1, ground := Ground.data }], guard := none }
def opMf3 : Oper := { dst := some 115, op := Op.load 33 (Operand.tmp 114), type := 33, pos := "keep.go:111", after := #[{ on := 2, ground := Ground.data }], guard := none }
def opMf4 : Oper := { dst := some 116, op := Op.move (Operand.tmp 5), type := 23, pos := "keep.go:111", after := #[], guard := none }
def opMf5 : Oper := { dst := some 117, op := Op.move (Operand.tmp 15), type := 3, pos := "keep.go:111", after := #[], guard := none }
def opMf6 : Oper := { dst := some 118, op := Op.indexAddr 23 (Operand.tmp 116) (Operand.tmp 117), type := 0, pos := "keep.go:111", after := #[{ on := 4, ground := Ground.data }, { on := 5, ground := Ground.data }], guard := none }
def opMf7 : Oper := { dst := some 119, op := Op.load 33 (Operand.tmp 118), type := 33, pos := "keep.go:111", after := #[{ on := 6, ground := Ground.data }], guard := none }
def opMf8 : Oper := { dst := some 120, op := Op.call { callee := Callee.value (Operand.func 11), args := #[Operand.tmp 115, Operand.tmp 119], argTypes := #[33, 33] }, type := 3, pos := "keep.go:111", after := #[{ on := 3, ground := Ground.data }, { on := 7, ground := Ground.data }], guard := none }
def opMf9 : Oper := { dst := some 121, op := Op.binOp BinOp.gtr 3 (Operand.tmp 120) (Operand.const (Value.int IntKind.i64 0)) 3, type := 4, pos := "keep.go:111", after := #[{ on := 8, ground := Ground.data }], guard := none }
def opMf10 : Oper := { dst := some 122, op := Op.move (Operand.tmp 121), type := 4, pos := "keep.go:111", after := #[{ on := 9, ground := Ground.data }, { on := 8, ground := Ground.chain }], guard := none }
def opMf11 : Oper := { dst := some 123, op := Op.move (Operand.tmp 8), type := 25, pos := "keep.go:111", after := #[{ on := 10, ground := Ground.guard }], guard := some (10, true) }
def opMf12 : Oper := { dst := some 124, op := Op.move (Operand.tmp 11), type := 3, pos := "keep.go:111", after := #[{ on := 10, ground := Ground.guard }], guard := some (10, true) }
def opMf13 : Oper := { dst := some 125, op := Op.indexAddr 25 (Operand.tmp 123) (Operand.tmp 124), type := 0, pos := "keep.go:111", after := #[{ on := 11, ground := Ground.data }, { on := 12, ground := Ground.data }, { on := 10, ground := Ground.guard }], guard := some (10, true) }
def opMf14 : Oper := { dst := some 126, op := Op.load 3 (Operand.tmp 125), type := 3, pos := "keep.go:111", after := #[{ on := 13, ground := Ground.data }, { on := 10, ground := Ground.guard }], guard := some (10, true) }
def opMf15 : Oper := { dst := some 127, op := Op.move (Operand.tmp 8), type := 25, pos := "keep.go:111", after := #[{ on := 10, ground := Ground.guard }], guard := some (10, true) }
def opMf16 : Oper := { dst := some 128, op := Op.move (Operand.tmp 15), type := 3, pos := "keep.go:111", after := #[{ on := 10, ground := Ground.guard }], guard := some (10, true) }
def opMf17 : Oper := { dst := some 129, op := Op.indexAddr 25 (Operand.tmp 127) (Operand.tmp 128), type := 0, pos := "keep.go:111", after := #[{ on := 15, ground := Ground.data }, { on := 16, ground := Ground.data }, { on := 10, ground := Ground.guard }], guard := some (10, true) }
def opMf18 : Oper := { dst := some 130, op := Op.load 3 (Operand.tmp 129), type := 3, pos := "keep.go:111", after := #[{ on := 17, ground := Ground.data }, { on := 10, ground := Ground.guard }], guard := some (10, true) }
def opMf19 : Oper := { dst := some 131, op := Op.binOp BinOp.lss 3 (Operand.tmp 126) (Operand.tmp 130) 3, type := 4, pos := "keep.go:111", after := #[{ on := 14, ground := Ground.data }, { on := 18, ground := Ground.data }, { on := 10, ground := Ground.guard }], guard := some (10, true) }
def opMf20 : Oper := { dst := some 132, op := Op.pick (Operand.tmp 122) (Operand.tmp 131) (Operand.const (Value.bool false)), type := 4, pos := "keep.go:111", after := #[{ on := 10, ground := Ground.data }, { on := 19, ground := Ground.data }], guard := none }
def opMfs : Array Oper := #[opMf0, opMf1, opMf2, opMf3, opMf4, opMf5, opMf6, opMf7, opMf8, opMf9, opMf10, opMf11, opMf12, opMf13, opMf14, opMf15, opMf16, opMf17, opMf18, opMf19, opMf20]
def opMfT (i : Nat) : Nat := match i with
  | 0 => 112
  | 1 => 113
  | 2 => 114
  | 3 => 115
  | 4 => 116
  | 5 => 117
  | 6 => 118
  | 7 => 119
  | 8 => 120
  | 9 => 121
  | 10 => 122
  | 11 => 123
  | 12 => 124
  | 13 => 125
  | 14 => 126
  | 15 => 127
  | 16 => 128
  | 17 => 129
  | 18 => 130
  | 19 => 131
  | _ => 132
/-- what each operation's value is -/
def opMfC (b : Nat) (off : Nat) (n : Nat) (c : Nat) (_b2 : Nat) (_c2 : Nat) (ii : Nat) (k : Nat) (q : Int) (_li : Int) (_lk : Int) (s1 : Bool) (x1 : Int) (y1 : Int) (p1 : Option Addr) (s2 : Bool) (x2 : Int) (y2 : Int) (p2 : Option Addr) (i : Nat) (_w : World) (v : Value) : Prop := match i with
  | 0 => v = .slice (some ⟨b, off, none⟩) n c
  | 1 => v = .int .i64 (ii : Int)
  | 2 => v = .pointer (some ⟨b, off + ii * 4, none⟩)
  | 3 => v = .agg #[.bool s1, .int .u64 x1, .int .u64 y1, .pointer p1]
  | 4 => v = .slice (some ⟨b, off, none⟩) n c
  | 5 => v = .int .i64 (k : Int)
  | 6 => v = .pointer (some ⟨b, off + k * 4, none⟩)
  | 7 => v = .agg #[.bool s2, .int .u64 x2, .int .u64 y2, .pointer p2]
  | 8 => v = .int .i64 q
  | 9 => v = .bool false
  | 10 => v = .bool false
  | 11 => v = undef
  | 12 => v = undef
  | 13 => v = undef
  | 14 => v = undef
  | 15 => v = undef
  | 16 => v = undef
  | 17 => v = undef
  | 18 => v = undef
  | 19 => v = undef
  | _ => v = .bool false
def opMfK (i : Nat) : Bool := match i with
  | 11 => true
  | 12 => true
  | 13 => true
  | 14 => true
  | 15 => true
  | 16 => true
  | 17 => true
  | 18 => true
  | 19 => true
  | _ => false
theorem opMfT_inj : ∀ i j, i < 21 → j < 21 → opMfT i = opMfT j → i = j := fun i j hi hj => (by decide : ∀ i, i < 21 → ∀ j, j < 21 → opMfT i = opMfT j → i = j) i hi j hj
set_option maxRecDepth 100000 in
theorem more_false (id : Nat) (Q : Exit → Act → World → Prop) (base : Act) (W0 : World) (b : Nat) (off : Nat) (n : Nat) (c : Nat) (b2 : Nat) (c2 : Nat) (ii : Nat) (k : Nat) (q : Int) (li : Int) (lk : Int) (s1 : Bool) (x1 : Int) (y1 : Int) (p1 : Option Addr) (s2 : Bool) (x2 : Int) (y2 : Int) (p2 : Option Addr) (hs : 132 < base.tmps.size) (e5 : base.eval (.tmp 5) = .slice (some ⟨b, off, none⟩) n c) (e11 : base.eval (.tmp 11) = .int .i64 (ii : Int)) (e15 : base.eval (.tmp 15) = .int .i64 (k : Int)) (e8 : base.eval (.tmp 8) = .slice (some ⟨b2, 0, none⟩) n c2)
    (hi' : ii < n) (hk' : k < n) (hn : n < 1000000) (hq : decide (q > 0) = false) (c1 : P4o W0 b (off + ii * 4) s1 x1 y1 p1) (c2' : P4o W0 b (off + k * 4) s2 x2 y2 p2) 
    (CM : ∀ w, But [] W0 w → Calls Tryz.prog 11 #[.agg #[.bool s1, .int .u64 x1, .int .u64 y1, .pointer p1], .agg #[.bool s2, .int .u64 x2, .int .u64 y2, .pointer p2]] w fun e w' => e = .returned (.int .i64 q) ∧ But [] w w')
    (hQ : ∀ w, But [] W0 w → Q .normal (putted base [(112, .slice (some ⟨b, off, none⟩) n c), (113, .int .i64 (ii : Int)), (114, .pointer (some ⟨b, off + ii * 4, none⟩)), (115, .agg #[.bool s1, .int .u64 x1, .int .u64 y1, .pointer p1]), (116, .slice (some ⟨b, off, none⟩) n c), (117, .int .i64 (k : Int)), (118, .pointer (some ⟨b, off + k * 4, none⟩)), (119, .agg #[.bool s2, .int .u64 x2, .int .u64 y2, .pointer p2]), (120, .int .i64 q), (121, .bool false), (122, .bool false), (123, undef), (124, undef), (125, undef), (126, undef), (127, undef), (128, undef), (129, undef), (130, undef), (131, undef), (132, .bool false)]) w) :
    (Code.region id opMfs true).wp Tryz.prog Q base W0 := by
  have hdr : ∀ {w}, But [] W0.drew w → But [] W0 w := fun h => (But.refl _ _).drew.trans' h
  have hT : ∀ i, i < 21 → opMfT i < base.tmps.size := fun i hi => by
    have h : opMfT i ≤ 132 := by revert i; decide
    omega
  have hCb : ∀ i w w' v, i < 21 → opMfC b off n c b2 c2 ii k q li lk s1 x1 y1 p1 s2 x2 y2 p2 i w v → opMfC b off n c b2 c2 ii k q li lk s1 x1 y1 p1 s2 x2 y2 p2 i w' v := fun i w w' v hi h => by
    have : i = 0 ∨ i = 1 ∨ i = 2 ∨ i = 3 ∨ i = 4 ∨ i = 5 ∨ i = 6 ∨ i = 7 ∨ i = 8 ∨ i = 9 ∨ i = 10 ∨ i = 11 ∨ i = 12 ∨ i = 13 ∨ i = 14 ∨ i = 15 ∨ i = 16 ∨ i = 17 ∨ i = 18 ∨ i = 19 ∨ i = 20 := by omega
    rcases this with rfl | rfl | rfl | rfl | rfl | rfl | rfl | rfl | rfl | rfl | rfl | rfl | rfl | rfl | rfl | rfl | rfl | rfl | rfl | rfl | rfl
    · exact (show v = .slice (some ⟨b, off, none⟩) n c from h)
    · exact (show v = .int .i64 (ii : Int) from h)
    · exact (show v = .pointer (some ⟨b, off + ii * 4, none⟩) from h)
    · exact (show v = .agg #[.bool s1, .int .u64 x1, .int .u64 y1, .pointer p1] from h)
    · exact (show v = .slice (some ⟨b, off, none⟩) n c from h)
    · exact (show v = .int .i64 (k : Int) from h)
    · exact (show v = .pointer (some ⟨b, off + k * 4, none⟩) from h)
    · exact (show v = .agg #[.bool s2, .int .u64 x2, .int .u64 y2, .pointer p2] from h)
    · exact (show v = .int .i64 q from h)
    · exact (show v = .bool false from h)
    · exact (show v = .bool false from h)
    · exact (show v = undef from h)
    · exact (show v = undef from h)
    · exact (show v = undef from h)
    · exact (show v = undef from h)
    · exact (show v = undef from h)
    · exact (show v = undef from h)
    · exact (show v = undef from h)
    · exact (show v = undef from h)
    · exact (show v = undef from h)
    · exact (show v = .bool false from h)
  refine region_skip (by kernel_rfl) (low_of (by kernel_rfl)) (opMfC b off n c b2 c2 ii k q li lk s1 x1 y1 p1 s2 x2 y2 p2) opMfT (by kernel_rfl) opMfK ?_ ?_ ?_ opMfT_inj hT (fun i w w' v hi h _ => hCb i w w' v hi h) ?_ ?_
  · intro i o j want ho hg w v hv
    have hi : i < 21 := (Array.getElem?_eq_some_iff.1 ho).1
    have : i = 0 ∨ i = 1 ∨ i = 2 ∨ i = 3 ∨ i = 4 ∨ i = 5 ∨ i = 6 ∨ i = 7 ∨ i = 8 ∨ i = 9 ∨ i = 10 ∨ i = 11 ∨ i = 12 ∨ i = 13 ∨ i = 14 ∨ i = 15 ∨ i = 16 ∨ i = 17 ∨ i = 18 ∨ i = 19 ∨ i = 20 := by omega
    rcases this with rfl | rfl | rfl | rfl | rfl | rfl | rfl | rfl | rfl | rfl | rfl | rfl | rfl | rfl | rfl | rfl | rfl | rfl | rfl | rfl | rfl
    · obtain rfl := Option.some.inj ((show opMfs[0]? = some opMf0 from rfl).symm.trans ho)
      exact absurd (show (none : Option (Nat × Bool)) = some (j, want) from hg) (by simp)
    · obtain rfl := Option.some.inj ((show opMfs[1]? = some opMf1 from rfl).symm.trans ho)
      exact absurd (show (none : Option (Nat × Bool)) = some (j, want) from hg) (by simp)
    · obtain rfl := Option.some.inj ((show opMfs[2]? = some opMf2 from rfl).symm.trans ho)
      exact absurd (show (none : Option (Nat × Bool)) = some (j, want) from hg) (by simp)
    · obtain rfl := Option.some.inj ((show opMfs[3]? = some opMf3 from rfl).symm.trans ho)
      exact absurd (show (none : Option (Nat × Bool)) = some (j, want) from hg) (by simp)
    · obtain rfl := Option.some.inj ((show opMfs[4]? = some opMf4 from rfl).symm.trans ho)
      exact absurd (show (none : Option (Nat × Bool)) = some (j, want) from hg) (by simp)
    · obtain rfl := Option.some.inj ((show opMfs[5]? = some opMf5 from rfl).symm.trans ho)
      exact absurd (show (none : Option (Nat × Bool)) = some (j, want) from hg) (by simp)
    · obtain rfl := Option.some.inj ((show opMfs[6]? = some opMf6 from rfl).symm.trans ho)
      exact absurd (show (none : Option (Nat × Bool)) = some (j, want) from hg) (by simp)
    · obtain rfl := Option.some.inj ((show opMfs[7]? = some opMf7 from rfl).symm.trans ho)
      exact absurd (show (none : Option (Nat × Bool)) = some (j, want) from hg) (by simp)
    · obtain rfl := Option.some.inj ((show opMfs[8]? = some opMf8 from rfl).symm.trans ho)
      exact absurd (show (none : Option (Nat × Bool)) = some (j, want) from hg) (by simp)
    · obtain rfl := Option.some.inj ((show opMfs[9]? = some opMf9 from rfl).symm.trans ho)
      exact absurd (show (none : Option (Nat × Bool)) = some (j, want) from hg) (by simp)
    · obtain rfl := Option.some.inj ((show opMfs[10]? = some opMf10 from rfl).symm.trans ho)
      exact absurd (show (none : Option (Nat × Bool)) = some (j, want) from hg) (by simp)
    · obtain rfl := Option.some.inj ((show opMfs[11]? = some opMf11 from rfl).symm.trans ho)
      obtain ⟨rfl, rfl⟩ := Prod.mk.inj (Option.some.inj (show some (10, true) = some (j, want) from hg))
      exact hv
    · obtain rfl := Option.some.inj ((show opMfs[12]? = some opMf12 from rfl).symm.trans ho)
      obtain ⟨rfl, rfl⟩ := Prod.mk.inj (Option.some.inj (show some (10, true) = some (j, want) from hg))
      exact hv
    · obtain rfl := Option.some.inj ((show opMfs[13]? = some opMf13 from rfl).symm.trans ho)
      obtain ⟨rfl, rfl⟩ := Prod.mk.inj (Option.some.inj (show some (10, true) = some (j, want) from hg))
      exact hv
    · obtain rfl := Option.some.inj ((show opMfs[14]? = some opMf14 from rfl).symm.trans ho)
      obtain ⟨rfl, rfl⟩ := Prod.mk.inj (Option.some.inj (show some (10, true) = some (j, want) from hg))
      exact hv
    · obtain rfl := Option.some.inj ((show opMfs[15]? = some opMf15 from rfl).symm.trans ho)
      obtain ⟨rfl, rfl⟩ := Prod.mk.inj (Option.some.inj (show some (10, true) = some (j, want) from hg))
      exact hv
    · obtain rfl := Option.some.inj ((show opMfs[16]? = some opMf16 from rfl).symm.trans ho)
      obtain ⟨rfl, rfl⟩ := Prod.mk.inj (Option.some.inj (show some (10, true) = some (j, want) from hg))
      exact hv
    · obtain rfl := Option.some.inj ((show opMfs[17]? = some opMf17 from rfl).symm.trans ho)
      obtain ⟨rfl, rfl⟩ := Prod.mk.inj (Option.some.inj (show some (10, true) = some (j, want) from hg))
      exact hv
    · obtain rfl := Option.some.inj ((show opMfs[18]? = some opMf18 from rfl).symm.trans ho)
      obtain ⟨rfl, rfl⟩ := Prod.mk.inj (Option.some.inj (show some (10, true) = some (j, want) from hg))
      exact hv
    · obtain rfl := Option.some.inj ((show opMfs[19]? = some opMf19 from rfl).symm.trans ho)
      obtain ⟨rfl, rfl⟩ := Prod.mk.inj (Option.some.inj (show some (10, true) = some (j, want) from hg))
      exact hv
    · obtain rfl := Option.some.inj ((show opMfs[20]? = some opMf20 from rfl).symm.trans ho)
      exact absurd (show (none : Option (Nat × Bool)) = some (j, want) from hg) (by simp)
  · intro i o ho hk hg
    have hi : i < 21 := (Array.getElem?_eq_some_iff.1 ho).1
    have : i = 0 ∨ i = 1 ∨ i = 2 ∨ i = 3 ∨ i = 4 ∨ i = 5 ∨ i = 6 ∨ i = 7 ∨ i = 8 ∨ i = 9 ∨ i = 10 ∨ i = 11 ∨ i = 12 ∨ i = 13 ∨ i = 14 ∨ i = 15 ∨ i = 16 ∨ i = 17 ∨ i = 18 ∨ i = 19 ∨ i = 20 := by omega
    rcases this with rfl | rfl | rfl | rfl | rfl | rfl | rfl | rfl | rfl | rfl | rfl | rfl | rfl | rfl | rfl | rfl | rfl | rfl | rfl | rfl | rfl
    · exact absurd (show false = true from hk) (by simp)
    · exact absurd (show false = true from hk) (by simp)
    · exact absurd (show false = true from hk) (by simp)
    · exact absurd (show false = true from hk) (by simp)
    · exact absurd (show false = true from hk) (by simp)
    · exact absurd (show false = true from hk) (by simp)
    · exact absurd (show false = true from hk) (by simp)
    · exact absurd (show false = true from hk) (by simp)
    · exact absurd (show false = true from hk) (by simp)
    · exact absurd (show false = true from hk) (by simp)
    · exact absurd (show false = true from hk) (by simp)
    · obtain rfl := Option.some.inj ((show opMfs[11]? = some opMf11 from rfl).symm.trans ho)
      exact absurd (show some (10, true) = (none : Option (Nat × Bool)) from hg) (by simp)
    · obtain rfl := Option.some.inj ((show opMfs[12]? = some opMf12 from rfl).symm.trans ho)
      exact absurd (show some (10, true) = (none : Option (Nat × Bool)) from hg) (by simp)
    · obtain rfl := Option.some.inj ((show opMfs[13]? = some opMf13 from rfl).symm.trans ho)
      exact absurd (show some (10, true) = (none : Option (Nat × Bool)) from hg) (by simp)
    · obtain rfl := Option.some.inj ((show opMfs[14]? = some opMf14 from rfl).symm.trans ho)
      exact absurd (show some (10, true) = (none : Option (Nat × Bool)) from hg) (by simp)
    · obtain rfl := Option.some.inj ((show opMfs[15]? = some opMf15 from rfl).symm.trans ho)
      exact absurd (show some (10, true) = (none : Option (Nat × Bool)) from hg) (by simp)
    · obtain rfl := Option.some.inj ((show opMfs[16]? = some opMf16 from rfl).symm.trans ho)
      exact absurd (show some (10, true) = (none : Option (Nat × Bool)) from hg) (by simp)
    · obtain rfl := Option.some.inj ((show opMfs[17]? = some opMf17 from rfl).symm.trans ho)
      exact absurd (show some (10, true) = (none : Option (Nat × Bool)) from hg) (by simp)
    · obtain rfl := Option.some.inj ((show opMfs[18]? = some opMf18 from rfl).symm.trans ho)
      exact absurd (show some (10, true) = (none : Option (Nat × Bool)) from hg) (by simp)
    · obtain rfl := Option.some.inj ((show opMfs[19]? = some opMf19 from rfl).symm.trans ho)
      exact absurd (show some (10, true) = (none : Option (Nat × Bool)) from hg) (by simp)
    · exact absurd (show false = true from hk) (by simp)
  · intro i w hk
    by_cases hi : i < 21
    · have : i = 0 ∨ i = 1 ∨ i = 2 ∨ i = 3 ∨ i = 4 ∨ i = 5 ∨ i = 6 ∨ i = 7 ∨ i = 8 ∨ i = 9 ∨ i = 10 ∨ i = 11 ∨ i = 12 ∨ i = 13 ∨ i = 14 ∨ i = 15 ∨ i = 16 ∨ i = 17 ∨ i = 18 ∨ i = 19 ∨ i = 20 := by omega
      rcases this with rfl | rfl | rfl | rfl | rfl | rfl | rfl | rfl | rfl | rfl | rfl | rfl | rfl | rfl | rfl | rfl | rfl | rfl | rfl | rfl | rfl
      · exact absurd (show false = true from hk) (by simp)
      · exact absurd (show false = true from hk) (by simp)
      · exact absurd (show false = true from hk) (by simp)
      · exact absurd (show false = true from hk) (by simp)
      · exact absurd (show false = true from hk) (by simp)
      · exact absurd (show false = true from hk) (by simp)
      · exact absurd (show false = true from hk) (by simp)
      · exact absurd (show false = true from hk) (by simp)
      · exact absurd (show false = true from hk) (by simp)
      · exact absurd (show false = true from hk) (by simp)
      · exact absurd (show false = true from hk) (by simp)
      · exact (show undef = undef from rfl)
      · exact (show undef = undef from rfl)
      · exact (show undef = undef from rfl)
      · exact (show undef = undef from rfl)
      · exact (show undef = undef from rfl)
      · exact (show undef = undef from rfl)
      · exact (show undef = undef from rfl)
      · exact (show undef = undef from rfl)
      · exact (show undef = undef from rfl)
      · exact absurd (show false = true from hk) (by simp)
    · exfalso
      unfold opMfK at hk
      split at hk
      · omega
      · omega
      · omega
      · omega
      · omega
      · omega
      · omega
      · omega
      · omega
      · simp at hk
  · intro i o a w K hki ho hH he hdep hk
    have hi : i < 21 := (Array.getElem?_eq_some_iff.1 ho).1
    have hD := dep_have (ps := [(2, 0), (2, 1), (3, 2), (6, 4), (6, 5), (7, 6), (8, 3), (8, 7), (9, 8), (10, 8), (10, 9), (11, 10), (12, 10), (13, 10), (13, 11), (13, 12), (14, 10), (14, 13), (15, 10), (16, 10), (17, 10), (17, 15), (17, 16), (18, 10), (18, 17), (19, 10), (19, 14), (19, 18), (20, 10), (20, 19)]) (by kernel_rfl) ho (fun j => opMfC b off n c b2 c2 ii k q li lk s1 x1 y1 p1 s2 x2 y2 p2 j w (a.eval (.tmp (opMfT j)))) hdep
    have e5' := (he 5 (fun j hj e => absurd e.symm (by revert j; decide))).trans e5
    have e11' := (he 11 (fun j hj e => absurd e.symm (by revert j; decide))).trans e11
    have e15' := (he 15 (fun j hj e => absurd e.symm (by revert j; decide))).trans e15
    have e8' := (he 8 (fun j hj e => absurd e.symm (by revert j; decide))).trans e8
    have : i = 0 ∨ i = 1 ∨ i = 2 ∨ i = 3 ∨ i = 4 ∨ i = 5 ∨ i = 6 ∨ i = 7 ∨ i = 8 ∨ i = 9 ∨ i = 10 ∨ i = 11 ∨ i = 12 ∨ i = 13 ∨ i = 14 ∨ i = 15 ∨ i = 16 ∨ i = 17 ∨ i = 18 ∨ i = 19 ∨ i = 20 := by omega
    rcases this with rfl | rfl | rfl | rfl | rfl | rfl | rfl | rfl | rfl | rfl | rfl | rfl | rfl | rfl | rfl | rfl | rfl | rfl | rfl | rfl | rfl
    · obtain rfl := Option.some.inj ((show opMfs[0]? = some opMf0 from rfl).symm.trans ho)
      exact wp_value (run_mv a w _ _ _ _ _ _ _ e5') (hk _ _ (But.refl _ _) rfl)
    · obtain rfl := Option.some.inj ((show opMfs[1]? = some opMf1 from rfl).symm.trans ho)
      exact wp_value (run_mv a w _ _ _ _ _ _ _ e11') (hk _ _ (But.refl _ _) rfl)
    · obtain rfl := Option.some.inj ((show opMfs[2]? = some opMf2 from rfl).symm.trans ho)
      exact wp_value (run_indexF a w _ _ _ _ _ _ _ b off n c ii hi' hn (hD 0 (by simp)) (hD 1 (by simp))) (hk _ _ (But.refl _ _) rfl)
    · obtain rfl := Option.some.inj ((show opMfs[3]? = some opMf3 from rfl).symm.trans ho)
      exact wp_value (run_loadF a w _ _ _ _ _ _ b _ _ _ _ _ (hD 2 (by simp)) (c1.but (hdr hH) (by simp))) (hk _ _ (But.refl _ _) rfl)
    · obtain rfl := Option.some.inj ((show opMfs[4]? = some opMf4 from rfl).symm.trans ho)
      exact wp_value (run_mv a w _ _ _ _ _ _ _ e5') (hk _ _ (But.refl _ _) rfl)
    · obtain rfl := Option.some.inj ((show opMfs[5]? = some opMf5 from rfl).symm.trans ho)
      exact wp_value (run_mv a w _ _ _ _ _ _ _ e15') (hk _ _ (But.refl _ _) rfl)
    · obtain rfl := Option.some.inj ((show opMfs[6]? = some opMf6 from rfl).symm.trans ho)
      exact wp_value (run_indexF a w _ _ _ _ _ _ _ b off n c k hk' hn (hD 4 (by simp)) (hD 5 (by simp))) (hk _ _ (But.refl _ _) rfl)
    · obtain rfl := Option.some.inj ((show opMfs[7]? = some opMf7 from rfl).symm.trans ho)
      exact wp_value (run_loadF a w _ _ _ _ _ _ b _ _ _ _ _ (hD 6 (by simp)) (c2'.but (hdr hH) (by simp))) (hk _ _ (But.refl _ _) rfl)
    · obtain rfl := Option.some.inj ((show opMfs[8]? = some opMf8 from rfl).symm.trans ho)
      exact wp_enter (run_cmpF a w _ _ _ _ _ _ _ _ _ (hD 3 (by simp)) (hD 7 (by simp))) (R := fun w' v => But [] w w' ∧ v = _) ((CM w (hdr hH)).mono fun e w' ⟨he, hb⟩ => ⟨_, he, hb, rfl⟩) (fun v w' hv => hk v w' hv.1 hv.2)
    · obtain rfl := Option.some.inj ((show opMfs[9]? = some opMf9 from rfl).symm.trans ho)
      exact wp_value (run_gtr0 a w _ _ _ _ _ _ q _ hq (hD 8 (by simp))) (hk _ _ (But.refl _ _) rfl)
    · obtain rfl := Option.some.inj ((show opMfs[10]? = some opMf10 from rfl).symm.trans ho)
      exact wp_value (run_mv a w _ _ _ _ _ _ _ (hD 9 (by simp))) (hk _ _ (But.refl _ _) rfl)
    · exact absurd (show true = false from hki) (by simp)
    · exact absurd (show true = false from hki) (by simp)
    · exact absurd (show true = false from hki) (by simp)
    · exact absurd (show true = false from hki) (by simp)
    · exact absurd (show true = false from hki) (by simp)
    · exact absurd (show true = false from hki) (by simp)
    · exact absurd (show true = false from hki) (by simp)
    · exact absurd (show true = false from hki) (by simp)
    · exact absurd (show true = false from hki) (by simp)
    · obtain rfl := Option.some.inj ((show opMfs[20]? = some opMf20 from rfl).symm.trans ho)
      exact wp_value (run_pickF a w _ _ _ _ _ _ _ _ _ (hD 10 (by simp)) rfl (fun h => by simp at h)) (hk _ _ (But.refl _ _) rfl)
  · intro a w h
    have ea := h.puts hT (fun i => match i with
      | 0 => .slice (some ⟨b, off, none⟩) n c
      | 1 => .int .i64 (ii : Int)
      | 2 => .pointer (some ⟨b, off + ii * 4, none⟩)
      | 3 => .agg #[.bool s1, .int .u64 x1, .int .u64 y1, .pointer p1]
      | 4 => .slice (some ⟨b, off, none⟩) n c
      | 5 => .int .i64 (k : Int)
      | 6 => .pointer (some ⟨b, off + k * 4, none⟩)
      | 7 => .agg #[.bool s2, .int .u64 x2, .int .u64 y2, .pointer p2]
      | 8 => .int .i64 q
      | 9 => .bool false
      | 10 => .bool false
      | 11 => undef
      | 12 => undef
      | 13 => undef
      | 14 => undef
      | 15 => undef
      | 16 => undef
      | 17 => undef
      | 18 => undef
      | 19 => undef
      | _ => .bool false) (fun i hi => by
      have hi' : i < 21 := hi
      have hc := h.has i hi rfl
      have : i = 0 ∨ i = 1 ∨ i = 2 ∨ i = 3 ∨ i = 4 ∨ i = 5 ∨ i = 6 ∨ i = 7 ∨ i = 8 ∨ i = 9 ∨ i = 10 ∨ i = 11 ∨ i = 12 ∨ i = 13 ∨ i = 14 ∨ i = 15 ∨ i = 16 ∨ i = 17 ∨ i = 18 ∨ i = 19 ∨ i = 20 := by omega
      rcases this with rfl | rfl | rfl | rfl | rfl | rfl | rfl | rfl | rfl | rfl | rfl | rfl | rfl | rfl | rfl | rfl | rfl | rfl | rfl | rfl | rfl
      all_goals first | exact hc | rfl)
    rw [ea]
    exact hQ w (hdr h.but)
end Go.Proofs.YtlkpkgajfakdpaaGreat

namespace Go.Proofs.YtlkpkgajfakdpaaGreat
open Go.RowKit

theorem fair_five (ls : List Nat) (h : Fair 5 (fun i => ([1, 1] : List Rat)[i]?.getD 0) (tot [1, 1]) 2 ls) : ls[0]?.getD 0 = 3 := by
  have et : tot [1, 1] = 2 := by show (1 : Rat) + (1 + 0) = 2; grind
  have h0 := h.off 0 (by omega)
  have h1 := h.off 1 (by omega)
  have h2 := h.same 0 1 (by omega) (by omega) rfl
  have h3 := h.sum
  have h4 := h.len
  rw [et] at h0 h1
  have e1 : (([1, 1] : List Rat)[0]?.getD 0) = 1 := rfl
  have e2 : (([1, 1] : List Rat)[1]?.getD 0) = 1 := rfl
  have e5 : ((((5 : Nat) : Int)) : Rat) = 5 := rfl
  simp only [e1, e2, e5] at h0 h1
  match ls, h4, h3, h2, h0, h1 with
  | [a, b], _, h3, h2, h0, h1 =>
    simp only [List.getElem?_cons_zero, List.getElem?_cons_succ, Option.getD_some, List.sum_cons, List.sum_nil] at h0 h1 h2 h3 ⊢
    have k1 : ((2 : Int) : Rat) * (((a : Nat) : Int) : Rat) < ((7 : Int) : Rat) := by
      have : ((7 : Int) : Rat) = 7 := rfl
      have : ((2 : Int) : Rat) = 2 := rfl
      grind
    rw [← Rat.intCast_mul] at k1
    have k2 := Rat.intCast_lt_intCast.1 k1
    omega
/-- what the walk hangs on, where units are parted -/
structure SplitOk (N : Nat) (ws : List Rat) (ls : List Nat) (n : Nat) (w : World) (b off c gs g9 : Nat) : Prop where
  fair : Fair N (fun i => ws[i]?.getD 0) (tot ws) n ls
  list : FracsAt w (.slice (some ⟨b, off, none⟩) n c) ws
  shares : IntsAt w gs 0 n (fun i => ls[i]?.getD 0)
  all : BoxAt w g9 (tot ws)
theorem SplitOk.but {N : Nat} {ws : List Rat} {ls : List Nat} {n : Nat} {w w' : World} {b off c gs g9 : Nat} (h : SplitOk N ws ls n w b off c gs g9) (hb : But [] w w') : SplitOk N ws ls n w' b off c gs g9 := ⟨h.fair, h.list.but hb, h.shares.but hb (by simp), h.all.but hb⟩
theorem list_sum_get : ∀ (ls : List Nat) (k : Nat), k ≤ ls.length → ((List.range k).map fun i => ls[i]?.getD 0).sum ≤ ls.sum ∧ ((List.range ls.length).map fun i => ls[i]?.getD 0).sum = ls.sum := by
  have key : ∀ (ls : List Nat) (k : Nat), k ≤ ls.length → ((List.range k).map fun i => ls[i]?.getD 0).sum = (ls.take k).sum := fun ls k => by
    induction k with
    | zero => intro _; rfl
    | succ k ih =>
      intro hk
      rw [sum_succ (fun i => ls[i]?.getD 0) k, ih (by omega), List.take_add_one, List.sum_append, List.getElem?_eq_getElem (by omega)]
      simp
  intro ls k hk
  refine ⟨?_, ?_⟩
  · rw [key ls k hk]
    have := congrArg List.sum (List.take_append_drop k ls)
    rw [List.sum_append] at this
    omega
  · rw [key ls _ (Nat.le_refl _), List.take_length]
end Go.Proofs.YtlkpkgajfakdpaaGreat

namespace Go.Proofs.YtlkpkgajfakdpaaGreat
open Go.RowKit

set_option maxHeartbeats 16000000 in
set_option maxRecDepth 100000 in
theorem fracSplit_any (U : Int) (hU1 : -9223372036854775808 ≤ U) (hU2 : U < 9223372036854775808) (v : Value) (qs : List (Int × Int)) (w : World) (hq : QsAt w v qs) (hf : ∀ q ∈ qs, Fits q) :
    Calls Tryz.prog 3 #[.int .i64 U, v] w fun e w' => e = .returned (.bool true) ∧ But [] (undrawn w) w' := by
  obtain ⟨a, cap, rfl, hcap, -⟩ := id hq
  by_cases hbig : 100 < qs.length
  · obtain ⟨n, hn⟩ : ∃ n, n = qs.length := ⟨_, rfl⟩
    rw [← hn] at hbig
    rw [← hn]
    clear hq hf hcap hn
    have hgt : (n : Int) > 100 := by omega
    go_enter Tryz.func3, Tryz.ntmps3
    go_wp2
    go_ret
    exact ⟨rfl, (But.refl _ _).undrawn⟩
  have PF := hide (plainFs_any _ qs w hq hf (by omega))
  have hlen : ∀ f ∈ qs.map qf, Len f 1 := fun f hf' => by
    obtain ⟨q, hq', rfl⟩ := List.mem_map.1 hf'
    exact (plainF_at q (hf q hq')).choose_spec.choose_spec.choose_spec.1
  have hwl : (qs.map qf).length = qs.length := List.length_map ..
  generalize qs.map qf = ws at *
  obtain ⟨n, hn⟩ : ∃ n, n = qs.length := ⟨_, rfl⟩
  rw [← hn] at hbig hwl PF
  rw [← hn]
  have HL := hide hlen
  have HN := hide hwl.symm
  clear hq hf hcap hn hlen hwl
  have hn2 : n ≤ 100 := by omega
  have hle : ¬ (n : Int) > 100 := by omega
  obtain ⟨sw, xw, FWH, CWH⟩ := whole_is 1 (by omega) (by omega)
  have FW1 := hide FWH
  have CW1 := hide CWH
  clear FWH CWH hbig
  go_enter Tryz.func3, Tryz.ntmps3
  go_wp2_with fail
  refine (unhide PF).mono ?_
  rintro e' w1 ⟨v1, vs, rfl, hH, hb1⟩
  have hfs := hH.fracs
  have hsmall : Small v1 := fun a' m' c' e => by
    rcases hH.own.2 with ⟨rfl, -⟩ | ⟨g, cap', cur, rfl, -, -, -, hm, -⟩
    · cases e; omega
    · cases e
      unfold maxLen at hm
      omega
  have HFS := hide hfs
  have HSM := hide hsmall
  have HB1 := hide hb1
  obtain ⟨a1, c1, rfl, hc1, -⟩ := id hfs
  rw [← unhide HN] at HFS HSM hc1
  rw [← unhide HN]
  clear hH hfs hsmall hb1 PF
  go_wp2_with fail
  refine (unhide CW1 _).mono ?_
  rintro e' w2 ⟨rfl, hb2⟩
  have HB2 := hide hb2
  clear hb2
  go_wp2_with fail
  refine (unhide CW1 _).mono ?_
  rintro e' w3 ⟨rfl, hb3⟩
  have HB3 : Hid (But [] w1 w3) := (unhide HB2).trans' hb3
  clear hb3 HB2
  obtain ⟨V, hV⟩ : ∃ V, V = w3.alloc (.cells #[.bool sw, .int .u64 xw, .int .u64 0, .pointer none, .bool sw, .int .u64 xw, .int .u64 0, .pointer none] 33) := ⟨_, rfl⟩
  have bV : But [] w3 V := by rw [hV]; exact (But.refl _ _).alloc _
  have e1 : ((((1 : Int)) : Int) : Rat) = 1 := rfl
  have fV : FracsAt V (.slice (some ⟨w3.heap.size, 0, none⟩) 2 2) [1, 1] := by
    refine ⟨_, 2, rfl, Nat.le_refl _, fun i f hi => ⟨_, _, rfl, sw, xw, 0, none, ?_, ?_⟩⟩
    · have hi2 : i < 2 := (List.getElem?_eq_some_iff.1 hi).1
      have : i = 0 ∨ i = 1 := by omega
      rw [hV]
      rcases this with rfl | rfl
      · exact ⟨by simp, by simp, by simp, by simp⟩
      · exact ⟨by simp, by simp, by simp, by simp⟩
    · have hi2 : i < 2 := (List.getElem?_eq_some_iff.1 hi).1
      have : i = 0 ∨ i = 1 := by omega
      rcases this with rfl | rfl
      · obtain rfl : 1 = f := by simpa using hi
        exact unhide FW1 V
      · obtain rfl : 1 = f := by simpa using hi
        exact unhide FW1 V
  have S5 := hide (split_any 5 (by omega) (by omega) _ [1, 1] V fV (fun a m c e => by cases e; omega) (by simp) (fun f hf => by
    simp at hf
    subst hf
    exact len_int 1 (by decide)))
  have HBV : Hid (But [] w1 V) := (unhide HB3).trans' bV
  have HV := hide hV
  clear hV bV fV e1 HB3
  go_wp2_with fail
  rw [← unhide HV]
  refine (unhide S5).mono ?_
  rintro e' w4 ⟨hb4, hr4⟩
  obtain ⟨g5, rfl, hc5⟩ : ∃ g5, e' = .returned (.tuple #[.slice (some ⟨g5, 0, none⟩) 2 2, .nilIface]) ∧ w4.cell? ⟨g5, 0, none⟩ = some (.int .i64 3) := by
    rcases hr4 with ⟨hbad, -⟩ | ⟨gp, N, ls, hN, -, -, -, rfl, hI, hfr⟩
    · exfalso
      have et : tot [1, 1] = 2 := by show (1 : Rat) + (1 + 0) = 2; grind
      rcases hbad with h | h | ⟨f, hf, h⟩ | h
      · omega
      · omega
      · simp at hf
        subst hf
        exact absurd h (by decide)
      · rw [et] at h
        exact absurd h (by decide)
    · refine ⟨gp, rfl, ?_⟩
      obtain rfl : N = 5 := by omega
      have h0 := hI 0 (by simp)
      have h3 := fair_five ls hfr
      have h0' : w4.cell? ⟨gp, 0 + 0, none⟩ = some (.int .i64 ((ls[0]?.getD 0 : Nat) : Int)) := h0
      rw [h3] at h0'
      exact h0'
  have HB4 : Hid (But [] w1 w4) := (unhide HBV).trans' hb4
  have SP := hide (split_any U hU1 hU2 _ ws w4 ((unhide HFS).but (unhide HB4)) (unhide HSM) (by have := unhide HN; omega) (unhide HL))
  clear hr4 hb4 S5 HBV HV
  go_wp2_with fail
  refine (unhide SP).mono ?_
  rintro e' w5 ⟨hb5, hr5⟩
  have HB5 : Hid (But [] w1 w5) := (unhide HB4).trans' hb5
  clear hb5 SP HB4 hc5
  rcases hr5 with ⟨-, z, rfl⟩ | ⟨gs, N, ls, hUN, hn0, htp, hw0, rfl, hI, hfr⟩
  · have FB := hide ((unhide HB1).trans' (unhide HB5))
    go_wp2
    go_ret
    exact ⟨rfl, unhide FB⟩
  rw [← unhide HN] at hn0 hI hfr ⊢
  rcases (unhide HFS).open with ⟨er, -⟩ | ⟨-, b, off, cap2, er, -, -⟩
  · exfalso
    have h2 := unhide HN
    rw [er] at h2
    simp at h2
    omega
  simp only [Value.slice.injEq] at er
  obtain ⟨rfl, -, rfl⟩ := er
  have KS := hide (keepSum_any b off c1 n ws w5 ((unhide HFS).but (unhide HB5)) (unhide HN) hn2 (unhide HL))
  have HI := hide hI
  have HFR := hide hfr
  have HUN := hide hUN
  have HTP := hide htp
  clear hI hfr hUN htp hw0
  go_wp2_with fail
  refine (unhide KS).mono ?_
  rintro e' w6 ⟨st, xt, yt, pt, rfl, ft, hb6⟩
  obtain ⟨V6, hV6⟩ : ∃ V6, V6 = w6.alloc (.cells #[.bool st, .int .u64 xt, .int .u64 yt, .pointer pt] 33) := ⟨_, rfl⟩
  have b6 : But [] w6 V6 := by rw [hV6]; exact (But.refl _ _).alloc _
  have OK : Hid (SplitOk N ws ls n V6 b off c1 gs w6.heap.size) := ⟨unhide HFR, (unhide HFS).but (((unhide HB5).trans' hb6).trans' b6), (unhide HI).but (hb6.trans' b6) (by simp), by rw [hV6]; exact BoxAt.new _ _ _ _ _ _ _ ft⟩
  have FB : Hid (But [] (undrawn w) V6) := (unhide HB1).trans' (((unhide HB5).trans' hb6).trans' b6)
  have HV6 := hide hV6
  clear ft hb6 hV6 b6 KS HI HFS HB1 HB5
  obtain ⟨S, hS⟩ : ∃ S : Nat → Nat, S = fun j => ((List.range j).map fun i => ls[i]?.getD 0).sum := ⟨_, rfl⟩
  have hS0 : S 0 = 0 := by rw [hS]; rfl
  have HSS : Hid (∀ j, S (j + 1) = S j + ls[j]?.getD 0) := fun j => by rw [hS]; exact sum_succ _ j
  have hll : ls.length = n := (unhide HFR).len
  have HSM2 : Hid (∀ j, j ≤ n → (S j : Int) ≤ U) := fun j hj => by
    have h1 := (list_sum_get ls j (by omega)).1
    have h2 := (unhide HFR).sum
    have h3 := unhide HUN
    have h4 : S j = ((List.range j).map fun i => ls[i]?.getD 0).sum := by rw [hS]
    omega
  have HSN : Hid ((S n : Int) = U) := by
    have h1 := (list_sum_get ls n (by omega)).2
    rw [hll] at h1
    have h2 := (unhide HFR).sum
    have h3 := unhide HUN
    have h4 : S n = ((List.range n).map fun i => ls[i]?.getD 0).sum := by rw [hS]
    show _ = _
    omega
  clear hS hll
  go_wp2
  rw [← unhide HV6]
  obtain ⟨g9, hg9⟩ : ∃ g9, g9 = w6.heap.size := ⟨_, rfl⟩
  rw [← hg9] at OK
  rw [← hg9]
  clear hg9 HV6
  go_loopw [10, 11] (fun l i wr => ∃ j : Nat, j ≤ n ∧ i = .int .i64 (j : Int) ∧ l = .int .i64 (S j : Int) ∧ Hid (But [] V6 wr)) (fun _ i _ => n - (intOf i).toNat)
  case atStart => exact ⟨0, Nat.zero_le _, rfl, by rw [hS0]; rfl, But.refl _ _⟩
  case round =>
    obtain ⟨j, hj, rfl, rfl, BR⟩ := hrel
    rename World => wr
    by_cases hlt : j < n
    · have hjl : j < ws.length := by have := unhide HN; omega
      have OKr := hide ((unhide OK).but (unhide BR))
      have FBr := hide ((unhide FB).trans' (unhide BR))
      have cj : wr.cell? ⟨gs, 0 + j, none⟩ = some (.int .i64 ((ls[j]?.getD 0 : Nat) : Int)) := (unhide OKr).shares j hlt
      have CJ := hide cj
      obtain ⟨s2, x2, y2, p2, c2, f2⟩ := (unhide OKr).list.get j hlt
      obtain ⟨⟨s3, x3, y3, p3, c3, f3⟩, -⟩ := (unhide OKr).all
      obtain ⟨s1, x1, F1, W1⟩ := whole_is U hU1 hU2
      have lw : Len (ws[j]?.getD 0) 1 := by rw [List.getElem?_eq_getElem hjl]; exact unhide HL _ (List.getElem_mem hjl)
      have lU : Len ((U : Int) : Rat) 1 := len_int U (by omega)
      have lt : Len (tot ws) 101 := (len_tot ws (unhide HL) (by have := unhide HN; omega)).mono (by have := unhide HN; omega)
      have htn : (tot ws).num ≠ 0 := fun h => by
        have h1 := unhide HTP
        rw [Rat.num_eq_zero.1 h] at h1
        exact Rat.lt_irrefl h1
      have hoff := (unhide HFR).off j hlt
      rw [← unhide HUN] at hoff
      have hoff' : ((U : Int) : Rat) * ws[j]?.getD 0 / tot ws - (((ls[j]?.getD 0 : Nat) : Int) : Rat) < 1 ∧ -1 < ((U : Int) : Rat) * ws[j]?.getD 0 / tot ws - (((ls[j]?.getD 0 : Nat) : Int) : Rat) := hoff
      have hSj := unhide HSS j
      have hSm := unhide HSM2 (j + 1) (by omega)
      have MU := hide (fun W' (h : But [] wr W') => fracMul_any _ _ _ _ W' (F1 W') (f2.but h) (lU.mono (by omega)) (lw.mono (by omega)))
      have lf0 : Len (((U : Int) : Rat) * ws[j]?.getD 0) 2 := len_mul lU lw 2 (by omega)
      have DI := hide (fun W' (h : But [] wr W') v (hv : FracAt W' v (((U : Int) : Rat) * ws[j]?.getD 0)) => fracDiv_any v _ _ (tot ws) W' hv (f3.but h) (lf0.mono (by omega)) (lt.mono (by omega)) htn)
      have lf : Len (((U : Int) : Rat) * ws[j]?.getD 0 / tot ws) 103 := len_div lf0 lt htn 103 (by omega)
      obtain ⟨lj, hlj⟩ : ∃ lj : Nat, lj = ls[j]?.getD 0 := ⟨_, rfl⟩
      rw [← hlj] at CJ hoff' hSj cj
      have hljb : (lj : Int) < 9223372036854775808 := by omega
      obtain ⟨s4, x4, F4, W4⟩ := whole_is (lj : Int) (by omega) hljb
      have ll : Len (((lj : Int) : Int) : Rat) 1 := len_int (lj : Int) (by omega)
      have lo : Len (((U : Int) : Rat) * ws[j]?.getD 0 / tot ws - (((lj : Nat) : Int) : Rat)) 105 := len_sub lf ll 105 (by omega)
      generalize ((U : Int) : Rat) * ws[j]?.getD 0 = f0 at *
      obtain ⟨f, hfd⟩ : ∃ f : Rat, f = f0 / tot ws := ⟨_, rfl⟩
      rw [← hfd] at DI lf hoff' lo
      obtain ⟨fo, hfo⟩ : ∃ fo : Rat, fo = f - (((lj : Nat) : Int) : Rat) := ⟨_, rfl⟩
      rw [← hfo] at lo hoff'
      obtain ⟨s5, x5, F5, W5⟩ := whole_is (-1) (by omega) (by omega)
      have em1 : ((((-1 : Int)) : Int) : Rat) = -1 := rfl
      have e1 : ((((1 : Int)) : Int) : Rat) = 1 := rfl
      rw [em1] at F5
      have F1' : ∀ W, FracAt W (.agg #[.bool sw, .int .u64 xw, .int .u64 0, .pointer none]) 1 := fun W => by have := unhide FW1 W; rwa [e1] at this
      have CA := hide (fun W' v (hv : FracAt W' v fo) => fracCmp_any v _ fo 1 W' hv (F1' W') (lo.mono (by omega)) ((len_int 1 (by decide)).mono (by omega)) (-1) (by show _ = _; rw [cmpZ_sg]; exact (sg_neg (by have := hoff'.1; grind)).symm))
      have CB := hide (fun W' v (hv : FracAt W' v fo) => fracCmp_any v _ fo (-1) W' hv (F5 W') (lo.mono (by omega)) ((len_int (-1) (by decide)).mono (by omega)) 1 (by show _ = _; rw [cmpZ_sg]; exact (sg_pos (by have := hoff'.2; grind)).symm))
      have SB := hide (fun W' v (hv : FracAt W' v f) => fracSub_gen 103 1 (by omega) v _ f _ W' hv (F4 W') lf ll)
      rw [← hfo] at SB
      have hw : wrap64 ((S j : Int) + (lj : Int)) = (S (j + 1) : Int) := by unfold wrap64; omega
      have HW := hide hw
      have WHU := hide W1
      have WHL := hide W4
      have WHM := hide W5
      have C2 := hide c2
      have C3 := hide c3
      rw [Nat.zero_add] at cj
      clear f2 f3 F1 W1 W4 W5 F4 F5 F1' lw lU lt htn hoff hoff' hSj hSm lf0 lf lo ll hlj em1 e1 hfd hfo c2 c3 hw
      go_wp2
      refine quot_region 16 _ _ wr wr.heap.size U b off n c1 j s1 x1 0 none s2 x2 y2 p2 s3 x3 y3 p3 f0 f (by simp) g9 rfl (by simp [Act.eval]) (by simp [Act.eval]) (by simp [Act.eval]) (by simp [Act.eval]) hlt (by omega) (unhide C2) (unhide C3) (unhide WHU) (unhide MU) (unhide DI) ?_
      intro w7 b12 v6 v8 v9 v10 v13 s' x' y' p' hb7 hge7 hp7 hf7
      have SB7 := hide (fun W' (h : But [] w7 W') => unhide SB W' _ (hf7.but h))
      have HB7 := hide hb7
      have P7 := hide hp7
      clear hb7 hge7 hp7 hf7 WHU MU DI C2 C3 SB
      simp only [putted, List.foldl_cons, List.foldl_nil, Act.put, List.setIfInBounds_toArray, List.set_cons_zero, List.set_cons_succ]
      go_wp2
      refine off_region 17 _ _ w7 w7.heap.size gs n n j (lj : Int) s' x' y' p' s4 x4 0 none fo (by simp) b12 (Nat.le_refl _) (by simp [Act.eval]) (by simp [Act.eval]) (by simp [Act.eval]) hlt (by omega) (unhide P7) ((unhide HB7).cell_some (unhide CJ) (by simp)) (unhide WHL) (unhide SB7) ?_
      intro w8 b14 s'' x'' y'' p'' hb8 hge8 hp8 hz8 hf8
      have hP := put4_but w8 b14 s'' x'' y'' p''
      have BV : Hid (But [] wr (put4 w8 b14 s'' x'' y'' p'')) := ((unhide HB7).trans' hb8).trans hP (fun x hx => by simp at hx; subst hx; exact .inr (Nat.le_trans (unhide HB7).size hge8))
      have P8 := hide (put4_p4 w8 b14 s'' x'' y'' p'' hp8)
      have hfo8 := hf8.over hp8.1 hP
      generalize put4 w8 b14 s'' x'' y'' p'' = V8 at *
      have CA8 := hide (fun W' (h : But [] V8 W') => unhide CA W' _ (hfo8.but h))
      have CB8 := hide (fun W' (h : But [] V8 W') => unhide CB W' _ (hfo8.but h))
      clear hP hb8 hge8 hp8 hz8 hf8 hfo8 SB7 P7 HB7 WHL CA CB
      simp only [Nat.zero_add, putted, List.foldl_cons, List.foldl_nil, Act.put, List.setIfInBounds_toArray, List.set_cons_zero, List.set_cons_succ]
      go_wp2
      refine near_region 18 _ _ V8 gs n n j (lj : Int) s'' x'' y'' p'' sw xw 0 none s5 x5 0 none (by simp) b14 (by simp [Act.eval]) (by simp [Act.eval]) (by simp [Act.eval]) (by simp [Act.eval]) hlt (by omega) (by omega) (unhide P8) ((unhide BV).cell_some (unhide CJ) (by simp)) (unhide CW1) (unhide WHM) (unhide CA8) (unhide CB8) ?_
      intro w9 hb9
      have B9 : Hid (But [] V6 w9) := ((unhide BR).trans' (unhide BV)).trans' hb9
      clear hb9 CA8 CB8 P8 WHM BV
      simp only [Nat.zero_add, putted, List.foldl_cons, List.foldl_nil, Act.put, List.setIfInBounds_toArray, List.set_cons_zero, List.set_cons_succ]
      go_wp2
      go_loopw [15] (fun i wv => ∃ k : Nat, k ≤ n ∧ i = .int .i64 (k : Int) ∧ Hid (But [] V6 wv)) (fun i _ => n - (intOf i).toNat)
      case atStart => exact ⟨0, Nat.zero_le _, rfl, unhide B9⟩
      case round =>
        obtain ⟨k, hk, rfl, BK⟩ := hrel
        rename World => wv
        by_cases hkn : k < n
        · have OKk := hide ((unhide OK).but (unhide BK))
          obtain ⟨si, xi, yi, pi, ci, fi⟩ := (unhide OKk).list.get j hlt
          obtain ⟨sk, xk, yk, pk, ck, fk⟩ := (unhide OKk).list.get k hkn
          have hjl2 : j < ws.length := by have := unhide HN; omega
          have hkl2 : k < ws.length := by have := unhide HN; omega
          have li : Len (ws[j]?.getD 0) 1 := by rw [List.getElem?_eq_getElem hjl2]; exact unhide HL _ (List.getElem_mem hjl2)
          have lk : Len (ws[k]?.getD 0) 1 := by rw [List.getElem?_eq_getElem hkl2]; exact unhide HL _ (List.getElem_mem hkl2)
          obtain ⟨q, hq⟩ : ∃ q : Int, q = sg (ws[j]?.getD 0 - ws[k]?.getD 0) := ⟨_, rfl⟩
          have CM := hide (fun W' (h : But [] wv W') => fracCmp_any _ _ _ _ W' (fi.but h) (fk.but h) (li.mono (by omega)) (lk.mono (by omega)) q (by show _ = _; rw [hq, cmpZ_sg]))
          have d1 : wv.cell? ⟨gs, 0 + j, none⟩ = some (.int .i64 ((ls[j]?.getD 0 : Nat) : Int)) := (unhide OKk).shares j hlt
          have d2 : wv.cell? ⟨gs, 0 + k, none⟩ = some (.int .i64 ((ls[k]?.getD 0 : Nat) : Int)) := (unhide OKk).shares k hkn
          have hmore : q > 0 → ¬ ((ls[j]?.getD 0 : Nat) : Int) < ((ls[k]?.getD 0 : Nat) : Int) := fun h => by
            have h1 : ws[k]?.getD 0 < ws[j]?.getD 0 := by
              rcases rat_cases (ws[j]?.getD 0 - ws[k]?.getD 0) with h2 | h2 | h2
              · rw [sg_neg h2] at hq; omega
              · rw [h2, sg_zero] at hq; omega
              · grind
            have := (unhide HFR).more j k hlt hkn h1
            omega
          have D1 := hide d1
          have D2 := hide d2
          have CI := hide ci
          have CK := hide ck
          generalize ((ls[j]?.getD 0 : Nat) : Int) = zj at *
          generalize ((ls[k]?.getD 0 : Nat) : Int) = zk at *
          have HMORE := hide hmore
          clear fi fk li lk hq ci ck d1 d2 hmore hjl2 hkl2
          go_wp2
          by_cases hqp : q > 0
          · refine more_true 23 _ _ wv b off n c1 gs n j k q zj zk si xi yi pi sk xk yk pk (by simp) (by simp [Act.eval]) (by simp [Act.eval]) (by simp [Act.eval]) (by simp [Act.eval]) hlt hkn (by omega) (decide_eq_true hqp) (unhide CI) (unhide CK) (by have := unhide HMORE hqp; omega) (unhide D1) (unhide D2) (unhide CM) ?_
            intro wz hbz
            have BZ : Hid (But [] V6 wz) := (unhide BK).trans' hbz
            clear hbz CM CI CK D1 D2 HMORE
            simp only [putted, List.foldl_cons, List.foldl_nil, Act.put, List.setIfInBounds_toArray, List.set_cons_zero, List.set_cons_succ]
            go_wp2
            first | exact ⟨⟨k + 1, by omega, by omega⟩, by simp [intOf]; omega⟩ | exact ⟨⟨k + 1, by omega, by go_num, unhide BZ⟩, by simp [intOf]; omega⟩
          · refine more_false 23 _ _ wv b off n c1 gs n j k q zj zk si xi yi pi sk xk yk pk (by simp) (by simp [Act.eval]) (by simp [Act.eval]) (by simp [Act.eval]) (by simp [Act.eval]) hlt hkn (by omega) (decide_eq_false hqp) (unhide CI) (unhide CK) (unhide CM) ?_
            intro wz hbz
            have BZ : Hid (But [] V6 wz) := (unhide BK).trans' hbz
            clear hbz CM CI CK D1 D2 HMORE
            simp only [putted, List.foldl_cons, List.foldl_nil, Act.put, List.setIfInBounds_toArray, List.set_cons_zero, List.set_cons_succ]
            go_wp2
            first | exact ⟨⟨k + 1, by omega, by omega⟩, by simp [intOf]; omega⟩ | exact ⟨⟨k + 1, by omega, by go_num, unhide BZ⟩, by simp [intOf]; omega⟩
        · obtain rfl : k = n := by omega
          go_wp2
          exact ⟨⟨j + 1, by omega, by go_num, by rw [unhide HW], unhide BK⟩, by simp [intOf]; omega⟩
    · obtain rfl : j = n := by omega
      have hSN := unhide HSN
      have FBr := hide ((unhide FB).trans' (unhide BR))
      rw [hSN]
      go_wp2
      go_ret
      exact ⟨rfl, unhide FBr⟩
end Go.Proofs.YtlkpkgajfakdpaaGreat
