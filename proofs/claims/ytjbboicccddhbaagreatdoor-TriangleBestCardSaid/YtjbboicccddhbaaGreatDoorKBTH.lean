/- How much years are beside a factor: the statements that draw their order. -/
import Derived.Test.YtjbboicccddhbaaGreatDoorKBEKr
import Derived.Test.YtjbboicccddhbaaGreatDoorKBJLr
namespace Go.Proofs.YtjbboicccddhbaaGreatDoor
open Go.RowKit
set_option linter.unusedVariables false

theorem run_loadJ (a : Act) (w : World) (d t : Nat) (u : TypeId) (ps : String) (ed : Array Edge) (gd : Option (Nat × Bool)) (b o : Nat) (q : Option Addr) (n c : Nat) (h1 : a.eval (.tmp t) = .pointer (some ⟨b, o, none⟩)) (hc : w.cell? ⟨b, o, none⟩ = some (.slice q n c)) :
    (execOp a.eval { dst := some d, op := Op.load 73 (.tmp t), type := u, pos := ps, after := ed, guard := gd }).run Tryz.prog w = .ok (.value (.slice q n c)) w := by
  unfold execOp
  simp only [h1]
  go_simp
def opTd0 : Oper := { dst := some 30, op := Op.load 73 (Operand.tmp 2), type := 73, pos := "house.go:112", after := #[], guard := none }
def opTd1 : Oper := { dst := some 31, op := Op.move (Operand.tmp 7), type := 3, pos := "house.go:112", after := #[], guard := none }
def opTd2 : Oper := { dst := some 32, op := Op.indexAddr 73 (Operand.tmp 30) (Operand.tmp 31), type := 0, pos := "house.go:112", after := #[{ on := 0, ground := Ground.data }, { on := 1, ground := Ground.data }], guard := none }
def opTd3 : Oper := { dst := some 33, op := Op.load 53 (Operand.tmp 32), type := 53, pos := "house.go:112", after := #[{ on := 2, ground := Ground.data }], guard := none }
def opTd4 : Oper := { dst := some 34, op := Op.move (Operand.tmp 1), type := 3, pos := "house.go:112", after := #[], guard := none }
def opTd5 : Oper := { dst := some 35, op := Op.binOp BinOp.add 3 (Operand.tmp 34) (Operand.const (Value.int IntKind.i64 1)) 3, type := 3, pos := "house.go:112", after := #[{ on := 4, ground := Ground.data }], guard := none }
def opTd6 : Oper := { dst := some 36, op := Op.indexAddr 53 (Operand.tmp 33) (Operand.tmp 35), type := 0, pos := "house.go:112", after := #[{ on := 3, ground := Ground.data }, { on := 5, ground := Ground.data }], guard := none }
def opTd7 : Oper := { dst := some 37, op := Op.load 3 (Operand.tmp 36), type := 3, pos := "house.go:112", after := #[{ on := 6, ground := Ground.data }], guard := none }
def opTd8 : Oper := { dst := some 38, op := Op.call { callee := Callee.value (Operand.func 16), args := #[Operand.tmp 37], argTypes := #[3] }, type := 27, pos := "house.go:112", after := #[{ on := 7, ground := Ground.data }], guard := none }
def opTd9 : Oper := { dst := some 39, op := Op.load 73 (Operand.tmp 2), type := 73, pos := "house.go:112", after := #[], guard := none }
def opTd10 : Oper := { dst := some 40, op := Op.move (Operand.tmp 7), type := 3, pos := "house.go:112", after := #[], guard := none }
def opTd11 : Oper := { dst := some 41, op := Op.indexAddr 73 (Operand.tmp 39) (Operand.tmp 40), type := 0, pos := "house.go:112", after := #[{ on := 9, ground := Ground.data }, { on := 10, ground := Ground.data }], guard := none }
def opTd12 : Oper := { dst := some 42, op := Op.load 53 (Operand.tmp 41), type := 53, pos := "house.go:112", after := #[{ on := 11, ground := Ground.data }], guard := none }
def opTd13 : Oper := { dst := some 43, op := Op.move (Operand.tmp 1), type := 3, pos := "house.go:112", after := #[], guard := none }
def opTd14 : Oper := { dst := some 44, op := Op.indexAddr 53 (Operand.tmp 42) (Operand.tmp 43), type := 0, pos := "house.go:112", after := #[{ on := 12, ground := Ground.data }, { on := 13, ground := Ground.data }], guard := none }
def opTd15 : Oper := { dst := some 45, op := Op.load 3 (Operand.tmp 44), type := 3, pos := "house.go:112", after := #[{ on := 14, ground := Ground.data }], guard := none }
def opTd16 : Oper := { dst := some 46, op := Op.call { callee := Callee.value (Operand.func 16), args := #[Operand.tmp 45], argTypes := #[3] }, type := 27, pos := "house.go:112", after := #[{ on := 15, ground := Ground.data }, { on := 8, ground := Ground.chain }], guard := none }
def opTd17 : Oper := { dst := some 47, op := Op.call { callee := Callee.value (Operand.func 36), args := #[Operand.tmp 38, Operand.tmp 46], argTypes := #[27, 27] }, type := 31, pos := "house.go:112", after := #[{ on := 8, ground := Ground.data }, { on := 16, ground := Ground.data }, { on := 16, ground := Ground.chain }], guard := none }
def opTd18 : Oper := { dst := some 29, op := Op.move (Operand.tmp 47), type := 31, pos := "house.go:112", after := #[{ on := 17, ground := Ground.data }], guard := none }
def opTd19 : Oper := { dst := some 48, op := Op.extract (Operand.tmp 29) 0, type := 27, pos := "house.go:112", after := #[{ on := 18, ground := Ground.data }], guard := none }
def opTd20 : Oper := { dst := some 49, op := Op.extract (Operand.tmp 29) 1, type := 30, pos := "house.go:112", after := #[{ on := 18, ground := Ground.data }, { on := 22, ground := Ground.gcOnly Departure.lateStores }], guard := none }
def opTd21 : Oper := { dst := some 8, op := Op.alloc 27, type := 0, pos := "house.go:112", after := #[], guard := none }
def opTd22 : Oper := { dst := none, op := Op.store 27 (Operand.tmp 8) (Operand.tmp 48), type := 0, pos := "house.go:112", after := #[{ on := 21, ground := Ground.data }, { on := 19, ground := Ground.data }, { on := 17, ground := Ground.chain }, { on := 0, ground := Ground.phase }, { on := 1, ground := Ground.phase }, { on := 2, ground := Ground.phase }, { on := 3, ground := Ground.phase }, { on := 4, ground := Ground.phase }, { on := 5, ground := Ground.phase }, { on := 6, ground := Ground.phase }, { on := 7, ground := Ground.phase }, { on := 8, ground := Ground.phase }, { on := 9, ground := Ground.phase }, { on := 10, ground := Ground.phase }, { on := 11, ground := Ground.phase }, { on := 12, ground := Ground.phase }, { on := 13, ground := Ground.phase }, { on := 14, ground := Ground.phase }, { on := 15, ground := Ground.phase }, { on := 16, ground := Ground.phase }, { on := 17, ground := Ground.phase }, { on := 18, ground := Ground.phase }, { on := 19, ground := Ground.phase }, { on := 20, ground := Ground.textOnly Departure.lateStores }, { on := 21, ground := Ground.phase }], guard := none }
def opTd23 : Oper := { dst := some 9, op := Op.assign (Operand.tmp 49), type := 30, pos := "house.go:112", after := #[{ on := 20, ground := Ground.data }, { on := 22, ground := Ground.chain }, { on := 0, ground := Ground.phase }, { on := 1, ground := Ground.phase }, { on := 2, ground := Ground.phase }, { on := 3, ground := Ground.phase }, { on := 4, ground := Ground.phase }, { on := 5, ground := Ground.phase }, { on := 6, ground := Ground.phase }, { on := 7, ground := Ground.phase }, { on := 8, ground := Ground.phase }, { on := 9, ground := Ground.phase }, { on := 10, ground := Ground.phase }, { on := 11, ground := Ground.phase }, { on := 12, ground := Ground.phase }, { on := 13, ground := Ground.phase }, { on := 14, ground := Ground.phase }, { on := 15, ground := Ground.phase }, { on := 16, ground := Ground.phase }, { on := 17, ground := Ground.phase }, { on := 18, ground := Ground.phase }, { on := 19, ground := Ground.phase }, { on := 20, ground := Ground.phase }, { on := 21, ground := Ground.phase }, { on := 22, ground := Ground.phase }], guard := none }
def opTds : Array Oper := #[opTd0, opTd1, opTd2, opTd3, opTd4, opTd5, opTd6, opTd7, opTd8, opTd9, opTd10, opTd11, opTd12, opTd13, opTd14, opTd15, opTd16, opTd17, opTd18, opTd19, opTd20, opTd21, opTd22, opTd23]
def opTdT (i : Nat) : Nat := match i with
  | 0 => 30
  | 1 => 31
  | 2 => 32
  | 3 => 33
  | 4 => 34
  | 5 => 35
  | 6 => 36
  | 7 => 37
  | 8 => 38
  | 9 => 39
  | 10 => 40
  | 11 => 41
  | 12 => 42
  | 13 => 43
  | 14 => 44
  | 15 => 45
  | 16 => 46
  | 17 => 47
  | 18 => 29
  | 19 => 48
  | 20 => 49
  | 21 => 8
  | _ => 9
/-- what each operation's value is -/
def opTdC (B : Nat) (tb : Nat) (to : Nat) (n : Nat) (tcap : Nat) (ia : Nat) (ja : Nat) (rb : Nat) (ro : Nat) (rn : Nat) (rc : Nat) (z1 : Int) (z0 : Int) (ws1 : Bool) (wx1 : Int) (ws2 : Bool) (wx2 : Int) (f : Rat) (i : Nat) (w : World) (v : Value) : Prop := match i with
  | 0 => v = .slice (some ⟨tb, to, none⟩) n tcap
  | 1 => v = .int .i64 (ia : Int)
  | 2 => v = .pointer (some ⟨tb, to + ia, none⟩)
  | 3 => v = .slice (some ⟨rb, ro, none⟩) rn rc
  | 4 => v = .int .i64 (ja : Int)
  | 5 => v = .int .i64 ((ja + 1 : Nat) : Int)
  | 6 => v = .pointer (some ⟨rb, ro + (ja + 1), none⟩)
  | 7 => v = .int .i64 z1
  | 8 => v = .agg #[.bool ws1, .int .u64 wx1, .int .u64 0, .pointer none]
  | 9 => v = .slice (some ⟨tb, to, none⟩) n tcap
  | 10 => v = .int .i64 (ia : Int)
  | 11 => v = .pointer (some ⟨tb, to + ia, none⟩)
  | 12 => v = .slice (some ⟨rb, ro, none⟩) rn rc
  | 13 => v = .int .i64 (ja : Int)
  | 14 => v = .pointer (some ⟨rb, ro + ja, none⟩)
  | 15 => v = .int .i64 z0
  | 16 => v = .agg #[.bool ws2, .int .u64 wx2, .int .u64 0, .pointer none]
  | 17 => FracErr (f) w v
  | 18 => FracErr (f) w v
  | 19 => FracAt w v f
  | 20 => v = .nilIface
  | 21 => LaidAny B w v
  | _ => True
theorem opTdC_but {B : Nat} {tb : Nat} {to : Nat} {n : Nat} {tcap : Nat} {ia : Nat} {ja : Nat} {rb : Nat} {ro : Nat} {rn : Nat} {rc : Nat} {z1 : Int} {z0 : Int} {ws1 : Bool} {wx1 : Int} {ws2 : Bool} {wx2 : Int} {f : Rat} {i : Nat} {w w' : World} {v : Value} (h : opTdC B tb to n tcap ia ja rb ro rn rc z1 z0 ws1 wx1 ws2 wx2 f i w v) (hi : i < 23) (hb : But [] w w') : opTdC B tb to n tcap ia ja rb ro rn rc z1 z0 ws1 wx1 ws2 wx2 f i w' v := by
  have : i = 0 ∨ i = 1 ∨ i = 2 ∨ i = 3 ∨ i = 4 ∨ i = 5 ∨ i = 6 ∨ i = 7 ∨ i = 8 ∨ i = 9 ∨ i = 10 ∨ i = 11 ∨ i = 12 ∨ i = 13 ∨ i = 14 ∨ i = 15 ∨ i = 16 ∨ i = 17 ∨ i = 18 ∨ i = 19 ∨ i = 20 ∨ i = 21 ∨ i = 22 := by omega
  rcases this with rfl | rfl | rfl | rfl | rfl | rfl | rfl | rfl | rfl | rfl | rfl | rfl | rfl | rfl | rfl | rfl | rfl | rfl | rfl | rfl | rfl | rfl | rfl
  · exact (show v = .slice (some ⟨tb, to, none⟩) n tcap from h)
  · exact (show v = .int .i64 (ia : Int) from h)
  · exact (show v = .pointer (some ⟨tb, to + ia, none⟩) from h)
  · exact (show v = .slice (some ⟨rb, ro, none⟩) rn rc from h)
  · exact (show v = .int .i64 (ja : Int) from h)
  · exact (show v = .int .i64 ((ja + 1 : Nat) : Int) from h)
  · exact (show v = .pointer (some ⟨rb, ro + (ja + 1), none⟩) from h)
  · exact (show v = .int .i64 z1 from h)
  · exact (show v = .agg #[.bool ws1, .int .u64 wx1, .int .u64 0, .pointer none] from h)
  · exact (show v = .slice (some ⟨tb, to, none⟩) n tcap from h)
  · exact (show v = .int .i64 (ia : Int) from h)
  · exact (show v = .pointer (some ⟨tb, to + ia, none⟩) from h)
  · exact (show v = .slice (some ⟨rb, ro, none⟩) rn rc from h)
  · exact (show v = .int .i64 (ja : Int) from h)
  · exact (show v = .pointer (some ⟨rb, ro + ja, none⟩) from h)
  · exact (show v = .int .i64 z0 from h)
  · exact (show v = .agg #[.bool ws2, .int .u64 wx2, .int .u64 0, .pointer none] from h)
  · exact FracErr.but (show FracErr (f) w v from h) hb
  · exact FracErr.but (show FracErr (f) w v from h) hb
  · exact FracAt.but (show FracAt w v f from h) hb
  · exact (show v = .nilIface from h)
  · exact LaidAny.but (show LaidAny B w v from h) hb
  · exact trivial
theorem opTdC_put {B : Nat} {tb : Nat} {to : Nat} {n : Nat} {tcap : Nat} {ia : Nat} {ja : Nat} {rb : Nat} {ro : Nat} {rn : Nat} {rc : Nat} {z1 : Int} {z0 : Int} {ws1 : Bool} {wx1 : Int} {ws2 : Bool} {wx2 : Int} {f : Rat} {i : Nat} {w : World} {v : Value} {g0 : Nat} {s0 : Bool} {x0 y0 : Int} {p0 : Option Addr} (hg : P4 w g0 s0 x0 y0 p0) (s' : Bool) (x' y' : Int) (p' : Option Addr) (h : opTdC B tb to n tcap ia ja rb ro rn rc z1 z0 ws1 wx1 ws2 wx2 f i w v) (hi : i < 23) : opTdC B tb to n tcap ia ja rb ro rn rc z1 z0 ws1 wx1 ws2 wx2 f i (put4 w g0 s' x' y' p') v := by
  have : i = 0 ∨ i = 1 ∨ i = 2 ∨ i = 3 ∨ i = 4 ∨ i = 5 ∨ i = 6 ∨ i = 7 ∨ i = 8 ∨ i = 9 ∨ i = 10 ∨ i = 11 ∨ i = 12 ∨ i = 13 ∨ i = 14 ∨ i = 15 ∨ i = 16 ∨ i = 17 ∨ i = 18 ∨ i = 19 ∨ i = 20 ∨ i = 21 ∨ i = 22 := by omega
  rcases this with rfl | rfl | rfl | rfl | rfl | rfl | rfl | rfl | rfl | rfl | rfl | rfl | rfl | rfl | rfl | rfl | rfl | rfl | rfl | rfl | rfl | rfl | rfl
  · exact (show v = .slice (some ⟨tb, to, none⟩) n tcap from h)
  · exact (show v = .int .i64 (ia : Int) from h)
  · exact (show v = .pointer (some ⟨tb, to + ia, none⟩) from h)
  · exact (show v = .slice (some ⟨rb, ro, none⟩) rn rc from h)
  · exact (show v = .int .i64 (ja : Int) from h)
  · exact (show v = .int .i64 ((ja + 1 : Nat) : Int) from h)
  · exact (show v = .pointer (some ⟨rb, ro + (ja + 1), none⟩) from h)
  · exact (show v = .int .i64 z1 from h)
  · exact (show v = .agg #[.bool ws1, .int .u64 wx1, .int .u64 0, .pointer none] from h)
  · exact (show v = .slice (some ⟨tb, to, none⟩) n tcap from h)
  · exact (show v = .int .i64 (ia : Int) from h)
  · exact (show v = .pointer (some ⟨tb, to + ia, none⟩) from h)
  · exact (show v = .slice (some ⟨rb, ro, none⟩) rn rc from h)
  · exact (show v = .int .i64 (ja : Int) from h)
  · exact (show v = .pointer (some ⟨rb, ro + ja, none⟩) from h)
  · exact (show v = .int .i64 z0 from h)
  · exact (show v = .agg #[.bool ws2, .int .u64 wx2, .int .u64 0, .pointer none] from h)
  · exact FracErr.put (show FracErr (f) w v from h) hg _ _ _ _
  · exact FracErr.put (show FracErr (f) w v from h) hg _ _ _ _
  · exact FracAt.over (show FracAt w v f from h) hg.1 (put4_but _ _ _ _ _ _)
  · exact (show v = .nilIface from h)
  · exact LaidAny.put (show LaidAny B w v from h) hg _ _ _ _
  · exact trivial
theorem opTdT_inj : ∀ i j, i < 23 → j < 23 → opTdT i = opTdT j → i = j := fun i j hi hj => (by decide : ∀ i, i < 23 → ∀ j, j < 23 → opTdT i = opTdT j → i = j) i hi j hj
set_option maxHeartbeats 8000000 in
set_option maxRecDepth 100000 in
theorem off_region6 (id : Nat) (Q : Exit → Act → World → Prop) (base : Act) (W0 : World) (B : Nat) (tb : Nat) (to : Nat) (n : Nat) (tcap : Nat) (ia : Nat) (ja : Nat) (rb : Nat) (ro : Nat) (rn : Nat) (rc : Nat) (z1 : Int) (z0 : Int) (ws1 : Bool) (wx1 : Int) (ws2 : Bool) (wx2 : Int) (f : Rat) (hs : 49 < base.tmps.size) (g2 : Nat) (hBW : B = W0.heap.size) (e2 : base.eval (.tmp 2) = .pointer (some ⟨g2, 0, none⟩)) (e7 : base.eval (.tmp 7) = .int .i64 (ia : Int)) (e1 : base.eval (.tmp 1) = .int .i64 (ja : Int))
    (hia : ia < n) (hn2 : n < 1000000) (hrn : rn < 1000000) (hja1 : ja + 1 < rn) (ct : W0.cell? ⟨g2, 0, none⟩ = some (.slice (some ⟨tb, to, none⟩) n tcap)) (cr : W0.cell? ⟨tb, to + ia, none⟩ = some (.slice (some ⟨rb, ro, none⟩) rn rc)) (cz1 : W0.cell? ⟨rb, ro + (ja + 1), none⟩ = some (.int .i64 z1)) (cz0 : W0.cell? ⟨rb, ro + ja, none⟩ = some (.int .i64 z0))
    (WH1 : ∀ w, Calls Tryz.prog 16 #[.int .i64 z1] w fun e w' => e = .returned (.agg #[.bool ws1, .int .u64 wx1, .int .u64 0, .pointer none]) ∧ But [] w w') (WH2 : ∀ w, Calls Tryz.prog 16 #[.int .i64 z0] w fun e w' => e = .returned (.agg #[.bool ws2, .int .u64 wx2, .int .u64 0, .pointer none]) ∧ But [] w w')
    (DI : ∀ w, But [] W0 w → Calls Tryz.prog 36 #[.agg #[.bool ws1, .int .u64 wx1, .int .u64 0, .pointer none], .agg #[.bool ws2, .int .u64 wx2, .int .u64 0, .pointer none]] w fun e w' => ∃ v, e = .returned (.tuple #[v, .nilIface]) ∧ FracAt w' v f ∧ But [] w w')
    (hQ : ∀ w1 bn v17 v18 v19 v22 s' x' y' p', But [] W0 w1 → B ≤ bn → P4 w1 bn s' x' y' p' → FracAt w1 (.agg #[.bool s', .int .u64 x', .int .u64 y', .pointer p']) (f) → Q .normal (putted base [(30, .slice (some ⟨tb, to, none⟩) n tcap), (31, .int .i64 (ia : Int)), (32, .pointer (some ⟨tb, to + ia, none⟩)), (33, .slice (some ⟨rb, ro, none⟩) rn rc), (34, .int .i64 (ja : Int)), (35, .int .i64 ((ja + 1 : Nat) : Int)), (36, .pointer (some ⟨rb, ro + (ja + 1), none⟩)), (37, .int .i64 z1), (38, .agg #[.bool ws1, .int .u64 wx1, .int .u64 0, .pointer none]), (39, .slice (some ⟨tb, to, none⟩) n tcap), (40, .int .i64 (ia : Int)), (41, .pointer (some ⟨tb, to + ia, none⟩)), (42, .slice (some ⟨rb, ro, none⟩) rn rc), (43, .int .i64 (ja : Int)), (44, .pointer (some ⟨rb, ro + ja, none⟩)), (45, .int .i64 z0), (46, .agg #[.bool ws2, .int .u64 wx2, .int .u64 0, .pointer none]), (47, v17), (29, v18), (48, v19), (49, .nilIface), (8, .pointer (some ⟨bn, 0, none⟩)), (9, v22), (9, .nilIface)]) w1) :
    (Code.region id opTds true).wp Tryz.prog Q base W0 := by
  have hdr : ∀ {w}, But [] W0.drew w → But [] W0 w := fun h => (But.refl _ _).drew.trans' h
  have hT : ∀ i, i < 23 → opTdT i < base.tmps.size := fun i hi => by
    have h : opTdT i ≤ 49 := by revert i; decide
    omega
  refine region_flow3 (by kernel_rfl) (low_of (by kernel_rfl)) (fun i o ho => (calm_of (ops := opTds) (by kernel_rfl) i o ho).1)
    (opTdC B tb to n tcap ia ja rb ro rn rc z1 z0 ws1 wx1 ws2 wx2 f) opTdT 23 22 21 (by omega) (Stored B (f)) rfl opTdT_inj hT (fun i w w' v hi h hb => opTdC_but h hi hb) (fun _ _ => trivial) (fun w w' v h hb => h.but hb)
    (fun i hi => ?_) (dep_of (ops := opTds) (ps := [(22, 21)]) (by kernel_rfl) 22 21 (by simp)) ?_ ?_ (fun a w => ∃ w1 bn v17 v18 v19 v22 s' x' y' p', a = putted base [(30, .slice (some ⟨tb, to, none⟩) n tcap), (31, .int .i64 (ia : Int)), (32, .pointer (some ⟨tb, to + ia, none⟩)), (33, .slice (some ⟨rb, ro, none⟩) rn rc), (34, .int .i64 (ja : Int)), (35, .int .i64 ((ja + 1 : Nat) : Int)), (36, .pointer (some ⟨rb, ro + (ja + 1), none⟩)), (37, .int .i64 z1), (38, .agg #[.bool ws1, .int .u64 wx1, .int .u64 0, .pointer none]), (39, .slice (some ⟨tb, to, none⟩) n tcap), (40, .int .i64 (ia : Int)), (41, .pointer (some ⟨tb, to + ia, none⟩)), (42, .slice (some ⟨rb, ro, none⟩) rn rc), (43, .int .i64 (ja : Int)), (44, .pointer (some ⟨rb, ro + ja, none⟩)), (45, .int .i64 z0), (46, .agg #[.bool ws2, .int .u64 wx2, .int .u64 0, .pointer none]), (47, v17), (29, v18), (48, v19), (49, .nilIface), (8, .pointer (some ⟨bn, 0, none⟩)), (9, v22), (9, .nilIface)] ∧ w = w1 ∧ But [] W0 w1 ∧ B ≤ bn ∧ P4 w1 bn s' x' y' p' ∧ FracAt w1 (.agg #[.bool s', .int .u64 x', .int .u64 y', .pointer p']) (f)) ?_ ?_ (by omega)
  · exact dep_of (ops := opTds) (ps := [(23, 0), (23, 1), (23, 2), (23, 3), (23, 4), (23, 5), (23, 6), (23, 7), (23, 8), (23, 9), (23, 10), (23, 11), (23, 12), (23, 13), (23, 14), (23, 15), (23, 16), (23, 17), (23, 18), (23, 19), (23, 20), (23, 21), (23, 22)]) (by kernel_rfl) 23 i (by
      have : i = 0 ∨ i = 1 ∨ i = 2 ∨ i = 3 ∨ i = 4 ∨ i = 5 ∨ i = 6 ∨ i = 7 ∨ i = 8 ∨ i = 9 ∨ i = 10 ∨ i = 11 ∨ i = 12 ∨ i = 13 ∨ i = 14 ∨ i = 15 ∨ i = 16 ∨ i = 17 ∨ i = 18 ∨ i = 19 ∨ i = 20 ∨ i = 21 ∨ i = 22 := by omega
      rcases this with rfl | rfl | rfl | rfl | rfl | rfl | rfl | rfl | rfl | rfl | rfl | rfl | rfl | rfl | rfl | rfl | rfl | rfl | rfl | rfl | rfl | rfl | rfl <;> simp)
  · intro i o a w K hi hiq ho hH he hdep hK
    have hD := dep_have (ps := [(2, 0), (2, 1), (3, 2), (5, 4), (6, 3), (6, 5), (7, 6), (8, 7), (11, 9), (11, 10), (12, 11), (14, 12), (14, 13), (15, 14), (16, 8), (16, 15), (17, 8), (17, 16), (18, 17), (19, 18), (20, 18), (22, 0), (22, 1), (22, 2), (22, 3), (22, 4), (22, 5), (22, 6), (22, 7), (22, 8), (22, 9), (22, 10), (22, 11), (22, 12), (22, 13), (22, 14), (22, 15), (22, 16), (22, 17), (22, 18), (22, 19), (22, 21)]) (by kernel_rfl) ho (fun j => opTdC B tb to n tcap ia ja rb ro rn rc z1 z0 ws1 wx1 ws2 wx2 f j w (a.eval (.tmp (opTdT j)))) hdep
    have hk : ∀ v w', But [] w w' → opTdC B tb to n tcap ia ja rb ro rn rc z1 z0 ws1 wx1 ws2 wx2 f i w' v → K (a.put (some (opTdT i)) v) w' := hK
    have e2' := (he 2 (fun j hj e => absurd e.symm (by revert j; decide))).trans e2
    have e7' := (he 7 (fun j hj e => absurd e.symm (by revert j; decide))).trans e7
    have e1' := (he 1 (fun j hj e => absurd e.symm (by revert j; decide))).trans e1
    have : i = 0 ∨ i = 1 ∨ i = 2 ∨ i = 3 ∨ i = 4 ∨ i = 5 ∨ i = 6 ∨ i = 7 ∨ i = 8 ∨ i = 9 ∨ i = 10 ∨ i = 11 ∨ i = 12 ∨ i = 13 ∨ i = 14 ∨ i = 15 ∨ i = 16 ∨ i = 17 ∨ i = 18 ∨ i = 19 ∨ i = 20 ∨ i = 21 ∨ i = 22 := by omega
    rcases this with rfl | rfl | rfl | rfl | rfl | rfl | rfl | rfl | rfl | rfl | rfl | rfl | rfl | rfl | rfl | rfl | rfl | rfl | rfl | rfl | rfl | rfl | rfl
    · obtain rfl := Option.some.inj ((show opTds[0]? = some opTd0 from rfl).symm.trans ho)
      exact wp_value (run_loadJ a w _ _ _ _ _ _ g2 0 _ _ _ e2' ((hdr hH).cell_some ct (by simp))) (hk _ _ (But.refl _ _) rfl)
    · obtain rfl := Option.some.inj ((show opTds[1]? = some opTd1 from rfl).symm.trans ho)
      exact wp_value (run_mvK a w _ _ _ _ _ _ _ e7') (hk _ _ (But.refl _ _) rfl)
    · obtain rfl := Option.some.inj ((show opTds[2]? = some opTd2 from rfl).symm.trans ho)
      exact wp_value (run_indexJ a w _ _ _ _ _ _ _ tb to n tcap ia hia hn2 (hD 0 (by simp)) (hD 1 (by simp))) (hk _ _ (But.refl _ _) rfl)
    · obtain rfl := Option.some.inj ((show opTds[3]? = some opTd3 from rfl).symm.trans ho)
      exact wp_value (run_loadL a w _ _ _ _ _ _ tb (to + ia) _ _ _ (hD 2 (by simp)) ((hdr hH).cell_some cr (by simp))) (hk _ _ (But.refl _ _) rfl)
    · obtain rfl := Option.some.inj ((show opTds[4]? = some opTd4 from rfl).symm.trans ho)
      exact wp_value (run_mvK a w _ _ _ _ _ _ _ e1') (hk _ _ (But.refl _ _) rfl)
    · obtain rfl := Option.some.inj ((show opTds[5]? = some opTd5 from rfl).symm.trans ho)
      exact wp_value (run_plus1 a w _ _ _ _ _ _ ja (by omega) (hD 4 (by simp))) (hk _ _ (But.refl _ _) rfl)
    · obtain rfl := Option.some.inj ((show opTds[6]? = some opTd6 from rfl).symm.trans ho)
      exact wp_value (run_indexI a w _ _ _ _ _ _ _ rb ro rn rc (ja + 1) hja1 hrn (hD 3 (by simp)) (hD 5 (by simp))) (hk _ _ (But.refl _ _) rfl)
    · obtain rfl := Option.some.inj ((show opTds[7]? = some opTd7 from rfl).symm.trans ho)
      exact wp_value (run_loadI a w _ _ _ _ _ _ rb (ro + (ja + 1)) z1 (hD 6 (by simp)) ((hdr hH).cell_some cz1 (by simp))) (hk _ _ (But.refl _ _) rfl)
    · obtain rfl := Option.some.inj ((show opTds[8]? = some opTd8 from rfl).symm.trans ho)
      exact wp_enter (run_wholeK a w _ _ _ _ _ _ _ (hD 7 (by simp))) (R := fun w' v => But [] w w' ∧ v = _) ((WH1 w).mono fun e w' ⟨he, hb⟩ => ⟨_, he, hb, rfl⟩) (fun v w' hv => hk v w' hv.1 hv.2)
    · obtain rfl := Option.some.inj ((show opTds[9]? = some opTd9 from rfl).symm.trans ho)
      exact wp_value (run_loadJ a w _ _ _ _ _ _ g2 0 _ _ _ e2' ((hdr hH).cell_some ct (by simp))) (hk _ _ (But.refl _ _) rfl)
    · obtain rfl := Option.some.inj ((show opTds[10]? = some opTd10 from rfl).symm.trans ho)
      exact wp_value (run_mvK a w _ _ _ _ _ _ _ e7') (hk _ _ (But.refl _ _) rfl)
    · obtain rfl := Option.some.inj ((show opTds[11]? = some opTd11 from rfl).symm.trans ho)
      exact wp_value (run_indexJ a w _ _ _ _ _ _ _ tb to n tcap ia hia hn2 (hD 9 (by simp)) (hD 10 (by simp))) (hk _ _ (But.refl _ _) rfl)
    · obtain rfl := Option.some.inj ((show opTds[12]? = some opTd12 from rfl).symm.trans ho)
      exact wp_value (run_loadL a w _ _ _ _ _ _ tb (to + ia) _ _ _ (hD 11 (by simp)) ((hdr hH).cell_some cr (by simp))) (hk _ _ (But.refl _ _) rfl)
    · obtain rfl := Option.some.inj ((show opTds[13]? = some opTd13 from rfl).symm.trans ho)
      exact wp_value (run_mvK a w _ _ _ _ _ _ _ e1') (hk _ _ (But.refl _ _) rfl)
    · obtain rfl := Option.some.inj ((show opTds[14]? = some opTd14 from rfl).symm.trans ho)
      exact wp_value (run_indexI a w _ _ _ _ _ _ _ rb ro rn rc ja (by omega) hrn (hD 12 (by simp)) (hD 13 (by simp))) (hk _ _ (But.refl _ _) rfl)
    · obtain rfl := Option.some.inj ((show opTds[15]? = some opTd15 from rfl).symm.trans ho)
      exact wp_value (run_loadI a w _ _ _ _ _ _ rb (ro + ja) z0 (hD 14 (by simp)) ((hdr hH).cell_some cz0 (by simp))) (hk _ _ (But.refl _ _) rfl)
    · obtain rfl := Option.some.inj ((show opTds[16]? = some opTd16 from rfl).symm.trans ho)
      exact wp_enter (run_wholeK a w _ _ _ _ _ _ _ (hD 15 (by simp))) (R := fun w' v => But [] w w' ∧ v = _) ((WH2 w).mono fun e w' ⟨he, hb⟩ => ⟨_, he, hb, rfl⟩) (fun v w' hv => hk v w' hv.1 hv.2)
    · obtain rfl := Option.some.inj ((show opTds[17]? = some opTd17 from rfl).symm.trans ho)
      exact wp_enter (run_divK a w _ _ _ _ _ _ _ _ _ (hD 8 (by simp)) (hD 16 (by simp))) (R := fun w' v => FracErr (f) w' v ∧ But [] w w') ((DI w (hdr hH)).mono fun e w' ⟨v, he, hf, hb⟩ => ⟨_, he, ⟨v, rfl, hf⟩, hb⟩) (fun v w' hv => hk v w' hv.2 hv.1)
    · obtain rfl := Option.some.inj ((show opTds[18]? = some opTd18 from rfl).symm.trans ho)
      exact wp_value (run_mvK a w _ _ _ _ _ _ _ rfl) (hk _ _ (But.refl _ _) (hD 17 (by simp)))
    · obtain rfl := Option.some.inj ((show opTds[19]? = some opTd19 from rfl).symm.trans ho)
      obtain ⟨u, eu, hu⟩ : FracErr (f) w _ := (hD 18 (by simp))
      exact wp_value (run_exK a w _ _ _ _ _ _ _ _ u eu rfl) (hk _ _ (But.refl _ _) hu)
    · obtain rfl := Option.some.inj ((show opTds[20]? = some opTd20 from rfl).symm.trans ho)
      obtain ⟨u, eu, hu⟩ : FracErr (f) w _ := (hD 18 (by simp))
      exact wp_value (run_exK a w _ _ _ _ _ _ _ _ .nilIface eu rfl) (hk _ _ (But.refl _ _) rfl)
    · obtain rfl := Option.some.inj ((show opTds[21]? = some opTd21 from rfl).symm.trans ho)
      exact wp_value (run_alloc4 a w _ _ _ _ _) (hk _ _ ((But.refl _ _).alloc _) ⟨w.heap.size, rfl, by rw [hBW]; exact (hdr hH).size, ⟨false, 0, 0, none, by simp, by simp, by simp, by simp⟩, fun j => by simp⟩)
    · exact absurd rfl hiq
  · intro o a w K ho hH he hdep hK
    have hD := dep_have (ps := [(22, 21), (22, 19)]) (by kernel_rfl) ho (fun j => opTdC B tb to n tcap ia ja rb ro rn rc z1 z0 ws1 wx1 ws2 wx2 f j w (a.eval (.tmp (opTdT j)))) hdep
    obtain rfl := Option.some.inj ((show opTds[22]? = some opTd22 from rfl).symm.trans ho)
    have cl : FracAt w (a.eval (.tmp 48)) (f) := hD 19 (by simp)
    obtain ⟨bn, eb, hb1, ⟨s0, x0, y0, p0, hb2⟩, hb3⟩ : LaidAny B w (a.eval (.tmp 8)) := hD 21 (by simp)
    have cl' := cl
    obtain ⟨x', y', p', ev, -⟩ := cl.agg
    rw [ev] at cl'
    exact wp_skipped (run_store4 a w _ _ _ _ _ bn _ x' y' p' eb ev hb2 hb3) (hK _ (hH.trans (put4_but w bn _ x' y' p') (fun x hx => by simp at hx; subst hx; exact .inr (by rw [hBW] at hb1; exact hb1))) (fun j hj u hu => opTdC_put hb2 _ x' y' p' hu hj) ⟨bn, _, x', y', p', eb, hb1, put4_p4 w bn _ x' y' p' hb2, cl'.over hb2.1 (put4_but w bn _ x' y' p')⟩)
  · intro dn o a w K ho hall h hst hK
    obtain rfl := Option.some.inj ((show opTds[23]? = some opTd23 from rfl).symm.trans ho)
    obtain ⟨bn, s', x', y', p', eb, hb1, hb2, hb3⟩ := hst
    have eb : a.eval (.tmp 8) = .pointer (some ⟨bn, 0, none⟩) := eb
    have ea := h.puts hT (fun i => match i with
      | 0 => .slice (some ⟨tb, to, none⟩) n tcap
      | 1 => .int .i64 (ia : Int)
      | 2 => .pointer (some ⟨tb, to + ia, none⟩)
      | 3 => .slice (some ⟨rb, ro, none⟩) rn rc
      | 4 => .int .i64 (ja : Int)
      | 5 => .int .i64 ((ja + 1 : Nat) : Int)
      | 6 => .pointer (some ⟨rb, ro + (ja + 1), none⟩)
      | 7 => .int .i64 z1
      | 8 => .agg #[.bool ws1, .int .u64 wx1, .int .u64 0, .pointer none]
      | 9 => .slice (some ⟨tb, to, none⟩) n tcap
      | 10 => .int .i64 (ia : Int)
      | 11 => .pointer (some ⟨tb, to + ia, none⟩)
      | 12 => .slice (some ⟨rb, ro, none⟩) rn rc
      | 13 => .int .i64 (ja : Int)
      | 14 => .pointer (some ⟨rb, ro + ja, none⟩)
      | 15 => .int .i64 z0
      | 16 => .agg #[.bool ws2, .int .u64 wx2, .int .u64 0, .pointer none]
      | 17 => a.eval (.tmp 47)
      | 18 => a.eval (.tmp 29)
      | 19 => a.eval (.tmp 48)
      | 20 => .nilIface
      | 21 => .pointer (some ⟨bn, 0, none⟩)
      | _ => a.eval (.tmp 9)) (fun i hi => by
      have hc := h.has i hi (hall i hi)
      have : i = 0 ∨ i = 1 ∨ i = 2 ∨ i = 3 ∨ i = 4 ∨ i = 5 ∨ i = 6 ∨ i = 7 ∨ i = 8 ∨ i = 9 ∨ i = 10 ∨ i = 11 ∨ i = 12 ∨ i = 13 ∨ i = 14 ∨ i = 15 ∨ i = 16 ∨ i = 17 ∨ i = 18 ∨ i = 19 ∨ i = 20 ∨ i = 21 ∨ i = 22 := by omega
      rcases this with rfl | rfl | rfl | rfl | rfl | rfl | rfl | rfl | rfl | rfl | rfl | rfl | rfl | rfl | rfl | rfl | rfl | rfl | rfl | rfl | rfl | rfl | rfl
      · exact hc
      · exact hc
      · exact hc
      · exact hc
      · exact hc
      · exact hc
      · exact hc
      · exact hc
      · exact hc
      · exact hc
      · exact hc
      · exact hc
      · exact hc
      · exact hc
      · exact hc
      · exact hc
      · exact hc
      · rfl
      · rfl
      · rfl
      · exact hc
      · exact eb
      · rfl)
    have ea2 : a = putted base [(30, .slice (some ⟨tb, to, none⟩) n tcap), (31, .int .i64 (ia : Int)), (32, .pointer (some ⟨tb, to + ia, none⟩)), (33, .slice (some ⟨rb, ro, none⟩) rn rc), (34, .int .i64 (ja : Int)), (35, .int .i64 ((ja + 1 : Nat) : Int)), (36, .pointer (some ⟨rb, ro + (ja + 1), none⟩)), (37, .int .i64 z1), (38, .agg #[.bool ws1, .int .u64 wx1, .int .u64 0, .pointer none]), (39, .slice (some ⟨tb, to, none⟩) n tcap), (40, .int .i64 (ia : Int)), (41, .pointer (some ⟨tb, to + ia, none⟩)), (42, .slice (some ⟨rb, ro, none⟩) rn rc), (43, .int .i64 (ja : Int)), (44, .pointer (some ⟨rb, ro + ja, none⟩)), (45, .int .i64 z0), (46, .agg #[.bool ws2, .int .u64 wx2, .int .u64 0, .pointer none]), (47, a.eval (.tmp 47)), (29, a.eval (.tmp 29)), (48, a.eval (.tmp 48)), (49, .nilIface), (8, .pointer (some ⟨bn, 0, none⟩)), (9, a.eval (.tmp 9))] := ea
    have ea3 : a.put (some 9) (.nilIface) = putted base ([(30, .slice (some ⟨tb, to, none⟩) n tcap), (31, .int .i64 (ia : Int)), (32, .pointer (some ⟨tb, to + ia, none⟩)), (33, .slice (some ⟨rb, ro, none⟩) rn rc), (34, .int .i64 (ja : Int)), (35, .int .i64 ((ja + 1 : Nat) : Int)), (36, .pointer (some ⟨rb, ro + (ja + 1), none⟩)), (37, .int .i64 z1), (38, .agg #[.bool ws1, .int .u64 wx1, .int .u64 0, .pointer none]), (39, .slice (some ⟨tb, to, none⟩) n tcap), (40, .int .i64 (ia : Int)), (41, .pointer (some ⟨tb, to + ia, none⟩)), (42, .slice (some ⟨rb, ro, none⟩) rn rc), (43, .int .i64 (ja : Int)), (44, .pointer (some ⟨rb, ro + ja, none⟩)), (45, .int .i64 z0), (46, .agg #[.bool ws2, .int .u64 wx2, .int .u64 0, .pointer none]), (47, a.eval (.tmp 47)), (29, a.eval (.tmp 29)), (48, a.eval (.tmp 48)), (49, .nilIface), (8, .pointer (some ⟨bn, 0, none⟩)), (9, a.eval (.tmp 9))] ++ [(9, .nilIface)]) := (congrArg (fun z : Act => z.put (some 9) (.nilIface)) ea2).trans (putted_snoc _ _ _ _)
    have hev : a.eval (.tmp 49) = .nilIface := h.has 20 (by omega) (hall 20 (by omega))
    exact wp_value (run_as _ _ _ _ _ _ _ _ _ hev) (hK _ _ ⟨w, bn, a.eval (.tmp 47), a.eval (.tmp 29), a.eval (.tmp 48), a.eval (.tmp 9), s', x', y', p', ea3, rfl, hdr h.mem, hb1, hb2, hb3⟩)
  · rintro a w ⟨w1, bn, v17, v18, v19, v22, s', x', y', p', rfl, rfl, h1, h2, h3, h4⟩
    exact hQ _ bn v17 v18 v19 v22 s' x' y' p' h1 h2 h3 h4
def opTe0 : Oper := { dst := some 53, op := Op.load 27 (Operand.tmp 6), type := 27, pos := "house.go:114", after := #[], guard := none }
def opTe1 : Oper := { dst := some 54, op := Op.load 73 (Operand.tmp 2), type := 73, pos := "house.go:114", after := #[], guard := none }
def opTe2 : Oper := { dst := some 55, op := Op.move (Operand.tmp 7), type := 3, pos := "house.go:114", after := #[], guard := none }
def opTe3 : Oper := { dst := some 56, op := Op.indexAddr 73 (Operand.tmp 54) (Operand.tmp 55), type := 0, pos := "house.go:114", after := #[{ on := 1, ground := Ground.data }, { on := 2, ground := Ground.data }], guard := none }
def opTe4 : Oper := { dst := some 57, op := Op.load 53 (Operand.tmp 56), type := 53, pos := "house.go:114", after := #[{ on := 3, ground := Ground.data }], guard := none }
def opTe5 : Oper := { dst := some 58, op := Op.move (Operand.tmp 1), type := 3, pos := "house.go:114", after := #[], guard := none }
def opTe6 : Oper := { dst := some 59, op := Op.indexAddr 53 (Operand.tmp 57) (Operand.tmp 58), type := 0, pos := "house.go:114", after := #[{ on := 4, ground := Ground.data }, { on := 5, ground := Ground.data }], guard := none }
def opTe7 : Oper := { dst := some 60, op := Op.load 3 (Operand.tmp 59), type := 3, pos := "house.go:114", after := #[{ on := 6, ground := Ground.data }], guard := none }
def opTe8 : Oper := { dst := some 61, op := Op.call { callee := Callee.value (Operand.func 16), args := #[Operand.tmp 60], argTypes := #[3] }, type := 27, pos := "house.go:114", after := #[{ on := 7, ground := Ground.data }], guard := none }
def opTe9 : Oper := { dst := some 62, op := Op.load 27 (Operand.tmp 10), type := 27, pos := "house.go:114", after := #[], guard := none }
def opTe10 : Oper := { dst := some 63, op := Op.call { callee := Callee.value (Operand.func 37), args := #[Operand.tmp 61, Operand.tmp 62], argTypes := #[27, 27] }, type := 27, pos := "house.go:114", after := #[{ on := 8, ground := Ground.data }, { on := 9, ground := Ground.data }, { on := 8, ground := Ground.chain }], guard := none }
def opTe11 : Oper := { dst := some 64, op := Op.load 27 (Operand.tmp 10), type := 27, pos := "house.go:114", after := #[], guard := none }
def opTe12 : Oper := { dst := some 65, op := Op.call { callee := Callee.value (Operand.func 37), args := #[Operand.tmp 63, Operand.tmp 64], argTypes := #[27, 27] }, type := 27, pos := "house.go:114", after := #[{ on := 10, ground := Ground.data }, { on := 11, ground := Ground.data }, { on := 10, ground := Ground.chain }], guard := none }
def opTe13 : Oper := { dst := some 66, op := Op.call { callee := Callee.value (Operand.func 21), args := #[Operand.tmp 53, Operand.tmp 65], argTypes := #[27, 27] }, type := 27, pos := "house.go:114", after := #[{ on := 0, ground := Ground.data }, { on := 12, ground := Ground.data }, { on := 12, ground := Ground.chain }], guard := none }
def opTe14 : Oper := { dst := none, op := Op.store 27 (Operand.tmp 6) (Operand.tmp 66), type := 0, pos := "house.go:114", after := #[{ on := 13, ground := Ground.data }, { on := 13, ground := Ground.chain }, { on := 0, ground := Ground.phase }, { on := 1, ground := Ground.phase }, { on := 2, ground := Ground.phase }, { on := 3, ground := Ground.phase }, { on := 4, ground := Ground.phase }, { on := 5, ground := Ground.phase }, { on := 6, ground := Ground.phase }, { on := 7, ground := Ground.phase }, { on := 8, ground := Ground.phase }, { on := 9, ground := Ground.phase }, { on := 10, ground := Ground.phase }, { on := 11, ground := Ground.phase }, { on := 12, ground := Ground.phase }, { on := 13, ground := Ground.phase }], guard := none }
def opTes : Array Oper := #[opTe0, opTe1, opTe2, opTe3, opTe4, opTe5, opTe6, opTe7, opTe8, opTe9, opTe10, opTe11, opTe12, opTe13, opTe14]
def opTeT (i : Nat) : Nat := match i with
  | 0 => 53
  | 1 => 54
  | 2 => 55
  | 3 => 56
  | 4 => 57
  | 5 => 58
  | 6 => 59
  | 7 => 60
  | 8 => 61
  | 9 => 62
  | 10 => 63
  | 11 => 64
  | 12 => 65
  | _ => 66
/-- what each operation's value is -/
def opTeC (tb : Nat) (to : Nat) (n : Nat) (tcap : Nat) (ia : Nat) (ja : Nat) (rb : Nat) (ro : Nat) (rn : Nat) (rc : Nat) (z0 : Int) (ws2 : Bool) (wx2 : Int) (s1 : Bool) (x1 : Int) (y1 : Int) (p1 : Option Addr) (s2 : Bool) (x2 : Int) (y2 : Int) (p2 : Option Addr) (f1 : Rat) (f2 : Rat) (i : Nat) (w : World) (v : Value) : Prop := match i with
  | 0 => v = .agg #[.bool s1, .int .u64 x1, .int .u64 y1, .pointer p1]
  | 1 => v = .slice (some ⟨tb, to, none⟩) n tcap
  | 2 => v = .int .i64 (ia : Int)
  | 3 => v = .pointer (some ⟨tb, to + ia, none⟩)
  | 4 => v = .slice (some ⟨rb, ro, none⟩) rn rc
  | 5 => v = .int .i64 (ja : Int)
  | 6 => v = .pointer (some ⟨rb, ro + ja, none⟩)
  | 7 => v = .int .i64 z0
  | 8 => v = .agg #[.bool ws2, .int .u64 wx2, .int .u64 0, .pointer none]
  | 9 => v = .agg #[.bool s2, .int .u64 x2, .int .u64 y2, .pointer p2]
  | 10 => FracAt w v (((z0 : Int) : Rat) * f2)
  | 11 => v = .agg #[.bool s2, .int .u64 x2, .int .u64 y2, .pointer p2]
  | 12 => FracAt w v (((z0 : Int) : Rat) * f2 * f2)
  | _ => FracAt w v (f1 + ((z0 : Int) : Rat) * f2 * f2)
theorem opTeC_but {tb : Nat} {to : Nat} {n : Nat} {tcap : Nat} {ia : Nat} {ja : Nat} {rb : Nat} {ro : Nat} {rn : Nat} {rc : Nat} {z0 : Int} {ws2 : Bool} {wx2 : Int} {s1 : Bool} {x1 : Int} {y1 : Int} {p1 : Option Addr} {s2 : Bool} {x2 : Int} {y2 : Int} {p2 : Option Addr} {f1 : Rat} {f2 : Rat} {i : Nat} {w w' : World} {v : Value} (h : opTeC tb to n tcap ia ja rb ro rn rc z0 ws2 wx2 s1 x1 y1 p1 s2 x2 y2 p2 f1 f2 i w v) (hi : i < 14) (hb : But [] w w') : opTeC tb to n tcap ia ja rb ro rn rc z0 ws2 wx2 s1 x1 y1 p1 s2 x2 y2 p2 f1 f2 i w' v := by
  have : i = 0 ∨ i = 1 ∨ i = 2 ∨ i = 3 ∨ i = 4 ∨ i = 5 ∨ i = 6 ∨ i = 7 ∨ i = 8 ∨ i = 9 ∨ i = 10 ∨ i = 11 ∨ i = 12 ∨ i = 13 := by omega
  rcases this with rfl | rfl | rfl | rfl | rfl | rfl | rfl | rfl | rfl | rfl | rfl | rfl | rfl | rfl
  all_goals first | exact h | exact FracAt.but h hb | exact FracsAt.but h hb
theorem opTeT_inj : ∀ i j, i < 14 → j < 14 → opTeT i = opTeT j → i = j := fun i j hi hj => (by decide : ∀ i, i < 14 → ∀ j, j < 14 → opTeT i = opTeT j → i = j) i hi j hj
set_option maxHeartbeats 8000000 in
set_option maxRecDepth 100000 in
theorem off_region8 (id : Nat) (Q : Exit → Act → World → Prop) (base : Act) (W0 : World) (tb : Nat) (to : Nat) (n : Nat) (tcap : Nat) (ia : Nat) (ja : Nat) (rb : Nat) (ro : Nat) (rn : Nat) (rc : Nat) (z0 : Int) (ws2 : Bool) (wx2 : Int) (s1 : Bool) (x1 : Int) (y1 : Int) (p1 : Option Addr) (s2 : Bool) (x2 : Int) (y2 : Int) (p2 : Option Addr) (f1 : Rat) (f2 : Rat) (gb : Nat) {sb : Bool} {xb yb : Int} {pb : Option Addr} (hs : 66 < base.tmps.size) (g2 g10 : Nat) (eb : base.eval (.tmp 6) = .pointer (some ⟨gb, 0, none⟩)) (cb : P4 W0 gb sb xb yb pb) (fzb : ∀ j, W0.frozen? ⟨gb, j, none⟩ = false) (e2 : base.eval (.tmp 2) = .pointer (some ⟨g2, 0, none⟩)) (e7 : base.eval (.tmp 7) = .int .i64 (ia : Int)) (e1 : base.eval (.tmp 1) = .int .i64 (ja : Int)) (e10 : base.eval (.tmp 10) = .pointer (some ⟨g10, 0, none⟩))
    (hia : ia < n) (hn2 : n < 1000000) (hrn : rn < 1000000) (hja : ja < rn) (ct : W0.cell? ⟨g2, 0, none⟩ = some (.slice (some ⟨tb, to, none⟩) n tcap)) (cr : W0.cell? ⟨tb, to + ia, none⟩ = some (.slice (some ⟨rb, ro, none⟩) rn rc)) (cz0 : W0.cell? ⟨rb, ro + ja, none⟩ = some (.int .i64 z0)) (c1 : P4 W0 gb s1 x1 y1 p1) (c2 : P4 W0 g10 s2 x2 y2 p2)
    (WH2 : ∀ w, Calls Tryz.prog 16 #[.int .i64 z0] w fun e w' => e = .returned (.agg #[.bool ws2, .int .u64 wx2, .int .u64 0, .pointer none]) ∧ But [] w w')
    (MU : ∀ w, But [] W0 w → Calls Tryz.prog 37 #[.agg #[.bool ws2, .int .u64 wx2, .int .u64 0, .pointer none], .agg #[.bool s2, .int .u64 x2, .int .u64 y2, .pointer p2]] w fun e w' => ∃ v, e = .returned v ∧ FracAt w' v (((z0 : Int) : Rat) * f2) ∧ But [] w w')
    (MV : ∀ w, But [] W0 w → ∀ v, FracAt w v (((z0 : Int) : Rat) * f2) → Calls Tryz.prog 37 #[v, .agg #[.bool s2, .int .u64 x2, .int .u64 y2, .pointer p2]] w fun e w' => ∃ v, e = .returned v ∧ FracAt w' v (((z0 : Int) : Rat) * f2 * f2) ∧ But [] w w')
    (AD : ∀ w, But [] W0 w → ∀ v, FracAt w v (((z0 : Int) : Rat) * f2 * f2) → Calls Tryz.prog 21 #[.agg #[.bool s1, .int .u64 x1, .int .u64 y1, .pointer p1], v] w fun e w' => ∃ v, e = .returned v ∧ FracAt w' v (f1 + ((z0 : Int) : Rat) * f2 * f2) ∧ But [] w w')
    (hQ : ∀ w1 v10 v12 s' x' y' p', But [] W0 w1 → FracAt w1 (.agg #[.bool s', .int .u64 x', .int .u64 y', .pointer p']) (f1 + ((z0 : Int) : Rat) * f2 * f2) → Q .normal (putted base [(53, .agg #[.bool s1, .int .u64 x1, .int .u64 y1, .pointer p1]), (54, .slice (some ⟨tb, to, none⟩) n tcap), (55, .int .i64 (ia : Int)), (56, .pointer (some ⟨tb, to + ia, none⟩)), (57, .slice (some ⟨rb, ro, none⟩) rn rc), (58, .int .i64 (ja : Int)), (59, .pointer (some ⟨rb, ro + ja, none⟩)), (60, .int .i64 z0), (61, .agg #[.bool ws2, .int .u64 wx2, .int .u64 0, .pointer none]), (62, .agg #[.bool s2, .int .u64 x2, .int .u64 y2, .pointer p2]), (63, v10), (64, .agg #[.bool s2, .int .u64 x2, .int .u64 y2, .pointer p2]), (65, v12), (66, (.agg #[.bool s', .int .u64 x', .int .u64 y', .pointer p']))]) (put4 w1 gb s' x' y' p')) :
    (Code.region id opTes true).wp Tryz.prog Q base W0 := by
  have hdr : ∀ {w}, But [] W0.drew w → But [] W0 w := fun h => (But.refl _ _).drew.trans' h
  have lgb : gb < W0.heap.size := lt_of_cell cb.1
  have hT : ∀ i, i < 14 → opTeT i < base.tmps.size := fun i hi => by
    have h : opTeT i ≤ 66 := by revert i; decide
    omega
  refine region_flow (by kernel_rfl) (low_of (by kernel_rfl)) (fun i o ho => (calm_of (ops := opTes) (by kernel_rfl) i o ho).1)
    (fun _ w => But [] W0.drew w) (opTeC tb to n tcap ia ja rb ro rn rc z0 ws2 wx2 s1 x1 y1 p1 s2 x2 y2 p2 f1 f2) opTeT 14 rfl opTeT_inj hT (But.refl _ _)
    (fun i hi => ?_) ?_ (fun a w => ∃ w1 v10 v12 s' x' y' p', a = putted base [(53, .agg #[.bool s1, .int .u64 x1, .int .u64 y1, .pointer p1]), (54, .slice (some ⟨tb, to, none⟩) n tcap), (55, .int .i64 (ia : Int)), (56, .pointer (some ⟨tb, to + ia, none⟩)), (57, .slice (some ⟨rb, ro, none⟩) rn rc), (58, .int .i64 (ja : Int)), (59, .pointer (some ⟨rb, ro + ja, none⟩)), (60, .int .i64 z0), (61, .agg #[.bool ws2, .int .u64 wx2, .int .u64 0, .pointer none]), (62, .agg #[.bool s2, .int .u64 x2, .int .u64 y2, .pointer p2]), (63, v10), (64, .agg #[.bool s2, .int .u64 x2, .int .u64 y2, .pointer p2]), (65, v12), (66, (.agg #[.bool s', .int .u64 x', .int .u64 y', .pointer p']))] ∧ w = put4 w1 gb s' x' y' p' ∧ But [] W0 w1 ∧ FracAt w1 (.agg #[.bool s', .int .u64 x', .int .u64 y', .pointer p']) (f1 + ((z0 : Int) : Rat) * f2 * f2)) ?_ ?_
  · exact dep_of (ops := opTes) (ps := [(14, 0), (14, 1), (14, 2), (14, 3), (14, 4), (14, 5), (14, 6), (14, 7), (14, 8), (14, 9), (14, 10), (14, 11), (14, 12), (14, 13)]) (by kernel_rfl) 14 i (by
      have : i = 0 ∨ i = 1 ∨ i = 2 ∨ i = 3 ∨ i = 4 ∨ i = 5 ∨ i = 6 ∨ i = 7 ∨ i = 8 ∨ i = 9 ∨ i = 10 ∨ i = 11 ∨ i = 12 ∨ i = 13 := by omega
      rcases this with rfl | rfl | rfl | rfl | rfl | rfl | rfl | rfl | rfl | rfl | rfl | rfl | rfl | rfl <;> simp)
  · intro dn i o a w K hi ho hdi hH he hdep hK
    have hD := fun j hj => (dep_have (ps := [(3, 1), (3, 2), (4, 3), (6, 4), (6, 5), (7, 6), (8, 7), (10, 8), (10, 9), (12, 10), (12, 11), (13, 0), (13, 12)]) (by kernel_rfl) ho (fun j => dn j = true ∧ opTeC tb to n tcap ia ja rb ro rn rc z0 ws2 wx2 s1 x1 y1 p1 s2 x2 y2 p2 f1 f2 j w (a.eval (.tmp (opTeT j)))) hdep j hj).2
    have hk : ∀ v w', But [] w w' → opTeC tb to n tcap ia ja rb ro rn rc z0 ws2 wx2 s1 x1 y1 p1 s2 x2 y2 p2 f1 f2 i w' v → K (a.put (some (opTeT i)) v) w' := fun v w' hb hv => hK v w' (hH.trans' hb) (fun j hj _ u hu => opTeC_but hu hj hb) hv
    have eb' := (he 6 (fun j hj e => absurd e.symm (by revert j; decide))).trans eb
    have e2' := (he 2 (fun j hj e => absurd e.symm (by revert j; decide))).trans e2
    have e7' := (he 7 (fun j hj e => absurd e.symm (by revert j; decide))).trans e7
    have e1' := (he 1 (fun j hj e => absurd e.symm (by revert j; decide))).trans e1
    have e10' := (he 10 (fun j hj e => absurd e.symm (by revert j; decide))).trans e10
    have : i = 0 ∨ i = 1 ∨ i = 2 ∨ i = 3 ∨ i = 4 ∨ i = 5 ∨ i = 6 ∨ i = 7 ∨ i = 8 ∨ i = 9 ∨ i = 10 ∨ i = 11 ∨ i = 12 ∨ i = 13 := by omega
    rcases this with rfl | rfl | rfl | rfl | rfl | rfl | rfl | rfl | rfl | rfl | rfl | rfl | rfl | rfl
    · obtain rfl := Option.some.inj ((show opTes[0]? = some opTe0 from rfl).symm.trans ho)
      exact wp_value (run_loadK a w _ _ _ _ _ _ gb 0 _ _ _ _ eb' (c1.but (hdr hH) (by simp))) (hk _ _ (But.refl _ _) rfl)
    · obtain rfl := Option.some.inj ((show opTes[1]? = some opTe1 from rfl).symm.trans ho)
      exact wp_value (run_loadJ a w _ _ _ _ _ _ g2 0 _ _ _ e2' ((hdr hH).cell_some ct (by simp))) (hk _ _ (But.refl _ _) rfl)
    · obtain rfl := Option.some.inj ((show opTes[2]? = some opTe2 from rfl).symm.trans ho)
      exact wp_value (run_mvK a w _ _ _ _ _ _ _ e7') (hk _ _ (But.refl _ _) rfl)
    · obtain rfl := Option.some.inj ((show opTes[3]? = some opTe3 from rfl).symm.trans ho)
      exact wp_value (run_indexJ a w _ _ _ _ _ _ _ tb to n tcap ia hia hn2 (hD 1 (by simp)) (hD 2 (by simp))) (hk _ _ (But.refl _ _) rfl)
    · obtain rfl := Option.some.inj ((show opTes[4]? = some opTe4 from rfl).symm.trans ho)
      exact wp_value (run_loadL a w _ _ _ _ _ _ tb (to + ia) _ _ _ (hD 3 (by simp)) ((hdr hH).cell_some cr (by simp))) (hk _ _ (But.refl _ _) rfl)
    · obtain rfl := Option.some.inj ((show opTes[5]? = some opTe5 from rfl).symm.trans ho)
      exact wp_value (run_mvK a w _ _ _ _ _ _ _ e1') (hk _ _ (But.refl _ _) rfl)
    · obtain rfl := Option.some.inj ((show opTes[6]? = some opTe6 from rfl).symm.trans ho)
      exact wp_value (run_indexI a w _ _ _ _ _ _ _ rb ro rn rc ja hja hrn (hD 4 (by simp)) (hD 5 (by simp))) (hk _ _ (But.refl _ _) rfl)
    · obtain rfl := Option.some.inj ((show opTes[7]? = some opTe7 from rfl).symm.trans ho)
      exact wp_value (run_loadI a w _ _ _ _ _ _ rb (ro + ja) z0 (hD 6 (by simp)) ((hdr hH).cell_some cz0 (by simp))) (hk _ _ (But.refl _ _) rfl)
    · obtain rfl := Option.some.inj ((show opTes[8]? = some opTe8 from rfl).symm.trans ho)
      exact wp_enter (run_wholeK a w _ _ _ _ _ _ _ (hD 7 (by simp))) (R := fun w' v => But [] w w' ∧ v = _) ((WH2 w).mono fun e w' ⟨he, hb⟩ => ⟨_, he, hb, rfl⟩) (fun v w' hv => hk v w' hv.1 hv.2)
    · obtain rfl := Option.some.inj ((show opTes[9]? = some opTe9 from rfl).symm.trans ho)
      exact wp_value (run_loadK a w _ _ _ _ _ _ g10 0 _ _ _ _ e10' (c2.but (hdr hH) (by simp))) (hk _ _ (But.refl _ _) rfl)
    · obtain rfl := Option.some.inj ((show opTes[10]? = some opTe10 from rfl).symm.trans ho)
      exact wp_enter (run_mulK a w _ _ _ _ _ _ _ _ _ (hD 8 (by simp)) (hD 9 (by simp))) (R := fun w' v => FracAt w' v (((z0 : Int) : Rat) * f2) ∧ But [] w w') (MU w (hdr hH)) (fun v w' hv => hk v w' hv.2 hv.1)
    · obtain rfl := Option.some.inj ((show opTes[11]? = some opTe11 from rfl).symm.trans ho)
      exact wp_value (run_loadK a w _ _ _ _ _ _ g10 0 _ _ _ _ e10' (c2.but (hdr hH) (by simp))) (hk _ _ (But.refl _ _) rfl)
    · obtain rfl := Option.some.inj ((show opTes[12]? = some opTe12 from rfl).symm.trans ho)
      exact wp_enter (run_mulK a w _ _ _ _ _ _ _ _ _ rfl (hD 11 (by simp))) (R := fun w' v => FracAt w' v (((z0 : Int) : Rat) * f2 * f2) ∧ But [] w w') (MV w (hdr hH) _ (hD 10 (by simp))) (fun v w' hv => hk v w' hv.2 hv.1)
    · obtain rfl := Option.some.inj ((show opTes[13]? = some opTe13 from rfl).symm.trans ho)
      exact wp_enter (run_addK a w _ _ _ _ _ _ _ _ _ (hD 0 (by simp)) rfl) (R := fun w' v => FracAt w' v (f1 + ((z0 : Int) : Rat) * f2 * f2) ∧ But [] w w') (AD w (hdr hH) _ (hD 12 (by simp))) (fun v w' hv => hk v w' hv.2 hv.1)
  · intro dn o a w K ho hall h hK
    obtain rfl := Option.some.inj ((show opTes[14]? = some opTe14 from rfl).symm.trans ho)
    have eb' := (h.eval 6 (fun j hj e => absurd e.symm (by revert j; decide))).trans eb
    have cl : FracAt w (a.eval (.tmp 66)) (f1 + ((z0 : Int) : Rat) * f2 * f2) := h.has 13 (by omega) (hall 13 (by omega))
    have cl' := cl
    obtain ⟨x', y', p', ev, -⟩ := cl.agg
    rw [ev] at cl'
    have ea := h.puts hT (fun i => match i with
      | 0 => .agg #[.bool s1, .int .u64 x1, .int .u64 y1, .pointer p1]
      | 1 => .slice (some ⟨tb, to, none⟩) n tcap
      | 2 => .int .i64 (ia : Int)
      | 3 => .pointer (some ⟨tb, to + ia, none⟩)
      | 4 => .slice (some ⟨rb, ro, none⟩) rn rc
      | 5 => .int .i64 (ja : Int)
      | 6 => .pointer (some ⟨rb, ro + ja, none⟩)
      | 7 => .int .i64 z0
      | 8 => .agg #[.bool ws2, .int .u64 wx2, .int .u64 0, .pointer none]
      | 9 => .agg #[.bool s2, .int .u64 x2, .int .u64 y2, .pointer p2]
      | 10 => a.eval (.tmp 63)
      | 11 => .agg #[.bool s2, .int .u64 x2, .int .u64 y2, .pointer p2]
      | 12 => a.eval (.tmp 65)
      | _ => .agg #[.bool (decide ((f1 + ((z0 : Int) : Rat) * f2 * f2).num < 0)), .int .u64 x', .int .u64 y', .pointer p']) (fun i hi => by
      have hc := h.has i hi (hall i hi)
      have : i = 0 ∨ i = 1 ∨ i = 2 ∨ i = 3 ∨ i = 4 ∨ i = 5 ∨ i = 6 ∨ i = 7 ∨ i = 8 ∨ i = 9 ∨ i = 10 ∨ i = 11 ∨ i = 12 ∨ i = 13 := by omega
      rcases this with rfl | rfl | rfl | rfl | rfl | rfl | rfl | rfl | rfl | rfl | rfl | rfl | rfl | rfl
      all_goals first | exact ev | exact hc | rfl)
    exact wp_skipped (run_store4 a w _ _ _ _ _ gb _ x' y' p' eb' ev (cb.but (hdr h.mem) (by simp)) (fun j => ((hdr h.mem).frozen (p := ⟨gb, j, none⟩) lgb (by simp)).trans (fzb j))) (hK _ _ ⟨w, a.eval (.tmp 63), a.eval (.tmp 65), _, x', y', p', ea, rfl, hdr h.mem, cl'⟩)
  · rintro a w ⟨w1, v10, v12, s', x', y', p', rfl, rfl, h1, h2⟩
    exact hQ  w1 v10 v12 s' x' y' p' h1 h2
end Go.Proofs.YtjbboicccddhbaaGreatDoor
