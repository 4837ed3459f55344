/- The square of a triangle: the statements that draw their order. -/
import Derived.Test.YtjbboicccddhbaaGreatDoorKBEKr
namespace Go.Proofs.YtjbboicccddhbaaGreatDoor
open Go.RowKit
set_option linter.unusedVariables false

def opTa0 : Oper := { dst := some 34, op := Op.move (Operand.tmp 5), type := 78, pos := "triangle.go:81", after := #[], guard := none }
def opTa1 : Oper := { dst := some 35, op := Op.move (Operand.tmp 6), type := 3, pos := "triangle.go:81", after := #[], guard := none }
def opTa2 : Oper := { dst := some 36, op := Op.indexAddr 78 (Operand.tmp 34) (Operand.tmp 35), type := 0, pos := "triangle.go:81", after := #[{ on := 0, ground := Ground.data }, { on := 1, ground := Ground.data }], guard := none }
def opTa3 : Oper := { dst := some 37, op := Op.load 75 (Operand.tmp 36), type := 75, pos := "triangle.go:81", after := #[{ on := 2, ground := Ground.data }], guard := none }
def opTa4 : Oper := { dst := some 38, op := Op.move (Operand.tmp 8), type := 3, pos := "triangle.go:81", after := #[], guard := none }
def opTa5 : Oper := { dst := some 39, op := Op.move (Operand.tmp 7), type := 53, pos := "triangle.go:81", after := #[], guard := none }
def opTa6 : Oper := { dst := some 40, op := Op.move (Operand.tmp 8), type := 3, pos := "triangle.go:81", after := #[], guard := none }
def opTa7 : Oper := { dst := some 41, op := Op.indexAddr 53 (Operand.tmp 39) (Operand.tmp 40), type := 0, pos := "triangle.go:81", after := #[{ on := 5, ground := Ground.data }, { on := 6, ground := Ground.data }], guard := none }
def opTa8 : Oper := { dst := some 42, op := Op.load 3 (Operand.tmp 41), type := 3, pos := "triangle.go:81", after := #[{ on := 7, ground := Ground.data }], guard := none }
def opTa9 : Oper := { dst := some 43, op := Op.call { callee := Callee.value (Operand.func 16), args := #[Operand.tmp 42], argTypes := #[3] }, type := 27, pos := "triangle.go:81", after := #[{ on := 8, ground := Ground.data }], guard := none }
def opTa10 : Oper := { dst := some 44, op := Op.indexAddr 75 (Operand.tmp 37) (Operand.tmp 38), type := 0, pos := "triangle.go:81", after := #[{ on := 3, ground := Ground.data }, { on := 4, ground := Ground.data }, { on := 0, ground := Ground.phase }, { on := 1, ground := Ground.phase }, { on := 2, ground := Ground.phase }, { on := 3, ground := Ground.phase }, { on := 4, ground := Ground.phase }, { on := 5, ground := Ground.phase }, { on := 6, ground := Ground.phase }, { on := 7, ground := Ground.phase }, { on := 8, ground := Ground.phase }, { on := 9, ground := Ground.phase }], guard := none }
def opTa11 : Oper := { dst := none, op := Op.store 27 (Operand.tmp 44) (Operand.tmp 43), type := 0, pos := "triangle.go:81", after := #[{ on := 10, ground := Ground.data }, { on := 9, ground := Ground.data }, { on := 9, ground := Ground.chain }, { on := 0, ground := Ground.phase }, { on := 1, ground := Ground.phase }, { on := 2, ground := Ground.phase }, { on := 3, ground := Ground.phase }, { on := 4, ground := Ground.phase }, { on := 5, ground := Ground.phase }, { on := 6, ground := Ground.phase }, { on := 7, ground := Ground.phase }, { on := 8, ground := Ground.phase }, { on := 9, ground := Ground.phase }], guard := none }
def opTas : Array Oper := #[opTa0, opTa1, opTa2, opTa3, opTa4, opTa5, opTa6, opTa7, opTa8, opTa9, opTa10, opTa11]
def opTaT (i : Nat) : Nat := match i with
  | 0 => 34
  | 1 => 35
  | 2 => 36
  | 3 => 37
  | 4 => 38
  | 5 => 39
  | 6 => 40
  | 7 => 41
  | 8 => 42
  | 9 => 43
  | _ => 44
/-- what each operation's value is -/
def opTaC (gb : Nat) (go : Nat) (gq : Nat) (n : Nat) (ia : Nat) (ka : Nat) (rb : Nat) (ro : Nat) (rn : Nat) (rc : Nat) (z : Int) (i : Nat) (w : World) (v : Value) : Prop := match i with
  | 0 => v = .slice (some ⟨gq, 0, none⟩) n n
  | 1 => v = .int .i64 (ia : Int)
  | 2 => v = .pointer (some ⟨gq, ia, none⟩)
  | 3 => v = .slice (some ⟨gb, 0, none⟩) n n
  | 4 => v = .int .i64 (ka : Int)
  | 5 => v = .slice (some ⟨rb, ro, none⟩) rn rc
  | 6 => v = .int .i64 (ka : Int)
  | 7 => v = .pointer (some ⟨rb, ro + ka, none⟩)
  | 8 => v = .int .i64 z
  | 9 => FracAt w v ((z : Int) : Rat)
  | _ => v = .pointer (some ⟨gb, go, none⟩)
theorem opTaC_but {gb : Nat} {go : Nat} {gq : Nat} {n : Nat} {ia : Nat} {ka : Nat} {rb : Nat} {ro : Nat} {rn : Nat} {rc : Nat} {z : Int} {i : Nat} {w w' : World} {v : Value} (h : opTaC gb go gq n ia ka rb ro rn rc z i w v) (hi : i < 11) (hb : But [] w w') : opTaC gb go gq n ia ka rb ro rn rc z i w' v := by
  have : i = 0 ∨ i = 1 ∨ i = 2 ∨ i = 3 ∨ i = 4 ∨ i = 5 ∨ i = 6 ∨ i = 7 ∨ i = 8 ∨ i = 9 ∨ i = 10 := by omega
  rcases this with rfl | rfl | rfl | rfl | rfl | rfl | rfl | rfl | rfl | rfl | rfl
  all_goals first | exact h | exact FracAt.but h hb | exact FracsAt.but h hb
theorem opTaT_inj : ∀ i j, i < 11 → j < 11 → opTaT i = opTaT j → i = j := fun i j hi hj => (by decide : ∀ i, i < 11 → ∀ j, j < 11 → opTaT i = opTaT j → i = j) i hi j hj
set_option maxRecDepth 100000 in
theorem square_region10 (id : Nat) (Q : Exit → Act → World → Prop) (base : Act) (W0 : World) (gb : Nat) (go : Nat) (gq : Nat) (n : Nat) (ia : Nat) (ka : Nat) (rb : Nat) (ro : Nat) (rn : Nat) (rc : Nat) (z : Int) {sb : Bool} {xb yb : Int} {pb : Option Addr} (hs : 44 < base.tmps.size) (cb : P4o W0 gb go sb xb yb pb) (fzb : ∀ j, W0.frozen? ⟨gb, j, none⟩ = false) (e5 : base.eval (.tmp 5) = .slice (some ⟨gq, 0, none⟩) n n) (e6 : base.eval (.tmp 6) = .int .i64 (ia : Int)) (e8 : base.eval (.tmp 8) = .int .i64 (ka : Int)) (e7 : base.eval (.tmp 7) = .slice (some ⟨rb, ro, none⟩) rn rc)
    (hgo : go = ka * 4) (hia : ia < n) (hn2 : n < 1000000) (hka : ka < rn) (hrn : rn < 1000000) (hkn : ka < n) (cq : W0.cell? ⟨gq, ia, none⟩ = some (.slice (some ⟨gb, 0, none⟩) n n)) (cz : W0.cell? ⟨rb, ro + ka, none⟩ = some (.int .i64 z))
    (WH : ∀ w, Calls Tryz.prog 16 #[.int .i64 z] w fun e w' => ∃ v, e = .returned v ∧ FracAt w' v ((z : Int) : Rat) ∧ But [] w w')
    (hQ : ∀ w1 s' x' y' p', But [] W0 w1 → FracAt w1 (.agg #[.bool s', .int .u64 x', .int .u64 y', .pointer p']) (((z : Int) : Rat)) → Q .normal (putted base [(34, .slice (some ⟨gq, 0, none⟩) n n), (35, .int .i64 (ia : Int)), (36, .pointer (some ⟨gq, ia, none⟩)), (37, .slice (some ⟨gb, 0, none⟩) n n), (38, .int .i64 (ka : Int)), (39, .slice (some ⟨rb, ro, none⟩) rn rc), (40, .int .i64 (ka : Int)), (41, .pointer (some ⟨rb, ro + ka, none⟩)), (42, .int .i64 z), (43, (.agg #[.bool s', .int .u64 x', .int .u64 y', .pointer p'])), (44, .pointer (some ⟨gb, go, none⟩))]) (w1.setCells gb go [.bool s', .int .u64 x', .int .u64 y', .pointer p'])) :
    (Code.region id opTas true).wp Tryz.prog Q base W0 := by
  have hdr : ∀ {w}, But [] W0.drew w → But [] W0 w := fun h => (But.refl _ _).drew.trans' h
  have lgb : gb < W0.heap.size := lt_of_cell cb.1
  have hT : ∀ i, i < 11 → opTaT i < base.tmps.size := fun i hi => by
    have h : opTaT i ≤ 44 := by revert i; decide
    omega
  refine region_flow (by kernel_rfl) (low_of (by kernel_rfl)) (fun i o ho => (calm_of (ops := opTas) (by kernel_rfl) i o ho).1)
    (fun _ w => But [] W0.drew w) (opTaC gb go gq n ia ka rb ro rn rc z) opTaT 11 rfl opTaT_inj hT (But.refl _ _)
    (fun i hi => ?_) ?_ (fun a w => ∃ w1 s' x' y' p', a = putted base [(34, .slice (some ⟨gq, 0, none⟩) n n), (35, .int .i64 (ia : Int)), (36, .pointer (some ⟨gq, ia, none⟩)), (37, .slice (some ⟨gb, 0, none⟩) n n), (38, .int .i64 (ka : Int)), (39, .slice (some ⟨rb, ro, none⟩) rn rc), (40, .int .i64 (ka : Int)), (41, .pointer (some ⟨rb, ro + ka, none⟩)), (42, .int .i64 z), (43, (.agg #[.bool s', .int .u64 x', .int .u64 y', .pointer p'])), (44, .pointer (some ⟨gb, go, none⟩))] ∧ w = w1.setCells gb go [.bool s', .int .u64 x', .int .u64 y', .pointer p'] ∧ But [] W0 w1 ∧ FracAt w1 (.agg #[.bool s', .int .u64 x', .int .u64 y', .pointer p']) (((z : Int) : Rat))) ?_ ?_
  · exact dep_of (ops := opTas) (ps := [(11, 0), (11, 1), (11, 2), (11, 3), (11, 4), (11, 5), (11, 6), (11, 7), (11, 8), (11, 9), (11, 10)]) (by kernel_rfl) 11 i (by
      have : i = 0 ∨ i = 1 ∨ i = 2 ∨ i = 3 ∨ i = 4 ∨ i = 5 ∨ i = 6 ∨ i = 7 ∨ i = 8 ∨ i = 9 ∨ i = 10 := by omega
      rcases this with rfl | rfl | rfl | rfl | rfl | rfl | rfl | rfl | rfl | rfl | rfl <;> simp)
  · intro dn i o a w K hi ho hdi hH he hdep hK
    have hD := fun j hj => (dep_have (ps := [(2, 0), (2, 1), (3, 2), (7, 5), (7, 6), (8, 7), (9, 8), (10, 0), (10, 1), (10, 2), (10, 3), (10, 4), (10, 5), (10, 6), (10, 7), (10, 8), (10, 9)]) (by kernel_rfl) ho (fun j => dn j = true ∧ opTaC gb go gq n ia ka rb ro rn rc z j w (a.eval (.tmp (opTaT j)))) hdep j hj).2
    have hk : ∀ v w', But [] w w' → opTaC gb go gq n ia ka rb ro rn rc z i w' v → K (a.put (some (opTaT i)) v) w' := fun v w' hb hv => hK v w' (hH.trans' hb) (fun j hj _ u hu => opTaC_but hu hj hb) hv
    have e5' := (he 5 (fun j hj e => absurd e.symm (by revert j; decide))).trans e5
    have e6' := (he 6 (fun j hj e => absurd e.symm (by revert j; decide))).trans e6
    have e8' := (he 8 (fun j hj e => absurd e.symm (by revert j; decide))).trans e8
    have e7' := (he 7 (fun j hj e => absurd e.symm (by revert j; decide))).trans e7
    have : i = 0 ∨ i = 1 ∨ i = 2 ∨ i = 3 ∨ i = 4 ∨ i = 5 ∨ i = 6 ∨ i = 7 ∨ i = 8 ∨ i = 9 ∨ i = 10 := by omega
    rcases this with rfl | rfl | rfl | rfl | rfl | rfl | rfl | rfl | rfl | rfl | rfl
    · obtain rfl := Option.some.inj ((show opTas[0]? = some opTa0 from rfl).symm.trans ho)
      exact wp_value (run_mvK a w _ _ _ _ _ _ _ e5') (hk _ _ (But.refl _ _) rfl)
    · obtain rfl := Option.some.inj ((show opTas[1]? = some opTa1 from rfl).symm.trans ho)
      exact wp_value (run_mvK a w _ _ _ _ _ _ _ e6') (hk _ _ (But.refl _ _) rfl)
    · obtain rfl := Option.some.inj ((show opTas[2]? = some opTa2 from rfl).symm.trans ho)
      refine wp_value (run_indexT a w _ _ _ _ _ _ _ gq 0 n n ia hia hn2 (hD 0 (by simp)) (hD 1 (by simp))) (hk _ _ (But.refl _ _) ?_)
      show Value.pointer _ = Value.pointer _
      rw [Nat.zero_add]
    · obtain rfl := Option.some.inj ((show opTas[3]? = some opTa3 from rfl).symm.trans ho)
      exact wp_value (run_loadT a w _ _ _ _ _ _ gq ia _ _ _ (hD 2 (by simp)) ((hdr hH).cell_some cq (by simp))) (hk _ _ (But.refl _ _) rfl)
    · obtain rfl := Option.some.inj ((show opTas[4]? = some opTa4 from rfl).symm.trans ho)
      exact wp_value (run_mvK a w _ _ _ _ _ _ _ e8') (hk _ _ (But.refl _ _) rfl)
    · obtain rfl := Option.some.inj ((show opTas[5]? = some opTa5 from rfl).symm.trans ho)
      exact wp_value (run_mvK a w _ _ _ _ _ _ _ e7') (hk _ _ (But.refl _ _) rfl)
    · obtain rfl := Option.some.inj ((show opTas[6]? = some opTa6 from rfl).symm.trans ho)
      exact wp_value (run_mvK a w _ _ _ _ _ _ _ e8') (hk _ _ (But.refl _ _) rfl)
    · obtain rfl := Option.some.inj ((show opTas[7]? = some opTa7 from rfl).symm.trans ho)
      exact wp_value (run_indexI a w _ _ _ _ _ _ _ rb ro rn rc ka hka hrn (hD 5 (by simp)) (hD 6 (by simp))) (hk _ _ (But.refl _ _) rfl)
    · obtain rfl := Option.some.inj ((show opTas[8]? = some opTa8 from rfl).symm.trans ho)
      exact wp_value (run_loadI a w _ _ _ _ _ _ rb (ro + ka) z (hD 7 (by simp)) ((hdr hH).cell_some cz (by simp))) (hk _ _ (But.refl _ _) rfl)
    · obtain rfl := Option.some.inj ((show opTas[9]? = some opTa9 from rfl).symm.trans ho)
      exact wp_enter (run_wholeK a w _ _ _ _ _ _ _ (hD 8 (by simp))) (R := fun w' v => FracAt w' v (((z : Int) : Rat)) ∧ But [] w w') (WH w) (fun v w' hv => hk v w' hv.2 hv.1)
    · obtain rfl := Option.some.inj ((show opTas[10]? = some opTa10 from rfl).symm.trans ho)
      refine wp_value (run_indexK a w _ _ _ _ _ _ _ gb 0 n n ka hkn hn2 (hD 3 (by simp)) (hD 4 (by simp))) (hk _ _ (But.refl _ _) ?_)
      show Value.pointer _ = Value.pointer _
      rw [hgo, Nat.zero_add]
  · intro dn o a w K ho hall h hK
    obtain rfl := Option.some.inj ((show opTas[11]? = some opTa11 from rfl).symm.trans ho)
    have eb' : a.eval (.tmp 44) = .pointer (some ⟨gb, go, none⟩) := h.has 10 (by omega) (hall 10 (by omega))
    have cl : FracAt w (a.eval (.tmp 43)) (((z : Int) : Rat)) := h.has 9 (by omega) (hall 9 (by omega))
    have cl' := cl
    obtain ⟨x', y', p', ev, -⟩ := cl.agg
    rw [ev] at cl'
    have ea := h.puts hT (fun i => match i with
      | 0 => .slice (some ⟨gq, 0, none⟩) n n
      | 1 => .int .i64 (ia : Int)
      | 2 => .pointer (some ⟨gq, ia, none⟩)
      | 3 => .slice (some ⟨gb, 0, none⟩) n n
      | 4 => .int .i64 (ka : Int)
      | 5 => .slice (some ⟨rb, ro, none⟩) rn rc
      | 6 => .int .i64 (ka : Int)
      | 7 => .pointer (some ⟨rb, ro + ka, none⟩)
      | 8 => .int .i64 z
      | 9 => .agg #[.bool (decide ((((z : Int) : Rat)).num < 0)), .int .u64 x', .int .u64 y', .pointer p']
      | _ => .pointer (some ⟨gb, go, none⟩)) (fun i hi => by
      have hc := h.has i hi (hall i hi)
      have : i = 0 ∨ i = 1 ∨ i = 2 ∨ i = 3 ∨ i = 4 ∨ i = 5 ∨ i = 6 ∨ i = 7 ∨ i = 8 ∨ i = 9 ∨ i = 10 := by omega
      rcases this with rfl | rfl | rfl | rfl | rfl | rfl | rfl | rfl | rfl | rfl | rfl
      all_goals first | exact ev | exact hc | rfl)
    exact wp_skipped (run_store4o a w _ _ _ _ _ gb go _ x' y' p' eb' ev (cb.but (hdr h.mem) (by simp)) (fun j => ((hdr h.mem).frozen (p := ⟨gb, j, none⟩) lgb (by simp)).trans (fzb j))) (hK _ _ ⟨w, _, x', y', p', ea, rfl, hdr h.mem, cl'⟩)
  · rintro a w ⟨w1, s', x', y', p', rfl, rfl, h1, h2⟩
    exact hQ  w1 s' x' y' p' h1 h2
def opTb0 : Oper := { dst := some 45, op := Op.move (Operand.tmp 5), type := 78, pos := "triangle.go:83", after := #[], guard := none }
def opTb1 : Oper := { dst := some 46, op := Op.move (Operand.tmp 6), type := 3, pos := "triangle.go:83", after := #[], guard := none }
def opTb2 : Oper := { dst := some 47, op := Op.indexAddr 78 (Operand.tmp 45) (Operand.tmp 46), type := 0, pos := "triangle.go:83", after := #[{ on := 0, ground := Ground.data }, { on := 1, ground := Ground.data }], guard := none }
def opTb3 : Oper := { dst := some 48, op := Op.load 75 (Operand.tmp 47), type := 75, pos := "triangle.go:83", after := #[{ on := 2, ground := Ground.data }], guard := none }
def opTb4 : Oper := { dst := some 49, op := Op.move (Operand.tmp 8), type := 3, pos := "triangle.go:83", after := #[], guard := none }
def opTb5 : Oper := { dst := some 50, op := Op.move (Operand.tmp 5), type := 78, pos := "triangle.go:83", after := #[], guard := none }
def opTb6 : Oper := { dst := some 51, op := Op.move (Operand.tmp 6), type := 3, pos := "triangle.go:83", after := #[], guard := none }
def opTb7 : Oper := { dst := some 52, op := Op.indexAddr 78 (Operand.tmp 50) (Operand.tmp 51), type := 0, pos := "triangle.go:83", after := #[{ on := 5, ground := Ground.data }, { on := 6, ground := Ground.data }], guard := none }
def opTb8 : Oper := { dst := some 53, op := Op.load 75 (Operand.tmp 52), type := 75, pos := "triangle.go:83", after := #[{ on := 7, ground := Ground.data }], guard := none }
def opTb9 : Oper := { dst := some 54, op := Op.move (Operand.tmp 8), type := 3, pos := "triangle.go:83", after := #[], guard := none }
def opTb10 : Oper := { dst := some 55, op := Op.binOp BinOp.sub 3 (Operand.tmp 54) (Operand.const (Value.int IntKind.i64 1)) 3, type := 3, pos := "triangle.go:83", after := #[{ on := 9, ground := Ground.data }], guard := none }
def opTb11 : Oper := { dst := some 56, op := Op.indexAddr 75 (Operand.tmp 53) (Operand.tmp 55), type := 0, pos := "triangle.go:83", after := #[{ on := 8, ground := Ground.data }, { on := 10, ground := Ground.data }], guard := none }
def opTb12 : Oper := { dst := some 57, op := Op.load 27 (Operand.tmp 56), type := 27, pos := "triangle.go:83", after := #[{ on := 11, ground := Ground.data }], guard := none }
def opTb13 : Oper := { dst := some 58, op := Op.move (Operand.tmp 1), type := 75, pos := "triangle.go:83", after := #[], guard := none }
def opTb14 : Oper := { dst := some 59, op := Op.move (Operand.tmp 8), type := 3, pos := "triangle.go:83", after := #[], guard := none }
def opTb15 : Oper := { dst := some 60, op := Op.binOp BinOp.sub 3 (Operand.tmp 59) (Operand.const (Value.int IntKind.i64 1)) 3, type := 3, pos := "triangle.go:83", after := #[{ on := 14, ground := Ground.data }], guard := none }
def opTb16 : Oper := { dst := some 61, op := Op.indexAddr 75 (Operand.tmp 58) (Operand.tmp 60), type := 0, pos := "triangle.go:83", after := #[{ on := 13, ground := Ground.data }, { on := 15, ground := Ground.data }], guard := none }
def opTb17 : Oper := { dst := some 62, op := Op.load 27 (Operand.tmp 61), type := 27, pos := "triangle.go:83", after := #[{ on := 16, ground := Ground.data }], guard := none }
def opTb18 : Oper := { dst := some 63, op := Op.call { callee := Callee.value (Operand.func 37), args := #[Operand.tmp 57, Operand.tmp 62], argTypes := #[27, 27] }, type := 27, pos := "triangle.go:83", after := #[{ on := 12, ground := Ground.data }, { on := 17, ground := Ground.data }], guard := none }
def opTb19 : Oper := { dst := some 64, op := Op.indexAddr 75 (Operand.tmp 48) (Operand.tmp 49), type := 0, pos := "triangle.go:83", after := #[{ on := 3, ground := Ground.data }, { on := 4, ground := Ground.data }, { on := 0, ground := Ground.phase }, { on := 1, ground := Ground.phase }, { on := 2, ground := Ground.phase }, { on := 3, ground := Ground.phase }, { on := 4, ground := Ground.phase }, { on := 5, ground := Ground.phase }, { on := 6, ground := Ground.phase }, { on := 7, ground := Ground.phase }, { on := 8, ground := Ground.phase }, { on := 9, ground := Ground.phase }, { on := 10, ground := Ground.phase }, { on := 11, ground := Ground.phase }, { on := 12, ground := Ground.phase }, { on := 13, ground := Ground.phase }, { on := 14, ground := Ground.phase }, { on := 15, ground := Ground.phase }, { on := 16, ground := Ground.phase }, { on := 17, ground := Ground.phase }, { on := 18, ground := Ground.phase }], guard := none }
def opTb20 : Oper := { dst := none, op := Op.store 27 (Operand.tmp 64) (Operand.tmp 63), type := 0, pos := "triangle.go:83", after := #[{ on := 19, ground := Ground.data }, { on := 18, ground := Ground.data }, { on := 18, ground := Ground.chain }, { on := 0, ground := Ground.phase }, { on := 1, ground := Ground.phase }, { on := 2, ground := Ground.phase }, { on := 3, ground := Ground.phase }, { on := 4, ground := Ground.phase }, { on := 5, ground := Ground.phase }, { on := 6, ground := Ground.phase }, { on := 7, ground := Ground.phase }, { on := 8, ground := Ground.phase }, { on := 9, ground := Ground.phase }, { on := 10, ground := Ground.phase }, { on := 11, ground := Ground.phase }, { on := 12, ground := Ground.phase }, { on := 13, ground := Ground.phase }, { on := 14, ground := Ground.phase }, { on := 15, ground := Ground.phase }, { on := 16, ground := Ground.phase }, { on := 17, ground := Ground.phase }, { on := 18, ground := Ground.phase }], guard := none }
def opTbs : Array Oper := #[opTb0, opTb1, opTb2, opTb3, opTb4, opTb5, opTb6, opTb7, opTb8, opTb9, opTb10, opTb11, opTb12, opTb13, opTb14, opTb15, opTb16, opTb17, opTb18, opTb19, opTb20]
def opTbT (i : Nat) : Nat := match i with
  | 0 => 45
  | 1 => 46
  | 2 => 47
  | 3 => 48
  | 4 => 49
  | 5 => 50
  | 6 => 51
  | 7 => 52
  | 8 => 53
  | 9 => 54
  | 10 => 55
  | 11 => 56
  | 12 => 57
  | 13 => 58
  | 14 => 59
  | 15 => 60
  | 16 => 61
  | 17 => 62
  | 18 => 63
  | _ => 64
/-- what each operation's value is -/
def opTbC (gb : Nat) (go : Nat) (gq : Nat) (n : Nat) (ia : Nat) (kb : Nat) (gf : Nat) (nf : Nat) (s1 : Bool) (x1 : Int) (y1 : Int) (p1 : Option Addr) (s2 : Bool) (x2 : Int) (y2 : Int) (p2 : Option Addr) (f1 : Rat) (f2 : Rat) (i : Nat) (w : World) (v : Value) : Prop := match i with
  | 0 => v = .slice (some ⟨gq, 0, none⟩) n n
  | 1 => v = .int .i64 (ia : Int)
  | 2 => v = .pointer (some ⟨gq, ia, none⟩)
  | 3 => v = .slice (some ⟨gb, 0, none⟩) n n
  | 4 => v = .int .i64 ((kb + 1 : Nat) : Int)
  | 5 => v = .slice (some ⟨gq, 0, none⟩) n n
  | 6 => v = .int .i64 (ia : Int)
  | 7 => v = .pointer (some ⟨gq, ia, none⟩)
  | 8 => v = .slice (some ⟨gb, 0, none⟩) n n
  | 9 => v = .int .i64 ((kb + 1 : Nat) : Int)
  | 10 => v = .int .i64 (kb : Int)
  | 11 => v = .pointer (some ⟨gb, kb * 4, none⟩)
  | 12 => v = .agg #[.bool s1, .int .u64 x1, .int .u64 y1, .pointer p1]
  | 13 => v = .slice (some ⟨gf, 0, none⟩) nf nf
  | 14 => v = .int .i64 ((kb + 1 : Nat) : Int)
  | 15 => v = .int .i64 (kb : Int)
  | 16 => v = .pointer (some ⟨gf, kb * 4, none⟩)
  | 17 => v = .agg #[.bool s2, .int .u64 x2, .int .u64 y2, .pointer p2]
  | 18 => FracAt w v (f1 * f2)
  | _ => v = .pointer (some ⟨gb, go, none⟩)
theorem opTbC_but {gb : Nat} {go : Nat} {gq : Nat} {n : Nat} {ia : Nat} {kb : Nat} {gf : Nat} {nf : Nat} {s1 : Bool} {x1 : Int} {y1 : Int} {p1 : Option Addr} {s2 : Bool} {x2 : Int} {y2 : Int} {p2 : Option Addr} {f1 : Rat} {f2 : Rat} {i : Nat} {w w' : World} {v : Value} (h : opTbC gb go gq n ia kb gf nf s1 x1 y1 p1 s2 x2 y2 p2 f1 f2 i w v) (hi : i < 20) (hb : But [] w w') : opTbC gb go gq n ia kb gf nf s1 x1 y1 p1 s2 x2 y2 p2 f1 f2 i w' v := by
  have : i = 0 ∨ i = 1 ∨ i = 2 ∨ i = 3 ∨ i = 4 ∨ i = 5 ∨ i = 6 ∨ i = 7 ∨ i = 8 ∨ i = 9 ∨ i = 10 ∨ i = 11 ∨ i = 12 ∨ i = 13 ∨ i = 14 ∨ i = 15 ∨ i = 16 ∨ i = 17 ∨ i = 18 ∨ i = 19 := by omega
  rcases this with rfl | rfl | rfl | rfl | rfl | rfl | rfl | rfl | rfl | rfl | rfl | rfl | rfl | rfl | rfl | rfl | rfl | rfl | rfl | rfl
  all_goals first | exact h | exact FracAt.but h hb | exact FracsAt.but h hb
theorem opTbT_inj : ∀ i j, i < 20 → j < 20 → opTbT i = opTbT j → i = j := fun i j hi hj => (by decide : ∀ i, i < 20 → ∀ j, j < 20 → opTbT i = opTbT j → i = j) i hi j hj
set_option maxHeartbeats 4000000 in
set_option maxRecDepth 100000 in
theorem square_region11 (id : Nat) (Q : Exit → Act → World → Prop) (base : Act) (W0 : World) (gb : Nat) (go : Nat) (gq : Nat) (n : Nat) (ia : Nat) (kb : Nat) (gf : Nat) (nf : Nat) (s1 : Bool) (x1 : Int) (y1 : Int) (p1 : Option Addr) (s2 : Bool) (x2 : Int) (y2 : Int) (p2 : Option Addr) (f1 : Rat) (f2 : Rat) {sb : Bool} {xb yb : Int} {pb : Option Addr} (hs : 64 < base.tmps.size) (cb : P4o W0 gb go sb xb yb pb) (fzb : ∀ j, W0.frozen? ⟨gb, j, none⟩ = false) (e5 : base.eval (.tmp 5) = .slice (some ⟨gq, 0, none⟩) n n) (e6 : base.eval (.tmp 6) = .int .i64 (ia : Int)) (e8 : base.eval (.tmp 8) = .int .i64 ((kb + 1 : Nat) : Int)) (e1 : base.eval (.tmp 1) = .slice (some ⟨gf, 0, none⟩) nf nf)
    (hgo : go = (kb + 1) * 4) (hia : ia < n) (hn2 : n < 1000000) (hkn : kb + 1 < n) (hkf : kb < nf) (hnf : nf < 1000000) (cq : W0.cell? ⟨gq, ia, none⟩ = some (.slice (some ⟨gb, 0, none⟩) n n)) (c1 : P4o W0 gb (kb * 4) s1 x1 y1 p1) (c2 : P4o W0 gf (kb * 4) s2 x2 y2 p2)
    (MU : ∀ w, But [] W0 w → Calls Tryz.prog 37 #[.agg #[.bool s1, .int .u64 x1, .int .u64 y1, .pointer p1], .agg #[.bool s2, .int .u64 x2, .int .u64 y2, .pointer p2]] w fun e w' => ∃ v, e = .returned v ∧ FracAt w' v (f1 * f2) ∧ But [] w w')
    (hQ : ∀ w1 s' x' y' p', But [] W0 w1 → FracAt w1 (.agg #[.bool s', .int .u64 x', .int .u64 y', .pointer p']) (f1 * f2) → Q .normal (putted base [(45, .slice (some ⟨gq, 0, none⟩) n n), (46, .int .i64 (ia : Int)), (47, .pointer (some ⟨gq, ia, none⟩)), (48, .slice (some ⟨gb, 0, none⟩) n n), (49, .int .i64 ((kb + 1 : Nat) : Int)), (50, .slice (some ⟨gq, 0, none⟩) n n), (51, .int .i64 (ia : Int)), (52, .pointer (some ⟨gq, ia, none⟩)), (53, .slice (some ⟨gb, 0, none⟩) n n), (54, .int .i64 ((kb + 1 : Nat) : Int)), (55, .int .i64 (kb : Int)), (56, .pointer (some ⟨gb, kb * 4, none⟩)), (57, .agg #[.bool s1, .int .u64 x1, .int .u64 y1, .pointer p1]), (58, .slice (some ⟨gf, 0, none⟩) nf nf), (59, .int .i64 ((kb + 1 : Nat) : Int)), (60, .int .i64 (kb : Int)), (61, .pointer (some ⟨gf, kb * 4, none⟩)), (62, .agg #[.bool s2, .int .u64 x2, .int .u64 y2, .pointer p2]), (63, (.agg #[.bool s', .int .u64 x', .int .u64 y', .pointer p'])), (64, .pointer (some ⟨gb, go, none⟩))]) (w1.setCells gb go [.bool s', .int .u64 x', .int .u64 y', .pointer p'])) :
    (Code.region id opTbs true).wp Tryz.prog Q base W0 := by
  have hdr : ∀ {w}, But [] W0.drew w → But [] W0 w := fun h => (But.refl _ _).drew.trans' h
  have lgb : gb < W0.heap.size := lt_of_cell cb.1
  have hT : ∀ i, i < 20 → opTbT i < base.tmps.size := fun i hi => by
    have h : opTbT i ≤ 64 := by revert i; decide
    omega
  refine region_flow (by kernel_rfl) (low_of (by kernel_rfl)) (fun i o ho => (calm_of (ops := opTbs) (by kernel_rfl) i o ho).1)
    (fun _ w => But [] W0.drew w) (opTbC gb go gq n ia kb gf nf s1 x1 y1 p1 s2 x2 y2 p2 f1 f2) opTbT 20 rfl opTbT_inj hT (But.refl _ _)
    (fun i hi => ?_) ?_ (fun a w => ∃ w1 s' x' y' p', a = putted base [(45, .slice (some ⟨gq, 0, none⟩) n n), (46, .int .i64 (ia : Int)), (47, .pointer (some ⟨gq, ia, none⟩)), (48, .slice (some ⟨gb, 0, none⟩) n n), (49, .int .i64 ((kb + 1 : Nat) : Int)), (50, .slice (some ⟨gq, 0, none⟩) n n), (51, .int .i64 (ia : Int)), (52, .pointer (some ⟨gq, ia, none⟩)), (53, .slice (some ⟨gb, 0, none⟩) n n), (54, .int .i64 ((kb + 1 : Nat) : Int)), (55, .int .i64 (kb : Int)), (56, .pointer (some ⟨gb, kb * 4, none⟩)), (57, .agg #[.bool s1, .int .u64 x1, .int .u64 y1, .pointer p1]), (58, .slice (some ⟨gf, 0, none⟩) nf nf), (59, .int .i64 ((kb + 1 : Nat) : Int)), (60, .int .i64 (kb : Int)), (61, .pointer (some ⟨gf, kb * 4, none⟩)), (62, .agg #[.bool s2, .int .u64 x2, .int .u64 y2, .pointer p2]), (63, (.agg #[.bool s', .int .u64 x', .int .u64 y', .pointer p'])), (64, .pointer (some ⟨gb, go, none⟩))] ∧ w = w1.setCells gb go [.bool s', .int .u64 x', .int .u64 y', .pointer p'] ∧ But [] W0 w1 ∧ FracAt w1 (.agg #[.bool s', .int .u64 x', .int .u64 y', .pointer p']) (f1 * f2)) ?_ ?_
  · exact dep_of (ops := opTbs) (ps := [(20, 0), (20, 1), (20, 2), (20, 3), (20, 4), (20, 5), (20, 6), (20, 7), (20, 8), (20, 9), (20, 10), (20, 11), (20, 12), (20, 13), (20, 14), (20, 15), (20, 16), (20, 17), (20, 18), (20, 19)]) (by kernel_rfl) 20 i (by
      have : i = 0 ∨ i = 1 ∨ i = 2 ∨ i = 3 ∨ i = 4 ∨ i = 5 ∨ i = 6 ∨ i = 7 ∨ i = 8 ∨ i = 9 ∨ i = 10 ∨ i = 11 ∨ i = 12 ∨ i = 13 ∨ i = 14 ∨ i = 15 ∨ i = 16 ∨ i = 17 ∨ i = 18 ∨ i = 19 := by omega
      rcases this with rfl | rfl | rfl | rfl | rfl | rfl | rfl | rfl | rfl | rfl | rfl | rfl | rfl | rfl | rfl | rfl | rfl | rfl | rfl | rfl <;> simp)
  · intro dn i o a w K hi ho hdi hH he hdep hK
    have hD := fun j hj => (dep_have (ps := [(2, 0), (2, 1), (3, 2), (7, 5), (7, 6), (8, 7), (10, 9), (11, 8), (11, 10), (12, 11), (15, 14), (16, 13), (16, 15), (17, 16), (18, 12), (18, 17), (19, 0), (19, 1), (19, 2), (19, 3), (19, 4), (19, 5), (19, 6), (19, 7), (19, 8), (19, 9), (19, 10), (19, 11), (19, 12), (19, 13), (19, 14), (19, 15), (19, 16), (19, 17), (19, 18)]) (by kernel_rfl) ho (fun j => dn j = true ∧ opTbC gb go gq n ia kb gf nf s1 x1 y1 p1 s2 x2 y2 p2 f1 f2 j w (a.eval (.tmp (opTbT j)))) hdep j hj).2
    have hk : ∀ v w', But [] w w' → opTbC gb go gq n ia kb gf nf s1 x1 y1 p1 s2 x2 y2 p2 f1 f2 i w' v → K (a.put (some (opTbT i)) v) w' := fun v w' hb hv => hK v w' (hH.trans' hb) (fun j hj _ u hu => opTbC_but hu hj hb) hv
    have e5' := (he 5 (fun j hj e => absurd e.symm (by revert j; decide))).trans e5
    have e6' := (he 6 (fun j hj e => absurd e.symm (by revert j; decide))).trans e6
    have e8' := (he 8 (fun j hj e => absurd e.symm (by revert j; decide))).trans e8
    have e1' := (he 1 (fun j hj e => absurd e.symm (by revert j; decide))).trans e1
    have : i = 0 ∨ i = 1 ∨ i = 2 ∨ i = 3 ∨ i = 4 ∨ i = 5 ∨ i = 6 ∨ i = 7 ∨ i = 8 ∨ i = 9 ∨ i = 10 ∨ i = 11 ∨ i = 12 ∨ i = 13 ∨ i = 14 ∨ i = 15 ∨ i = 16 ∨ i = 17 ∨ i = 18 ∨ i = 19 := by omega
    rcases this with rfl | rfl | rfl | rfl | rfl | rfl | rfl | rfl | rfl | rfl | rfl | rfl | rfl | rfl | rfl | rfl | rfl | rfl | rfl | rfl
    · obtain rfl := Option.some.inj ((show opTbs[0]? = some opTb0 from rfl).symm.trans ho)
      exact wp_value (run_mvK a w _ _ _ _ _ _ _ e5') (hk _ _ (But.refl _ _) rfl)
    · obtain rfl := Option.some.inj ((show opTbs[1]? = some opTb1 from rfl).symm.trans ho)
      exact wp_value (run_mvK a w _ _ _ _ _ _ _ e6') (hk _ _ (But.refl _ _) rfl)
    · obtain rfl := Option.some.inj ((show opTbs[2]? = some opTb2 from rfl).symm.trans ho)
      refine wp_value (run_indexT a w _ _ _ _ _ _ _ gq 0 n n ia hia hn2 (hD 0 (by simp)) (hD 1 (by simp))) (hk _ _ (But.refl _ _) ?_)
      show Value.pointer _ = Value.pointer _
      rw [Nat.zero_add]
    · obtain rfl := Option.some.inj ((show opTbs[3]? = some opTb3 from rfl).symm.trans ho)
      exact wp_value (run_loadT a w _ _ _ _ _ _ gq ia _ _ _ (hD 2 (by simp)) ((hdr hH).cell_some cq (by simp))) (hk _ _ (But.refl _ _) rfl)
    · obtain rfl := Option.some.inj ((show opTbs[4]? = some opTb4 from rfl).symm.trans ho)
      exact wp_value (run_mvK a w _ _ _ _ _ _ _ e8') (hk _ _ (But.refl _ _) rfl)
    · obtain rfl := Option.some.inj ((show opTbs[5]? = some opTb5 from rfl).symm.trans ho)
      exact wp_value (run_mvK a w _ _ _ _ _ _ _ e5') (hk _ _ (But.refl _ _) rfl)
    · obtain rfl := Option.some.inj ((show opTbs[6]? = some opTb6 from rfl).symm.trans ho)
      exact wp_value (run_mvK a w _ _ _ _ _ _ _ e6') (hk _ _ (But.refl _ _) rfl)
    · obtain rfl := Option.some.inj ((show opTbs[7]? = some opTb7 from rfl).symm.trans ho)
      refine wp_value (run_indexT a w _ _ _ _ _ _ _ gq 0 n n ia hia hn2 (hD 5 (by simp)) (hD 6 (by simp))) (hk _ _ (But.refl _ _) ?_)
      show Value.pointer _ = Value.pointer _
      rw [Nat.zero_add]
    · obtain rfl := Option.some.inj ((show opTbs[8]? = some opTb8 from rfl).symm.trans ho)
      exact wp_value (run_loadT a w _ _ _ _ _ _ gq ia _ _ _ (hD 7 (by simp)) ((hdr hH).cell_some cq (by simp))) (hk _ _ (But.refl _ _) rfl)
    · obtain rfl := Option.some.inj ((show opTbs[9]? = some opTb9 from rfl).symm.trans ho)
      exact wp_value (run_mvK a w _ _ _ _ _ _ _ e8') (hk _ _ (But.refl _ _) rfl)
    · obtain rfl := Option.some.inj ((show opTbs[10]? = some opTb10 from rfl).symm.trans ho)
      exact wp_value (run_minus1 a w _ _ _ _ _ _ kb (by omega) (hD 9 (by simp))) (hk _ _ (But.refl _ _) rfl)
    · obtain rfl := Option.some.inj ((show opTbs[11]? = some opTb11 from rfl).symm.trans ho)
      refine wp_value (run_indexK a w _ _ _ _ _ _ _ gb 0 n n kb (by omega) (by omega) (hD 8 (by simp)) (hD 10 (by simp))) (hk _ _ (But.refl _ _) ?_)
      show Value.pointer _ = Value.pointer _
      rw [Nat.zero_add]
    · obtain rfl := Option.some.inj ((show opTbs[12]? = some opTb12 from rfl).symm.trans ho)
      exact wp_value (run_loadK a w _ _ _ _ _ _ gb (kb * 4) _ _ _ _ (hD 11 (by simp)) (c1.but (hdr hH) (by simp))) (hk _ _ (But.refl _ _) rfl)
    · obtain rfl := Option.some.inj ((show opTbs[13]? = some opTb13 from rfl).symm.trans ho)
      exact wp_value (run_mvK a w _ _ _ _ _ _ _ e1') (hk _ _ (But.refl _ _) rfl)
    · obtain rfl := Option.some.inj ((show opTbs[14]? = some opTb14 from rfl).symm.trans ho)
      exact wp_value (run_mvK a w _ _ _ _ _ _ _ e8') (hk _ _ (But.refl _ _) rfl)
    · obtain rfl := Option.some.inj ((show opTbs[15]? = some opTb15 from rfl).symm.trans ho)
      exact wp_value (run_minus1 a w _ _ _ _ _ _ kb (by omega) (hD 14 (by simp))) (hk _ _ (But.refl _ _) rfl)
    · obtain rfl := Option.some.inj ((show opTbs[16]? = some opTb16 from rfl).symm.trans ho)
      refine wp_value (run_indexK a w _ _ _ _ _ _ _ gf 0 nf nf kb (by omega) (by omega) (hD 13 (by simp)) (hD 15 (by simp))) (hk _ _ (But.refl _ _) ?_)
      show Value.pointer _ = Value.pointer _
      rw [Nat.zero_add]
    · obtain rfl := Option.some.inj ((show opTbs[17]? = some opTb17 from rfl).symm.trans ho)
      exact wp_value (run_loadK a w _ _ _ _ _ _ gf (kb * 4) _ _ _ _ (hD 16 (by simp)) (c2.but (hdr hH) (by simp))) (hk _ _ (But.refl _ _) rfl)
    · obtain rfl := Option.some.inj ((show opTbs[18]? = some opTb18 from rfl).symm.trans ho)
      exact wp_enter (run_mulK a w _ _ _ _ _ _ _ _ _ (hD 12 (by simp)) (hD 17 (by simp))) (R := fun w' v => FracAt w' v (f1 * f2) ∧ But [] w w') (MU w (hdr hH)) (fun v w' hv => hk v w' hv.2 hv.1)
    · obtain rfl := Option.some.inj ((show opTbs[19]? = some opTb19 from rfl).symm.trans ho)
      refine wp_value (run_indexK a w _ _ _ _ _ _ _ gb 0 n n (kb + 1) hkn hn2 (hD 3 (by simp)) (hD 4 (by simp))) (hk _ _ (But.refl _ _) ?_)
      show Value.pointer _ = Value.pointer _
      rw [hgo, Nat.zero_add]
  · intro dn o a w K ho hall h hK
    obtain rfl := Option.some.inj ((show opTbs[20]? = some opTb20 from rfl).symm.trans ho)
    have eb' : a.eval (.tmp 64) = .pointer (some ⟨gb, go, none⟩) := h.has 19 (by omega) (hall 19 (by omega))
    have cl : FracAt w (a.eval (.tmp 63)) (f1 * f2) := h.has 18 (by omega) (hall 18 (by omega))
    have cl' := cl
    obtain ⟨x', y', p', ev, -⟩ := cl.agg
    rw [ev] at cl'
    have ea := h.puts hT (fun i => match i with
      | 0 => .slice (some ⟨gq, 0, none⟩) n n
      | 1 => .int .i64 (ia : Int)
      | 2 => .pointer (some ⟨gq, ia, none⟩)
      | 3 => .slice (some ⟨gb, 0, none⟩) n n
      | 4 => .int .i64 ((kb + 1 : Nat) : Int)
      | 5 => .slice (some ⟨gq, 0, none⟩) n n
      | 6 => .int .i64 (ia : Int)
      | 7 => .pointer (some ⟨gq, ia, none⟩)
      | 8 => .slice (some ⟨gb, 0, none⟩) n n
      | 9 => .int .i64 ((kb + 1 : Nat) : Int)
      | 10 => .int .i64 (kb : Int)
      | 11 => .pointer (some ⟨gb, kb * 4, none⟩)
      | 12 => .agg #[.bool s1, .int .u64 x1, .int .u64 y1, .pointer p1]
      | 13 => .slice (some ⟨gf, 0, none⟩) nf nf
      | 14 => .int .i64 ((kb + 1 : Nat) : Int)
      | 15 => .int .i64 (kb : Int)
      | 16 => .pointer (some ⟨gf, kb * 4, none⟩)
      | 17 => .agg #[.bool s2, .int .u64 x2, .int .u64 y2, .pointer p2]
      | 18 => .agg #[.bool (decide ((f1 * f2).num < 0)), .int .u64 x', .int .u64 y', .pointer p']
      | _ => .pointer (some ⟨gb, go, none⟩)) (fun i hi => by
      have hc := h.has i hi (hall i hi)
      have : i = 0 ∨ i = 1 ∨ i = 2 ∨ i = 3 ∨ i = 4 ∨ i = 5 ∨ i = 6 ∨ i = 7 ∨ i = 8 ∨ i = 9 ∨ i = 10 ∨ i = 11 ∨ i = 12 ∨ i = 13 ∨ i = 14 ∨ i = 15 ∨ i = 16 ∨ i = 17 ∨ i = 18 ∨ i = 19 := by omega
      rcases this with rfl | rfl | rfl | rfl | rfl | rfl | rfl | rfl | rfl | rfl | rfl | rfl | rfl | rfl | rfl | rfl | rfl | rfl | rfl | rfl
      all_goals first | exact ev | exact hc | rfl)
    exact wp_skipped (run_store4o a w _ _ _ _ _ gb go _ x' y' p' eb' ev (cb.but (hdr h.mem) (by simp)) (fun j => ((hdr h.mem).frozen (p := ⟨gb, j, none⟩) lgb (by simp)).trans (fzb j))) (hK _ _ ⟨w, _, x', y', p', ea, rfl, hdr h.mem, cl'⟩)
  · rintro a w ⟨w1, s', x', y', p', rfl, rfl, h1, h2⟩
    exact hQ  w1 s' x' y' p' h1 h2
end Go.Proofs.YtjbboicccddhbaaGreatDoor
