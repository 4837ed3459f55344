/- The regions of tontineref's Turned and Turn8 that draw their order: two numbers put together, a number divided. -/
import Derived.Test.YtinhoigcajddpaaDoorKWR
namespace Go.Proofs.YtinhoigcajddpaaDoor
open Go.RowKit

def wa0 : Oper := { dst := some 73, op := Op.move (Operand.tmp 11), type := 35, pos := "wave.go:50", after := #[], guard := none }
def wa1 : Oper := { dst := some 74, op := Op.move (Operand.tmp 13), type := 3, pos := "wave.go:50", after := #[], guard := none }
def wa2 : Oper := { dst := some 75, op := Op.move (Operand.tmp 9), type := 35, pos := "wave.go:50", after := #[], guard := none }
def wa3 : Oper := { dst := some 76, op := Op.move (Operand.tmp 13), type := 3, pos := "wave.go:50", after := #[], guard := none }
def wa4 : Oper := { dst := some 77, op := Op.indexAddr 35 (Operand.tmp 75) (Operand.tmp 76), type := 0, pos := "wave.go:50", after := #[{ on := 2, ground := Ground.data }, { on := 3, ground := Ground.data }], guard := none }
def wa5 : Oper := { dst := some 78, op := Op.load 36 (Operand.tmp 77), type := 36, pos := "wave.go:50", after := #[{ on := 4, ground := Ground.data }], guard := none }
def wa6 : Oper := { dst := some 79, op := Op.call { callee := Callee.builtin Builtin.real, args := #[Operand.tmp 78], argTypes := #[36] }, type := 32, pos := "wave.go:50", after := #[{ on := 5, ground := Ground.data }], guard := none }
def wa7 : Oper := { dst := some 80, op := Op.move (Operand.tmp 15), type := 36, pos := "wave.go:50", after := #[], guard := none }
def wa8 : Oper := { dst := some 81, op := Op.call { callee := Callee.builtin Builtin.real, args := #[Operand.tmp 80], argTypes := #[36] }, type := 32, pos := "wave.go:50", after := #[{ on := 7, ground := Ground.data }], guard := none }
def wa9 : Oper := { dst := some 82, op := Op.binOp BinOp.add 32 (Operand.tmp 79) (Operand.tmp 81) 32, type := 32, pos := "wave.go:50", after := #[{ on := 6, ground := Ground.data }, { on := 8, ground := Ground.data }], guard := none }
def wa10 : Oper := { dst := some 83, op := Op.move (Operand.tmp 9), type := 35, pos := "wave.go:50", after := #[], guard := none }
def wa11 : Oper := { dst := some 84, op := Op.move (Operand.tmp 13), type := 3, pos := "wave.go:50", after := #[], guard := none }
def wa12 : Oper := { dst := some 85, op := Op.indexAddr 35 (Operand.tmp 83) (Operand.tmp 84), type := 0, pos := "wave.go:50", after := #[{ on := 10, ground := Ground.data }, { on := 11, ground := Ground.data }], guard := none }
def wa13 : Oper := { dst := some 86, op := Op.load 36 (Operand.tmp 85), type := 36, pos := "wave.go:50", after := #[{ on := 12, ground := Ground.data }], guard := none }
def wa14 : Oper := { dst := some 87, op := Op.call { callee := Callee.builtin Builtin.imag, args := #[Operand.tmp 86], argTypes := #[36] }, type := 32, pos := "wave.go:50", after := #[{ on := 13, ground := Ground.data }], guard := none }
def wa15 : Oper := { dst := some 88, op := Op.move (Operand.tmp 15), type := 36, pos := "wave.go:50", after := #[], guard := none }
def wa16 : Oper := { dst := some 89, op := Op.call { callee := Callee.builtin Builtin.imag, args := #[Operand.tmp 88], argTypes := #[36] }, type := 32, pos := "wave.go:50", after := #[{ on := 15, ground := Ground.data }], guard := none }
def wa17 : Oper := { dst := some 90, op := Op.binOp BinOp.add 32 (Operand.tmp 87) (Operand.tmp 89) 32, type := 32, pos := "wave.go:50", after := #[{ on := 14, ground := Ground.data }, { on := 16, ground := Ground.data }], guard := none }
def wa18 : Oper := { dst := some 91, op := Op.call { callee := Callee.builtin Builtin.complex, args := #[Operand.tmp 82, Operand.tmp 90], argTypes := #[32, 32] }, type := 36, pos := "wave.go:50", after := #[{ on := 9, ground := Ground.data }, { on := 17, ground := Ground.data }], guard := none }
def wa19 : Oper := { dst := some 92, op := Op.indexAddr 35 (Operand.tmp 73) (Operand.tmp 74), type := 0, pos := "wave.go:50", after := #[{ on := 0, ground := Ground.data }, { on := 1, ground := Ground.data }, { on := 0, ground := Ground.phase }, { on := 1, ground := Ground.phase }, { on := 2, ground := Ground.phase }, { on := 3, ground := Ground.phase }, { on := 4, ground := Ground.phase }, { on := 5, ground := Ground.phase }, { on := 6, ground := Ground.phase }, { on := 7, ground := Ground.phase }, { on := 8, ground := Ground.phase }, { on := 9, ground := Ground.phase }, { on := 10, ground := Ground.phase }, { on := 11, ground := Ground.phase }, { on := 12, ground := Ground.phase }, { on := 13, ground := Ground.phase }, { on := 14, ground := Ground.phase }, { on := 15, ground := Ground.phase }, { on := 16, ground := Ground.phase }, { on := 17, ground := Ground.phase }, { on := 18, ground := Ground.phase }], guard := none }
def wa20 : Oper := { dst := none, op := Op.store 36 (Operand.tmp 92) (Operand.tmp 91), type := 0, pos := "wave.go:50", after := #[{ on := 19, ground := Ground.data }, { on := 18, ground := Ground.data }, { on := 0, ground := Ground.phase }, { on := 1, ground := Ground.phase }, { on := 2, ground := Ground.phase }, { on := 3, ground := Ground.phase }, { on := 4, ground := Ground.phase }, { on := 5, ground := Ground.phase }, { on := 6, ground := Ground.phase }, { on := 7, ground := Ground.phase }, { on := 8, ground := Ground.phase }, { on := 9, ground := Ground.phase }, { on := 10, ground := Ground.phase }, { on := 11, ground := Ground.phase }, { on := 12, ground := Ground.phase }, { on := 13, ground := Ground.phase }, { on := 14, ground := Ground.phase }, { on := 15, ground := Ground.phase }, { on := 16, ground := Ground.phase }, { on := 17, ground := Ground.phase }, { on := 18, ground := Ground.phase }], guard := none }
def was : Array Oper := #[wa0, wa1, wa2, wa3, wa4, wa5, wa6, wa7, wa8, wa9, wa10, wa11, wa12, wa13, wa14, wa15, wa16, wa17, wa18, wa19, wa20]
def waT (i : Nat) : Nat := match i with
  | 0 => 73
  | 1 => 74
  | 2 => 75
  | 3 => 76
  | 4 => 77
  | 5 => 78
  | 6 => 79
  | 7 => 80
  | 8 => 81
  | 9 => 82
  | 10 => 83
  | 11 => 84
  | 12 => 85
  | 13 => 86
  | 14 => 87
  | 15 => 88
  | 16 => 89
  | 17 => 90
  | 18 => 91
  | _ => 92
/-- what each operation's value is -/
def waC (G : Nat) (k : Nat) (n : Nat) (g1 : Nat) (m : Nat) (x2 : Nat) (y2 : Nat) (xE : Nat) (yE : Nat) (i : Nat) (v : Value) : Prop := match i with
  | 0 => v = .slice (some ⟨G, 0, none⟩) n n
  | 1 => v = .int .i64 (k : Int)
  | 2 => v = .slice (some ⟨g1, 0, none⟩) m m
  | 3 => v = .int .i64 (k : Int)
  | 4 => v = .pointer (some ⟨g1, k, none⟩)
  | 5 => v = .complex .f64 xE yE
  | 6 => v = .float .f64 xE
  | 7 => v = .complex .f64 x2 y2
  | 8 => v = .float .f64 x2
  | 9 => ∃ x, v = .float .f64 x ∧ can x = fop .add (can xE) (can x2)
  | 10 => v = .slice (some ⟨g1, 0, none⟩) m m
  | 11 => v = .int .i64 (k : Int)
  | 12 => v = .pointer (some ⟨g1, k, none⟩)
  | 13 => v = .complex .f64 xE yE
  | 14 => v = .float .f64 yE
  | 15 => v = .complex .f64 x2 y2
  | 16 => v = .float .f64 y2
  | 17 => ∃ x, v = .float .f64 x ∧ can x = fop .add (can yE) (can y2)
  | 18 => ∃ x y, v = .complex .f64 x y ∧ cx x y = (fop .add (can xE) (can x2), fop .add (can yE) (can y2))
  | _ => v = .pointer (some ⟨G, k, none⟩)
theorem waT_inj : ∀ i j, i < 20 → j < 20 → waT i = waT j → i = j := fun i j hi hj => (by decide : ∀ i, i < 20 → ∀ j, j < 20 → waT i = waT j → i = j) i hi j hj
set_option maxHeartbeats 2000000 in
set_option maxRecDepth 100000 in
theorem turned_r19 (id : Nat) (Q : Exit → Act → World → Prop) (base : Act) (W0 : World) (G : Nat) (k : Nat) (n : Nat) (g1 : Nat) (m : Nat) (x2 : Nat) (y2 : Nat) (xE : Nat) (yE : Nat) (hs : 92 < base.tmps.size) (e11 : base.eval (.tmp 11) = .slice (some ⟨G, 0, none⟩) n n) (e13 : base.eval (.tmp 13) = .int .i64 (k : Int)) (e9 : base.eval (.tmp 9) = .slice (some ⟨g1, 0, none⟩) m m) (e15 : base.eval (.tmp 15) = .complex .f64 x2 y2)
    (hkm : k < m) (hkn : k < n) (hmb : m ≤ 1000) (hnb : n ≤ 1000) (cE : W0.cell? ⟨g1, k, none⟩ = some (.complex .f64 xE yE)) {x0 y0 : Nat} (cG : W0.cell? ⟨G, k, none⟩ = some (.complex .f64 x0 y0)) (fG : W0.frozen? ⟨G, k, none⟩ = false)
    (hQ : ∀ (V : Nat → Value) (q x y : Nat), cx x y = (fop .add (can xE) (can x2), fop .add (can yE) (can y2)) → Q .normal (putted base [(73, V 0), (74, V 1), (75, V 2), (76, V 3), (77, V 4), (78, V 5), (79, V 6), (80, V 7), (81, V 8), (82, V 9), (83, V 10), (84, V 11), (85, V 12), (86, V 13), (87, V 14), (88, V 15), (89, V 16), (90, V 17), (91, V 18), (92, V 19)]) ((W0.drewN q).setCell ⟨G, k, none⟩ (.complex .f64 x y))) :
    (Code.region id was true).wp Tryd.prog Q base W0 := by
  have hT : ∀ i, i < 20 → waT i < base.tmps.size := fun i hi => by
    have h : waT i ≤ 92 := by revert i; decide
    omega
  refine region_flow (by kernel_rfl) (low_ofW (by kernel_rfl)) (bare_ofW (by kernel_rfl)) (fun _ w => ∃ q, w = W0.drewN q) (fun i _ v => waC G k n g1 m x2 y2 xE yE i v) waT 20 rfl waT_inj hT ⟨1, rfl⟩ (fun i hi => ?_) ?_
    (fun a w => ∃ (V : Nat → Value) (q x y : Nat), cx x y = (fop .add (can xE) (can x2), fop .add (can yE) (can y2)) ∧ a = putted base ((List.range 20).map fun i => (waT i, V i)) ∧ w = (W0.drewN q).setCell ⟨G, k, none⟩ (.complex .f64 x y)) ?_ ?_
  · exact dep_ofW (ops := was) (ps := [(20, 0), (20, 1), (20, 2), (20, 3), (20, 4), (20, 5), (20, 6), (20, 7), (20, 8), (20, 9), (20, 10), (20, 11), (20, 12), (20, 13), (20, 14), (20, 15), (20, 16), (20, 17), (20, 18), (20, 19)]) (by kernel_rfl) 20 i (by
      have : i = 0 ∨ i = 1 ∨ i = 2 ∨ i = 3 ∨ i = 4 ∨ i = 5 ∨ i = 6 ∨ i = 7 ∨ i = 8 ∨ i = 9 ∨ i = 10 ∨ i = 11 ∨ i = 12 ∨ i = 13 ∨ i = 14 ∨ i = 15 ∨ i = 16 ∨ i = 17 ∨ i = 18 ∨ i = 19 := by omega
      rcases this with rfl | rfl | rfl | rfl | rfl | rfl | rfl | rfl | rfl | rfl | rfl | rfl | rfl | rfl | rfl | rfl | rfl | rfl | rfl | rfl <;> simp)
  · intro dn i o a w K hi ho hdi hH he hdep hK
    obtain ⟨q, rfl⟩ := hH
    have hD := dep_isW (ps := [(4, 2), (4, 3), (5, 4), (6, 5), (8, 7), (9, 6), (9, 8), (12, 10), (12, 11), (13, 12), (14, 13), (16, 15), (17, 14), (17, 16), (18, 9), (18, 17), (19, 0), (19, 1), (19, 2), (19, 3), (19, 4), (19, 5), (19, 6), (19, 7), (19, 8), (19, 9), (19, 10), (19, 11), (19, 12), (19, 13), (19, 14), (19, 15), (19, 16), (19, 17), (19, 18)]) (by kernel_rfl) ho (fun j => dn j = true ∧ waC G k n g1 m x2 y2 xE yE j (a.eval (.tmp (waT j)))) hdep
    have e11' := (he 11 (fun j hj e => absurd e.symm (by revert j; decide))).trans e11
    have e13' := (he 13 (fun j hj e => absurd e.symm (by revert j; decide))).trans e13
    have e9' := (he 9 (fun j hj e => absurd e.symm (by revert j; decide))).trans e9
    have e15' := (he 15 (fun j hj e => absurd e.symm (by revert j; decide))).trans e15
    have : i = 0 ∨ i = 1 ∨ i = 2 ∨ i = 3 ∨ i = 4 ∨ i = 5 ∨ i = 6 ∨ i = 7 ∨ i = 8 ∨ i = 9 ∨ i = 10 ∨ i = 11 ∨ i = 12 ∨ i = 13 ∨ i = 14 ∨ i = 15 ∨ i = 16 ∨ i = 17 ∨ i = 18 ∨ i = 19 := by omega
    rcases this with rfl | rfl | rfl | rfl | rfl | rfl | rfl | rfl | rfl | rfl | rfl | rfl | rfl | rfl | rfl | rfl | rfl | rfl | rfl | rfl
    · obtain rfl := Option.some.inj ((show was[0]? = some wa0 from rfl).symm.trans ho)
      exact does_valueW (run_mvW _ _ _ _ _ _ _ _ e11') (hK _ _ ⟨_, rfl⟩ (fun _ _ _ _ h => h) rfl)
    · obtain rfl := Option.some.inj ((show was[1]? = some wa1 from rfl).symm.trans ho)
      exact does_valueW (run_mvW _ _ _ _ _ _ _ _ e13') (hK _ _ ⟨_, rfl⟩ (fun _ _ _ _ h => h) rfl)
    · obtain rfl := Option.some.inj ((show was[2]? = some wa2 from rfl).symm.trans ho)
      exact does_valueW (run_mvW _ _ _ _ _ _ _ _ e9') (hK _ _ ⟨_, rfl⟩ (fun _ _ _ _ h => h) rfl)
    · obtain rfl := Option.some.inj ((show was[3]? = some wa3 from rfl).symm.trans ho)
      exact does_valueW (run_mvW _ _ _ _ _ _ _ _ e13') (hK _ _ ⟨_, rfl⟩ (fun _ _ _ _ h => h) rfl)
    · obtain rfl := Option.some.inj ((show was[4]? = some wa4 from rfl).symm.trans ho)
      have d2 := (hD 2 (by simp)).2
      have d3 := (hD 3 (by simp)).2
      exact does_valueW (run_ixC _ _ _ _ _ _ _ _ _ m _ _ d2 d3 hkm (by omega)) (hK _ _ ⟨_, rfl⟩ (fun _ _ _ _ h => h) rfl)
    · obtain rfl := Option.some.inj ((show was[5]? = some wa5 from rfl).symm.trans ho)
      have d4 := (hD 4 (by simp)).2
      exact does_valueW (run_ldC _ _ _ _ _ _ _ _ _ _ _ d4 cE) (hK _ _ ⟨_, rfl⟩ (fun _ _ _ _ h => h) rfl)
    · obtain rfl := Option.some.inj ((show was[6]? = some wa6 from rfl).symm.trans ho)
      have d5 := (hD 5 (by simp)).2
      exact does_valueW (run_reW _ _ _ _ _ _ _ _ _ d5) (hK _ _ ⟨_, rfl⟩ (fun _ _ _ _ h => h) rfl)
    · obtain rfl := Option.some.inj ((show was[7]? = some wa7 from rfl).symm.trans ho)
      exact does_valueW (run_mvW _ _ _ _ _ _ _ _ e15') (hK _ _ ⟨_, rfl⟩ (fun _ _ _ _ h => h) rfl)
    · obtain rfl := Option.some.inj ((show was[8]? = some wa8 from rfl).symm.trans ho)
      have d7 := (hD 7 (by simp)).2
      exact does_valueW (run_reW _ _ _ _ _ _ _ _ _ d7) (hK _ _ ⟨_, rfl⟩ (fun _ _ _ _ h => h) rfl)
    · obtain rfl := Option.some.inj ((show was[9]? = some wa9 from rfl).symm.trans ho)
      have d6 := (hD 6 (by simp)).2
      have d8 := (hD 8 (by simp)).2
      exact does_valueW (run_addW _ _ _ _ _ _ _ _ _ _ d6 d8) (hK _ _ ⟨_, World.drewN_drewN _ _ _⟩ (fun _ _ _ _ h => h) ⟨_, rfl, can_flB _ _ _ _⟩)
    · obtain rfl := Option.some.inj ((show was[10]? = some wa10 from rfl).symm.trans ho)
      exact does_valueW (run_mvW _ _ _ _ _ _ _ _ e9') (hK _ _ ⟨_, rfl⟩ (fun _ _ _ _ h => h) rfl)
    · obtain rfl := Option.some.inj ((show was[11]? = some wa11 from rfl).symm.trans ho)
      exact does_valueW (run_mvW _ _ _ _ _ _ _ _ e13') (hK _ _ ⟨_, rfl⟩ (fun _ _ _ _ h => h) rfl)
    · obtain rfl := Option.some.inj ((show was[12]? = some wa12 from rfl).symm.trans ho)
      have d10 := (hD 10 (by simp)).2
      have d11 := (hD 11 (by simp)).2
      exact does_valueW (run_ixC _ _ _ _ _ _ _ _ _ m _ _ d10 d11 hkm (by omega)) (hK _ _ ⟨_, rfl⟩ (fun _ _ _ _ h => h) rfl)
    · obtain rfl := Option.some.inj ((show was[13]? = some wa13 from rfl).symm.trans ho)
      have d12 := (hD 12 (by simp)).2
      exact does_valueW (run_ldC _ _ _ _ _ _ _ _ _ _ _ d12 cE) (hK _ _ ⟨_, rfl⟩ (fun _ _ _ _ h => h) rfl)
    · obtain rfl := Option.some.inj ((show was[14]? = some wa14 from rfl).symm.trans ho)
      have d13 := (hD 13 (by simp)).2
      exact does_valueW (run_imW _ _ _ _ _ _ _ _ _ d13) (hK _ _ ⟨_, rfl⟩ (fun _ _ _ _ h => h) rfl)
    · obtain rfl := Option.some.inj ((show was[15]? = some wa15 from rfl).symm.trans ho)
      exact does_valueW (run_mvW _ _ _ _ _ _ _ _ e15') (hK _ _ ⟨_, rfl⟩ (fun _ _ _ _ h => h) rfl)
    · obtain rfl := Option.some.inj ((show was[16]? = some wa16 from rfl).symm.trans ho)
      have d15 := (hD 15 (by simp)).2
      exact does_valueW (run_imW _ _ _ _ _ _ _ _ _ d15) (hK _ _ ⟨_, rfl⟩ (fun _ _ _ _ h => h) rfl)
    · obtain rfl := Option.some.inj ((show was[17]? = some wa17 from rfl).symm.trans ho)
      have d14 := (hD 14 (by simp)).2
      have d16 := (hD 16 (by simp)).2
      exact does_valueW (run_addW _ _ _ _ _ _ _ _ _ _ d14 d16) (hK _ _ ⟨_, World.drewN_drewN _ _ _⟩ (fun _ _ _ _ h => h) ⟨_, rfl, can_flB _ _ _ _⟩)
    · obtain rfl := Option.some.inj ((show was[18]? = some wa18 from rfl).symm.trans ho)
      obtain ⟨x9, d9, c9⟩ := (hD 9 (by simp)).2
      obtain ⟨x17, d17, c17⟩ := (hD 17 (by simp)).2
      exact does_valueW (run_cxW _ _ _ _ _ _ _ _ _ _ d9 d17) (hK _ _ ⟨_, rfl⟩ (fun _ _ _ _ h => h) ⟨_, _, rfl, by rw [cx, c9, c17]⟩)
    · obtain rfl := Option.some.inj ((show was[19]? = some wa19 from rfl).symm.trans ho)
      have d0 := (hD 0 (by simp)).2
      have d1 := (hD 1 (by simp)).2
      exact does_valueW (run_ixC _ _ _ _ _ _ _ _ _ n _ _ d0 d1 hkn (by omega)) (hK _ _ ⟨_, rfl⟩ (fun _ _ _ _ h => h) rfl)
  · intro dn o a w K ho hall h hK
    obtain rfl := Option.some.inj ((show was[20]? = some wa20 from rfl).symm.trans ho)
    obtain ⟨q, rfl⟩ := h.mem
    have dp : a.eval (.tmp 92) = .pointer (some ⟨G, k, none⟩) := h.has 19 (by omega) (hall 19 (by omega))
    obtain ⟨x, y, dv, hv⟩ : ∃ x y, a.eval (.tmp 91) = .complex .f64 x y ∧ cx x y = (fop .add (can xE) (can x2), fop .add (can yE) (can y2)) := h.has 18 (by omega) (hall 18 (by omega))
    exact does_skipW (run_stC _ _ _ _ _ _ _ _ _ _ _ _ _ _ dp dv cG fG) (hK _ _ ⟨fun i => a.eval (.tmp (waT i)), q, x, y, hv, h.puts hT _ (fun _ _ => rfl), rfl⟩)
  · rintro a w ⟨V, q, x, y, h, rfl, rfl⟩
    exact hQ V q x y h

def wb0 : Oper := { dst := some 93, op := Op.move (Operand.tmp 11), type := 35, pos := "wave.go:51", after := #[], guard := none }
def wb1 : Oper := { dst := some 94, op := Op.move (Operand.tmp 13), type := 3, pos := "wave.go:51", after := #[], guard := none }
def wb2 : Oper := { dst := some 95, op := Op.move (Operand.tmp 5), type := 3, pos := "wave.go:51", after := #[], guard := none }
def wb3 : Oper := { dst := some 96, op := Op.binOp BinOp.quo 3 (Operand.tmp 95) (Operand.const (Value.int IntKind.i64 2)) 3, type := 3, pos := "wave.go:51", after := #[{ on := 2, ground := Ground.data }], guard := none }
def wb4 : Oper := { dst := some 97, op := Op.binOp BinOp.add 3 (Operand.tmp 94) (Operand.tmp 96) 3, type := 3, pos := "wave.go:51", after := #[{ on := 1, ground := Ground.data }, { on := 3, ground := Ground.data }], guard := none }
def wb5 : Oper := { dst := some 98, op := Op.move (Operand.tmp 9), type := 35, pos := "wave.go:51", after := #[], guard := none }
def wb6 : Oper := { dst := some 99, op := Op.move (Operand.tmp 13), type := 3, pos := "wave.go:51", after := #[], guard := none }
def wb7 : Oper := { dst := some 100, op := Op.indexAddr 35 (Operand.tmp 98) (Operand.tmp 99), type := 0, pos := "wave.go:51", after := #[{ on := 5, ground := Ground.data }, { on := 6, ground := Ground.data }], guard := none }
def wb8 : Oper := { dst := some 101, op := Op.load 36 (Operand.tmp 100), type := 36, pos := "wave.go:51", after := #[{ on := 7, ground := Ground.data }], guard := none }
def wb9 : Oper := { dst := some 102, op := Op.call { callee := Callee.builtin Builtin.real, args := #[Operand.tmp 101], argTypes := #[36] }, type := 32, pos := "wave.go:51", after := #[{ on := 8, ground := Ground.data }], guard := none }
def wb10 : Oper := { dst := some 103, op := Op.move (Operand.tmp 15), type := 36, pos := "wave.go:51", after := #[], guard := none }
def wb11 : Oper := { dst := some 104, op := Op.call { callee := Callee.builtin Builtin.real, args := #[Operand.tmp 103], argTypes := #[36] }, type := 32, pos := "wave.go:51", after := #[{ on := 10, ground := Ground.data }], guard := none }
def wb12 : Oper := { dst := some 105, op := Op.binOp BinOp.sub 32 (Operand.tmp 102) (Operand.tmp 104) 32, type := 32, pos := "wave.go:51", after := #[{ on := 9, ground := Ground.data }, { on := 11, ground := Ground.data }], guard := none }
def wb13 : Oper := { dst := some 106, op := Op.move (Operand.tmp 9), type := 35, pos := "wave.go:51", after := #[], guard := none }
def wb14 : Oper := { dst := some 107, op := Op.move (Operand.tmp 13), type := 3, pos := "wave.go:51", after := #[], guard := none }
def wb15 : Oper := { dst := some 108, op := Op.indexAddr 35 (Operand.tmp 106) (Operand.tmp 107), type := 0, pos := "wave.go:51", after := #[{ on := 13, ground := Ground.data }, { on := 14, ground := Ground.data }], guard := none }
def wb16 : Oper := { dst := some 109, op := Op.load 36 (Operand.tmp 108), type := 36, pos := "wave.go:51", after := #[{ on := 15, ground := Ground.data }], guard := none }
def wb17 : Oper := { dst := some 110, op := Op.call { callee := Callee.builtin Builtin.imag, args := #[Operand.tmp 109], argTypes := #[36] }, type := 32, pos := "wave.go:51", after := #[{ on := 16, ground := Ground.data }], guard := none }
def wb18 : Oper := { dst := some 111, op := Op.move (Operand.tmp 15), type := 36, pos := "wave.go:51", after := #[], guard := none }
def wb19 : Oper := { dst := some 112, op := Op.call { callee := Callee.builtin Builtin.imag, args := #[Operand.tmp 111], argTypes := #[36] }, type := 32, pos := "wave.go:51", after := #[{ on := 18, ground := Ground.data }], guard := none }
def wb20 : Oper := { dst := some 113, op := Op.binOp BinOp.sub 32 (Operand.tmp 110) (Operand.tmp 112) 32, type := 32, pos := "wave.go:51", after := #[{ on := 17, ground := Ground.data }, { on := 19, ground := Ground.data }], guard := none }
def wb21 : Oper := { dst := some 114, op := Op.call { callee := Callee.builtin Builtin.complex, args := #[Operand.tmp 105, Operand.tmp 113], argTypes := #[32, 32] }, type := 36, pos := "wave.go:51", after := #[{ on := 12, ground := Ground.data }, { on := 20, ground := Ground.data }], guard := none }
def wb22 : Oper := { dst := some 115, op := Op.indexAddr 35 (Operand.tmp 93) (Operand.tmp 97), type := 0, pos := "wave.go:51", after := #[{ on := 0, ground := Ground.data }, { on := 4, ground := Ground.data }, { on := 0, ground := Ground.phase }, { on := 1, ground := Ground.phase }, { on := 2, ground := Ground.phase }, { on := 3, ground := Ground.phase }, { on := 4, ground := Ground.phase }, { on := 5, ground := Ground.phase }, { on := 6, ground := Ground.phase }, { on := 7, ground := Ground.phase }, { on := 8, ground := Ground.phase }, { on := 9, ground := Ground.phase }, { on := 10, ground := Ground.phase }, { on := 11, ground := Ground.phase }, { on := 12, ground := Ground.phase }, { on := 13, ground := Ground.phase }, { on := 14, ground := Ground.phase }, { on := 15, ground := Ground.phase }, { on := 16, ground := Ground.phase }, { on := 17, ground := Ground.phase }, { on := 18, ground := Ground.phase }, { on := 19, ground := Ground.phase }, { on := 20, ground := Ground.phase }, { on := 21, ground := Ground.phase }], guard := none }
def wb23 : Oper := { dst := none, op := Op.store 36 (Operand.tmp 115) (Operand.tmp 114), type := 0, pos := "wave.go:51", after := #[{ on := 22, ground := Ground.data }, { on := 21, ground := Ground.data }, { on := 0, ground := Ground.phase }, { on := 1, ground := Ground.phase }, { on := 2, ground := Ground.phase }, { on := 3, ground := Ground.phase }, { on := 4, ground := Ground.phase }, { on := 5, ground := Ground.phase }, { on := 6, ground := Ground.phase }, { on := 7, ground := Ground.phase }, { on := 8, ground := Ground.phase }, { on := 9, ground := Ground.phase }, { on := 10, ground := Ground.phase }, { on := 11, ground := Ground.phase }, { on := 12, ground := Ground.phase }, { on := 13, ground := Ground.phase }, { on := 14, ground := Ground.phase }, { on := 15, ground := Ground.phase }, { on := 16, ground := Ground.phase }, { on := 17, ground := Ground.phase }, { on := 18, ground := Ground.phase }, { on := 19, ground := Ground.phase }, { on := 20, ground := Ground.phase }, { on := 21, ground := Ground.phase }], guard := none }
def wbs : Array Oper := #[wb0, wb1, wb2, wb3, wb4, wb5, wb6, wb7, wb8, wb9, wb10, wb11, wb12, wb13, wb14, wb15, wb16, wb17, wb18, wb19, wb20, wb21, wb22, wb23]
def wbT (i : Nat) : Nat := match i with
  | 0 => 93
  | 1 => 94
  | 2 => 95
  | 3 => 96
  | 4 => 97
  | 5 => 98
  | 6 => 99
  | 7 => 100
  | 8 => 101
  | 9 => 102
  | 10 => 103
  | 11 => 104
  | 12 => 105
  | 13 => 106
  | 14 => 107
  | 15 => 108
  | 16 => 109
  | 17 => 110
  | 18 => 111
  | 19 => 112
  | 20 => 113
  | 21 => 114
  | _ => 115
/-- what each operation's value is -/
def wbC (G : Nat) (k : Nat) (n : Nat) (g1 : Nat) (m : Nat) (x2 : Nat) (y2 : Nat) (xE : Nat) (yE : Nat) (i : Nat) (v : Value) : Prop := match i with
  | 0 => v = .slice (some ⟨G, 0, none⟩) n n
  | 1 => v = .int .i64 (k : Int)
  | 2 => v = .int .i64 (n : Int)
  | 3 => v = .int .i64 (m : Int)
  | 4 => v = .int .i64 ((k + m : Nat) : Int)
  | 5 => v = .slice (some ⟨g1, 0, none⟩) m m
  | 6 => v = .int .i64 (k : Int)
  | 7 => v = .pointer (some ⟨g1, k, none⟩)
  | 8 => v = .complex .f64 xE yE
  | 9 => v = .float .f64 xE
  | 10 => v = .complex .f64 x2 y2
  | 11 => v = .float .f64 x2
  | 12 => ∃ x, v = .float .f64 x ∧ can x = fop .sub (can xE) (can x2)
  | 13 => v = .slice (some ⟨g1, 0, none⟩) m m
  | 14 => v = .int .i64 (k : Int)
  | 15 => v = .pointer (some ⟨g1, k, none⟩)
  | 16 => v = .complex .f64 xE yE
  | 17 => v = .float .f64 yE
  | 18 => v = .complex .f64 x2 y2
  | 19 => v = .float .f64 y2
  | 20 => ∃ x, v = .float .f64 x ∧ can x = fop .sub (can yE) (can y2)
  | 21 => ∃ x y, v = .complex .f64 x y ∧ cx x y = (fop .sub (can xE) (can x2), fop .sub (can yE) (can y2))
  | _ => v = .pointer (some ⟨G, k + m, none⟩)
theorem wbT_inj : ∀ i j, i < 23 → j < 23 → wbT i = wbT j → i = j := fun i j hi hj => (by decide : ∀ i, i < 23 → ∀ j, j < 23 → wbT i = wbT j → i = j) i hi j hj
set_option maxHeartbeats 2000000 in
set_option maxRecDepth 100000 in
theorem turned_r20 (id : Nat) (Q : Exit → Act → World → Prop) (base : Act) (W0 : World) (G : Nat) (k : Nat) (n : Nat) (g1 : Nat) (m : Nat) (x2 : Nat) (y2 : Nat) (xE : Nat) (yE : Nat) (hs : 115 < base.tmps.size) (e11 : base.eval (.tmp 11) = .slice (some ⟨G, 0, none⟩) n n) (e13 : base.eval (.tmp 13) = .int .i64 (k : Int)) (e5 : base.eval (.tmp 5) = .int .i64 (n : Int)) (e9 : base.eval (.tmp 9) = .slice (some ⟨g1, 0, none⟩) m m) (e15 : base.eval (.tmp 15) = .complex .f64 x2 y2)
    (hnm : n = 2 * m) (hkm : k < m) (_hkn : k < n) (hmb : m ≤ 1000) (hnb : n ≤ 1000) (cE : W0.cell? ⟨g1, k, none⟩ = some (.complex .f64 xE yE)) {x0 y0 : Nat} (cG : W0.cell? ⟨G, k + m, none⟩ = some (.complex .f64 x0 y0)) (fG : W0.frozen? ⟨G, k + m, none⟩ = false)
    (hQ : ∀ (V : Nat → Value) (q x y : Nat), cx x y = (fop .sub (can xE) (can x2), fop .sub (can yE) (can y2)) → Q .normal (putted base [(93, V 0), (94, V 1), (95, V 2), (96, V 3), (97, V 4), (98, V 5), (99, V 6), (100, V 7), (101, V 8), (102, V 9), (103, V 10), (104, V 11), (105, V 12), (106, V 13), (107, V 14), (108, V 15), (109, V 16), (110, V 17), (111, V 18), (112, V 19), (113, V 20), (114, V 21), (115, V 22)]) ((W0.drewN q).setCell ⟨G, k + m, none⟩ (.complex .f64 x y))) :
    (Code.region id wbs true).wp Tryd.prog Q base W0 := by
  have hT : ∀ i, i < 23 → wbT i < base.tmps.size := fun i hi => by
    have h : wbT i ≤ 115 := by revert i; decide
    omega
  refine region_flow (by kernel_rfl) (low_ofW (by kernel_rfl)) (bare_ofW (by kernel_rfl)) (fun _ w => ∃ q, w = W0.drewN q) (fun i _ v => wbC G k n g1 m x2 y2 xE yE i v) wbT 23 rfl wbT_inj hT ⟨1, rfl⟩ (fun i hi => ?_) ?_
    (fun a w => ∃ (V : Nat → Value) (q x y : Nat), cx x y = (fop .sub (can xE) (can x2), fop .sub (can yE) (can y2)) ∧ a = putted base ((List.range 23).map fun i => (wbT i, V i)) ∧ w = (W0.drewN q).setCell ⟨G, k + m, none⟩ (.complex .f64 x y)) ?_ ?_
  · exact dep_ofW (ops := wbs) (ps := [(23, 0), (23, 1), (23, 2), (23, 3), (23, 4), (23, 5), (23, 6), (23, 7), (23, 8), (23, 9), (23, 10), (23, 11), (23, 12), (23, 13), (23, 14), (23, 15), (23, 16), (23, 17), (23, 18), (23, 19), (23, 20), (23, 21), (23, 22)]) (by kernel_rfl) 23 i (by
      have : i = 0 ∨ i = 1 ∨ i = 2 ∨ i = 3 ∨ i = 4 ∨ i = 5 ∨ i = 6 ∨ i = 7 ∨ i = 8 ∨ i = 9 ∨ i = 10 ∨ i = 11 ∨ i = 12 ∨ i = 13 ∨ i = 14 ∨ i = 15 ∨ i = 16 ∨ i = 17 ∨ i = 18 ∨ i = 19 ∨ i = 20 ∨ i = 21 ∨ i = 22 := by omega
      rcases this with rfl | rfl | rfl | rfl | rfl | rfl | rfl | rfl | rfl | rfl | rfl | rfl | rfl | rfl | rfl | rfl | rfl | rfl | rfl | rfl | rfl | rfl | rfl <;> simp)
  · intro dn i o a w K hi ho hdi hH he hdep hK
    obtain ⟨q, rfl⟩ := hH
    have hD := dep_isW (ps := [(3, 2), (4, 1), (4, 3), (7, 5), (7, 6), (8, 7), (9, 8), (11, 10), (12, 9), (12, 11), (15, 13), (15, 14), (16, 15), (17, 16), (19, 18), (20, 17), (20, 19), (21, 12), (21, 20), (22, 0), (22, 1), (22, 2), (22, 3), (22, 4), (22, 5), (22, 6), (22, 7), (22, 8), (22, 9), (22, 10), (22, 11), (22, 12), (22, 13), (22, 14), (22, 15), (22, 16), (22, 17), (22, 18), (22, 19), (22, 20), (22, 21)]) (by kernel_rfl) ho (fun j => dn j = true ∧ wbC G k n g1 m x2 y2 xE yE j (a.eval (.tmp (wbT j)))) hdep
    have e11' := (he 11 (fun j hj e => absurd e.symm (by revert j; decide))).trans e11
    have e13' := (he 13 (fun j hj e => absurd e.symm (by revert j; decide))).trans e13
    have e5' := (he 5 (fun j hj e => absurd e.symm (by revert j; decide))).trans e5
    have e9' := (he 9 (fun j hj e => absurd e.symm (by revert j; decide))).trans e9
    have e15' := (he 15 (fun j hj e => absurd e.symm (by revert j; decide))).trans e15
    have : i = 0 ∨ i = 1 ∨ i = 2 ∨ i = 3 ∨ i = 4 ∨ i = 5 ∨ i = 6 ∨ i = 7 ∨ i = 8 ∨ i = 9 ∨ i = 10 ∨ i = 11 ∨ i = 12 ∨ i = 13 ∨ i = 14 ∨ i = 15 ∨ i = 16 ∨ i = 17 ∨ i = 18 ∨ i = 19 ∨ i = 20 ∨ i = 21 ∨ i = 22 := by omega
    rcases this with rfl | rfl | rfl | rfl | rfl | rfl | rfl | rfl | rfl | rfl | rfl | rfl | rfl | rfl | rfl | rfl | rfl | rfl | rfl | rfl | rfl | rfl | rfl
    · obtain rfl := Option.some.inj ((show wbs[0]? = some wb0 from rfl).symm.trans ho)
      exact does_valueW (run_mvW _ _ _ _ _ _ _ _ e11') (hK _ _ ⟨_, rfl⟩ (fun _ _ _ _ h => h) rfl)
    · obtain rfl := Option.some.inj ((show wbs[1]? = some wb1 from rfl).symm.trans ho)
      exact does_valueW (run_mvW _ _ _ _ _ _ _ _ e13') (hK _ _ ⟨_, rfl⟩ (fun _ _ _ _ h => h) rfl)
    · obtain rfl := Option.some.inj ((show wbs[2]? = some wb2 from rfl).symm.trans ho)
      exact does_valueW (run_mvW _ _ _ _ _ _ _ _ e5') (hK _ _ ⟨_, rfl⟩ (fun _ _ _ _ h => h) rfl)
    · obtain rfl := Option.some.inj ((show wbs[3]? = some wb3 from rfl).symm.trans ho)
      have d2 := (hD 2 (by simp)).2
      exact does_valueW (run_halfW _ _ _ _ _ _ _ _ _ d2 hnm (by omega)) (hK _ _ ⟨_, rfl⟩ (fun _ _ _ _ h => h) rfl)
    · obtain rfl := Option.some.inj ((show wbs[4]? = some wb4 from rfl).symm.trans ho)
      have d1 := (hD 1 (by simp)).2
      have d3 := (hD 3 (by simp)).2
      exact does_valueW (run_sumW _ _ _ _ _ _ _ _ _ _ d1 d3 (by omega)) (hK _ _ ⟨_, rfl⟩ (fun _ _ _ _ h => h) rfl)
    · obtain rfl := Option.some.inj ((show wbs[5]? = some wb5 from rfl).symm.trans ho)
      exact does_valueW (run_mvW _ _ _ _ _ _ _ _ e9') (hK _ _ ⟨_, rfl⟩ (fun _ _ _ _ h => h) rfl)
    · obtain rfl := Option.some.inj ((show wbs[6]? = some wb6 from rfl).symm.trans ho)
      exact does_valueW (run_mvW _ _ _ _ _ _ _ _ e13') (hK _ _ ⟨_, rfl⟩ (fun _ _ _ _ h => h) rfl)
    · obtain rfl := Option.some.inj ((show wbs[7]? = some wb7 from rfl).symm.trans ho)
      have d5 := (hD 5 (by simp)).2
      have d6 := (hD 6 (by simp)).2
      exact does_valueW (run_ixC _ _ _ _ _ _ _ _ _ m _ _ d5 d6 hkm (by omega)) (hK _ _ ⟨_, rfl⟩ (fun _ _ _ _ h => h) rfl)
    · obtain rfl := Option.some.inj ((show wbs[8]? = some wb8 from rfl).symm.trans ho)
      have d7 := (hD 7 (by simp)).2
      exact does_valueW (run_ldC _ _ _ _ _ _ _ _ _ _ _ d7 cE) (hK _ _ ⟨_, rfl⟩ (fun _ _ _ _ h => h) rfl)
    · obtain rfl := Option.some.inj ((show wbs[9]? = some wb9 from rfl).symm.trans ho)
      have d8 := (hD 8 (by simp)).2
      exact does_valueW (run_reW _ _ _ _ _ _ _ _ _ d8) (hK _ _ ⟨_, rfl⟩ (fun _ _ _ _ h => h) rfl)
    · obtain rfl := Option.some.inj ((show wbs[10]? = some wb10 from rfl).symm.trans ho)
      exact does_valueW (run_mvW _ _ _ _ _ _ _ _ e15') (hK _ _ ⟨_, rfl⟩ (fun _ _ _ _ h => h) rfl)
    · obtain rfl := Option.some.inj ((show wbs[11]? = some wb11 from rfl).symm.trans ho)
      have d10 := (hD 10 (by simp)).2
      exact does_valueW (run_reW _ _ _ _ _ _ _ _ _ d10) (hK _ _ ⟨_, rfl⟩ (fun _ _ _ _ h => h) rfl)
    · obtain rfl := Option.some.inj ((show wbs[12]? = some wb12 from rfl).symm.trans ho)
      have d9 := (hD 9 (by simp)).2
      have d11 := (hD 11 (by simp)).2
      exact does_valueW (run_subW _ _ _ _ _ _ _ _ _ _ d9 d11) (hK _ _ ⟨_, World.drewN_drewN _ _ _⟩ (fun _ _ _ _ h => h) ⟨_, rfl, can_flB _ _ _ _⟩)
    · obtain rfl := Option.some.inj ((show wbs[13]? = some wb13 from rfl).symm.trans ho)
      exact does_valueW (run_mvW _ _ _ _ _ _ _ _ e9') (hK _ _ ⟨_, rfl⟩ (fun _ _ _ _ h => h) rfl)
    · obtain rfl := Option.some.inj ((show wbs[14]? = some wb14 from rfl).symm.trans ho)
      exact does_valueW (run_mvW _ _ _ _ _ _ _ _ e13') (hK _ _ ⟨_, rfl⟩ (fun _ _ _ _ h => h) rfl)
    · obtain rfl := Option.some.inj ((show wbs[15]? = some wb15 from rfl).symm.trans ho)
      have d13 := (hD 13 (by simp)).2
      have d14 := (hD 14 (by simp)).2
      exact does_valueW (run_ixC _ _ _ _ _ _ _ _ _ m _ _ d13 d14 hkm (by omega)) (hK _ _ ⟨_, rfl⟩ (fun _ _ _ _ h => h) rfl)
    · obtain rfl := Option.some.inj ((show wbs[16]? = some wb16 from rfl).symm.trans ho)
      have d15 := (hD 15 (by simp)).2
      exact does_valueW (run_ldC _ _ _ _ _ _ _ _ _ _ _ d15 cE) (hK _ _ ⟨_, rfl⟩ (fun _ _ _ _ h => h) rfl)
    · obtain rfl := Option.some.inj ((show wbs[17]? = some wb17 from rfl).symm.trans ho)
      have d16 := (hD 16 (by simp)).2
      exact does_valueW (run_imW _ _ _ _ _ _ _ _ _ d16) (hK _ _ ⟨_, rfl⟩ (fun _ _ _ _ h => h) rfl)
    · obtain rfl := Option.some.inj ((show wbs[18]? = some wb18 from rfl).symm.trans ho)
      exact does_valueW (run_mvW _ _ _ _ _ _ _ _ e15') (hK _ _ ⟨_, rfl⟩ (fun _ _ _ _ h => h) rfl)
    · obtain rfl := Option.some.inj ((show wbs[19]? = some wb19 from rfl).symm.trans ho)
      have d18 := (hD 18 (by simp)).2
      exact does_valueW (run_imW _ _ _ _ _ _ _ _ _ d18) (hK _ _ ⟨_, rfl⟩ (fun _ _ _ _ h => h) rfl)
    · obtain rfl := Option.some.inj ((show wbs[20]? = some wb20 from rfl).symm.trans ho)
      have d17 := (hD 17 (by simp)).2
      have d19 := (hD 19 (by simp)).2
      exact does_valueW (run_subW _ _ _ _ _ _ _ _ _ _ d17 d19) (hK _ _ ⟨_, World.drewN_drewN _ _ _⟩ (fun _ _ _ _ h => h) ⟨_, rfl, can_flB _ _ _ _⟩)
    · obtain rfl := Option.some.inj ((show wbs[21]? = some wb21 from rfl).symm.trans ho)
      obtain ⟨x12, d12, c12⟩ := (hD 12 (by simp)).2
      obtain ⟨x20, d20, c20⟩ := (hD 20 (by simp)).2
      exact does_valueW (run_cxW _ _ _ _ _ _ _ _ _ _ d12 d20) (hK _ _ ⟨_, rfl⟩ (fun _ _ _ _ h => h) ⟨_, _, rfl, by rw [cx, c12, c20]⟩)
    · obtain rfl := Option.some.inj ((show wbs[22]? = some wb22 from rfl).symm.trans ho)
      have d0 := (hD 0 (by simp)).2
      have d4 := (hD 4 (by simp)).2
      exact does_valueW (run_ixC _ _ _ _ _ _ _ _ _ n _ _ d0 d4 (by omega) (by omega)) (hK _ _ ⟨_, rfl⟩ (fun _ _ _ _ h => h) rfl)
  · intro dn o a w K ho hall h hK
    obtain rfl := Option.some.inj ((show wbs[23]? = some wb23 from rfl).symm.trans ho)
    obtain ⟨q, rfl⟩ := h.mem
    have dp : a.eval (.tmp 115) = .pointer (some ⟨G, k + m, none⟩) := h.has 22 (by omega) (hall 22 (by omega))
    obtain ⟨x, y, dv, hv⟩ : ∃ x y, a.eval (.tmp 114) = .complex .f64 x y ∧ cx x y = (fop .sub (can xE) (can x2), fop .sub (can yE) (can y2)) := h.has 21 (by omega) (hall 21 (by omega))
    exact does_skipW (run_stC _ _ _ _ _ _ _ _ _ _ _ _ _ _ dp dv cG fG) (hK _ _ ⟨fun i => a.eval (.tmp (wbT i)), q, x, y, hv, h.puts hT _ (fun _ _ => rfl), rfl⟩)
  · rintro a w ⟨V, q, x, y, h, rfl, rfl⟩
    exact hQ V q x y h

def wc0 : Oper := { dst := some 34, op := Op.move (Operand.tmp 9), type := 35, pos := "wave.go:70", after := #[], guard := none }
def wc1 : Oper := { dst := some 35, op := Op.move (Operand.tmp 10), type := 3, pos := "wave.go:70", after := #[], guard := none }
def wc2 : Oper := { dst := some 36, op := Op.move (Operand.tmp 9), type := 35, pos := "wave.go:70", after := #[], guard := none }
def wc3 : Oper := { dst := some 37, op := Op.move (Operand.tmp 10), type := 3, pos := "wave.go:70", after := #[], guard := none }
def wc4 : Oper := { dst := some 38, op := Op.indexAddr 35 (Operand.tmp 36) (Operand.tmp 37), type := 0, pos := "wave.go:70", after := #[{ on := 2, ground := Ground.data }, { on := 3, ground := Ground.data }], guard := none }
def wc5 : Oper := { dst := some 39, op := Op.load 36 (Operand.tmp 38), type := 36, pos := "wave.go:70", after := #[{ on := 4, ground := Ground.data }], guard := none }
def wc6 : Oper := { dst := some 40, op := Op.call { callee := Callee.builtin Builtin.real, args := #[Operand.tmp 39], argTypes := #[36] }, type := 32, pos := "wave.go:70", after := #[{ on := 5, ground := Ground.data }], guard := none }
def wc7 : Oper := { dst := some 41, op := Op.move (Operand.tmp 6), type := 3, pos := "wave.go:70", after := #[], guard := none }
def wc8 : Oper := { dst := some 42, op := Op.convert 3 32 (Operand.tmp 41), type := 32, pos := "wave.go:70", after := #[{ on := 7, ground := Ground.data }], guard := none }
def wc9 : Oper := { dst := some 43, op := Op.binOp BinOp.quo 32 (Operand.tmp 40) (Operand.tmp 42) 32, type := 32, pos := "wave.go:70", after := #[{ on := 6, ground := Ground.data }, { on := 8, ground := Ground.data }], guard := none }
def wc10 : Oper := { dst := some 44, op := Op.move (Operand.tmp 9), type := 35, pos := "wave.go:70", after := #[], guard := none }
def wc11 : Oper := { dst := some 45, op := Op.move (Operand.tmp 10), type := 3, pos := "wave.go:70", after := #[], guard := none }
def wc12 : Oper := { dst := some 46, op := Op.indexAddr 35 (Operand.tmp 44) (Operand.tmp 45), type := 0, pos := "wave.go:70", after := #[{ on := 10, ground := Ground.data }, { on := 11, ground := Ground.data }], guard := none }
def wc13 : Oper := { dst := some 47, op := Op.load 36 (Operand.tmp 46), type := 36, pos := "wave.go:70", after := #[{ on := 12, ground := Ground.data }], guard := none }
def wc14 : Oper := { dst := some 48, op := Op.call { callee := Callee.builtin Builtin.imag, args := #[Operand.tmp 47], argTypes := #[36] }, type := 32, pos := "wave.go:70", after := #[{ on := 13, ground := Ground.data }], guard := none }
def wc15 : Oper := { dst := some 49, op := Op.move (Operand.tmp 6), type := 3, pos := "wave.go:70", after := #[], guard := none }
def wc16 : Oper := { dst := some 50, op := Op.convert 3 32 (Operand.tmp 49), type := 32, pos := "wave.go:70", after := #[{ on := 15, ground := Ground.data }], guard := none }
def wc17 : Oper := { dst := some 51, op := Op.binOp BinOp.quo 32 (Operand.tmp 48) (Operand.tmp 50) 32, type := 32, pos := "wave.go:70", after := #[{ on := 14, ground := Ground.data }, { on := 16, ground := Ground.data }], guard := none }
def wc18 : Oper := { dst := some 52, op := Op.call { callee := Callee.builtin Builtin.complex, args := #[Operand.tmp 43, Operand.tmp 51], argTypes := #[32, 32] }, type := 36, pos := "wave.go:70", after := #[{ on := 9, ground := Ground.data }, { on := 17, ground := Ground.data }], guard := none }
def wc19 : Oper := { dst := some 53, op := Op.indexAddr 35 (Operand.tmp 34) (Operand.tmp 35), type := 0, pos := "wave.go:70", after := #[{ on := 0, ground := Ground.data }, { on := 1, ground := Ground.data }, { on := 0, ground := Ground.phase }, { on := 1, ground := Ground.phase }, { on := 2, ground := Ground.phase }, { on := 3, ground := Ground.phase }, { on := 4, ground := Ground.phase }, { on := 5, ground := Ground.phase }, { on := 6, ground := Ground.phase }, { on := 7, ground := Ground.phase }, { on := 8, ground := Ground.phase }, { on := 9, ground := Ground.phase }, { on := 10, ground := Ground.phase }, { on := 11, ground := Ground.phase }, { on := 12, ground := Ground.phase }, { on := 13, ground := Ground.phase }, { on := 14, ground := Ground.phase }, { on := 15, ground := Ground.phase }, { on := 16, ground := Ground.phase }, { on := 17, ground := Ground.phase }, { on := 18, ground := Ground.phase }], guard := none }
def wc20 : Oper := { dst := none, op := Op.store 36 (Operand.tmp 53) (Operand.tmp 52), type := 0, pos := "wave.go:70", after := #[{ on := 19, ground := Ground.data }, { on := 18, ground := Ground.data }, { on := 0, ground := Ground.phase }, { on := 1, ground := Ground.phase }, { on := 2, ground := Ground.phase }, { on := 3, ground := Ground.phase }, { on := 4, ground := Ground.phase }, { on := 5, ground := Ground.phase }, { on := 6, ground := Ground.phase }, { on := 7, ground := Ground.phase }, { on := 8, ground := Ground.phase }, { on := 9, ground := Ground.phase }, { on := 10, ground := Ground.phase }, { on := 11, ground := Ground.phase }, { on := 12, ground := Ground.phase }, { on := 13, ground := Ground.phase }, { on := 14, ground := Ground.phase }, { on := 15, ground := Ground.phase }, { on := 16, ground := Ground.phase }, { on := 17, ground := Ground.phase }, { on := 18, ground := Ground.phase }], guard := none }
def wcs : Array Oper := #[wc0, wc1, wc2, wc3, wc4, wc5, wc6, wc7, wc8, wc9, wc10, wc11, wc12, wc13, wc14, wc15, wc16, wc17, wc18, wc19, wc20]
def wcT (i : Nat) : Nat := match i with
  | 0 => 34
  | 1 => 35
  | 2 => 36
  | 3 => 37
  | 4 => 38
  | 5 => 39
  | 6 => 40
  | 7 => 41
  | 8 => 42
  | 9 => 43
  | 10 => 44
  | 11 => 45
  | 12 => 46
  | 13 => 47
  | 14 => 48
  | 15 => 49
  | 16 => 50
  | 17 => 51
  | 18 => 52
  | _ => 53
/-- what each operation's value is -/
def wcC (G : Nat) (k : Nat) (n : Nat) (xE : Nat) (yE : Nat) (i : Nat) (v : Value) : Prop := match i with
  | 0 => v = .slice (some ⟨G, 0, none⟩) n n
  | 1 => v = .int .i64 (k : Int)
  | 2 => v = .slice (some ⟨G, 0, none⟩) n n
  | 3 => v = .int .i64 (k : Int)
  | 4 => v = .pointer (some ⟨G, k, none⟩)
  | 5 => v = .complex .f64 xE yE
  | 6 => v = .float .f64 xE
  | 7 => v = .int .i64 (n : Int)
  | 8 => v = .float .f64 (floatOfInt .f64 (n : Int))
  | 9 => ∃ x, v = .float .f64 x ∧ can x = fop .quo (can xE) (can (floatOfInt .f64 (n : Int)))
  | 10 => v = .slice (some ⟨G, 0, none⟩) n n
  | 11 => v = .int .i64 (k : Int)
  | 12 => v = .pointer (some ⟨G, k, none⟩)
  | 13 => v = .complex .f64 xE yE
  | 14 => v = .float .f64 yE
  | 15 => v = .int .i64 (n : Int)
  | 16 => v = .float .f64 (floatOfInt .f64 (n : Int))
  | 17 => ∃ x, v = .float .f64 x ∧ can x = fop .quo (can yE) (can (floatOfInt .f64 (n : Int)))
  | 18 => ∃ x y, v = .complex .f64 x y ∧ cx x y = (fop .quo (can xE) (can (floatOfInt .f64 (n : Int))), fop .quo (can yE) (can (floatOfInt .f64 (n : Int))))
  | _ => v = .pointer (some ⟨G, k, none⟩)
theorem wcT_inj : ∀ i j, i < 20 → j < 20 → wcT i = wcT j → i = j := fun i j hi hj => (by decide : ∀ i, i < 20 → ∀ j, j < 20 → wcT i = wcT j → i = j) i hi j hj
set_option maxHeartbeats 2000000 in
set_option maxRecDepth 100000 in
theorem turn8_r14 (id : Nat) (Q : Exit → Act → World → Prop) (base : Act) (W0 : World) (G : Nat) (k : Nat) (n : Nat) (xE : Nat) (yE : Nat) (hs : 53 < base.tmps.size) (e9 : base.eval (.tmp 9) = .slice (some ⟨G, 0, none⟩) n n) (e10 : base.eval (.tmp 10) = .int .i64 (k : Int)) (e6 : base.eval (.tmp 6) = .int .i64 (n : Int))
    (hkn : k < n) (hnb : n ≤ 1000) (cG : W0.cell? ⟨G, k, none⟩ = some (.complex .f64 xE yE)) (fG : W0.frozen? ⟨G, k, none⟩ = false)
    (hQ : ∀ (V : Nat → Value) (q x y : Nat), cx x y = (fop .quo (can xE) (can (floatOfInt .f64 (n : Int))), fop .quo (can yE) (can (floatOfInt .f64 (n : Int)))) → Q .normal (putted base [(34, V 0), (35, V 1), (36, V 2), (37, V 3), (38, V 4), (39, V 5), (40, V 6), (41, V 7), (42, V 8), (43, V 9), (44, V 10), (45, V 11), (46, V 12), (47, V 13), (48, V 14), (49, V 15), (50, V 16), (51, V 17), (52, V 18), (53, V 19)]) ((W0.drewN q).setCell ⟨G, k, none⟩ (.complex .f64 x y))) :
    (Code.region id wcs true).wp Tryd.prog Q base W0 := by
  have hT : ∀ i, i < 20 → wcT i < base.tmps.size := fun i hi => by
    have h : wcT i ≤ 53 := by revert i; decide
    omega
  refine region_flow (by kernel_rfl) (low_ofW (by kernel_rfl)) (bare_ofW (by kernel_rfl)) (fun _ w => ∃ q, w = W0.drewN q) (fun i _ v => wcC G k n xE yE i v) wcT 20 rfl wcT_inj hT ⟨1, rfl⟩ (fun i hi => ?_) ?_
    (fun a w => ∃ (V : Nat → Value) (q x y : Nat), cx x y = (fop .quo (can xE) (can (floatOfInt .f64 (n : Int))), fop .quo (can yE) (can (floatOfInt .f64 (n : Int)))) ∧ a = putted base ((List.range 20).map fun i => (wcT i, V i)) ∧ w = (W0.drewN q).setCell ⟨G, k, none⟩ (.complex .f64 x y)) ?_ ?_
  · exact dep_ofW (ops := wcs) (ps := [(20, 0), (20, 1), (20, 2), (20, 3), (20, 4), (20, 5), (20, 6), (20, 7), (20, 8), (20, 9), (20, 10), (20, 11), (20, 12), (20, 13), (20, 14), (20, 15), (20, 16), (20, 17), (20, 18), (20, 19)]) (by kernel_rfl) 20 i (by
      have : i = 0 ∨ i = 1 ∨ i = 2 ∨ i = 3 ∨ i = 4 ∨ i = 5 ∨ i = 6 ∨ i = 7 ∨ i = 8 ∨ i = 9 ∨ i = 10 ∨ i = 11 ∨ i = 12 ∨ i = 13 ∨ i = 14 ∨ i = 15 ∨ i = 16 ∨ i = 17 ∨ i = 18 ∨ i = 19 := by omega
      rcases this with rfl | rfl | rfl | rfl | rfl | rfl | rfl | rfl | rfl | rfl | rfl | rfl | rfl | rfl | rfl | rfl | rfl | rfl | rfl | rfl <;> simp)
  · intro dn i o a w K hi ho hdi hH he hdep hK
    obtain ⟨q, rfl⟩ := hH
    have hD := dep_isW (ps := [(4, 2), (4, 3), (5, 4), (6, 5), (8, 7), (9, 6), (9, 8), (12, 10), (12, 11), (13, 12), (14, 13), (16, 15), (17, 14), (17, 16), (18, 9), (18, 17), (19, 0), (19, 1), (19, 2), (19, 3), (19, 4), (19, 5), (19, 6), (19, 7), (19, 8), (19, 9), (19, 10), (19, 11), (19, 12), (19, 13), (19, 14), (19, 15), (19, 16), (19, 17), (19, 18)]) (by kernel_rfl) ho (fun j => dn j = true ∧ wcC G k n xE yE j (a.eval (.tmp (wcT j)))) hdep
    have e9' := (he 9 (fun j hj e => absurd e.symm (by revert j; decide))).trans e9
    have e10' := (he 10 (fun j hj e => absurd e.symm (by revert j; decide))).trans e10
    have e6' := (he 6 (fun j hj e => absurd e.symm (by revert j; decide))).trans e6
    have : i = 0 ∨ i = 1 ∨ i = 2 ∨ i = 3 ∨ i = 4 ∨ i = 5 ∨ i = 6 ∨ i = 7 ∨ i = 8 ∨ i = 9 ∨ i = 10 ∨ i = 11 ∨ i = 12 ∨ i = 13 ∨ i = 14 ∨ i = 15 ∨ i = 16 ∨ i = 17 ∨ i = 18 ∨ i = 19 := by omega
    rcases this with rfl | rfl | rfl | rfl | rfl | rfl | rfl | rfl | rfl | rfl | rfl | rfl | rfl | rfl | rfl | rfl | rfl | rfl | rfl | rfl
    · obtain rfl := Option.some.inj ((show wcs[0]? = some wc0 from rfl).symm.trans ho)
      exact does_valueW (run_mvW _ _ _ _ _ _ _ _ e9') (hK _ _ ⟨_, rfl⟩ (fun _ _ _ _ h => h) rfl)
    · obtain rfl := Option.some.inj ((show wcs[1]? = some wc1 from rfl).symm.trans ho)
      exact does_valueW (run_mvW _ _ _ _ _ _ _ _ e10') (hK _ _ ⟨_, rfl⟩ (fun _ _ _ _ h => h) rfl)
    · obtain rfl := Option.some.inj ((show wcs[2]? = some wc2 from rfl).symm.trans ho)
      exact does_valueW (run_mvW _ _ _ _ _ _ _ _ e9') (hK _ _ ⟨_, rfl⟩ (fun _ _ _ _ h => h) rfl)
    · obtain rfl := Option.some.inj ((show wcs[3]? = some wc3 from rfl).symm.trans ho)
      exact does_valueW (run_mvW _ _ _ _ _ _ _ _ e10') (hK _ _ ⟨_, rfl⟩ (fun _ _ _ _ h => h) rfl)
    · obtain rfl := Option.some.inj ((show wcs[4]? = some wc4 from rfl).symm.trans ho)
      have d2 := (hD 2 (by simp)).2
      have d3 := (hD 3 (by simp)).2
      exact does_valueW (run_ixC _ _ _ _ _ _ _ _ _ n _ _ d2 d3 hkn (by omega)) (hK _ _ ⟨_, rfl⟩ (fun _ _ _ _ h => h) rfl)
    · obtain rfl := Option.some.inj ((show wcs[5]? = some wc5 from rfl).symm.trans ho)
      have d4 := (hD 4 (by simp)).2
      exact does_valueW (run_ldC _ _ _ _ _ _ _ _ _ _ _ d4 cG) (hK _ _ ⟨_, rfl⟩ (fun _ _ _ _ h => h) rfl)
    · obtain rfl := Option.some.inj ((show wcs[6]? = some wc6 from rfl).symm.trans ho)
      have d5 := (hD 5 (by simp)).2
      exact does_valueW (run_reW _ _ _ _ _ _ _ _ _ d5) (hK _ _ ⟨_, rfl⟩ (fun _ _ _ _ h => h) rfl)
    · obtain rfl := Option.some.inj ((show wcs[7]? = some wc7 from rfl).symm.trans ho)
      exact does_valueW (run_mvW _ _ _ _ _ _ _ _ e6') (hK _ _ ⟨_, rfl⟩ (fun _ _ _ _ h => h) rfl)
    · obtain rfl := Option.some.inj ((show wcs[8]? = some wc8 from rfl).symm.trans ho)
      have d7 := (hD 7 (by simp)).2
      exact does_valueW (run_cvW _ _ _ _ _ _ _ _ d7) (hK _ _ ⟨_, rfl⟩ (fun _ _ _ _ h => h) rfl)
    · obtain rfl := Option.some.inj ((show wcs[9]? = some wc9 from rfl).symm.trans ho)
      have d6 := (hD 6 (by simp)).2
      have d8 := (hD 8 (by simp)).2
      exact does_valueW (run_quoW _ _ _ _ _ _ _ _ _ _ d6 d8) (hK _ _ ⟨_, World.drewN_drewN _ _ _⟩ (fun _ _ _ _ h => h) ⟨_, rfl, can_flB _ _ _ _⟩)
    · obtain rfl := Option.some.inj ((show wcs[10]? = some wc10 from rfl).symm.trans ho)
      exact does_valueW (run_mvW _ _ _ _ _ _ _ _ e9') (hK _ _ ⟨_, rfl⟩ (fun _ _ _ _ h => h) rfl)
    · obtain rfl := Option.some.inj ((show wcs[11]? = some wc11 from rfl).symm.trans ho)
      exact does_valueW (run_mvW _ _ _ _ _ _ _ _ e10') (hK _ _ ⟨_, rfl⟩ (fun _ _ _ _ h => h) rfl)
    · obtain rfl := Option.some.inj ((show wcs[12]? = some wc12 from rfl).symm.trans ho)
      have d10 := (hD 10 (by simp)).2
      have d11 := (hD 11 (by simp)).2
      exact does_valueW (run_ixC _ _ _ _ _ _ _ _ _ n _ _ d10 d11 hkn (by omega)) (hK _ _ ⟨_, rfl⟩ (fun _ _ _ _ h => h) rfl)
    · obtain rfl := Option.some.inj ((show wcs[13]? = some wc13 from rfl).symm.trans ho)
      have d12 := (hD 12 (by simp)).2
      exact does_valueW (run_ldC _ _ _ _ _ _ _ _ _ _ _ d12 cG) (hK _ _ ⟨_, rfl⟩ (fun _ _ _ _ h => h) rfl)
    · obtain rfl := Option.some.inj ((show wcs[14]? = some wc14 from rfl).symm.trans ho)
      have d13 := (hD 13 (by simp)).2
      exact does_valueW (run_imW _ _ _ _ _ _ _ _ _ d13) (hK _ _ ⟨_, rfl⟩ (fun _ _ _ _ h => h) rfl)
    · obtain rfl := Option.some.inj ((show wcs[15]? = some wc15 from rfl).symm.trans ho)
      exact does_valueW (run_mvW _ _ _ _ _ _ _ _ e6') (hK _ _ ⟨_, rfl⟩ (fun _ _ _ _ h => h) rfl)
    · obtain rfl := Option.some.inj ((show wcs[16]? = some wc16 from rfl).symm.trans ho)
      have d15 := (hD 15 (by simp)).2
      exact does_valueW (run_cvW _ _ _ _ _ _ _ _ d15) (hK _ _ ⟨_, rfl⟩ (fun _ _ _ _ h => h) rfl)
    · obtain rfl := Option.some.inj ((show wcs[17]? = some wc17 from rfl).symm.trans ho)
      have d14 := (hD 14 (by simp)).2
      have d16 := (hD 16 (by simp)).2
      exact does_valueW (run_quoW _ _ _ _ _ _ _ _ _ _ d14 d16) (hK _ _ ⟨_, World.drewN_drewN _ _ _⟩ (fun _ _ _ _ h => h) ⟨_, rfl, can_flB _ _ _ _⟩)
    · obtain rfl := Option.some.inj ((show wcs[18]? = some wc18 from rfl).symm.trans ho)
      obtain ⟨x9, d9, c9⟩ := (hD 9 (by simp)).2
      obtain ⟨x17, d17, c17⟩ := (hD 17 (by simp)).2
      exact does_valueW (run_cxW _ _ _ _ _ _ _ _ _ _ d9 d17) (hK _ _ ⟨_, rfl⟩ (fun _ _ _ _ h => h) ⟨_, _, rfl, by rw [cx, c9, c17]⟩)
    · obtain rfl := Option.some.inj ((show wcs[19]? = some wc19 from rfl).symm.trans ho)
      have d0 := (hD 0 (by simp)).2
      have d1 := (hD 1 (by simp)).2
      exact does_valueW (run_ixC _ _ _ _ _ _ _ _ _ n _ _ d0 d1 hkn (by omega)) (hK _ _ ⟨_, rfl⟩ (fun _ _ _ _ h => h) rfl)
  · intro dn o a w K ho hall h hK
    obtain rfl := Option.some.inj ((show wcs[20]? = some wc20 from rfl).symm.trans ho)
    obtain ⟨q, rfl⟩ := h.mem
    have dp : a.eval (.tmp 53) = .pointer (some ⟨G, k, none⟩) := h.has 19 (by omega) (hall 19 (by omega))
    obtain ⟨x, y, dv, hv⟩ : ∃ x y, a.eval (.tmp 52) = .complex .f64 x y ∧ cx x y = (fop .quo (can xE) (can (floatOfInt .f64 (n : Int))), fop .quo (can yE) (can (floatOfInt .f64 (n : Int)))) := h.has 18 (by omega) (hall 18 (by omega))
    exact does_skipW (run_stC _ _ _ _ _ _ _ _ _ _ _ _ _ _ dp dv cG fG) (hK _ _ ⟨fun i => a.eval (.tmp (wcT i)), q, x, y, hv, h.puts hT _ (fun _ _ => rfl), rfl⟩)
  · rintro a w ⟨V, q, x, y, h, rfl, rfl⟩
    exact hQ V q x y h
end Go.Proofs.YtinhoigcajddpaaDoor
