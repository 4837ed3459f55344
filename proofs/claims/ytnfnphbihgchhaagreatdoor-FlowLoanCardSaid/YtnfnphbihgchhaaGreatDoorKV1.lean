/- What a unit becomes in a year, and a quotient where nothing is divided by 0, as the Go text of package flow makes them. -/
import Derived.Test.YtnfnphbihgchhaaGreatDoorKF9
import Derived.Test.YtnfnphbihgchhaaGreatDoorKFW
import Derived.Test.YtnfnphbihgchhaaGreatDoorKL2
import Derived.Test.YtnfnphbihgchhaaGreatDoorKR0
import Derived.Test.YtnfnphbihgchhaaGreatDoorKT1
import Derived.Test.YtnfnphbihgchhaaGreatDoorKU1
namespace Go.Proofs.YtnfnphbihgchhaaGreatDoor
open Go.RowKit

theorem int_parts (n : Int) : ((n : Int) : Rat).num = n ∧ ((n : Int) : Rat).den = 1 := ⟨by simp, by simp⟩
theorem len_int (n : Int) (h : n.natAbs < 18446744073709551616) : Len ((n : Int) : Rat) 1 := by
  obtain ⟨h1, h2⟩ := int_parts n
  exact len_of (m := 1) (n := 1) (by rw [h1, Nat.pow_one]; exact h) (by rw [h2]; decide) 1 (Nat.le_refl _) (Nat.le_refl _)
theorem whole_is (x : Int) (h1 : -9223372036854775808 ≤ x) (h2 : x < 9223372036854775808) :
    ∃ (r : Bool) (p : Int), (∀ W, FracAt W (.agg #[.bool r, .int .u64 p, .int .u64 0, .pointer none]) ((x : Int) : Rat)) ∧ ∀ W, Calls Tryz.prog 8 #[.int .i64 x] W fun e w' => e = .returned (.agg #[.bool r, .int .u64 p, .int .u64 0, .pointer none]) ∧ But [] W w' := by
  obtain ⟨e1, e2⟩ := int_parts x
  refine ⟨decide (x < 0), ((x.natAbs : Nat) : Int), fun W => .inl ⟨by rw [e1]; omega, by rw [e2]; decide, by rw [e1, e2]; rfl⟩, fun W => ?_⟩
  have h := whole_any x h1 h2 W
  rw [show (((1 : Nat) : Int) - 1) = 0 from rfl] at h
  exact h

set_option maxHeartbeats 8000000 in
set_option maxRecDepth 100000 in
theorem growth_any (v : Value) (f : Rat) (w : World) (hf : FracAt w v f) (lf : Len f 1) :
    Calls Tryz.prog 31 #[v] w fun e w' => ∃ v', e = .returned v' ∧ FracAt w' v' (1 + f) ∧ But [] w w' := by
  obtain ⟨ws, wx, FW, CW⟩ := whole_is 1 (by omega) (by omega)
  have AD : Hid (∀ (W : World), FracAt W v f → Calls Tryz.prog 10 #[.agg #[.bool ws, .int .u64 wx, .int .u64 0, .pointer none], v] W fun e w' => ∃ v, e = .returned v ∧ FracAt w' v (1 + f) ∧ But [] W w') := fun W h2 =>
    fracAdd_gen 1 1 (by omega) _ v ((1 : Int) : Rat) f W (FW W) h2 (len_int 1 (by decide)) lf
  have CWH := hide CW
  have HFA := hide hf
  obtain ⟨x1, y1, p1, rfl, -⟩ := hf.agg
  clear hf lf FW CW
  generalize hsf : decide (f.num < 0) = s1 at *
  clear hsf
  obtain ⟨W, hW⟩ : ∃ W, W = (w.alloc (.cells #[.bool s1, .int .u64 x1, .int .u64 y1, .pointer p1] 28)).alloc (.cells #[.bool false, .int .u64 0, .int .u64 0, .pointer none] 28) := ⟨_, rfl⟩
  obtain ⟨tA, tC, fz, hB⟩ := two_new w W _ _ _ hW
  have a0 := tA 0
  have a1 := tA 1
  have a2 := tA 2
  have a3 := tA 3
  have r0 := tC 0
  have r1 := tC 1
  have r2 := tC 2
  have r3 := tC 3
  simp only [List.getElem?_toArray, List.getElem?_cons_zero, List.getElem?_cons_succ] at a0 a1 a2 a3 r0 r1 r2 r3
  have BL : Hid (Blank W (w.heap.size + 1)) := ⟨r0, r1, r2, r3, fun j hj => by rw [tC j]; simp; omega⟩
  clear tA tC
  have HW := hide hW
  have HB := hide hB
  clear hW hB
  go_enter Tryz.func31, Tryz.ntmps31
  go_wp2_with fail
  rw [← unhide HW]
  obtain ⟨ga, hga⟩ : ∃ ga, ga = w.heap.size := ⟨_, rfl⟩
  obtain ⟨gr, hgr⟩ : ∃ gr, gr = w.heap.size + 1 := ⟨_, rfl⟩
  rw [← hga] at a0 a1 a2 a3
  rw [← hgr] at r0 r1 r2 r3 fz BL
  rw [← hgr, ← hga]
  have HGR : Hid (w.heap.size ≤ gr) := by show _ ≤ _; omega
  have nga : ga ≠ gr := by omega
  clear hga hgr HW
  have grl : gr < W.heap.size := lt_of_cell r0
  go_region_held (fun w' => w'.cell? ⟨ga, 0, none⟩ = some (.bool s1) ∧ w'.cell? ⟨ga, 1, none⟩ = some (.int .u64 x1) ∧ w'.cell? ⟨ga, 2, none⟩ = some (.int .u64 y1) ∧ w'.cell? ⟨ga, 3, none⟩ = some (.pointer p1)) (first | go_keep | exact ⟨set4_cell _ _ _ _ _ _ _ _ _ nga m0, set4_cell _ _ _ _ _ _ _ _ _ nga m1, set4_cell _ _ _ _ _ _ _ _ _ nga m2, set4_cell _ _ _ _ _ _ _ _ _ nga m3⟩) (first
    | (go_at_call 8; refine (unhide CWH _).mono ?_; rintro e w1 ⟨rfl, hc1⟩; have B1 : But [] W w1 := (by first | exact hc1 | exact (But.refl _ _).drew.trans' hc1); clear hc1; have k0 := B1.cell_some a0 (by simp); have k1 := B1.cell_some a1 (by simp); have k2 := B1.cell_some a2 (by simp); have k3 := B1.cell_some a3 (by simp))
    | (go_at_call 10; refine (unhide AD _ (by first | exact (unhide HFA).but ((unhide HB).trans' B1) | exact (unhide HFA).but (((unhide HB).trans' B1).trans' (But.refl _ _).drew))).mono ?_; rintro e w2 ⟨v2, rfl, hn2, hc2⟩; have B2 : But [] W w2 := (by first | exact B1.trans' hc2 | exact B1.trans' ((But.refl _ _).drew.trans' hc2)); have HN2 := hide hn2; obtain ⟨x8, y8, p8, rfl, -⟩ := hn2.agg; clear hc2; clear hn2; generalize decide ((1 + f).num < 0) = r8 at *; have m0 := B2.cell_some a0 (by simp); have m1 := B2.cell_some a1 (by simp); have m2 := B2.cell_some a2 (by simp); have m3 := B2.cell_some a3 (by simp); have u0 := B2.cell_some r0 (by simp); have u1 := B2.cell_some r1 (by simp); have u2 := B2.cell_some r2 (by simp); have u3 := B2.cell_some r3 (by simp); have uf : ∀ j, w2.frozen? ⟨gr, j, none⟩ = false := fun j => (B2.frozen (p := ⟨gr, j, none⟩) grl (by simp)).trans (fz j)))
  all_goals
    go_wp2
    have hBf := (((((unhide HB).trans' B2).setCell (p := ⟨gr, 0, none⟩) (.inr (unhide HGR)) (.bool r8)).setCell (p := ⟨gr, 1, none⟩) (.inr (unhide HGR)) (.int .u64 x8)).setCell (p := ⟨gr, 2, none⟩) (.inr (unhide HGR)) (.int .u64 y8)).setCell (p := ⟨gr, 3, none⟩) (.inr (unhide HGR)) (.pointer p8)
    have hBg : But [gr] w2 ((((w2.setCell ⟨gr, 0, none⟩ (.bool r8)).setCell ⟨gr, 1, none⟩ (.int .u64 x8)).setCell ⟨gr, 2, none⟩ (.int .u64 y8)).setCell ⟨gr, 3, none⟩ (.pointer p8)) := (((((But.refl [gr] w2).setCell (.inl (by simp)) _).setCell (.inl (by simp)) _).setCell (.inl (by simp)) _).setCell (.inl (by simp)) _)
    exact bodyPost_ret (v := .agg #[.bool r8, .int .u64 x8, .int .u64 y8, .pointer p8]) (by simp [results, Tryz.results31, go_sem, u0, u1, u2, u3]) rfl ⟨_, rfl, ((unhide BL).but B2).frac (unhide HN2) hBg, hBf⟩

set_option maxHeartbeats 8000000 in
set_option maxRecDepth 100000 in
theorem divided_any (vf vg : Value) (f g : Rat) (w : World) (hf : FracAt w vf f) (hg : FracAt w vg g) (lf : Len f 158) (lg : Len g 158) (h0 : g.num ≠ 0) :
    Calls Tryz.prog 14 #[vf, vg] w fun e w' => ∃ v, e = .returned v ∧ FracAt w' v (f / g) ∧ But [] w w' := by
  have DV : Hid (∀ (W : World), FracAt W vf f → FracAt W vg g → Calls Tryz.prog 32 #[vf, vg] W fun e w' => ∃ v, e = .returned (.tuple #[v, .nilIface]) ∧ FracAt w' v (f / g) ∧ But [] W w') := fun W h1 h2 => fracDiv_any vf vg f g W h1 h2 lf lg h0
  have HFA := hide hf
  have HGA := hide hg
  obtain ⟨x1, y1, p1, rfl, -⟩ := hf.agg
  obtain ⟨x2, y2, p2, rfl, -⟩ := hg.agg
  clear hf hg lf lg h0
  generalize hsf : decide (f.num < 0) = s1 at *
  generalize hsg : decide (g.num < 0) = s2 at *
  clear hsf hsg
  obtain ⟨W, hW⟩ : ∃ W, W = (((w.alloc (.cells #[.bool s1, .int .u64 x1, .int .u64 y1, .pointer p1] 28)).alloc (.cells #[.bool s2, .int .u64 x2, .int .u64 y2, .pointer p2] 28)).alloc (.cells #[.bool false, .int .u64 0, .int .u64 0, .pointer none] 28)) := ⟨_, rfl⟩
  obtain ⟨tA, tB, tC, fz, hB⟩ := three_new w W _ _ _ _ hW
  have a0 := tA 0
  have a1 := tA 1
  have a2 := tA 2
  have a3 := tA 3
  have b0 := tB 0
  have b1 := tB 1
  have b2 := tB 2
  have b3 := tB 3
  have r0 := tC 0
  have r1 := tC 1
  have r2 := tC 2
  have r3 := tC 3
  simp only [List.getElem?_toArray, List.getElem?_cons_zero, List.getElem?_cons_succ] at a0 a1 a2 a3 b0 b1 b2 b3 r0 r1 r2 r3
  have BL : Hid (Blank W (w.heap.size + 2)) := ⟨r0, r1, r2, r3, fun j hj => by rw [tC j]; simp; omega⟩
  clear tA tB tC
  have HW := hide hW
  have HB := hide hB
  clear hW hB
  go_enter Tryz.func14, Tryz.ntmps14
  go_wp2_with fail
  rw [← unhide HW]
  obtain ⟨ga, hga⟩ : ∃ ga, ga = w.heap.size := ⟨_, rfl⟩
  obtain ⟨gb, hgb⟩ : ∃ gb, gb = w.heap.size + 1 := ⟨_, rfl⟩
  obtain ⟨gr, hgr⟩ : ∃ gr, gr = w.heap.size + 2 := ⟨_, rfl⟩
  rw [← hga] at a0 a1 a2 a3
  rw [← hgb] at b0 b1 b2 b3
  rw [← hgr] at r0 r1 r2 r3 fz BL
  rw [show w.heap.size + 1 + 1 = w.heap.size + 2 from rfl, ← hgr, ← hgb, ← hga]
  have HGR : Hid (w.heap.size ≤ gr) := by show _ ≤ _; omega
  clear hga hgb hgr HW
  have grl : gr < W.heap.size := lt_of_cell r0
  refine (unhide DV _ ((unhide HFA).but (unhide HB)) ((unhide HGA).but (unhide HB))).mono ?_
  rintro e w2 ⟨v2, rfl, hn2, hc2⟩
  have HN2 := hide hn2
  obtain ⟨x8, y8, p8, rfl, -⟩ := hn2.agg
  clear hn2
  generalize decide ((f / g).num < 0) = r8 at *
  have u0 := hc2.cell_some r0 (by simp)
  have u1 := hc2.cell_some r1 (by simp)
  have u2 := hc2.cell_some r2 (by simp)
  have u3 := hc2.cell_some r3 (by simp)
  have uf : ∀ j, w2.frozen? ⟨gr, j, none⟩ = false := fun j => (hc2.frozen (p := ⟨gr, j, none⟩) grl (by simp)).trans (fz j)
  have B2 := hide hc2
  have gl2 : gr < w2.heap.size := lt_of_cell u0
  clear hc2 a0 a1 a2 a3 b0 b1 b2 b3 r0 r1 r2 r3 fz grl
  go_wp2
  have hBg : But [gr] w2 ((((w2.setCell ⟨gr, 0, none⟩ (.bool r8)).setCell ⟨gr, 1, none⟩ (.int .u64 x8)).setCell ⟨gr, 2, none⟩ (.int .u64 y8)).setCell ⟨gr, 3, none⟩ (.pointer p8)) := (((((But.refl [gr] w2).setCell (.inl (by simp)) _).setCell (.inl (by simp)) _).setCell (.inl (by simp)) _).setCell (.inl (by simp)) _)
  have hBf := (((((unhide HB).trans' (unhide B2)).trans hBg (fun x hx => by simp at hx; subst hx; exact .inr (unhide HGR)))).alloc (.cells #[.bool r8, .int .u64 x8, .int .u64 y8, .pointer p8] 28))
  exact bodyPost_ret (v := .agg #[.bool r8, .int .u64 x8, .int .u64 y8, .pointer p8]) (by simp [results, Tryz.results14, go_sem, u0, u1, u2, u3, gl2]) rfl ⟨_, rfl, (((unhide BL).but (unhide B2)).frac (unhide HN2) hBg).but ((But.refl _ _).alloc _), hBf⟩
end Go.Proofs.YtnfnphbihgchhaaGreatDoor

namespace Go.Proofs.YtnfnphbihgchhaaGreatDoor
open Go.RowKit

theorem run_load4 (a : Act) (w : World) (d t : Nat) (u : TypeId) (ps : String) (ed : Array Edge) (b o : Nat) (s : Bool) (x y : Int) (p : Option Addr) (h1 : a.eval (.tmp t) = .pointer (some ⟨b, o, none⟩)) (hc : P4o w b o s x y p) :
    (execOp a.eval { dst := some d, op := Op.load 28 (.tmp t), type := u, pos := ps, after := ed, guard := none }).run Tryz.prog w = .ok (.value (.agg #[.bool s, .int .u64 x, .int .u64 y, .pointer p])) w := by
  obtain ⟨c0, c1, c2, c3⟩ := hc
  unfold execOp
  simp only [h1]
  go_simp
theorem run_load1 (a : Act) (w : World) (d t : Nat) (u : TypeId) (ps : String) (ed : Array Edge) (b : Nat) (q : Option Addr) (m c : Nat) (h1 : a.eval (.tmp t) = .pointer (some ⟨b, 0, none⟩)) (hc : w.cell? ⟨b, 0, none⟩ = some (.slice q m c)) :
    (execOp a.eval { dst := some d, op := Op.load 35 (.tmp t), type := u, pos := ps, after := ed, guard := none }).run Tryz.prog w = .ok (.value (.slice q m c)) w := by
  unfold execOp
  simp only [h1]
  go_simp
theorem run_moved (a : Act) (w : World) (d t : Nat) (u : TypeId) (ps : String) (ed : Array Edge) (N : Value) (h : a.eval (.tmp t) = N) :
    (execOp a.eval { dst := some d, op := Op.move (.tmp t), type := u, pos := ps, after := ed, guard := none }).run Tryz.prog w = .ok (.value N) w := by
  unfold execOp
  simp only [h]
  go_simp
theorem run_less1 (a : Act) (w : World) (d t : Nat) (u : TypeId) (ps : String) (ed : Array Edge) (k : Nat) (hk : k < 1000000) (h : a.eval (.tmp t) = .int .i64 ((k + 1 : Nat) : Int)) :
    (execOp a.eval { dst := some d, op := Op.binOp BinOp.sub 3 (.tmp t) (.const (.int .i64 1)) 3, type := u, pos := ps, after := ed, guard := none }).run Tryz.prog w = .ok (.value (.int .i64 (k : Int))) w := by
  have e : a.eval (.const (.int .i64 1)) = .int .i64 1 := rfl
  unfold execOp
  simp only [h, e]
  go_simp
  rw [IntKind.wrap_i64]
  omega
theorem run_indexed (a : Act) (w : World) (d t1 t2 : Nat) (u : TypeId) (ps : String) (ed : Array Edge) (b off n c k : Nat) (hk : k < n) (_hn : n < 1000000) (h1 : a.eval (.tmp t1) = .slice (some ⟨b, off, none⟩) n c) (h2 : a.eval (.tmp t2) = .int .i64 (k : Int)) :
    (execOp a.eval { dst := some d, op := Op.indexAddr 35 (.tmp t1) (.tmp t2), type := u, pos := ps, after := ed, guard := none }).run Tryz.prog w = .ok (.value (.pointer (some ⟨b, off + k * 4, none⟩))) w := by
  unfold execOp
  simp only [h1, h2]
  go_simp
theorem run_growth (a : Act) (w : World) (d t1 : Nat) (u : TypeId) (ps : String) (ed : Array Edge) (x1 : Value) (h1 : a.eval (.tmp t1) = x1) :
    (execOp a.eval { dst := some d, op := Op.call { callee := Callee.value (Operand.func 31), args := #[Operand.tmp t1], argTypes := #[28] }, type := u, pos := ps, after := ed, guard := none }).run Tryz.prog w = .ok (.enter 31 #[x1]) w := by
  unfold execOp
  go_simp
  rw [← h1]
  simp [Act.eval]
theorem run_divided (a : Act) (w : World) (d t1 t2 : Nat) (u : TypeId) (ps : String) (ed : Array Edge) (x1 x2 : Value) (h1 : a.eval (.tmp t1) = x1) (h2 : a.eval (.tmp t2) = x2) :
    (execOp a.eval { dst := some d, op := Op.call { callee := Callee.value (Operand.func 14), args := #[Operand.tmp t1, Operand.tmp t2], argTypes := #[28, 28] }, type := u, pos := ps, after := ed, guard := none }).run Tryz.prog w = .ok (.enter 14 #[x1, x2]) w := by
  unfold execOp
  go_simp
  rw [← h1, ← h2]
  simp [Act.eval]
theorem run_store4 (a : Act) (w : World) (t1 t2 : Nat) (u : TypeId) (ps : String) (ed : Array Edge) (g : Nat) (s : Bool) (x y : Int) (p : Option Addr) {s' : Bool} {x' y' : Int} {p' : Option Addr} (h1 : a.eval (.tmp t1) = .pointer (some ⟨g, 0, none⟩)) (h2 : a.eval (.tmp t2) = .agg #[.bool s, .int .u64 x, .int .u64 y, .pointer p]) (hc : P4 w g s' x' y' p') (fz : ∀ j, w.frozen? ⟨g, j, none⟩ = false) :
    (execOp a.eval { dst := none, op := Op.store 28 (.tmp t1) (.tmp t2), type := u, pos := ps, after := ed, guard := none }).run Tryz.prog w = .ok .skip ((((w.setCell ⟨g, 0, none⟩ (.bool s)).setCell ⟨g, 1, none⟩ (.int .u64 x)).setCell ⟨g, 2, none⟩ (.int .u64 y)).setCell ⟨g, 3, none⟩ (.pointer p)) := by
  obtain ⟨c0, c1, c2, c3⟩ := hc
  unfold execOp
  simp only [h1, h2]
  go_simp
/-- four cells written, at a block -/
def put4 (w : World) (g : Nat) (s : Bool) (x y : Int) (p : Option Addr) : World := (((w.setCell ⟨g, 0, none⟩ (.bool s)).setCell ⟨g, 1, none⟩ (.int .u64 x)).setCell ⟨g, 2, none⟩ (.int .u64 y)).setCell ⟨g, 3, none⟩ (.pointer p)
theorem put4_but (w : World) (g : Nat) (s : Bool) (x y : Int) (p : Option Addr) : But [g] w (put4 w g s x y p) := (((((But.refl [g] w).setCell (.inl (by simp)) _).setCell (.inl (by simp)) _).setCell (.inl (by simp)) _).setCell (.inl (by simp)) _)
theorem put4_p4 (w : World) (g : Nat) (s : Bool) (x y : Int) (p : Option Addr) {s' : Bool} {x' y' : Int} {p' : Option Addr} (hc : P4 w g s' x' y' p') : P4 (put4 w g s x y p) g s x y p := by
  obtain ⟨h1, -⟩ := set4_all w g (.bool s) (.int .u64 x) (.int .u64 y) (.pointer p) (by rw [hc.1]; rfl) (by rw [hc.2.1]; rfl) (by rw [hc.2.2.1]; rfl) (by rw [hc.2.2.2]; rfl)
  exact ⟨h1 0 (by omega), h1 1 (by omega), h1 2 (by omega), h1 3 (by omega)⟩
theorem put4_fz (w : World) (g : Nat) (s : Bool) (x y : Int) (p : Option Addr) (b j : Nat) : (put4 w g s x y p).frozen? ⟨b, j, none⟩ = w.frozen? ⟨b, j, none⟩ := by
  unfold put4
  simp only [World.frozen?_setCell]

def opW0 : Oper := { dst := some 17, op := Op.load 28 (Operand.tmp 5), type := 28, pos := "flow.go:71", after := #[], guard := none }
def opW1 : Oper := { dst := some 18, op := Op.load 35 (Operand.tmp 3), type := 35, pos := "flow.go:71", after := #[], guard := none }
def opW2 : Oper := { dst := some 19, op := Op.move (Operand.tmp 6), type := 3, pos := "flow.go:71", after := #[], guard := none }
def opW3 : Oper := { dst := some 20, op := Op.binOp BinOp.sub 3 (Operand.tmp 19) (Operand.const (Value.int IntKind.i64 1)) 3, type := 3, pos := "flow.go:71", after := #[{ on := 2, ground := Ground.data }], guard := none }
def opW4 : Oper := { dst := some 21, op := Op.indexAddr 35 (Operand.tmp 18) (Operand.tmp 20), type := 0, pos := "flow.go:71", after := #[{ on := 1, ground := Ground.data }, { on := 3, ground := Ground.data }], guard := none }
def opW5 : Oper := { dst := some 22, op := Op.load 28 (Operand.tmp 21), type := 28, pos := "flow.go:71", after := #[{ on := 4, ground := Ground.data }], guard := none }
def opW6 : Oper := { dst := some 23, op := Op.call { callee := Callee.value (Operand.func 31), args := #[Operand.tmp 22], argTypes := #[28] }, type := 28, pos := "flow.go:71", after := #[{ on := 5, ground := Ground.data }], guard := none }
def opW7 : Oper := { dst := some 24, op := Op.call { callee := Callee.value (Operand.func 14), args := #[Operand.tmp 17, Operand.tmp 23], argTypes := #[28, 28] }, type := 28, pos := "flow.go:71", after := #[{ on := 0, ground := Ground.data }, { on := 6, ground := Ground.data }, { on := 6, ground := Ground.chain }], guard := none }
def opW8 : Oper := { dst := none, op := Op.store 28 (Operand.tmp 5) (Operand.tmp 24), type := 0, pos := "flow.go:71", after := #[{ on := 7, ground := Ground.data }, { on := 7, ground := Ground.chain }, { on := 0, ground := Ground.phase }, { on := 1, ground := Ground.phase }, { on := 2, ground := Ground.phase }, { on := 3, ground := Ground.phase }, { on := 4, ground := Ground.phase }, { on := 5, ground := Ground.phase }, { on := 6, ground := Ground.phase }, { on := 7, ground := Ground.phase }], guard := none }
def opsW : Array Oper := #[opW0, opW1, opW2, opW3, opW4, opW5, opW6, opW7, opW8]
/-- no operation has a guard, none defers -/
def calmOps (ops : Array Oper) : Bool := (List.range ops.size).all fun i => match ops[i]? with
  | some o => o.guard.isNone && (match o.op with | .defer _ => false | _ => true)
  | none => true
theorem calm_of {ops : Array Oper} (h : calmOps ops = true) : ∀ (i : Nat) (o : Oper), ops[i]? = some o → o.guard = none ∧ ∀ c, o.op ≠ .defer c := fun i o ho => by
  have hi : i < ops.size := (Array.getElem?_eq_some_iff.1 ho).1
  unfold calmOps at h
  rw [List.all_eq_true] at h
  have h1 := h i (List.mem_range.2 hi)
  simp only [ho, Bool.and_eq_true, Option.isNone_iff_eq_none] at h1
  exact ⟨h1.1, fun c e => by rw [e] at h1; simp at h1⟩

/-- what each operation's value is -/
def worthC (s : Bool) (x y : Int) (p : Option Addr) (b off n c t : Nat) (sr : Bool) (xr yr : Int) (pr : Option Addr) (f r : Rat) (i : Nat) (w : World) (v : Value) : Prop := match i with
  | 0 => v = .agg #[.bool s, .int .u64 x, .int .u64 y, .pointer p]
  | 1 => v = .slice (some ⟨b, off, none⟩) n c
  | 2 => v = .int .i64 ((t + 1 : Nat) : Int)
  | 3 => v = .int .i64 (t : Int)
  | 4 => v = .pointer (some ⟨b, off + t * 4, none⟩)
  | 5 => v = .agg #[.bool sr, .int .u64 xr, .int .u64 yr, .pointer pr]
  | 6 => FracAt w v (1 + r)
  | _ => FracAt w v (f / (1 + r))
theorem dep_have {ops : Array Oper} {ps : List (Nat × Nat)} (h : depOps ops ps = true) {i : Nat} {o : Oper} (ho : ops[i]? = some o) (R : Nat → Prop) (hdep : ∀ e ∈ o.after, Region.binds .any e = true → R e.on) (j : Nat) (hij : (i, j) ∈ ps) : R j := by
  obtain ⟨o', ho', ed, hed, hbi, rfl⟩ := dep_of h i j hij
  rw [ho] at ho'
  obtain rfl := Option.some.inj ho'
  exact hdep ed hed hbi
set_option maxRecDepth 100000 in
theorem worth_region (id l0 n0 : Nat) (Q : Exit → Act → World → Prop) (base : Act) (W0 : World) (g5 g3 b off n c t : Nat) (s : Bool) (x y : Int) (p : Option Addr) (sr : Bool) (xr yr : Int) (pr : Option Addr) (f r : Rat)
    (hs : 24 < base.tmps.size) (e5 : base.eval (.tmp 5) = .pointer (some ⟨g5, 0, none⟩)) (e3 : base.eval (.tmp 3) = .pointer (some ⟨g3, 0, none⟩)) (e6 : base.eval (.tmp 6) = .int .i64 ((t + 1 : Nat) : Int))
    (c5 : P4 W0 g5 s x y p) (hf : FracAt W0 (.agg #[.bool s, .int .u64 x, .int .u64 y, .pointer p]) f) (c3 : W0.cell? ⟨g3, 0, none⟩ = some (.slice (some ⟨b, off, none⟩) n c)) (ht : t < n) (hn : n < 1000000)
    (cr : P4o W0 b (off + t * 4) sr xr yr pr) (hr : FracAt W0 (.agg #[.bool sr, .int .u64 xr, .int .u64 yr, .pointer pr]) r) (lr : Len r 1) (lf : Len f 158) (h0 : (1 + r).num ≠ 0) (fz : ∀ j, W0.frozen? ⟨g5, j, none⟩ = false)
    (hQ : ∀ a w1 s' x' y' p', But [] W0 w1 → FracAt w1 (.agg #[.bool s', .int .u64 x', .int .u64 y', .pointer p']) (f / (1 + r)) → Q .normal a (put4 w1 g5 s' x' y' p')) :
    (Code.region id opsW true).wpIn (Fence.wide.inRound l0) n0 Tryz.prog Q base W0 := by
  have lg : g5 < W0.heap.size := lt_of_cell c5.1
  have lr3 : Len (1 + r) 158 := (len_add (len_int 1 (by decide)) lr 3 (by omega)).mono (by omega)
  have hd : ∀ {w}, But [] W0.drew w → But [] W0 w := fun h => (But.refl _ _).drew.trans' h
  refine region_flowR (by kernel_rfl) (calm_of (by kernel_rfl)) (low_of (by kernel_rfl))
    (worthC s x y p b off n c t sr xr yr pr f r) (fun i => 17 + i) 8 rfl (fun i j _ _ e => by omega) (fun i hi => by omega) ?_ (fun i hi => ?_) ?_
    (fun w => ∃ w1 s' x' y' p', w = put4 w1 g5 s' x' y' p' ∧ But [] W0 w1 ∧ FracAt w1 (.agg #[.bool s', .int .u64 x', .int .u64 y', .pointer p']) (f / (1 + r))) ?_ ?_
  · intro i w w' v hi h hb
    have : i = 0 ∨ i = 1 ∨ i = 2 ∨ i = 3 ∨ i = 4 ∨ i = 5 ∨ i = 6 ∨ i = 7 := by omega
    rcases this with rfl | rfl | rfl | rfl | rfl | rfl | rfl | rfl
    all_goals first | exact h | exact FracAt.but h hb
  · have hh := dep_of (ops := opsW) (ps := [(8, 0), (8, 1), (8, 2), (8, 3), (8, 4), (8, 5), (8, 6), (8, 7)]) (by kernel_rfl) 8 i (by
      have : i = 0 ∨ i = 1 ∨ i = 2 ∨ i = 3 ∨ i = 4 ∨ i = 5 ∨ i = 6 ∨ i = 7 := by omega
      rcases this with rfl | rfl | rfl | rfl | rfl | rfl | rfl | rfl <;> simp)
    exact hh
  · intro i o a w K hi ho hb he hdep hK
    have : i = 0 ∨ i = 1 ∨ i = 2 ∨ i = 3 ∨ i = 4 ∨ i = 5 ∨ i = 6 ∨ i = 7 := by omega
    have hD := dep_have (ps := [(3, 2), (4, 1), (4, 3), (5, 4), (6, 5), (7, 0), (7, 6)]) (by kernel_rfl) ho (fun j => worthC s x y p b off n c t sr xr yr pr f r j w (a.eval (.tmp (17 + j)))) hdep
    have e5' := (he 5 (fun j _ => by omega)).trans e5
    have e3' := (he 3 (fun j _ => by omega)).trans e3
    have e6' := (he 6 (fun j _ => by omega)).trans e6
    rcases this with rfl | rfl | rfl | rfl | rfl | rfl | rfl | rfl
    · obtain rfl := Option.some.inj ((show opsW[0]? = some opW0 from rfl).symm.trans ho)
      exact wp_value (run_load4 a w _ _ _ _ _ g5 0 _ _ _ _ e5' (c5.but (hd hb) (by simp))) (hK _ _ (But.refl _ _) rfl)
    · obtain rfl := Option.some.inj ((show opsW[1]? = some opW1 from rfl).symm.trans ho)
      exact wp_value (run_load1 a w _ _ _ _ _ g3 _ _ _ e3' ((hd hb).cell_some c3 (by simp))) (hK _ _ (But.refl _ _) rfl)
    · obtain rfl := Option.some.inj ((show opsW[2]? = some opW2 from rfl).symm.trans ho)
      exact wp_value (run_moved a w _ _ _ _ _ _ e6') (hK _ _ (But.refl _ _) rfl)
    · obtain rfl := Option.some.inj ((show opsW[3]? = some opW3 from rfl).symm.trans ho)
      exact wp_value (run_less1 a w _ _ _ _ _ t (by omega) (hD 2 (by simp))) (hK _ _ (But.refl _ _) rfl)
    · obtain rfl := Option.some.inj ((show opsW[4]? = some opW4 from rfl).symm.trans ho)
      exact wp_value (run_indexed a w _ _ _ _ _ _ b off n c t ht hn (hD 1 (by simp)) (hD 3 (by simp))) (hK _ _ (But.refl _ _) rfl)
    · obtain rfl := Option.some.inj ((show opsW[5]? = some opW5 from rfl).symm.trans ho)
      exact wp_value (run_load4 a w _ _ _ _ _ b _ _ _ _ _ (hD 4 (by simp)) (cr.but (hd hb) (by simp))) (hK _ _ (But.refl _ _) rfl)
    · obtain rfl := Option.some.inj ((show opsW[6]? = some opW6 from rfl).symm.trans ho)
      exact wp_enter (run_growth a w _ _ _ _ _ _ (hD 5 (by simp))) (R := fun w' v => FracAt w' v (1 + r) ∧ But [] w w') (growth_any _ r w (hr.but (hd hb)) lr) (fun v w' hv => hK v w' hv.2 hv.1)
    · obtain rfl := Option.some.inj ((show opsW[7]? = some opW7 from rfl).symm.trans ho)
      exact wp_enter (run_divided a w _ _ _ _ _ _ _ _ (hD 0 (by simp)) rfl) (R := fun w' v => FracAt w' v (f / (1 + r)) ∧ But [] w w') (divided_any _ _ f (1 + r) w (hf.but (hd hb)) (hD 6 (by simp)) lf lr3 h0) (fun v w' hv => hK v w' hv.2 hv.1)
  · intro o a w K ho hb he hall hK
    have e5' := (he 5 (fun j _ => by omega)).trans e5
    obtain rfl := Option.some.inj ((show opsW[8]? = some opW8 from rfl).symm.trans ho)
    have h7 : FracAt w (a.eval (.tmp 24)) (f / (1 + r)) := hall 7 (by omega)
    have h7' := h7
    obtain ⟨x', y', p', ev, -⟩ := h7.agg
    rw [ev] at h7'
    exact wp_skipped (run_store4 a w _ _ _ _ _ g5 _ x' y' p' e5' ev (c5.but (hd hb) (by simp)) (fun j => ((hd hb).frozen (p := ⟨g5, j, none⟩) lg (by simp)).trans (fz j))) (hK _ _ ⟨w, _, x', y', p', rfl, hd hb, h7'⟩)
  · rintro a w ⟨w1, s', x', y', p', rfl, h1, h2⟩
    exact hQ a w1 s' x' y' p' h1 h2
end Go.Proofs.YtnfnphbihgchhaaGreatDoor

namespace Go.Proofs.YtnfnphbihgchhaaGreatDoor
open Go.RowKit

/-- blocks that have a cell stay as they are -/
structure Calm (A B : World) : Prop where
  size : A.heap.size ≤ B.heap.size
  block : ∀ k i v, A.cell? ⟨k, i, none⟩ = some v → B.heap[k]? = A.heap[k]?
theorem calm_of_grown {A B : World} {row : Option Nat} (hg : A.grownBy B row) (hr : ∀ r, row = some r → ∃ o : Obj, A.heap[r]? = some o ∧ o.isCells = false) : Calm A B :=
  ⟨hg.size, fun k i v h => by
    obtain ⟨o, ho, hc⟩ := cells_of_cell h
    exact grownBy_keeps_cells hg hr ho hc⟩
theorem Calm.cell {A B : World} (h : Calm A B) {k i : Nat} {v : Value} (hc : A.cell? ⟨k, i, none⟩ = some v) : B.cell? ⟨k, i, none⟩ = some v := (World.cell?_of_block (w := A) (h.block k i v hc)).trans hc
theorem Calm.frozen {A B : World} (h : Calm A B) {k i j : Nat} {v : Value} (hc : A.cell? ⟨k, i, none⟩ = some v) : B.frozen? ⟨k, j, none⟩ = A.frozen? ⟨k, j, none⟩ := World.frozen?_of_block (w := A) (a := ⟨k, j, none⟩) (h.block k i v hc)
theorem Sl.calm {k : IntKind} {A B : World} {v : Value} {xs : List Nat} (h : Sl k A v xs) (hb : Calm A B) : Sl k B v xs := by
  obtain ⟨a, cap, rfl, hc, h, hi⟩ := h
  refine ⟨a, cap, rfl, hc, fun i hi => ?_, fun b off e h0 => ?_⟩
  · obtain ⟨b, off, rfl, h2⟩ := h i hi
    exact ⟨b, off, rfl, hb.cell h2⟩
  · subst e
    obtain ⟨b2, off2, e2, h2⟩ := h 0 h0
    simp only [Option.some.injEq, Addr.mk.injEq] at e2
    obtain ⟨rfl, rfl, -⟩ := e2
    have hbl := hb.block _ _ _ h2
    exact fun i v hv => hi _ _ rfl h0 i v (by rw [← World.cell?_of_block (w := A) (w' := B) (a := ⟨_, i, none⟩) hbl]; exact hv)
theorem FracAt.calm {A B : World} {v : Value} {f : Rat} (h : FracAt A v f) (hb : Calm A B) : FracAt B v f := by
  rcases h with h | ⟨h1, b, v1, v2, h2, h3, h4, h5, h6⟩
  · exact .inl h
  · exact .inr ⟨h1, b, v1, v2, h2, hb.cell h3, hb.cell h4, h5.calm hb, h6.calm hb⟩
theorem P4o.calm {A B : World} {b o : Nat} {s : Bool} {x y : Int} {p : Option Addr} (h : P4o A b o s x y p) (hb : Calm A B) : P4o B b o s x y p := ⟨hb.cell h.1, hb.cell h.2.1, hb.cell h.2.2.1, hb.cell h.2.2.2⟩
theorem P4.calm {A B : World} {b : Nat} {s : Bool} {x y : Int} {p : Option Addr} (h : P4 A b s x y p) (hb : Calm A B) : P4 B b s x y p := ⟨hb.cell h.1, hb.cell h.2.1, hb.cell h.2.2.1, hb.cell h.2.2.2⟩
/-- a box that holds a fraction, and may be written -/
def BoxAt (w : World) (g : Nat) (f : Rat) : Prop := (∃ s x y p, P4 w g s x y p ∧ FracAt w (.agg #[.bool s, .int .u64 x, .int .u64 y, .pointer p]) f) ∧ ∀ j, w.frozen? ⟨g, j, none⟩ = false
theorem BoxAt.calm {A B : World} {g : Nat} {f : Rat} (h : BoxAt A g f) (hb : Calm A B) : BoxAt B g f := by
  obtain ⟨⟨s, x, y, p, h1, h2⟩, h3⟩ := h
  exact ⟨⟨s, x, y, p, h1.calm hb, h2.calm hb⟩, fun j => (hb.frozen h1.1).trans (h3 j)⟩
theorem BoxAt.but {A B : World} {g : Nat} {f : Rat} (h : BoxAt A g f) (hb : But [] A B) : BoxAt B g f := by
  obtain ⟨⟨s, x, y, p, h1, h2⟩, h3⟩ := h
  have hl : g < A.heap.size := lt_of_cell h1.1
  exact ⟨⟨s, x, y, p, h1.but hb (by simp), h2.but hb⟩, fun j => (hb.frozen (p := ⟨g, j, none⟩) hl (by simp)).trans (h3 j)⟩
theorem BoxAt.beside {A B : World} {g : Nat} {f : Rat} {l : List Nat} (h : BoxAt A g f) (hb : But l A B) (hn : g ∉ l) (hc : ∀ g ∈ l, ∃ s, A.cell? ⟨g, 0, none⟩ = some (.bool s)) : BoxAt B g f := by
  obtain ⟨⟨s, x, y, p, h1, h2⟩, h3⟩ := h
  have hl : g < A.heap.size := lt_of_cell h1.1
  exact ⟨⟨s, x, y, p, h1.but hb hn, h2.beside hb hc⟩, fun j => (hb.frozen (p := ⟨g, j, none⟩) hl hn).trans (h3 j)⟩
theorem BoxAt.put {w : World} {g : Nat} {f f' : Rat} (h : BoxAt w g f) {s : Bool} {x y : Int} {p : Option Addr} (hf : FracAt w (.agg #[.bool s, .int .u64 x, .int .u64 y, .pointer p]) f') : BoxAt (put4 w g s x y p) g f' := by
  obtain ⟨⟨s0, x0, y0, p0, h1, h2⟩, h3⟩ := h
  exact ⟨⟨s, x, y, p, put4_p4 w g s x y p h1, hf.over h1.1 (put4_but w g s x y p)⟩, fun j => (put4_fz w g s x y p g j).trans (h3 j)⟩
theorem BoxAt.new (w : World) (s : Bool) (x y : Int) (p : Option Addr) (f : Rat) (t : TypeId) (h : FracAt w (.agg #[.bool s, .int .u64 x, .int .u64 y, .pointer p]) f) : BoxAt (w.alloc (.cells #[.bool s, .int .u64 x, .int .u64 y, .pointer p] t)) w.heap.size f :=
  ⟨⟨s, x, y, p, ⟨by simp, by simp, by simp, by simp⟩, h.but ((But.refl _ _).alloc _)⟩, fun j => by simp⟩
theorem BoxAt.lt {w : World} {g : Nat} {f : Rat} (h : BoxAt w g f) : g < w.heap.size := by
  obtain ⟨⟨s, x, y, p, h1, -⟩, -⟩ := h
  exact lt_of_cell h1.1
theorem BoxAt.bool {w : World} {g : Nat} {f : Rat} (h : BoxAt w g f) : ∃ s, w.cell? ⟨g, 0, none⟩ = some (.bool s) := by
  obtain ⟨⟨s, x, y, p, h1, -⟩, -⟩ := h
  exact ⟨s, h1.1⟩
theorem LiesAt.calm {A B : World} {b o : Nat} {f : Rat} (h : LiesAt A b o f) (hb : Calm A B) : LiesAt B b o f := by
  obtain ⟨s, x, y, p, h1, h2⟩ := h
  exact ⟨s, x, y, p, h1.calm hb, h2.calm hb⟩
theorem FracsAt.calm {A B : World} {v : Value} {fs : List Rat} (h : FracsAt A v fs) (hb : Calm A B) : FracsAt B v fs := by
  obtain ⟨a, cap, e, hc, h⟩ := h
  refine ⟨a, cap, e, hc, fun i f hf => ?_⟩
  obtain ⟨b, off, e1, h1⟩ := h i f hf
  exact ⟨b, off, e1, h1.calm hb⟩
theorem FracsAt.get {w : World} {b off n cap : Nat} {fs : List Rat} (h : FracsAt w (.slice (some ⟨b, off, none⟩) n cap) fs) (i : Nat) (hi : i < n) : ∃ s x y p, P4o w b (off + i * 4) s x y p ∧ FracAt w (.agg #[.bool s, .int .u64 x, .int .u64 y, .pointer p]) (fs[i]?.getD 0) := by
  obtain ⟨a, cap', e, -, h⟩ := h
  simp only [Value.slice.injEq] at e
  obtain ⟨rfl, rfl, -⟩ := e
  obtain ⟨b', off', e2, s, x, y, p, h1, h2⟩ := h i fs[i] (List.getElem?_eq_getElem hi)
  simp only [Option.some.injEq, Addr.mk.injEq] at e2
  obtain ⟨rfl, rfl, -⟩ := e2
  exact ⟨s, x, y, p, h1, by rw [List.getElem?_eq_getElem hi]; exact h2⟩
/-- a fraction that comes back, in its four parts -/
theorem in_parts {P : Program} {f : FuncId} {args : Array Value} {w : World} {r : Rat} (h : Calls P f args w fun e w' => ∃ v, e = .returned v ∧ FracAt w' v r ∧ But [] w w') :
    Calls P f args w fun e w' => ∃ s x y p, e = .returned (.agg #[.bool s, .int .u64 x, .int .u64 y, .pointer p]) ∧ FracAt w' (.agg #[.bool s, .int .u64 x, .int .u64 y, .pointer p]) r ∧ But [] w w' :=
  h.mono fun e w' ⟨v, he, hv, hb⟩ => by
    obtain ⟨x, y, p, rfl, -⟩ := hv.agg
    exact ⟨_, x, y, p, he, hv, hb⟩
theorem zero_at (w : World) : FracAt w (.agg #[.bool false, .int .u64 0, .int .u64 0, .pointer none]) 0 := .inl ⟨by decide, by decide, rfl⟩
end Go.Proofs.YtnfnphbihgchhaaGreatDoor
