/- Bounds of a fraction that are the fraction itself: the two statements of the Go text of package frac, in whatever order. -/
import Derived.Test.YtlkpkgajfakdpaaGreatKN4
import Derived.Test.YtlkpkgajfakdpaaGreatKN5
import Derived.Test.YtlkpkgajfakdpaaGreatKNA
import Derived.Test.YtlkpkgajfakdpaaGreatKQ5
import Derived.Test.YtlkpkgajfakdpaaGreatKR0
import Derived.Test.YtlkpkgajfakdpaaGreatKY0
import Derived.Test.YtlkpkgajfakdpaaGreatKYR
namespace Go.Proofs.YtlkpkgajfakdpaaGreat
open Go.RowKit

/-- one place may have turned, and still holds a fraction's parts -/
def Near2 (W0 : World) (g : Nat) (w : World) : Prop := But [g] W0 w ∧ (∃ s x y p, P4 w g s x y p) ∧ ∀ j, w.frozen? ⟨g, j, none⟩ = false
theorem Near2.but {W0 w w' : World} {g : Nat} (h : Near2 W0 g w) (hb : But [] w w') : Near2 W0 g w' := by
  obtain ⟨h1, ⟨s, x, y, p, h2⟩, h3⟩ := h
  have hl : g < w.heap.size := lt_of_cell h2.1
  exact ⟨h1.trans' hb, ⟨s, x, y, p, h2.but hb (by simp)⟩, fun j => (hb.frozen (p := ⟨g, j, none⟩) hl (by simp)).trans (h3 j)⟩
theorem Near2.put {W0 w : World} {g : Nat} (h : Near2 W0 g w) (s : Bool) (x y : Int) (p : Option Addr) : Near2 W0 g (put4 w g s x y p) := by
  obtain ⟨h1, ⟨s0, x0, y0, p0, h2⟩, h3⟩ := h
  exact ⟨h1.trans (put4_but w g s x y p) (fun x hx => .inl hx), ⟨s, x, y, p, put4_p4 w g s x y p h2⟩, fun j => by rw [put4_fz]; exact h3 j⟩
def opPa0 : Oper := { dst := some 11, op := Op.load 33 (Operand.tmp 1), type := 33, pos := "split.go:71", after := #[], guard := none }
def opPa1 : Oper := { dst := some 12, op := Op.load 33 (Operand.tmp 1), type := 33, pos := "split.go:71", after := #[{ on := 2, ground := Ground.gcOnly Departure.lateStores }], guard := none }
def opPa2 : Oper := { dst := none, op := Op.store 33 (Operand.tmp 2) (Operand.tmp 11), type := 0, pos := "split.go:71", after := #[{ on := 0, ground := Ground.data }, { on := 0, ground := Ground.phase }, { on := 1, ground := Ground.textOnly Departure.lateStores }], guard := none }
def opPa3 : Oper := { dst := none, op := Op.store 33 (Operand.tmp 3) (Operand.tmp 12), type := 0, pos := "split.go:71", after := #[{ on := 1, ground := Ground.data }, { on := 2, ground := Ground.chain }, { on := 0, ground := Ground.phase }, { on := 1, ground := Ground.phase }, { on := 2, ground := Ground.phase }], guard := none }
def opPas : Array Oper := #[opPa0, opPa1, opPa2, opPa3]
def opPaT (i : Nat) : Nat := match i with
  | 0 => 11
  | 1 => 12
  | _ => 55
def opPaC (u : Value) (i : Nat) (_w : World) (v : Value) : Prop := match i with
  | 0 => v = u
  | 1 => v = u
  | _ => True
set_option maxRecDepth 100000 in
theorem pair_region (id : Nat) (Q : Exit → Act → World → Prop) (base : Act) (W0 : World) (s : Bool) (x y : Int) (p : Option Addr) (g1 g2 g3 : Nat) {s2 s3 : Bool} {x2 y2 x3 y3 : Int} {p2 p3 : Option Addr} (n12 : g1 ≠ g2) (n23 : g3 ≠ g2) (hs : 55 < base.tmps.size) (e1 : base.eval (.tmp 1) = .pointer (some ⟨g1, 0, none⟩)) (e2 : base.eval (.tmp 2) = .pointer (some ⟨g2, 0, none⟩)) (e3 : base.eval (.tmp 3) = .pointer (some ⟨g3, 0, none⟩))
    (c1 : P4 W0 g1 s x y p) (c2 : P4 W0 g2 s2 x2 y2 p2) (c3 : P4 W0 g3 s3 x3 y3 p3) (f2 : ∀ j, W0.frozen? ⟨g2, j, none⟩ = false) (f3 : ∀ j, W0.frozen? ⟨g3, j, none⟩ = false)
    (hQ : ∀ w1 vq, But [g2] W0 w1 → P4 w1 g2 s x y p → Q .normal (putted base [(11, .agg #[.bool s, .int .u64 x, .int .u64 y, .pointer p]), (12, .agg #[.bool s, .int .u64 x, .int .u64 y, .pointer p]), (55, vq)]) (put4 w1 g3 s x y p)) :
    (Code.region id opPas true).wp Tryz.prog Q base W0 := by
  have hdr : ∀ {w}, Near2 W0.drew g2 w → But [g2] W0 w := fun h => ((But.refl [g2] W0).drew).trans h.1 (fun x hx => .inl hx)
  have l3 : g3 < W0.heap.size := lt_of_cell c3.1
  have hT : ∀ i, i < 3 → opPaT i < base.tmps.size := fun i hi => by
    have h : opPaT i ≤ 55 := by revert i; decide
    omega
  have hC : ∀ i w w' v, i < 3 → opPaC (.agg #[.bool s, .int .u64 x, .int .u64 y, .pointer p]) i w v → opPaC (.agg #[.bool s, .int .u64 x, .int .u64 y, .pointer p]) i w' v := fun i w w' v hi h => by
    have : i = 0 ∨ i = 1 ∨ i = 2 := by omega
    rcases this with rfl | rfl | rfl
    · exact (show v = _ from h)
    · exact (show v = _ from h)
    · exact trivial
  refine region_flow4 (by kernel_rfl) (low_of (by kernel_rfl)) (fun i o ho => (calm_of (ops := opPas) (by kernel_rfl) i o ho).1)
    (Near2 W0.drew g2) ⟨But.refl _ _, ⟨_, _, _, _, c2.but (l := []) (But.refl _ _).drew (by simp)⟩, fun j => by rw [World.frozen?_drew]; exact f2 j⟩ (fun _ _ h hb => h.but hb) (opPaC (.agg #[.bool s, .int .u64 x, .int .u64 y, .pointer p])) opPaT 3 2 0 (by omega) (fun w _ => P4 w g2 s x y p) rfl (fun i j hi hj => (by decide : ∀ i, i < 3 → ∀ j, j < 3 → opPaT i = opPaT j → i = j) i hi j hj) hT (fun i w w' v hi h _ => hC i w w' v hi h) (fun _ _ => trivial) (fun w w' v h hb => h.but hb (by simp))
    (fun i hi => ?_) (dep_of (ops := opPas) (ps := [(2, 0)]) (by kernel_rfl) 2 0 (by simp)) ?_ ?_ (fun a w => ∃ w1 vq, a = putted base [(11, .agg #[.bool s, .int .u64 x, .int .u64 y, .pointer p]), (12, .agg #[.bool s, .int .u64 x, .int .u64 y, .pointer p]), (55, vq)] ∧ w = put4 w1 g3 s x y p ∧ But [g2] W0 w1 ∧ P4 w1 g2 s x y p) ?_ ?_ (by omega)
  · exact dep_of (ops := opPas) (ps := [(3, 0), (3, 1), (3, 2)]) (by kernel_rfl) 3 i (by
      have : i = 0 ∨ i = 1 ∨ i = 2 := by omega
      rcases this with rfl | rfl | rfl <;> simp)
  · intro i o a w K hi hiq ho hH he hdep hK
    have e1' := (he 1 (fun j hj e => absurd e.symm (by revert j; decide))).trans e1
    have : i = 0 ∨ i = 1 ∨ i = 2 := by omega
    rcases this with rfl | rfl | rfl
    · obtain rfl := Option.some.inj ((show opPas[0]? = some opPa0 from rfl).symm.trans ho)
      exact wp_value (run_loadF a w _ _ _ _ _ _ g1 0 _ _ _ _ e1' (c1.but (hdr hH) (by simpa using n12))) (hK _ _ (But.refl _ _) (show _ = _ from rfl))
    · obtain rfl := Option.some.inj ((show opPas[1]? = some opPa1 from rfl).symm.trans ho)
      exact wp_value (run_loadF a w _ _ _ _ _ _ g1 0 _ _ _ _ e1' (c1.but (hdr hH) (by simpa using n12))) (hK _ _ (But.refl _ _) (show _ = _ from rfl))
    · exact absurd rfl hiq
  · intro o a w K ho hH he hdep hK
    have e2' := (he 2 (fun j hj e => absurd e.symm (by revert j; decide))).trans e2
    have hD := dep_have (ps := [(2, 0)]) (by kernel_rfl) ho (fun j => opPaC (.agg #[.bool s, .int .u64 x, .int .u64 y, .pointer p]) j w (a.eval (.tmp (opPaT j)))) hdep
    obtain rfl := Option.some.inj ((show opPas[2]? = some opPa2 from rfl).symm.trans ho)
    have ev : a.eval (.tmp 11) = .agg #[.bool s, .int .u64 x, .int .u64 y, .pointer p] := hD 0 (by simp)
    obtain ⟨t2, z2, u2, q2, k2⟩ := hH.2.1
    exact wp_skipped (run_store4 a w _ _ _ _ _ g2 s x y p e2' ev k2 hH.2.2) (hK _ (hH.put s x y p) (fun j hj u hu => hC j _ _ u hj hu) (put4_p4 w g2 s x y p k2))
  · intro dn o a w K ho hall h hst hK
    have e3' := (h.eval 3 (fun j hj e => absurd e.symm (by revert j; decide))).trans e3
    obtain rfl := Option.some.inj ((show opPas[3]? = some opPa3 from rfl).symm.trans ho)
    have ea := h.puts hT (fun i => match i with
      | 0 => .agg #[.bool s, .int .u64 x, .int .u64 y, .pointer p]
      | 1 => .agg #[.bool s, .int .u64 x, .int .u64 y, .pointer p]
      | _ => a.eval (.tmp 55)) (fun i hi => by
      have hc := h.has i hi (hall i hi)
      have : i = 0 ∨ i = 1 ∨ i = 2 := by omega
      rcases this with rfl | rfl | rfl
      · exact hc
      · exact hc
      · rfl)
    have ev : a.eval (.tmp 12) = .agg #[.bool s, .int .u64 x, .int .u64 y, .pointer p] := h.has 1 (by omega) (hall 1 (by omega))
    exact wp_skipped (run_store4 a w _ _ _ _ _ g3 s x y p e3' ev (c3.but (hdr h.mem) (by simpa using n23)) (fun j => ((hdr h.mem).frozen (p := ⟨g3, j, none⟩) l3 (by simpa using n23)).trans (f3 j))) (hK _ _ ⟨w, a.eval (.tmp 55), ea, rfl, hdr h.mem, hst⟩)
  · rintro a w ⟨w1, vq, rfl, rfl, h1, h2⟩
    exact hQ w1 vq h1 h2
def opPb0 : Oper := { dst := some 29, op := Op.load 33 (Operand.tmp 1), type := 33, pos := "split.go:75", after := #[], guard := none }
def opPb1 : Oper := { dst := some 30, op := Op.load 33 (Operand.tmp 1), type := 33, pos := "split.go:75", after := #[{ on := 2, ground := Ground.gcOnly Departure.lateStores }], guard := none }
def opPb2 : Oper := { dst := none, op := Op.store 33 (Operand.tmp 2) (Operand.tmp 29), type := 0, pos := "split.go:75", after := #[{ on := 0, ground := Ground.data }, { on := 0, ground := Ground.phase }, { on := 1, ground := Ground.textOnly Departure.lateStores }], guard := none }
def opPb3 : Oper := { dst := none, op := Op.store 33 (Operand.tmp 3) (Operand.tmp 30), type := 0, pos := "split.go:75", after := #[{ on := 1, ground := Ground.data }, { on := 2, ground := Ground.chain }, { on := 0, ground := Ground.phase }, { on := 1, ground := Ground.phase }, { on := 2, ground := Ground.phase }], guard := none }
def opPbs : Array Oper := #[opPb0, opPb1, opPb2, opPb3]
def opPbT (i : Nat) : Nat := match i with
  | 0 => 29
  | 1 => 30
  | _ => 55
def opPbC (u : Value) (i : Nat) (_w : World) (v : Value) : Prop := match i with
  | 0 => v = u
  | 1 => v = u
  | _ => True
set_option maxRecDepth 100000 in
theorem pair_region5 (id : Nat) (Q : Exit → Act → World → Prop) (base : Act) (W0 : World) (s : Bool) (x y : Int) (p : Option Addr) (g1 g2 g3 : Nat) {s2 s3 : Bool} {x2 y2 x3 y3 : Int} {p2 p3 : Option Addr} (n12 : g1 ≠ g2) (n23 : g3 ≠ g2) (hs : 55 < base.tmps.size) (e1 : base.eval (.tmp 1) = .pointer (some ⟨g1, 0, none⟩)) (e2 : base.eval (.tmp 2) = .pointer (some ⟨g2, 0, none⟩)) (e3 : base.eval (.tmp 3) = .pointer (some ⟨g3, 0, none⟩))
    (c1 : P4 W0 g1 s x y p) (c2 : P4 W0 g2 s2 x2 y2 p2) (c3 : P4 W0 g3 s3 x3 y3 p3) (f2 : ∀ j, W0.frozen? ⟨g2, j, none⟩ = false) (f3 : ∀ j, W0.frozen? ⟨g3, j, none⟩ = false)
    (hQ : ∀ w1 vq, But [g2] W0 w1 → P4 w1 g2 s x y p → Q .normal (putted base [(29, .agg #[.bool s, .int .u64 x, .int .u64 y, .pointer p]), (30, .agg #[.bool s, .int .u64 x, .int .u64 y, .pointer p]), (55, vq)]) (put4 w1 g3 s x y p)) :
    (Code.region id opPbs true).wp Tryz.prog Q base W0 := by
  have hdr : ∀ {w}, Near2 W0.drew g2 w → But [g2] W0 w := fun h => ((But.refl [g2] W0).drew).trans h.1 (fun x hx => .inl hx)
  have l3 : g3 < W0.heap.size := lt_of_cell c3.1
  have hT : ∀ i, i < 3 → opPbT i < base.tmps.size := fun i hi => by
    have h : opPbT i ≤ 55 := by revert i; decide
    omega
  have hC : ∀ i w w' v, i < 3 → opPbC (.agg #[.bool s, .int .u64 x, .int .u64 y, .pointer p]) i w v → opPbC (.agg #[.bool s, .int .u64 x, .int .u64 y, .pointer p]) i w' v := fun i w w' v hi h => by
    have : i = 0 ∨ i = 1 ∨ i = 2 := by omega
    rcases this with rfl | rfl | rfl
    · exact (show v = _ from h)
    · exact (show v = _ from h)
    · exact trivial
  refine region_flow4 (by kernel_rfl) (low_of (by kernel_rfl)) (fun i o ho => (calm_of (ops := opPbs) (by kernel_rfl) i o ho).1)
    (Near2 W0.drew g2) ⟨But.refl _ _, ⟨_, _, _, _, c2.but (l := []) (But.refl _ _).drew (by simp)⟩, fun j => by rw [World.frozen?_drew]; exact f2 j⟩ (fun _ _ h hb => h.but hb) (opPbC (.agg #[.bool s, .int .u64 x, .int .u64 y, .pointer p])) opPbT 3 2 0 (by omega) (fun w _ => P4 w g2 s x y p) rfl (fun i j hi hj => (by decide : ∀ i, i < 3 → ∀ j, j < 3 → opPbT i = opPbT j → i = j) i hi j hj) hT (fun i w w' v hi h _ => hC i w w' v hi h) (fun _ _ => trivial) (fun w w' v h hb => h.but hb (by simp))
    (fun i hi => ?_) (dep_of (ops := opPbs) (ps := [(2, 0)]) (by kernel_rfl) 2 0 (by simp)) ?_ ?_ (fun a w => ∃ w1 vq, a = putted base [(29, .agg #[.bool s, .int .u64 x, .int .u64 y, .pointer p]), (30, .agg #[.bool s, .int .u64 x, .int .u64 y, .pointer p]), (55, vq)] ∧ w = put4 w1 g3 s x y p ∧ But [g2] W0 w1 ∧ P4 w1 g2 s x y p) ?_ ?_ (by omega)
  · exact dep_of (ops := opPbs) (ps := [(3, 0), (3, 1), (3, 2)]) (by kernel_rfl) 3 i (by
      have : i = 0 ∨ i = 1 ∨ i = 2 := by omega
      rcases this with rfl | rfl | rfl <;> simp)
  · intro i o a w K hi hiq ho hH he hdep hK
    have e1' := (he 1 (fun j hj e => absurd e.symm (by revert j; decide))).trans e1
    have : i = 0 ∨ i = 1 ∨ i = 2 := by omega
    rcases this with rfl | rfl | rfl
    · obtain rfl := Option.some.inj ((show opPbs[0]? = some opPb0 from rfl).symm.trans ho)
      exact wp_value (run_loadF a w _ _ _ _ _ _ g1 0 _ _ _ _ e1' (c1.but (hdr hH) (by simpa using n12))) (hK _ _ (But.refl _ _) (show _ = _ from rfl))
    · obtain rfl := Option.some.inj ((show opPbs[1]? = some opPb1 from rfl).symm.trans ho)
      exact wp_value (run_loadF a w _ _ _ _ _ _ g1 0 _ _ _ _ e1' (c1.but (hdr hH) (by simpa using n12))) (hK _ _ (But.refl _ _) (show _ = _ from rfl))
    · exact absurd rfl hiq
  · intro o a w K ho hH he hdep hK
    have e2' := (he 2 (fun j hj e => absurd e.symm (by revert j; decide))).trans e2
    have hD := dep_have (ps := [(2, 0)]) (by kernel_rfl) ho (fun j => opPbC (.agg #[.bool s, .int .u64 x, .int .u64 y, .pointer p]) j w (a.eval (.tmp (opPbT j)))) hdep
    obtain rfl := Option.some.inj ((show opPbs[2]? = some opPb2 from rfl).symm.trans ho)
    have ev : a.eval (.tmp 29) = .agg #[.bool s, .int .u64 x, .int .u64 y, .pointer p] := hD 0 (by simp)
    obtain ⟨t2, z2, u2, q2, k2⟩ := hH.2.1
    exact wp_skipped (run_store4 a w _ _ _ _ _ g2 s x y p e2' ev k2 hH.2.2) (hK _ (hH.put s x y p) (fun j hj u hu => hC j _ _ u hj hu) (put4_p4 w g2 s x y p k2))
  · intro dn o a w K ho hall h hst hK
    have e3' := (h.eval 3 (fun j hj e => absurd e.symm (by revert j; decide))).trans e3
    obtain rfl := Option.some.inj ((show opPbs[3]? = some opPb3 from rfl).symm.trans ho)
    have ea := h.puts hT (fun i => match i with
      | 0 => .agg #[.bool s, .int .u64 x, .int .u64 y, .pointer p]
      | 1 => .agg #[.bool s, .int .u64 x, .int .u64 y, .pointer p]
      | _ => a.eval (.tmp 55)) (fun i hi => by
      have hc := h.has i hi (hall i hi)
      have : i = 0 ∨ i = 1 ∨ i = 2 := by omega
      rcases this with rfl | rfl | rfl
      · exact hc
      · exact hc
      · rfl)
    have ev : a.eval (.tmp 30) = .agg #[.bool s, .int .u64 x, .int .u64 y, .pointer p] := h.has 1 (by omega) (hall 1 (by omega))
    exact wp_skipped (run_store4 a w _ _ _ _ _ g3 s x y p e3' ev (c3.but (hdr h.mem) (by simpa using n23)) (fun j => ((hdr h.mem).frozen (p := ⟨g3, j, none⟩) l3 (by simpa using n23)).trans (f3 j))) (hK _ _ ⟨w, a.eval (.tmp 55), ea, rfl, hdr h.mem, hst⟩)
  · rintro a w ⟨w1, vq, rfl, rfl, h1, h2⟩
    exact hQ w1 vq h1 h2
end Go.Proofs.YtlkpkgajfakdpaaGreat

namespace Go.Proofs.YtlkpkgajfakdpaaGreat
open Go.RowKit

theorem run_fieldL (a : Act) (w : World) (d t : Nat) (u : TypeId) (ps : String) (ed : Array Edge) (gd : Option (Nat × Bool)) (b : Nat) (h : a.eval (.tmp t) = .pointer (some ⟨b, 0, none⟩)) :
    (execOp a.eval { dst := some d, op := Op.fieldAddr 33 (.tmp t) 3, type := u, pos := ps, after := ed, guard := gd }).run Tryz.prog w = .ok (.value (.pointer (some ⟨b, 3, none⟩))) w := by
  unfold execOp
  simp only [h]
  go_simp
theorem run_loadP (a : Act) (w : World) (d t : Nat) (u : TypeId) (ps : String) (ed : Array Edge) (gd : Option (Nat × Bool)) (b o : Nat) (q : Option Addr) (h1 : a.eval (.tmp t) = .pointer (some ⟨b, o, none⟩)) (hc : w.cell? ⟨b, o, none⟩ = some (.pointer q)) :
    (execOp a.eval { dst := some d, op := Op.load 31 (.tmp t), type := u, pos := ps, after := ed, guard := gd }).run Tryz.prog w = .ok (.value (.pointer q)) w := by
  unfold execOp
  simp only [h1]
  go_simp
theorem run_nilCheck (a : Act) (w : World) (d t : Nat) (u : TypeId) (ps : String) (ed : Array Edge) (gd : Option (Nat × Bool)) (q : Addr) (h1 : a.eval (.tmp t) = .pointer (some q)) :
    (execOp a.eval { dst := some d, op := Op.nilCheck (.tmp t), type := u, pos := ps, after := ed, guard := gd }).run Tryz.prog w = .ok (.value (.pointer (some q))) w := by
  unfold execOp
  simp only [h1]
  go_simp
theorem run_loadN (a : Act) (w : World) (d t : Nat) (u : TypeId) (ps : String) (ed : Array Edge) (gd : Option (Nat × Bool)) (b o : Nat) (q : Option Addr) (n c : Nat) (h1 : a.eval (.tmp t) = .pointer (some ⟨b, o, none⟩)) (hc : w.cell? ⟨b, o, none⟩ = some (.slice q n c)) :
    (execOp a.eval { dst := some d, op := Op.load 53 (.tmp t), type := u, pos := ps, after := ed, guard := gd }).run Tryz.prog w = .ok (.value (.slice q n c)) w := by
  unfold execOp
  simp only [h1]
  go_simp
theorem run_fieldP0 (a : Act) (w : World) (d t : Nat) (u : TypeId) (ps : String) (ed : Array Edge) (gd : Option (Nat × Bool)) (b : Nat) (h : a.eval (.tmp t) = .pointer (some ⟨b, 0, none⟩)) :
    (execOp a.eval { dst := some d, op := Op.fieldAddr 65 (.tmp t) 0, type := u, pos := ps, after := ed, guard := gd }).run Tryz.prog w = .ok (.value (.pointer (some ⟨b, 0, none⟩))) w := by
  unfold execOp
  simp only [h]
  go_simp
theorem run_fieldP1 (a : Act) (w : World) (d t : Nat) (u : TypeId) (ps : String) (ed : Array Edge) (gd : Option (Nat × Bool)) (b : Nat) (h : a.eval (.tmp t) = .pointer (some ⟨b, 0, none⟩)) :
    (execOp a.eval { dst := some d, op := Op.fieldAddr 65 (.tmp t) 1, type := u, pos := ps, after := ed, guard := gd }).run Tryz.prog w = .ok (.value (.pointer (some ⟨b, 1, none⟩))) w := by
  unfold execOp
  simp only [h]
  go_simp
theorem run_lenN (a : Act) (w : World) (d t : Nat) (u : TypeId) (ps : String) (ed : Array Edge) (gd : Option (Nat × Bool)) (q : Option Addr) (n c : Nat) (h : a.eval (.tmp t) = .slice q n c) :
    (execOp a.eval { dst := some d, op := Op.call { callee := Callee.builtin Builtin.len, args := #[Operand.tmp t], argTypes := #[53] }, type := u, pos := ps, after := ed, guard := gd }).run Tryz.prog w = .ok (.value (.int .i64 (n : Int))) w := by
  have h' : a.tmps[t]?.getD undef = .slice q n c := by rw [← Array.getD_eq_getD_getElem?]; exact h
  unfold execOp
  go_simp
theorem run_min (a : Act) (w : World) (d t1 t2 : Nat) (u : TypeId) (ps : String) (ed : Array Edge) (gd : Option (Nat × Bool)) (m n : Nat) (h1 : a.eval (.tmp t1) = .int .i64 (m : Int)) (h2 : a.eval (.tmp t2) = .int .i64 (n : Int)) :
    (execOp a.eval { dst := some d, op := Op.call { callee := Callee.builtin Builtin.min, args := #[Operand.tmp t1, Operand.tmp t2], argTypes := #[3, 3] }, type := u, pos := ps, after := ed, guard := gd }).run Tryz.prog w = .ok (.value (.int .i64 ((min m n : Nat) : Int))) w := by
  have h1' : a.tmps[t1]?.getD undef = .int .i64 (m : Int) := by rw [← Array.getD_eq_getD_getElem?]; exact h1
  have h2' : a.tmps[t2]?.getD undef = .int .i64 (n : Int) := by rw [← Array.getD_eq_getD_getElem?]; exact h2
  unfold execOp
  go_simp
  omega
theorem run_less4 (a : Act) (w : World) (d t : Nat) (u : TypeId) (ps : String) (ed : Array Edge) (gd : Option (Nat × Bool)) (m : Nat) (hm : m < 1000000) (h : a.eval (.tmp t) = .int .i64 (m : Int)) :
    (execOp a.eval { dst := some d, op := Op.binOp BinOp.sub 3 (.tmp t) (.const (.int .i64 4)) 3, type := u, pos := ps, after := ed, guard := gd }).run Tryz.prog w = .ok (.value (.int .i64 ((m : Int) - 4))) w := by
  have e : a.eval (.const (.int .i64 4)) = .int .i64 4 := rfl
  unfold execOp
  simp only [h, e]
  go_simp
  rw [IntKind.wrap_i64]
  omega
theorem run_high (a : Act) (w : World) (d t1 t2 : Nat) (u : TypeId) (ps : String) (ed : Array Edge) (gd : Option (Nat × Bool)) (x1 x2 : Value) (h1 : a.eval (.tmp t1) = x1) (h2 : a.eval (.tmp t2) = x2) :
    (execOp a.eval { dst := some d, op := Op.call { callee := Callee.value (Operand.func 57), args := #[Operand.tmp t1, Operand.tmp t2], argTypes := #[53, 3] }, type := u, pos := ps, after := ed, guard := gd }).run Tryz.prog w = .ok (.enter 57 #[x1, x2]) w := by
  unfold execOp
  go_simp
  rw [← h1, ← h2]
  simp [Act.eval]
def opSz0 : Oper := { dst := some 13, op := Op.fieldAddr 33 (Operand.tmp 1) 3, type := 0, pos := "split.go:73", after := #[], guard := none }
def opSz1 : Oper := { dst := some 14, op := Op.load 31 (Operand.tmp 13), type := 31, pos := "split.go:73", after := #[{ on := 0, ground := Ground.data }], guard := none }
def opSz2 : Oper := { dst := some 15, op := Op.nilCheck (Operand.tmp 14), type := 0, pos := "split.go:73", after := #[{ on := 1, ground := Ground.data }], guard := none }
def opSz3 : Oper := { dst := some 16, op := Op.fieldAddr 65 (Operand.tmp 15) 0, type := 0, pos := "split.go:73", after := #[{ on := 2, ground := Ground.data }], guard := none }
def opSz4 : Oper := { dst := some 17, op := Op.load 53 (Operand.tmp 16), type := 53, pos := "split.go:73", after := #[{ on := 3, ground := Ground.data }], guard := none }
def opSz5 : Oper := { dst := some 18, op := Op.call { callee := Callee.builtin Builtin.len, args := #[Operand.tmp 17], argTypes := #[53] }, type := 3, pos := "split.go:73", after := #[{ on := 4, ground := Ground.data }], guard := none }
def opSz6 : Oper := { dst := some 19, op := Op.fieldAddr 33 (Operand.tmp 1) 3, type := 0, pos := "split.go:73", after := #[], guard := none }
def opSz7 : Oper := { dst := some 20, op := Op.load 31 (Operand.tmp 19), type := 31, pos := "split.go:73", after := #[{ on := 6, ground := Ground.data }], guard := none }
def opSz8 : Oper := { dst := some 21, op := Op.nilCheck (Operand.tmp 20), type := 0, pos := "split.go:73", after := #[{ on := 7, ground := Ground.data }], guard := none }
def opSz9 : Oper := { dst := some 22, op := Op.fieldAddr 65 (Operand.tmp 21) 1, type := 0, pos := "split.go:73", after := #[{ on := 8, ground := Ground.data }], guard := none }
def opSz10 : Oper := { dst := some 23, op := Op.load 53 (Operand.tmp 22), type := 53, pos := "split.go:73", after := #[{ on := 9, ground := Ground.data }], guard := none }
def opSz11 : Oper := { dst := some 24, op := Op.call { callee := Callee.builtin Builtin.len, args := #[Operand.tmp 23], argTypes := #[53] }, type := 3, pos := "split.go:73", after := #[{ on := 10, ground := Ground.data }], guard := none }
def opSz12 : Oper := { dst := some 25, op := Op.call { callee := Callee.builtin Builtin.min, args := #[Operand.tmp 18, Operand.tmp 24], argTypes := #[3, 3] }, type := 3, pos := "split.go:73", after := #[{ on := 5, ground := Ground.data }, { on := 11, ground := Ground.data }], guard := none }
def opSz13 : Oper := { dst := some 26, op := Op.binOp BinOp.sub 3 (Operand.tmp 25) (Operand.const (Value.int IntKind.i64 4)) 3, type := 3, pos := "split.go:73", after := #[{ on := 12, ground := Ground.data }], guard := none }
def opSz14 : Oper := { dst := some 4, op := Op.assign (Operand.tmp 26), type := 3, pos := "split.go:73", after := #[{ on := 13, ground := Ground.data }, { on := 0, ground := Ground.phase }, { on := 1, ground := Ground.phase }, { on := 2, ground := Ground.phase }, { on := 3, ground := Ground.phase }, { on := 4, ground := Ground.phase }, { on := 5, ground := Ground.phase }, { on := 6, ground := Ground.phase }, { on := 7, ground := Ground.phase }, { on := 8, ground := Ground.phase }, { on := 9, ground := Ground.phase }, { on := 10, ground := Ground.phase }, { on := 11, ground := Ground.phase }, { on := 12, ground := Ground.phase }, { on := 13, ground := Ground.phase }], guard := none }
def opSzs : Array Oper := #[opSz0, opSz1, opSz2, opSz3, opSz4, opSz5, opSz6, opSz7, opSz8, opSz9, opSz10, opSz11, opSz12, opSz13, opSz14]
def opSzT (i : Nat) : Nat := match i with
  | 0 => 13
  | 1 => 14
  | 2 => 15
  | 3 => 16
  | 4 => 17
  | 5 => 18
  | 6 => 19
  | 7 => 20
  | 8 => 21
  | 9 => 22
  | 10 => 23
  | 11 => 24
  | 12 => 25
  | 13 => 26
  | _ => 4
/-- what each operation's value is -/
def opSzC (g1 : Nat) (gl : Nat) (qx : Option Addr) (lx : Nat) (cx : Nat) (qy : Option Addr) (ly : Nat) (cy : Nat) (i : Nat) (_w : World) (v : Value) : Prop := match i with
  | 0 => v = .pointer (some ⟨g1, 3, none⟩)
  | 1 => v = .pointer (some ⟨gl, 0, none⟩)
  | 2 => v = .pointer (some ⟨gl, 0, none⟩)
  | 3 => v = .pointer (some ⟨gl, 0, none⟩)
  | 4 => v = .slice qx lx cx
  | 5 => v = .int .i64 (lx : Int)
  | 6 => v = .pointer (some ⟨g1, 3, none⟩)
  | 7 => v = .pointer (some ⟨gl, 0, none⟩)
  | 8 => v = .pointer (some ⟨gl, 0, none⟩)
  | 9 => v = .pointer (some ⟨gl, 1, none⟩)
  | 10 => v = .slice qy ly cy
  | 11 => v = .int .i64 (ly : Int)
  | 12 => v = .int .i64 ((min lx ly : Nat) : Int)
  | 13 => v = .int .i64 (((min lx ly : Nat) : Int) - 4)
  | _ => v = .int .i64 (((min lx ly : Nat) : Int) - 4)
theorem opSzC_but {g1 : Nat} {gl : Nat} {qx : Option Addr} {lx : Nat} {cx : Nat} {qy : Option Addr} {ly : Nat} {cy : Nat} {i : Nat} {w w' : World} {v : Value} (h : opSzC g1 gl qx lx cx qy ly cy i w v) (hi : i < 15) (_hb : But [] w w') : opSzC g1 gl qx lx cx qy ly cy i w' v := by
  have : i = 0 ∨ i = 1 ∨ i = 2 ∨ i = 3 ∨ i = 4 ∨ i = 5 ∨ i = 6 ∨ i = 7 ∨ i = 8 ∨ i = 9 ∨ i = 10 ∨ i = 11 ∨ i = 12 ∨ i = 13 ∨ i = 14 := by omega
  rcases this with rfl | rfl | rfl | rfl | rfl | rfl | rfl | rfl | rfl | rfl | rfl | rfl | rfl | rfl | rfl
  all_goals first | exact h | exact FracAt.but h hb | exact FracsAt.but h hb
theorem opSzT_inj : ∀ i j, i < 15 → j < 15 → opSzT i = opSzT j → i = j := fun i j hi hj => (by decide : ∀ i, i < 15 → ∀ j, j < 15 → opSzT i = opSzT j → i = j) i hi j hj
set_option maxRecDepth 100000 in
theorem size_region (id : Nat) (Q : Exit → Act → World → Prop) (base : Act) (W0 : World) (g1 : Nat) (gl : Nat) (qx : Option Addr) (lx : Nat) (cx : Nat) (qy : Option Addr) (ly : Nat) (cy : Nat) (hs : 26 < base.tmps.size) (e1 : base.eval (.tmp 1) = .pointer (some ⟨g1, 0, none⟩))
    (hlx : lx < 1000000) (hly : ly < 1000000) (cp : W0.cell? ⟨g1, 3, none⟩ = some (.pointer (some ⟨gl, 0, none⟩))) (cx0 : W0.cell? ⟨gl, 0, none⟩ = some (.slice qx lx cx)) (cy0 : W0.cell? ⟨gl, 1, none⟩ = some (.slice qy ly cy))
    (hQ : ∀ w, But [] W0 w → Q .normal (putted base [(13, .pointer (some ⟨g1, 3, none⟩)), (14, .pointer (some ⟨gl, 0, none⟩)), (15, .pointer (some ⟨gl, 0, none⟩)), (16, .pointer (some ⟨gl, 0, none⟩)), (17, .slice qx lx cx), (18, .int .i64 (lx : Int)), (19, .pointer (some ⟨g1, 3, none⟩)), (20, .pointer (some ⟨gl, 0, none⟩)), (21, .pointer (some ⟨gl, 0, none⟩)), (22, .pointer (some ⟨gl, 1, none⟩)), (23, .slice qy ly cy), (24, .int .i64 (ly : Int)), (25, .int .i64 ((min lx ly : Nat) : Int)), (26, .int .i64 (((min lx ly : Nat) : Int) - 4)), (4, .int .i64 (((min lx ly : Nat) : Int) - 4))]) w) :
    (Code.region id opSzs true).wp Tryz.prog Q base W0 := by
  have hdr : ∀ {w}, But [] W0.drew w → But [] W0 w := fun h => (But.refl _ _).drew.trans' h
  have hT : ∀ i, i < 15 → opSzT i < base.tmps.size := fun i hi => by
    have h : opSzT i ≤ 26 := by revert i; decide
    omega
  refine region_go (by kernel_rfl) (low_of (by kernel_rfl)) (opSzC g1 gl qx lx cx qy ly cy) opSzT (by kernel_rfl) ?_ opSzT_inj hT (fun i w w' v hi h hb => opSzC_but h hi hb) ?_ ?_
  · intro i o j want ho hg w v hv
    have hi : i < 15 := (Array.getElem?_eq_some_iff.1 ho).1
    have : i = 0 ∨ i = 1 ∨ i = 2 ∨ i = 3 ∨ i = 4 ∨ i = 5 ∨ i = 6 ∨ i = 7 ∨ i = 8 ∨ i = 9 ∨ i = 10 ∨ i = 11 ∨ i = 12 ∨ i = 13 ∨ i = 14 := by omega
    rcases this with rfl | rfl | rfl | rfl | rfl | rfl | rfl | rfl | rfl | rfl | rfl | rfl | rfl | rfl | rfl
    · obtain rfl := Option.some.inj ((show opSzs[0]? = some opSz0 from rfl).symm.trans ho)
      exact absurd (show (none : Option (Nat × Bool)) = some (j, want) from hg) (by simp)
    · obtain rfl := Option.some.inj ((show opSzs[1]? = some opSz1 from rfl).symm.trans ho)
      exact absurd (show (none : Option (Nat × Bool)) = some (j, want) from hg) (by simp)
    · obtain rfl := Option.some.inj ((show opSzs[2]? = some opSz2 from rfl).symm.trans ho)
      exact absurd (show (none : Option (Nat × Bool)) = some (j, want) from hg) (by simp)
    · obtain rfl := Option.some.inj ((show opSzs[3]? = some opSz3 from rfl).symm.trans ho)
      exact absurd (show (none : Option (Nat × Bool)) = some (j, want) from hg) (by simp)
    · obtain rfl := Option.some.inj ((show opSzs[4]? = some opSz4 from rfl).symm.trans ho)
      exact absurd (show (none : Option (Nat × Bool)) = some (j, want) from hg) (by simp)
    · obtain rfl := Option.some.inj ((show opSzs[5]? = some opSz5 from rfl).symm.trans ho)
      exact absurd (show (none : Option (Nat × Bool)) = some (j, want) from hg) (by simp)
    · obtain rfl := Option.some.inj ((show opSzs[6]? = some opSz6 from rfl).symm.trans ho)
      exact absurd (show (none : Option (Nat × Bool)) = some (j, want) from hg) (by simp)
    · obtain rfl := Option.some.inj ((show opSzs[7]? = some opSz7 from rfl).symm.trans ho)
      exact absurd (show (none : Option (Nat × Bool)) = some (j, want) from hg) (by simp)
    · obtain rfl := Option.some.inj ((show opSzs[8]? = some opSz8 from rfl).symm.trans ho)
      exact absurd (show (none : Option (Nat × Bool)) = some (j, want) from hg) (by simp)
    · obtain rfl := Option.some.inj ((show opSzs[9]? = some opSz9 from rfl).symm.trans ho)
      exact absurd (show (none : Option (Nat × Bool)) = some (j, want) from hg) (by simp)
    · obtain rfl := Option.some.inj ((show opSzs[10]? = some opSz10 from rfl).symm.trans ho)
      exact absurd (show (none : Option (Nat × Bool)) = some (j, want) from hg) (by simp)
    · obtain rfl := Option.some.inj ((show opSzs[11]? = some opSz11 from rfl).symm.trans ho)
      exact absurd (show (none : Option (Nat × Bool)) = some (j, want) from hg) (by simp)
    · obtain rfl := Option.some.inj ((show opSzs[12]? = some opSz12 from rfl).symm.trans ho)
      exact absurd (show (none : Option (Nat × Bool)) = some (j, want) from hg) (by simp)
    · obtain rfl := Option.some.inj ((show opSzs[13]? = some opSz13 from rfl).symm.trans ho)
      exact absurd (show (none : Option (Nat × Bool)) = some (j, want) from hg) (by simp)
    · obtain rfl := Option.some.inj ((show opSzs[14]? = some opSz14 from rfl).symm.trans ho)
      exact absurd (show (none : Option (Nat × Bool)) = some (j, want) from hg) (by simp)
  · intro i o a w K ho hH he hdep hk
    have hi : i < 15 := (Array.getElem?_eq_some_iff.1 ho).1
    have hD := dep_have (ps := [(1, 0), (2, 1), (3, 2), (4, 3), (5, 4), (7, 6), (8, 7), (9, 8), (10, 9), (11, 10), (12, 5), (12, 11), (13, 12), (14, 0), (14, 1), (14, 2), (14, 3), (14, 4), (14, 5), (14, 6), (14, 7), (14, 8), (14, 9), (14, 10), (14, 11), (14, 12), (14, 13)]) (by kernel_rfl) ho (fun j => opSzC g1 gl qx lx cx qy ly cy j w (a.eval (.tmp (opSzT j)))) hdep
    have e1' := (he 1 (fun j hj e => absurd e.symm (by revert j; decide))).trans e1
    have : i = 0 ∨ i = 1 ∨ i = 2 ∨ i = 3 ∨ i = 4 ∨ i = 5 ∨ i = 6 ∨ i = 7 ∨ i = 8 ∨ i = 9 ∨ i = 10 ∨ i = 11 ∨ i = 12 ∨ i = 13 ∨ i = 14 := by omega
    rcases this with rfl | rfl | rfl | rfl | rfl | rfl | rfl | rfl | rfl | rfl | rfl | rfl | rfl | rfl | rfl
    · obtain rfl := Option.some.inj ((show opSzs[0]? = some opSz0 from rfl).symm.trans ho)
      exact wp_value (run_fieldL a w _ _ _ _ _ _ g1 e1') (hk _ _ (But.refl _ _) rfl)
    · obtain rfl := Option.some.inj ((show opSzs[1]? = some opSz1 from rfl).symm.trans ho)
      exact wp_value (run_loadP a w _ _ _ _ _ _ g1 3 _ (hD 0 (by simp)) ((hdr hH).cell_some cp (by simp))) (hk _ _ (But.refl _ _) rfl)
    · obtain rfl := Option.some.inj ((show opSzs[2]? = some opSz2 from rfl).symm.trans ho)
      exact wp_value (run_nilCheck a w _ _ _ _ _ _ _ (hD 1 (by simp))) (hk _ _ (But.refl _ _) rfl)
    · obtain rfl := Option.some.inj ((show opSzs[3]? = some opSz3 from rfl).symm.trans ho)
      exact wp_value (run_fieldP0 a w _ _ _ _ _ _ gl (hD 2 (by simp))) (hk _ _ (But.refl _ _) rfl)
    · obtain rfl := Option.some.inj ((show opSzs[4]? = some opSz4 from rfl).symm.trans ho)
      exact wp_value (run_loadN a w _ _ _ _ _ _ gl 0 _ _ _ (hD 3 (by simp)) ((hdr hH).cell_some cx0 (by simp))) (hk _ _ (But.refl _ _) rfl)
    · obtain rfl := Option.some.inj ((show opSzs[5]? = some opSz5 from rfl).symm.trans ho)
      exact wp_value (run_lenN a w _ _ _ _ _ _ _ _ _ (hD 4 (by simp))) (hk _ _ (But.refl _ _) rfl)
    · obtain rfl := Option.some.inj ((show opSzs[6]? = some opSz6 from rfl).symm.trans ho)
      exact wp_value (run_fieldL a w _ _ _ _ _ _ g1 e1') (hk _ _ (But.refl _ _) rfl)
    · obtain rfl := Option.some.inj ((show opSzs[7]? = some opSz7 from rfl).symm.trans ho)
      exact wp_value (run_loadP a w _ _ _ _ _ _ g1 3 _ (hD 6 (by simp)) ((hdr hH).cell_some cp (by simp))) (hk _ _ (But.refl _ _) rfl)
    · obtain rfl := Option.some.inj ((show opSzs[8]? = some opSz8 from rfl).symm.trans ho)
      exact wp_value (run_nilCheck a w _ _ _ _ _ _ _ (hD 7 (by simp))) (hk _ _ (But.refl _ _) rfl)
    · obtain rfl := Option.some.inj ((show opSzs[9]? = some opSz9 from rfl).symm.trans ho)
      exact wp_value (run_fieldP1 a w _ _ _ _ _ _ gl (hD 8 (by simp))) (hk _ _ (But.refl _ _) rfl)
    · obtain rfl := Option.some.inj ((show opSzs[10]? = some opSz10 from rfl).symm.trans ho)
      exact wp_value (run_loadN a w _ _ _ _ _ _ gl 1 _ _ _ (hD 9 (by simp)) ((hdr hH).cell_some cy0 (by simp))) (hk _ _ (But.refl _ _) rfl)
    · obtain rfl := Option.some.inj ((show opSzs[11]? = some opSz11 from rfl).symm.trans ho)
      exact wp_value (run_lenN a w _ _ _ _ _ _ _ _ _ (hD 10 (by simp))) (hk _ _ (But.refl _ _) rfl)
    · obtain rfl := Option.some.inj ((show opSzs[12]? = some opSz12 from rfl).symm.trans ho)
      exact wp_value (run_min a w _ _ _ _ _ _ _ lx ly (hD 5 (by simp)) (hD 11 (by simp))) (hk _ _ (But.refl _ _) rfl)
    · obtain rfl := Option.some.inj ((show opSzs[13]? = some opSz13 from rfl).symm.trans ho)
      exact wp_value (run_less4 a w _ _ _ _ _ _ _ (by omega) (hD 12 (by simp))) (hk _ _ (But.refl _ _) rfl)
    · obtain rfl := Option.some.inj ((show opSzs[14]? = some opSz14 from rfl).symm.trans ho)
      exact wp_value (run_as a w _ _ _ _ _ _ _ (hD 13 (by simp))) (hk _ _ (But.refl _ _) rfl)
  · intro a w h
    have ea := h.puts hT (fun i => match i with
      | 0 => .pointer (some ⟨g1, 3, none⟩)
      | 1 => .pointer (some ⟨gl, 0, none⟩)
      | 2 => .pointer (some ⟨gl, 0, none⟩)
      | 3 => .pointer (some ⟨gl, 0, none⟩)
      | 4 => .slice qx lx cx
      | 5 => .int .i64 (lx : Int)
      | 6 => .pointer (some ⟨g1, 3, none⟩)
      | 7 => .pointer (some ⟨gl, 0, none⟩)
      | 8 => .pointer (some ⟨gl, 0, none⟩)
      | 9 => .pointer (some ⟨gl, 1, none⟩)
      | 10 => .slice qy ly cy
      | 11 => .int .i64 (ly : Int)
      | 12 => .int .i64 ((min lx ly : Nat) : Int)
      | 13 => .int .i64 (((min lx ly : Nat) : Int) - 4)
      | _ => .int .i64 (((min lx ly : Nat) : Int) - 4)) (fun i hi => by
      have hi' : i < 15 := hi
      have hc := h.has i hi rfl
      have : i = 0 ∨ i = 1 ∨ i = 2 ∨ i = 3 ∨ i = 4 ∨ i = 5 ∨ i = 6 ∨ i = 7 ∨ i = 8 ∨ i = 9 ∨ i = 10 ∨ i = 11 ∨ i = 12 ∨ i = 13 ∨ i = 14 := by omega
      rcases this with rfl | rfl | rfl | rfl | rfl | rfl | rfl | rfl | rfl | rfl | rfl | rfl | rfl | rfl | rfl
      all_goals first | exact hc | rfl)
    rw [ea]
    exact hQ w (hdr h.but)
def opHi0 : Oper := { dst := some 32, op := Op.fieldAddr 33 (Operand.tmp 1) 3, type := 0, pos := "split.go:78", after := #[], guard := none }
def opHi1 : Oper := { dst := some 33, op := Op.load 31 (Operand.tmp 32), type := 31, pos := "split.go:78", after := #[{ on := 0, ground := Ground.data }], guard := none }
def opHi2 : Oper := { dst := some 34, op := Op.nilCheck (Operand.tmp 33), type := 0, pos := "split.go:78", after := #[{ on := 1, ground := Ground.data }], guard := none }
def opHi3 : Oper := { dst := some 35, op := Op.fieldAddr 65 (Operand.tmp 34) 0, type := 0, pos := "split.go:78", after := #[{ on := 2, ground := Ground.data }], guard := none }
def opHi4 : Oper := { dst := some 36, op := Op.load 53 (Operand.tmp 35), type := 53, pos := "split.go:78", after := #[{ on := 3, ground := Ground.data }], guard := none }
def opHi5 : Oper := { dst := some 37, op := Op.move (Operand.tmp 4), type := 3, pos := "split.go:78", after := #[], guard := none }
def opHi6 : Oper := { dst := some 38, op := Op.call { callee := Callee.value (Operand.func 57), args := #[Operand.tmp 36, Operand.tmp 37], argTypes := #[53, 3] }, type := 53, pos := "split.go:78", after := #[{ on := 4, ground := Ground.data }, { on := 5, ground := Ground.data }], guard := none }
def opHi7 : Oper := { dst := some 39, op := Op.fieldAddr 33 (Operand.tmp 1) 3, type := 0, pos := "split.go:78", after := #[], guard := none }
def opHi8 : Oper := { dst := some 40, op := Op.load 31 (Operand.tmp 39), type := 31, pos := "split.go:78", after := #[{ on := 7, ground := Ground.data }], guard := none }
def opHi9 : Oper := { dst := some 41, op := Op.nilCheck (Operand.tmp 40), type := 0, pos := "split.go:78", after := #[{ on := 8, ground := Ground.data }], guard := none }
def opHi10 : Oper := { dst := some 42, op := Op.fieldAddr 65 (Operand.tmp 41) 1, type := 0, pos := "split.go:78", after := #[{ on := 9, ground := Ground.data }], guard := none }
def opHi11 : Oper := { dst := some 43, op := Op.load 53 (Operand.tmp 42), type := 53, pos := "split.go:78", after := #[{ on := 10, ground := Ground.data }], guard := none }
def opHi12 : Oper := { dst := some 44, op := Op.move (Operand.tmp 4), type := 3, pos := "split.go:78", after := #[], guard := none }
def opHi13 : Oper := { dst := some 45, op := Op.call { callee := Callee.value (Operand.func 57), args := #[Operand.tmp 43, Operand.tmp 44], argTypes := #[53, 3] }, type := 53, pos := "split.go:78", after := #[{ on := 11, ground := Ground.data }, { on := 12, ground := Ground.data }, { on := 6, ground := Ground.chain }], guard := none }
def opHi14 : Oper := { dst := some 6, op := Op.assign (Operand.tmp 38), type := 53, pos := "split.go:78", after := #[{ on := 6, ground := Ground.data }, { on := 13, ground := Ground.chain }, { on := 0, ground := Ground.phase }, { on := 1, ground := Ground.phase }, { on := 2, ground := Ground.phase }, { on := 3, ground := Ground.phase }, { on := 4, ground := Ground.phase }, { on := 5, ground := Ground.phase }, { on := 6, ground := Ground.phase }, { on := 7, ground := Ground.textOnly Departure.lateStores }, { on := 8, ground := Ground.textOnly Departure.lateStores }, { on := 9, ground := Ground.textOnly Departure.lateStores }, { on := 10, ground := Ground.textOnly Departure.lateStores }, { on := 11, ground := Ground.textOnly Departure.lateStores }, { on := 12, ground := Ground.textOnly Departure.lateStores }, { on := 13, ground := Ground.textOnly Departure.lateStoresUnsure }], guard := none }
def opHi15 : Oper := { dst := some 7, op := Op.assign (Operand.tmp 45), type := 53, pos := "split.go:78", after := #[{ on := 13, ground := Ground.data }, { on := 14, ground := Ground.chain }, { on := 0, ground := Ground.phase }, { on := 1, ground := Ground.phase }, { on := 2, ground := Ground.phase }, { on := 3, ground := Ground.phase }, { on := 4, ground := Ground.phase }, { on := 5, ground := Ground.phase }, { on := 6, ground := Ground.phase }, { on := 7, ground := Ground.phase }, { on := 8, ground := Ground.phase }, { on := 9, ground := Ground.phase }, { on := 10, ground := Ground.phase }, { on := 11, ground := Ground.phase }, { on := 12, ground := Ground.phase }, { on := 13, ground := Ground.phase }, { on := 14, ground := Ground.phase }], guard := none }
def opHis : Array Oper := #[opHi0, opHi1, opHi2, opHi3, opHi4, opHi5, opHi6, opHi7, opHi8, opHi9, opHi10, opHi11, opHi12, opHi13, opHi14, opHi15]
def opHiT (i : Nat) : Nat := match i with
  | 0 => 32
  | 1 => 33
  | 2 => 34
  | 3 => 35
  | 4 => 36
  | 5 => 37
  | 6 => 38
  | 7 => 39
  | 8 => 40
  | 9 => 41
  | 10 => 42
  | 11 => 43
  | 12 => 44
  | 13 => 45
  | 14 => 6
  | _ => 7
/-- what each operation's value is -/
def opHiC (g1 : Nat) (gl : Nat) (qx : Option Addr) (lx : Nat) (cx : Nat) (qy : Option Addr) (ly : Nat) (cy : Nat) (n : Nat) (M : Nat) (N : Nat) (i : Nat) (w : World) (v : Value) : Prop := match i with
  | 0 => v = .pointer (some ⟨g1, 3, none⟩)
  | 1 => v = .pointer (some ⟨gl, 0, none⟩)
  | 2 => v = .pointer (some ⟨gl, 0, none⟩)
  | 3 => v = .pointer (some ⟨gl, 0, none⟩)
  | 4 => v = .slice qx lx cx
  | 5 => v = .int .i64 (n : Int)
  | 6 => Sl .u64 w v (wd 18446744073709551616 M)
  | 7 => v = .pointer (some ⟨g1, 3, none⟩)
  | 8 => v = .pointer (some ⟨gl, 0, none⟩)
  | 9 => v = .pointer (some ⟨gl, 0, none⟩)
  | 10 => v = .pointer (some ⟨gl, 1, none⟩)
  | 11 => v = .slice qy ly cy
  | 12 => v = .int .i64 (n : Int)
  | 13 => Sl .u64 w v (wd 18446744073709551616 N)
  | 14 => Sl .u64 w v (wd 18446744073709551616 M)
  | _ => Sl .u64 w v (wd 18446744073709551616 N)
theorem opHiC_but {g1 : Nat} {gl : Nat} {qx : Option Addr} {lx : Nat} {cx : Nat} {qy : Option Addr} {ly : Nat} {cy : Nat} {n : Nat} {M : Nat} {N : Nat} {i : Nat} {w w' : World} {v : Value} (h : opHiC g1 gl qx lx cx qy ly cy n M N i w v) (hi : i < 16) (hb : But [] w w') : opHiC g1 gl qx lx cx qy ly cy n M N i w' v := by
  have : i = 0 ∨ i = 1 ∨ i = 2 ∨ i = 3 ∨ i = 4 ∨ i = 5 ∨ i = 6 ∨ i = 7 ∨ i = 8 ∨ i = 9 ∨ i = 10 ∨ i = 11 ∨ i = 12 ∨ i = 13 ∨ i = 14 ∨ i = 15 := by omega
  rcases this with rfl | rfl | rfl | rfl | rfl | rfl | rfl | rfl | rfl | rfl | rfl | rfl | rfl | rfl | rfl | rfl
  all_goals first | exact h | exact Sl.but_nil h hb
theorem opHiT_inj : ∀ i j, i < 16 → j < 16 → opHiT i = opHiT j → i = j := fun i j hi hj => (by decide : ∀ i, i < 16 → ∀ j, j < 16 → opHiT i = opHiT j → i = j) i hi j hj
set_option maxRecDepth 100000 in
theorem high_region (id : Nat) (Q : Exit → Act → World → Prop) (base : Act) (W0 : World) (g1 : Nat) (gl : Nat) (qx : Option Addr) (lx : Nat) (cx : Nat) (qy : Option Addr) (ly : Nat) (cy : Nat) (n : Nat) (M : Nat) (N : Nat) (hs : 45 < base.tmps.size) (e1 : base.eval (.tmp 1) = .pointer (some ⟨g1, 0, none⟩)) (e4 : base.eval (.tmp 4) = .int .i64 (n : Int))
    (cp : W0.cell? ⟨g1, 3, none⟩ = some (.pointer (some ⟨gl, 0, none⟩))) (cx0 : W0.cell? ⟨gl, 0, none⟩ = some (.slice qx lx cx)) (cy0 : W0.cell? ⟨gl, 1, none⟩ = some (.slice qy ly cy))
    (HX : ∀ w, But [] W0 w → Calls Tryz.prog 57 #[.slice qx lx cx, .int .i64 (n : Int)] w fun e w' => ∃ v, e = .returned v ∧ Sl .u64 w' v (wd 18446744073709551616 M) ∧ But [] w w')
    (HY : ∀ w, But [] W0 w → Calls Tryz.prog 57 #[.slice qy ly cy, .int .i64 (n : Int)] w fun e w' => ∃ v, e = .returned v ∧ Sl .u64 w' v (wd 18446744073709551616 N) ∧ But [] w w')
    (hQ : ∀ w (v6 : Value) (v13 : Value) (v14 : Value) (v15 : Value), But [] W0 w → (Sl .u64 w v14 (wd 18446744073709551616 M)) → (Sl .u64 w v15 (wd 18446744073709551616 N)) → Q .normal (putted base [(32, .pointer (some ⟨g1, 3, none⟩)), (33, .pointer (some ⟨gl, 0, none⟩)), (34, .pointer (some ⟨gl, 0, none⟩)), (35, .pointer (some ⟨gl, 0, none⟩)), (36, .slice qx lx cx), (37, .int .i64 (n : Int)), (38, v6), (39, .pointer (some ⟨g1, 3, none⟩)), (40, .pointer (some ⟨gl, 0, none⟩)), (41, .pointer (some ⟨gl, 0, none⟩)), (42, .pointer (some ⟨gl, 1, none⟩)), (43, .slice qy ly cy), (44, .int .i64 (n : Int)), (45, v13), (6, v14), (7, v15)]) w) :
    (Code.region id opHis true).wp Tryz.prog Q base W0 := by
  have hdr : ∀ {w}, But [] W0.drew w → But [] W0 w := fun h => (But.refl _ _).drew.trans' h
  have hT : ∀ i, i < 16 → opHiT i < base.tmps.size := fun i hi => by
    have h : opHiT i ≤ 45 := by revert i; decide
    omega
  refine region_go (by kernel_rfl) (low_of (by kernel_rfl)) (opHiC g1 gl qx lx cx qy ly cy n M N) opHiT (by kernel_rfl) ?_ opHiT_inj hT (fun i w w' v hi h hb => opHiC_but h hi hb) ?_ ?_
  · intro i o j want ho hg w v hv
    have hi : i < 16 := (Array.getElem?_eq_some_iff.1 ho).1
    have : i = 0 ∨ i = 1 ∨ i = 2 ∨ i = 3 ∨ i = 4 ∨ i = 5 ∨ i = 6 ∨ i = 7 ∨ i = 8 ∨ i = 9 ∨ i = 10 ∨ i = 11 ∨ i = 12 ∨ i = 13 ∨ i = 14 ∨ i = 15 := by omega
    rcases this with rfl | rfl | rfl | rfl | rfl | rfl | rfl | rfl | rfl | rfl | rfl | rfl | rfl | rfl | rfl | rfl
    · obtain rfl := Option.some.inj ((show opHis[0]? = some opHi0 from rfl).symm.trans ho)
      exact absurd (show (none : Option (Nat × Bool)) = some (j, want) from hg) (by simp)
    · obtain rfl := Option.some.inj ((show opHis[1]? = some opHi1 from rfl).symm.trans ho)
      exact absurd (show (none : Option (Nat × Bool)) = some (j, want) from hg) (by simp)
    · obtain rfl := Option.some.inj ((show opHis[2]? = some opHi2 from rfl).symm.trans ho)
      exact absurd (show (none : Option (Nat × Bool)) = some (j, want) from hg) (by simp)
    · obtain rfl := Option.some.inj ((show opHis[3]? = some opHi3 from rfl).symm.trans ho)
      exact absurd (show (none : Option (Nat × Bool)) = some (j, want) from hg) (by simp)
    · obtain rfl := Option.some.inj ((show opHis[4]? = some opHi4 from rfl).symm.trans ho)
      exact absurd (show (none : Option (Nat × Bool)) = some (j, want) from hg) (by simp)
    · obtain rfl := Option.some.inj ((show opHis[5]? = some opHi5 from rfl).symm.trans ho)
      exact absurd (show (none : Option (Nat × Bool)) = some (j, want) from hg) (by simp)
    · obtain rfl := Option.some.inj ((show opHis[6]? = some opHi6 from rfl).symm.trans ho)
      exact absurd (show (none : Option (Nat × Bool)) = some (j, want) from hg) (by simp)
    · obtain rfl := Option.some.inj ((show opHis[7]? = some opHi7 from rfl).symm.trans ho)
      exact absurd (show (none : Option (Nat × Bool)) = some (j, want) from hg) (by simp)
    · obtain rfl := Option.some.inj ((show opHis[8]? = some opHi8 from rfl).symm.trans ho)
      exact absurd (show (none : Option (Nat × Bool)) = some (j, want) from hg) (by simp)
    · obtain rfl := Option.some.inj ((show opHis[9]? = some opHi9 from rfl).symm.trans ho)
      exact absurd (show (none : Option (Nat × Bool)) = some (j, want) from hg) (by simp)
    · obtain rfl := Option.some.inj ((show opHis[10]? = some opHi10 from rfl).symm.trans ho)
      exact absurd (show (none : Option (Nat × Bool)) = some (j, want) from hg) (by simp)
    · obtain rfl := Option.some.inj ((show opHis[11]? = some opHi11 from rfl).symm.trans ho)
      exact absurd (show (none : Option (Nat × Bool)) = some (j, want) from hg) (by simp)
    · obtain rfl := Option.some.inj ((show opHis[12]? = some opHi12 from rfl).symm.trans ho)
      exact absurd (show (none : Option (Nat × Bool)) = some (j, want) from hg) (by simp)
    · obtain rfl := Option.some.inj ((show opHis[13]? = some opHi13 from rfl).symm.trans ho)
      exact absurd (show (none : Option (Nat × Bool)) = some (j, want) from hg) (by simp)
    · obtain rfl := Option.some.inj ((show opHis[14]? = some opHi14 from rfl).symm.trans ho)
      exact absurd (show (none : Option (Nat × Bool)) = some (j, want) from hg) (by simp)
    · obtain rfl := Option.some.inj ((show opHis[15]? = some opHi15 from rfl).symm.trans ho)
      exact absurd (show (none : Option (Nat × Bool)) = some (j, want) from hg) (by simp)
  · intro i o a w K ho hH he hdep hk
    have hi : i < 16 := (Array.getElem?_eq_some_iff.1 ho).1
    have hD := dep_have (ps := [(1, 0), (2, 1), (3, 2), (4, 3), (6, 4), (6, 5), (8, 7), (9, 8), (10, 9), (11, 10), (13, 6), (13, 11), (13, 12), (14, 0), (14, 1), (14, 2), (14, 3), (14, 4), (14, 5), (14, 6), (14, 13), (15, 0), (15, 1), (15, 2), (15, 3), (15, 4), (15, 5), (15, 6), (15, 7), (15, 8), (15, 9), (15, 10), (15, 11), (15, 12), (15, 13), (15, 14)]) (by kernel_rfl) ho (fun j => opHiC g1 gl qx lx cx qy ly cy n M N j w (a.eval (.tmp (opHiT j)))) hdep
    have e1' := (he 1 (fun j hj e => absurd e.symm (by revert j; decide))).trans e1
    have e4' := (he 4 (fun j hj e => absurd e.symm (by revert j; decide))).trans e4
    have : i = 0 ∨ i = 1 ∨ i = 2 ∨ i = 3 ∨ i = 4 ∨ i = 5 ∨ i = 6 ∨ i = 7 ∨ i = 8 ∨ i = 9 ∨ i = 10 ∨ i = 11 ∨ i = 12 ∨ i = 13 ∨ i = 14 ∨ i = 15 := by omega
    rcases this with rfl | rfl | rfl | rfl | rfl | rfl | rfl | rfl | rfl | rfl | rfl | rfl | rfl | rfl | rfl | rfl
    · obtain rfl := Option.some.inj ((show opHis[0]? = some opHi0 from rfl).symm.trans ho)
      exact wp_value (run_fieldL a w _ _ _ _ _ _ g1 e1') (hk _ _ (But.refl _ _) rfl)
    · obtain rfl := Option.some.inj ((show opHis[1]? = some opHi1 from rfl).symm.trans ho)
      exact wp_value (run_loadP a w _ _ _ _ _ _ g1 3 _ (hD 0 (by simp)) ((hdr hH).cell_some cp (by simp))) (hk _ _ (But.refl _ _) rfl)
    · obtain rfl := Option.some.inj ((show opHis[2]? = some opHi2 from rfl).symm.trans ho)
      exact wp_value (run_nilCheck a w _ _ _ _ _ _ _ (hD 1 (by simp))) (hk _ _ (But.refl _ _) rfl)
    · obtain rfl := Option.some.inj ((show opHis[3]? = some opHi3 from rfl).symm.trans ho)
      exact wp_value (run_fieldP0 a w _ _ _ _ _ _ gl (hD 2 (by simp))) (hk _ _ (But.refl _ _) rfl)
    · obtain rfl := Option.some.inj ((show opHis[4]? = some opHi4 from rfl).symm.trans ho)
      exact wp_value (run_loadN a w _ _ _ _ _ _ gl 0 _ _ _ (hD 3 (by simp)) ((hdr hH).cell_some cx0 (by simp))) (hk _ _ (But.refl _ _) rfl)
    · obtain rfl := Option.some.inj ((show opHis[5]? = some opHi5 from rfl).symm.trans ho)
      exact wp_value (run_mv a w _ _ _ _ _ _ _ e4') (hk _ _ (But.refl _ _) rfl)
    · obtain rfl := Option.some.inj ((show opHis[6]? = some opHi6 from rfl).symm.trans ho)
      exact wp_enter (run_high a w _ _ _ _ _ _ _ _ _ (hD 4 (by simp)) (hD 5 (by simp))) (R := fun w' v => Sl .u64 w' v (wd 18446744073709551616 M) ∧ But [] w w') (HX w (hdr hH)) (fun v w' hv => hk v w' hv.2 hv.1)
    · obtain rfl := Option.some.inj ((show opHis[7]? = some opHi7 from rfl).symm.trans ho)
      exact wp_value (run_fieldL a w _ _ _ _ _ _ g1 e1') (hk _ _ (But.refl _ _) rfl)
    · obtain rfl := Option.some.inj ((show opHis[8]? = some opHi8 from rfl).symm.trans ho)
      exact wp_value (run_loadP a w _ _ _ _ _ _ g1 3 _ (hD 7 (by simp)) ((hdr hH).cell_some cp (by simp))) (hk _ _ (But.refl _ _) rfl)
    · obtain rfl := Option.some.inj ((show opHis[9]? = some opHi9 from rfl).symm.trans ho)
      exact wp_value (run_nilCheck a w _ _ _ _ _ _ _ (hD 8 (by simp))) (hk _ _ (But.refl _ _) rfl)
    · obtain rfl := Option.some.inj ((show opHis[10]? = some opHi10 from rfl).symm.trans ho)
      exact wp_value (run_fieldP1 a w _ _ _ _ _ _ gl (hD 9 (by simp))) (hk _ _ (But.refl _ _) rfl)
    · obtain rfl := Option.some.inj ((show opHis[11]? = some opHi11 from rfl).symm.trans ho)
      exact wp_value (run_loadN a w _ _ _ _ _ _ gl 1 _ _ _ (hD 10 (by simp)) ((hdr hH).cell_some cy0 (by simp))) (hk _ _ (But.refl _ _) rfl)
    · obtain rfl := Option.some.inj ((show opHis[12]? = some opHi12 from rfl).symm.trans ho)
      exact wp_value (run_mv a w _ _ _ _ _ _ _ e4') (hk _ _ (But.refl _ _) rfl)
    · obtain rfl := Option.some.inj ((show opHis[13]? = some opHi13 from rfl).symm.trans ho)
      exact wp_enter (run_high a w _ _ _ _ _ _ _ _ _ (hD 11 (by simp)) (hD 12 (by simp))) (R := fun w' v => Sl .u64 w' v (wd 18446744073709551616 N) ∧ But [] w w') (HY w (hdr hH)) (fun v w' hv => hk v w' hv.2 hv.1)
    · obtain rfl := Option.some.inj ((show opHis[14]? = some opHi14 from rfl).symm.trans ho)
      exact wp_value (run_as a w _ _ _ _ _ _ _ rfl) (hk _ _ (But.refl _ _) (hD 6 (by simp)))
    · obtain rfl := Option.some.inj ((show opHis[15]? = some opHi15 from rfl).symm.trans ho)
      exact wp_value (run_as a w _ _ _ _ _ _ _ rfl) (hk _ _ (But.refl _ _) (hD 13 (by simp)))
  · intro a w h
    have ea := h.puts hT (fun i => match i with
      | 0 => .pointer (some ⟨g1, 3, none⟩)
      | 1 => .pointer (some ⟨gl, 0, none⟩)
      | 2 => .pointer (some ⟨gl, 0, none⟩)
      | 3 => .pointer (some ⟨gl, 0, none⟩)
      | 4 => .slice qx lx cx
      | 5 => .int .i64 (n : Int)
      | 6 => a.eval (.tmp 38)
      | 7 => .pointer (some ⟨g1, 3, none⟩)
      | 8 => .pointer (some ⟨gl, 0, none⟩)
      | 9 => .pointer (some ⟨gl, 0, none⟩)
      | 10 => .pointer (some ⟨gl, 1, none⟩)
      | 11 => .slice qy ly cy
      | 12 => .int .i64 (n : Int)
      | 13 => a.eval (.tmp 45)
      | 14 => a.eval (.tmp 6)
      | _ => a.eval (.tmp 7)) (fun i hi => by
      have hi' : i < 16 := hi
      have hc := h.has i hi rfl
      have : i = 0 ∨ i = 1 ∨ i = 2 ∨ i = 3 ∨ i = 4 ∨ i = 5 ∨ i = 6 ∨ i = 7 ∨ i = 8 ∨ i = 9 ∨ i = 10 ∨ i = 11 ∨ i = 12 ∨ i = 13 ∨ i = 14 ∨ i = 15 := by omega
      rcases this with rfl | rfl | rfl | rfl | rfl | rfl | rfl | rfl | rfl | rfl | rfl | rfl | rfl | rfl | rfl | rfl
      all_goals first | exact hc | rfl)
    rw [ea]
    exact hQ w (a.eval (.tmp 38)) (a.eval (.tmp 45)) (a.eval (.tmp 6)) (a.eval (.tmp 7)) (hdr h.but) (h.has 14 (by decide) rfl) (h.has 15 (by decide) rfl)
end Go.Proofs.YtlkpkgajfakdpaaGreat

namespace Go.Proofs.YtlkpkgajfakdpaaGreat
open Go.RowKit

/-- one number divided by another one -/
def over (M N : Nat) : Rat := ((M : Int) : Rat) / ((N : Int) : Rat)
theorem over_mul (M N : Nat) (hN : 0 < N) : over M N * ((N : Int) : Rat) = ((M : Int) : Rat) := by
  unfold over
  have hne := int_ne (N : Int) (by omega)
  rw [Rat.div_def, Rat.mul_assoc, Rat.inv_mul_cancel _ hne, Rat.mul_one]
theorem over_rel (M N : Nat) (hN : 0 < N) : (over M N).num * (N : Int) = sgn false M * ((over M N).den : Int) := by
  have h1 := over_mul M N hN
  have h2 := den_times (over M N)
  have h3 : (((over M N).num * (N : Int) : Int) : Rat) = (((M : Int) * ((over M N).den : Int) : Int) : Rat) := by
    rw [Rat.intCast_mul, Rat.intCast_mul, ← h1, ← h2]
    grind
  have h4 := Rat.intCast_inj.1 h3
  simpa [sgn] using h4
theorem over_fit (M N : Nat) (hN : 0 < N) : (over M N).num.natAbs ≤ M ∧ (over M N).den ≤ N := by
  have h3 := over_rel M N hN
  have h4 := congrArg Int.natAbs h3
  rw [Int.natAbs_mul, Int.natAbs_mul, Int.natAbs_natCast, Int.natAbs_natCast, sgn_abs] at h4
  generalize over M N = z at *
  have h5 : z.den ∣ z.num.natAbs * N := ⟨M, by rw [h4, Nat.mul_comm]⟩
  have h6 : z.den ∣ N := (Nat.Coprime.symm z.reduced).dvd_of_dvd_mul_left h5
  refine ⟨?_, Nat.le_of_dvd hN h6⟩
  obtain ⟨t, ht⟩ := h6
  have ht0 : 0 < t := by
    rcases Nat.eq_zero_or_pos t with e | e
    · rw [e, Nat.mul_zero] at ht; omega
    · exact e
  have h7 : z.num.natAbs * t = M := by
    rw [ht] at h4
    have hz := den_pos z
    refine Nat.eq_of_mul_eq_mul_right hz ?_
    rw [← h4]
    rw [Nat.mul_assoc, Nat.mul_comm t]
  rw [← h7]
  exact Nat.le_mul_of_pos_right _ ht0
theorem over_nonneg (M N : Nat) (hN : 0 < N) : 0 ≤ over M N := by
  unfold over
  rw [Rat.div_def]
  have h1 : (0 : Rat) ≤ ((M : Int) : Rat) := by
    have : ((0 : Int) : Rat) ≤ ((M : Int) : Rat) := Rat.intCast_le_intCast.2 (by omega)
    simpa using this
  exact Rat.mul_nonneg h1 (Rat.le_of_lt (Rat.inv_pos.2 (int_pos (by omega))))
theorem over_len (M N k : Nat) (hN : 0 < N) (h1 : M < 18446744073709551616 ^ k) (h2 : N < 18446744073709551616 ^ k) : Len (over M N) k := by
  obtain ⟨f1, f2⟩ := over_fit M N hN
  exact len_of (m := k) (n := k) (by omega) (by omega) k (Nat.le_refl _) (Nat.le_refl _)
theorem mul_le_cancel {a b c : Rat} (hc : 0 < c) (h : a * c ≤ b * c) : a ≤ b := Rat.le_of_mul_le_mul_right h hc
theorem le_up (Y P : Nat) (hP : 0 < P) : Y ≤ (Y / P + 1) * P := by
  have h1 := Nat.div_add_mod Y P
  have h2 := Nat.mod_lt Y hP
  rw [Nat.add_mul, Nat.one_mul, Nat.mul_comm (Y / P)]
  omega
theorem bound_low (f : Rat) (X Y P : Nat) (hP : 0 < P) (hX : f.num = (X : Int)) (hY : f.den = Y) : over (X / P) (Y / P + 1) ≤ f := by
  have hd := pos_den f
  have hp : (0 : Rat) < (((Y / P + 1 : Nat) : Int) : Rat) := int_pos (Int.natCast_pos.2 (Nat.succ_pos _))
  have h1 := over_mul (X / P) (Y / P + 1) (Nat.succ_pos _)
  have h2 := den_times f
  rw [hX, hY] at h2
  rw [hY] at hd
  refine mul_le_cancel hp (mul_le_cancel hd ?_)
  have hn : X / P * Y ≤ X * (Y / P + 1) := by
    have e1 : X / P * P ≤ X := Nat.div_mul_le_self X P
    have e2 : Y ≤ (Y / P + 1) * P := le_up _ P hP
    calc X / P * Y ≤ X / P * ((Y / P + 1) * P) := Nat.mul_le_mul_left _ e2
      _ = X / P * P * (Y / P + 1) := by rw [Nat.mul_comm (Y / P + 1), Nat.mul_assoc]
      _ ≤ X * (Y / P + 1) := Nat.mul_le_mul_right _ e1
  have hn2 : (((X / P : Nat) : Int) : Rat) * ((Y : Int) : Rat) ≤ ((X : Int) : Rat) * (((Y / P + 1 : Nat) : Int) : Rat) := by
    rw [← Rat.intCast_mul, ← Rat.intCast_mul]
    exact Rat.intCast_le_intCast.2 (by exact_mod_cast hn)
  rw [h1]
  have e3 : f * (((Y / P + 1 : Nat) : Int) : Rat) * ((Y : Int) : Rat) = ((X : Int) : Rat) * (((Y / P + 1 : Nat) : Int) : Rat) := by rw [← h2]; grind
  rw [e3]
  exact hn2
theorem bound_high (f : Rat) (X Y P : Nat) (hP : 0 < P) (hY0 : 0 < Y / P) (hX : f.num = (X : Int)) (hY : f.den = Y) : f ≤ over (X / P + 1) (Y / P) := by
  have hd := pos_den f
  have hp : (0 : Rat) < (((Y / P : Nat) : Int) : Rat) := int_pos (Int.natCast_pos.2 hY0)
  have h1 := over_mul (X / P + 1) (Y / P) hY0
  have h2 := den_times f
  rw [hX, hY] at h2
  rw [hY] at hd
  refine mul_le_cancel hp (mul_le_cancel hd ?_)
  have hn : X * (Y / P) ≤ (X / P + 1) * Y := by
    have e1 : Y / P * P ≤ Y := Nat.div_mul_le_self Y P
    have e2 : X ≤ (X / P + 1) * P := le_up _ P hP
    calc X * (Y / P) ≤ (X / P + 1) * P * (Y / P) := Nat.mul_le_mul_right _ e2
      _ = (X / P + 1) * (Y / P * P) := by rw [Nat.mul_assoc, Nat.mul_comm P]
      _ ≤ (X / P + 1) * Y := Nat.mul_le_mul_left _ e1
  have hn2 : ((X : Int) : Rat) * (((Y / P : Nat) : Int) : Rat) ≤ (((X / P + 1 : Nat) : Int) : Rat) * ((Y : Int) : Rat) := by
    rw [← Rat.intCast_mul, ← Rat.intCast_mul]
    exact Rat.intCast_le_intCast.2 (by exact_mod_cast hn)
  rw [h1]
  have e3 : f * (((Y / P : Nat) : Int) : Rat) * ((Y : Int) : Rat) = ((X : Int) : Rat) * (((Y / P : Nat) : Int) : Rat) := by rw [← h2]; grind
  rw [e3]
  exact hn2
end Go.Proofs.YtlkpkgajfakdpaaGreat

namespace Go.Proofs.YtlkpkgajfakdpaaGreat
open Go.RowKit

theorem natHigh_but (v : Value) (X n : Nat) (w : World) (hv : Sl .u64 w v (wd 18446744073709551616 X)) (hl : (wd 18446744073709551616 X).length < 2147483648) (hn : n < 2147483648) :
    Calls Tryz.prog 57 #[v, .int .i64 (n : Int)] w fun e w' => ∃ v', e = .returned v' ∧ Sl .u64 w' v' (wd 18446744073709551616 (X / 18446744073709551616 ^ n)) ∧ But [] w w' :=
  (natHigh_any v X n w hv hl hn).mono fun e w' ⟨v', he, hs, hw⟩ => ⟨v', he, by rw [hw]; exact hs, by rw [hw]; exact But.refl _ _⟩
/-- two fractions, one not above f, one not below it -/
structure Bounds (f : Rat) (w w' : World) (v1 v2 : Value) : Prop where
  ex : ∃ lo hi : Rat, FracAt w' v1 lo ∧ FracAt w' v2 hi ∧ lo ≤ f ∧ f ≤ hi ∧ 0 ≤ lo ∧ Len lo 151 ∧ Len hi 151
  but : But [] w w'
set_option maxHeartbeats 8000000 in
set_option maxRecDepth 100000 in
theorem bounds_any (v : Value) (f : Rat) (w : World) (hf : FracAt w v f) (h0 : 0 ≤ f.num) (lf : Len f 150) :
    Calls Tryz.prog 32 #[v] w fun e w' => ∃ s1 x1 y1 p1 s2 x2 y2 p2, e = .returned (.tuple #[.agg #[.bool s1, .int .u64 x1, .int .u64 y1, .pointer p1], .agg #[.bool s2, .int .u64 x2, .int .u64 y2, .pointer p2]]) ∧ Bounds f w w' (.agg #[.bool s1, .int .u64 x1, .int .u64 y1, .pointer p1]) (.agg #[.bool s2, .int .u64 x2, .int .u64 y2, .pointer p2]) := by
  have HF0 := hide hf
  have hcase := hf
  obtain ⟨x, y, p, rfl, -⟩ := hf.agg
  generalize hs : decide (f.num < 0) = s at *
  clear hf
  obtain ⟨W, hW⟩ : ∃ W, W = ((w.alloc (.cells #[.bool s, .int .u64 x, .int .u64 y, .pointer p] 33)).alloc (.cells #[.bool false, .int .u64 0, .int .u64 0, .pointer none] 33)).alloc (.cells #[.bool false, .int .u64 0, .int .u64 0, .pointer none] 33) := ⟨_, rfl⟩
  have hB : But [] w W := by rw [hW]; exact (((But.refl _ _).alloc _).alloc _).alloc _
  obtain ⟨c1, c2, c3, f2, f3⟩ : P4 W w.heap.size s x y p ∧ P4 W (w.heap.size + 1) false 0 0 none ∧ P4 W (w.heap.size + 2) false 0 0 none ∧ (∀ j, W.frozen? ⟨w.heap.size + 1, j, none⟩ = false) ∧ (∀ j, W.frozen? ⟨w.heap.size + 2, j, none⟩ = false) := by
    obtain ⟨A, hA⟩ : ∃ A, A = w.alloc (.cells #[.bool s, .int .u64 x, .int .u64 y, .pointer p] 33) := ⟨_, rfl⟩
    obtain ⟨Z, hZ⟩ : ∃ Z, Z = A.alloc (.cells #[.bool false, .int .u64 0, .int .u64 0, .pointer none] 33) := ⟨_, rfl⟩
    rw [← hA, ← hZ] at hW
    have zA : A.heap.size = w.heap.size + 1 := by rw [hA]; simp
    have zZ : Z.heap.size = w.heap.size + 2 := by rw [hZ]; simp [zA]
    have bA : But [] A Z := by rw [hZ]; exact (But.refl _ _).alloc _
    have bZ : But [] Z W := by rw [hW]; exact (But.refl _ _).alloc _
    have k1 : P4 A w.heap.size s x y p := by rw [hA]; exact ⟨by simp, by simp, by simp, by simp⟩
    have k2 : P4 Z (w.heap.size + 1) false 0 0 none := by rw [← zA, hZ]; exact ⟨by simp, by simp, by simp, by simp⟩
    have k3 : P4 W (w.heap.size + 2) false 0 0 none := by rw [← zZ, hW]; exact ⟨by simp, by simp, by simp, by simp⟩
    refine ⟨k1.but (bA.trans' bZ) (by simp), k2.but bZ (by simp), k3, fun j => ?_, fun j => ?_⟩
    · refine (bZ.frozen (p := ⟨w.heap.size + 1, j, none⟩) (by simp; omega) (by simp)).trans ?_
      rw [← zA, hZ]; simp
    · rw [← zZ, hW]; simp
  have HF : Hid (FracAt W (.agg #[.bool s, .int .u64 x, .int .u64 y, .pointer p]) f) := (unhide HF0).but hB
  obtain ⟨g1, hg1⟩ : ∃ g1, g1 = w.heap.size := ⟨_, rfl⟩
  obtain ⟨g2, hg2⟩ : ∃ g2, g2 = w.heap.size + 1 := ⟨_, rfl⟩
  obtain ⟨g3, hg3⟩ : ∃ g3, g3 = w.heap.size + 2 := ⟨_, rfl⟩
  rw [← hg1] at c1
  rw [← hg2] at c2 f2
  rw [← hg3] at c3 f3
  have FIN : Hid (∀ w1, But [g2] W w1 → P4 w1 g2 s x y p → Bounds f w (put4 w1 g3 s x y p) (.agg #[.bool s, .int .u64 x, .int .u64 y, .pointer p]) (.agg #[.bool s, .int .u64 x, .int .u64 y, .pointer p]) ∧ P4 (put4 w1 g3 s x y p) g2 s x y p ∧ P4 (put4 w1 g3 s x y p) g3 s x y p) := fun w1 hb hp => by
    have hP := put4_but w1 g3 s x y p
    have c3' := c3.but hb (by simp; omega)
    have hf2 := ((unhide HF).over c2.1 hb).over c3'.1 hP
    refine ⟨⟨⟨f, f, hf2, hf2, Rat.le_refl, Rat.le_refl, Rat.num_nonneg.1 h0, lf.mono (by omega), lf.mono (by omega)⟩, ?_⟩, hp.but hP (by simp; omega), put4_p4 w1 g3 s x y p c3'⟩
    exact (hB.trans hb (fun x hx => by simp at hx; subst hx; exact .inr (by omega))).trans hP (fun x hx => by simp at hx; subst hx; exact .inr (by omega))
  have HB := hide hB
  have HW := hide hW
  have C1 := hide c1
  have C2 := hide c2
  have C3 := hide c3
  have F2 := hide f2
  have F3 := hide f3
  have o12 : g1 < g2 := by omega
  have o23 : g2 < g3 := by omega
  have O1 : Hid (w.heap.size = g1) := hg1.symm
  rcases hcase with ⟨-, -, hv⟩ | ⟨hbig, gl, v1, v2, hv, l1, l2, S1, S2⟩
  · -- words
    simp only [Value.agg.injEq, Array.mk.injEq, List.cons.injEq, Value.pointer.injEq, and_true] at hv
    obtain ⟨-, -, -, rfl⟩ := hv
    clear hB hW c1 c2 c3 f2 f3 HF0 lf h0 hs
    go_enter Tryz.func32, Tryz.ntmps32
    go_wp2
    rw [← unhide HW]
    rw [show w.heap.size + 1 + 1 = w.heap.size + 2 from rfl, ← hg3, ← hg2, ← hg1]
    clear hg1 hg2 hg3 HW
    refine pair_region 2 _ _ W s x y none g1 g2 g3 (by omega) (by omega) (by simp) (by simp [Act.eval]) (by simp [Act.eval]) (by simp [Act.eval]) (unhide C1) (unhide C2) (unhide C3) (unhide F2) (unhide F3) ?_
    intro w1 vq hb hp
    obtain ⟨k1, ⟨m0, m1, m2, m3⟩, ⟨r0, r1, r2, r3⟩⟩ := unhide FIN w1 hb hp
    clear FIN
    generalize put4 w1 g3 s x y none = V at *
    simp only [putted, List.foldl_cons, List.foldl_nil, Act.put, List.setIfInBounds_toArray, List.set_cons_zero, List.set_cons_succ]
    go_wp2
    exact bodyPost_ret (v := .tuple #[.agg #[.bool s, .int .u64 x, .int .u64 y, .pointer none], .agg #[.bool s, .int .u64 x, .int .u64 y, .pointer none]]) (by simp [results, Tryz.results32, go_sem, m0, m1, m2, m3, r0, r1, r2, r3]) rfl ⟨_, _, _, _, _, _, _, _, rfl, k1⟩
  · simp only [Value.agg.injEq, Array.mk.injEq, List.cons.injEq, Value.pointer.injEq, and_true] at hv
    obtain ⟨-, -, -, rfl⟩ := hv
    have LX := lf.1
    have LY := lf.2
    obtain ⟨X, hX⟩ : ∃ X, X = f.num.natAbs := ⟨_, rfl⟩
    have hXn : f.num = (X : Int) := by omega
    obtain ⟨Y, hY⟩ : ∃ Y, Y = f.den := ⟨_, rfl⟩
    rw [← hX] at S1 LX
    rw [← hY] at S2 LY
    have XL : X < 18446744073709551616 ^ 150 := by rw [hX]; exact lf.lt.1
    have YL : Y < 18446744073709551616 ^ 150 := by rw [hY]; exact lf.lt.2
    have HX1 := hide S1
    have HX2 := hide S2
    obtain ⟨q1, k1, rfl, -, -⟩ := id S1
    obtain ⟨q2, k2, rfl, -, -⟩ := id S2
    obtain ⟨lx, hlx⟩ : ∃ lx, lx = (wd 18446744073709551616 X).length := ⟨_, rfl⟩
    obtain ⟨ly, hly⟩ : ∃ ly, ly = (wd 18446744073709551616 Y).length := ⟨_, rfl⟩
    rw [← hlx] at l1 HX1 LX
    rw [← hly] at l2 HX2 LY
    have cp : W.cell? ⟨g1, 3, none⟩ = some (.pointer (some ⟨gl, 0, none⟩)) := c1.2.2.2
    have d1 := hB.cell_some l1 (by simp)
    have d2 := hB.cell_some l2 (by simp)
    have CP := hide cp
    have D1 := hide d1
    have D2 := hide d2
    by_cases hsm : min lx ly ≤ 4
    · -- short
      have hle : (((min lx ly : Nat) : Int) - 4 ≤ 0) := by omega
      have hl1 : lx < 1000000 := by omega
      have hl2 : ly < 1000000 := by omega
      obtain ⟨n1, n2, n3, n4⟩ := c1
      clear hB hW c2 c3 f2 f3 HF0 lf h0 hs hbig l1 l2 S1 S2 XL YL HX1 HX2 cp d1 d2 hX hXn hY hlx hly LX LY
      go_enter Tryz.func32, Tryz.ntmps32
      go_wp2
      rw [← unhide HW]
      rw [show w.heap.size + 1 + 1 = w.heap.size + 2 from rfl, ← hg3, ← hg2, ← hg1]
      clear hg1 hg2 hg3 HW
      refine size_region 3 _ _ W g1 gl q1 lx k1 q2 ly k2 (by simp) (by simp [Act.eval]) hl1 hl2 (unhide CP) (unhide D1) (unhide D2) ?_
      intro w0 hb0
      have HB0 := hide hb0
      clear hb0
      simp only [putted, List.foldl_cons, List.foldl_nil, Act.put, List.setIfInBounds_toArray, List.set_cons_zero, List.set_cons_succ]
      generalize ((min lx ly : Nat) : Int) - 4 = z at hle
      generalize ((min lx ly : Nat) : Int) = z2
      clear hsm
      go_wp2
      refine pair_region5 5 _ _ w0 s x y (some ⟨gl, 0, none⟩) g1 g2 g3 (by omega) (by omega) (by simp) (by simp [Act.eval]) (by simp [Act.eval]) (by simp [Act.eval]) ((unhide C1).but (unhide HB0) (by simp)) ((unhide C2).but (unhide HB0) (by simp)) ((unhide C3).but (unhide HB0) (by simp)) (fun j => ((unhide HB0).frozen (p := ⟨g2, j, none⟩) (show g2 < W.heap.size from lt_of_cell (unhide C2).1) (by simp)).trans (unhide F2 j)) (fun j => ((unhide HB0).frozen (p := ⟨g3, j, none⟩) (show g3 < W.heap.size from lt_of_cell (unhide C3).1) (by simp)).trans (unhide F3 j)) ?_
      intro w1 vq hb hp
      obtain ⟨k1, ⟨m0, m1, m2, m3⟩, ⟨r0, r1, r2, r3⟩⟩ := unhide FIN w1 ((unhide HB0).of_nil.trans hb (fun x hx => .inl hx)) hp
      clear FIN
      generalize put4 w1 g3 s x y (some ⟨gl, 0, none⟩) = V at *
      simp only [putted, List.foldl_cons, List.foldl_nil, Act.put, List.setIfInBounds_toArray, List.set_cons_zero, List.set_cons_succ]
      go_wp2
      exact bodyPost_ret (v := .tuple #[.agg #[.bool s, .int .u64 x, .int .u64 y, .pointer (some ⟨gl, 0, none⟩)], .agg #[.bool s, .int .u64 x, .int .u64 y, .pointer (some ⟨gl, 0, none⟩)]]) (by simp [results, Tryz.results32, go_sem, m0, m1, m2, m3, r0, r1, r2, r3]) rfl ⟨_, _, _, _, _, _, _, _, rfl, k1⟩
    · obtain ⟨n, hn⟩ : ∃ n, min lx ly = n + 4 := ⟨min lx ly - 4, by omega⟩
      have hn0 : 0 < n := by omega
      have hYn : 0 < Y / 18446744073709551616 ^ n := Nat.div_pos (by
        rcases Nat.lt_or_ge Y (18446744073709551616 ^ n) with h | h
        · have := wd_length_le (by omega) _ _ h
          omega
        · exact h) (Nat.pow_pos (by omega))
      have hMX : X / 18446744073709551616 ^ n ≤ X := Nat.div_le_self _ _
      have hNY : Y / 18446744073709551616 ^ n ≤ Y := Nat.div_le_self _ _
      have hlow := bound_low f X Y (18446744073709551616 ^ n) (Nat.pow_pos (by omega)) hXn hY.symm
      have hhigh := bound_high f X Y (18446744073709551616 ^ n) (Nat.pow_pos (by omega)) hYn hXn hY.symm
      have h151 : 18446744073709551616 ^ 150 + 1 < 18446744073709551616 ^ 151 := by decide +kernel
      have HX := hide (fun W' (h : But [] W W') => natHigh_but _ X n W' ((unhide HX1).but_nil (hB.trans' h)) (by omega) (by omega))
      have HY := hide (fun W' (h : But [] W W') => natHigh_but _ Y n W' ((unhide HX2).but_nil (hB.trans' h)) (by omega) (by omega))
      generalize X / 18446744073709551616 ^ n = M at *
      generalize Y / 18446744073709551616 ^ n = N at *
      have wlen : ∀ k, k ≤ 18446744073709551616 ^ 150 → (wd 18446744073709551616 k).length ≤ 151 := fun k hk => wd_length_le (by omega) _ _ (by omega)
      have m1 := wlen M (by omega)
      have m2 := wlen N (by omega)
      have m3 := wlen (M + 1) (by omega)
      have m4 := wlen (N + 1) (by omega)
      have one1 : (wd 18446744073709551616 1).length ≤ 151 := wlen 1 (by omega)
      have ON := hide (natOf_any 1 (by omega))
      have A1 := hide (fun W' va vb (ha : Sl .u64 W' va (wd 18446744073709551616 N)) (hb : Sl .u64 W' vb (wd 18446744073709551616 1)) => natAdd_any va vb N 1 W' ha hb (by omega) (by omega))
      have A2 := hide (fun W' va vb (ha : Sl .u64 W' va (wd 18446744073709551616 M)) (hb : Sl .u64 W' vb (wd 18446744073709551616 1)) => natAdd_any va vb M 1 W' ha hb (by omega) (by omega))
      have N1 := hide (fun W' va vb (ha : Sl .u64 W' va (wd 18446744073709551616 M)) (hb : Sl .u64 W' vb (wd 18446744073709551616 (N + 1))) => ofNumbers_any false va vb M (N + 1) W' ha hb (by omega) (by omega) (by omega) _ (over_rel M (N + 1) (by omega)))
      have N2 := hide (fun W' va vb (ha : Sl .u64 W' va (wd 18446744073709551616 (M + 1))) (hb : Sl .u64 W' vb (wd 18446744073709551616 N)) => ofNumbers_any false va vb (M + 1) N W' ha hb (by omega) (by omega) (by omega) _ (over_rel (M + 1) N (by omega)))
      have LL : Hid (over M (N + 1) ≤ f ∧ f ≤ over (M + 1) N ∧ 0 ≤ over M (N + 1) ∧ Len (over M (N + 1)) 151 ∧ Len (over (M + 1) N) 151) := ⟨hlow, hhigh, over_nonneg _ _ (by omega), over_len _ _ _ (by omega) (by omega) (by omega), over_len _ _ _ (by omega) (by omega) (by omega)⟩
      have hl1 : lx < 1000000 := by omega
      have hl2 : ly < 1000000 := by omega
      have hz : ((min lx ly : Nat) : Int) - 4 = (n : Int) := by omega
      obtain ⟨n1, n2, n3, n4⟩ := c1
      clear hB hW c2 c3 f2 f3 HF0 lf h0 hs hbig l1 l2 S1 S2 XL YL HX1 HX2 cp d1 d2 hX hXn hY hlx hly LX LY hlow hhigh h151 wlen m1 m2 m3 m4 one1 hMX hNY hYn FIN
      generalize over M (N + 1) = lo at *
      generalize over (M + 1) N = hi at *
      go_enter Tryz.func32, Tryz.ntmps32
      go_wp2
      rw [← unhide HW]
      rw [show w.heap.size + 1 + 1 = w.heap.size + 2 from rfl, ← hg3, ← hg2, ← hg1]
      clear hg1 hg2 hg3 HW
      refine size_region 3 _ _ W g1 gl q1 lx k1 q2 ly k2 (by simp) (by simp [Act.eval]) hl1 hl2 (unhide CP) (unhide D1) (unhide D2) ?_
      intro w0 hb0
      rw [hz]
      generalize ((min lx ly : Nat) : Int) = z2
      have HB0 := hide hb0
      clear hb0 hsm hn hz
      simp only [putted, List.foldl_cons, List.foldl_nil, Act.put, List.setIfInBounds_toArray, List.set_cons_zero, List.set_cons_succ]
      go_wp2_with fail
      refine (unhide ON _).mono ?_
      rintro e w1 ⟨v5, rfl, hs5, hb1, -⟩
      have HS5 := hide hs5
      have HB1 : Hid (But [] W w1) := (unhide HB0).trans' hb1
      clear hs5 hb1 HB0 ON
      go_wp2
      refine high_region 7 _ _ w1 g1 gl q1 lx k1 q2 ly k2 n M N (by simp) (by simp [Act.eval]) (by simp [Act.eval]) ((unhide HB1).cell_some (unhide CP) (by simp)) ((unhide HB1).cell_some (unhide D1) (by simp)) ((unhide HB1).cell_some (unhide D2) (by simp)) (fun W' h => unhide HX W' ((unhide HB1).trans' h)) (fun W' h => unhide HY W' ((unhide HB1).trans' h)) ?_
      intro w2 u6 u13 u14 u15 hb2 h14 h15
      have HM := hide h14
      have HN := hide h15
      have H1 : Hid (Sl .u64 w2 v5 (wd 18446744073709551616 1)) := (unhide HS5).but_nil hb2
      have HB2 : Hid (But [] W w2) := (unhide HB1).trans' hb2
      clear hb2 h14 h15 HS5 HB1 HX HY
      simp only [putted, List.foldl_cons, List.foldl_nil, Act.put, List.setIfInBounds_toArray, List.set_cons_zero, List.set_cons_succ]
      go_wp2_with fail
      refine (unhide A1 _ _ _ (unhide HN) (unhide H1)).mono ?_
      rintro e w3 ⟨v3, rfl, hs3, hb3⟩
      have HN1 := hide hs3
      have HB3 : Hid (But [] W w3) := (unhide HB2).trans' hb3
      replace HM : Hid (Sl .u64 w3 u14 (wd 18446744073709551616 M)) := (unhide HM).but_nil hb3
      replace HN : Hid (Sl .u64 w3 u15 (wd 18446744073709551616 N)) := (unhide HN).but_nil hb3
      replace H1 : Hid (Sl .u64 w3 v5 (wd 18446744073709551616 1)) := (unhide H1).but_nil hb3
      clear hs3 hb3 HB2 A1
      go_wp2_with fail
      refine (unhide N1 _ _ _ (unhide HM) (unhide HN1)).mono ?_
      rintro e w4 ⟨v4, rfl, hs4, hb4⟩
      have HLO := hide hs4
      have HB4 : Hid (But [] W w4) := (unhide HB3).trans' hb4
      replace HM : Hid (Sl .u64 w4 u14 (wd 18446744073709551616 M)) := (unhide HM).but_nil hb4
      replace HN : Hid (Sl .u64 w4 u15 (wd 18446744073709551616 N)) := (unhide HN).but_nil hb4
      replace H1 : Hid (Sl .u64 w4 v5 (wd 18446744073709551616 1)) := (unhide H1).but_nil hb4
      clear hs4 hb4 HB3 N1 HN1
      go_wp2_with fail
      refine (unhide A2 _ _ _ (unhide HM) (unhide H1)).mono ?_
      rintro e w5 ⟨v6, rfl, hs5, hb5⟩
      have HM1 := hide hs5
      have HB5 : Hid (But [] W w5) := (unhide HB4).trans' hb5
      replace HN : Hid (Sl .u64 w5 u15 (wd 18446744073709551616 N)) := (unhide HN).but_nil hb5
      replace HLO : Hid (FracAt w5 v4 lo) := (unhide HLO).but hb5
      clear hs5 hb5 HB4 A2 HM H1
      go_wp2_with fail
      refine (unhide N2 _ _ _ (unhide HM1) (unhide HN)).mono ?_
      rintro e w6 ⟨v7, rfl, hs6, hb6⟩
      have hlo := (unhide HLO).but hb6
      have HB6 : Hid (But [] W w6) := (unhide HB5).trans' hb6
      have hhi := hs6
      obtain ⟨xa, ya, pa, rfl, -⟩ := hlo.agg
      obtain ⟨xb, yb, pb, rfl, -⟩ := hhi.agg
      generalize decide (lo.num < 0) = sa at *
      generalize decide (hi.num < 0) = sb at *
      have HLO' := hide hlo
      have HHI := hide hhi
      clear hs6 hb6 HB5 N2 HM1 HN HLO hlo hhi
      have kc2 := (unhide C2).but (unhide HB6) (by simp)
      have kc3 := (unhide C3).but (unhide HB6) (by simp)
      have z2' : ∀ j, w6.frozen? ⟨g2, j, none⟩ = false := fun j => ((unhide HB6).frozen (p := ⟨g2, j, none⟩) (show g2 < W.heap.size from lt_of_cell (unhide C2).1) (by simp)).trans (unhide F2 j)
      have z3' : ∀ j, w6.frozen? ⟨g3, j, none⟩ = false := fun j => ((unhide HB6).frozen (p := ⟨g3, j, none⟩) (show g3 < W.heap.size from lt_of_cell (unhide C3).1) (by simp)).trans (unhide F3 j)
      have KC2 := hide kc2
      have KC3 := hide kc3
      obtain ⟨a0, a1, a2, a3⟩ := kc2
      obtain ⟨b0, b1, b2, b3⟩ := kc3
      have hne : g3 ≠ g2 := by omega
      go_wp2
      have hP := put4_but w6 g2 sa xa ya pa
      have hP2 := put4_but (put4 w6 g2 sa xa ya pa) g3 sb xb yb pb
      have kb := (unhide KC3).but hP (by simpa using hne)
      obtain ⟨m0, m1, m2, m3⟩ := (put4_p4 w6 g2 sa xa ya pa (unhide KC2)).but hP2 (by simp; omega)
      obtain ⟨r0, r1, r2, r3⟩ := put4_p4 (put4 w6 g2 sa xa ya pa) g3 sb xb yb pb kb
      have fa := ((unhide HLO').over (unhide KC2).1 hP).over kb.1 hP2
      have fb := ((unhide HHI).over (unhide KC2).1 hP).over kb.1 hP2
      have hFB : But [] w (put4 (put4 w6 g2 sa xa ya pa) g3 sb xb yb pb) := (((unhide HB).trans' (unhide HB6)).trans hP (fun x hx => by simp at hx; subst hx; exact .inr (by have := unhide O1; omega))).trans hP2 (fun x hx => by simp at hx; subst hx; exact .inr (by have := unhide O1; omega))
      change bodyPost _ _ _ _ _ (put4 (put4 w6 g2 sa xa ya pa) g3 sb xb yb pb)
      generalize put4 (put4 w6 g2 sa xa ya pa) g3 sb xb yb pb = V at *
      exact bodyPost_ret (v := .tuple #[.agg #[.bool sa, .int .u64 xa, .int .u64 ya, .pointer pa], .agg #[.bool sb, .int .u64 xb, .int .u64 yb, .pointer pb]]) (by simp [results, Tryz.results32, go_sem, m0, m1, m2, m3, r0, r1, r2, r3]) rfl ⟨_, _, _, _, _, _, _, _, rfl, ⟨lo, hi, fa, fb, (unhide LL).1, (unhide LL).2.1, (unhide LL).2.2.1, (unhide LL).2.2.2.1, (unhide LL).2.2.2.2⟩, hFB⟩
end Go.Proofs.YtlkpkgajfakdpaaGreat
