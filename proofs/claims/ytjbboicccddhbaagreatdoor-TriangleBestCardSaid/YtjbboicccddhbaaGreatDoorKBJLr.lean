/- Places for fractions that are laid and stored into in whatever order; a fraction beside no error. -/
import Derived.Test.YtjbboicccddhbaaGreatDoorKBKNz
import Derived.Test.YtjbboicccddhbaaGreatDoorKBRN
namespace Go.Proofs.YtjbboicccddhbaaGreatDoor
open Go.RowKit
set_option linter.unusedVariables false

def FracErr (f : Rat) (w : World) (v : Value) : Prop := ∃ u, v = .tuple #[u, .nilIface] ∧ FracAt w u f
theorem FracErr.but {f : Rat} {w w' : World} {v : Value} (h : FracErr f w v) (hb : But [] w w') : FracErr f w' v := by
  obtain ⟨u, e, hu⟩ := h
  exact ⟨u, e, hu.but hb⟩
theorem put4_loose (w : World) (g : Nat) (s : Bool) (x y : Int) (p : Option Addr) (q : Addr) : (put4 w g s x y p).frozen? q = w.frozen? q := by
  unfold put4
  simp only [World.frozen?_setCell]
/-- a place for a fraction, laid since, whatever lies there -/
def LaidAny (B : Nat) (w : World) (v : Value) : Prop := ∃ b, v = .pointer (some ⟨b, 0, none⟩) ∧ B ≤ b ∧ (∃ s x y p, P4 w b s x y p) ∧ ∀ j, w.frozen? ⟨b, j, none⟩ = false
theorem LaidAny.but {B : Nat} {w w' : World} {v : Value} (h : LaidAny B w v) (hb : But [] w w') : LaidAny B w' v := by
  obtain ⟨b, e, h1, ⟨s, x, y, p, h2⟩, h3⟩ := h
  have hl : b < w.heap.size := lt_of_cell h2.1
  exact ⟨b, e, h1, ⟨s, x, y, p, h2.but hb (by simp)⟩, fun j => (hb.frozen (p := ⟨b, j, none⟩) hl (by simp)).trans (h3 j)⟩
theorem LaidAny.put {B : Nat} {w : World} {v : Value} {g : Nat} {s0 : Bool} {x0 y0 : Int} {p0 : Option Addr} (h : LaidAny B w v) (hg : P4 w g s0 x0 y0 p0) (s' : Bool) (x' y' : Int) (p' : Option Addr) : LaidAny B (put4 w g s' x' y' p') v := by
  obtain ⟨b, e, h1, ⟨s, x, y, p, h2⟩, h3⟩ := h
  refine ⟨b, e, h1, ?_, fun j => by rw [put4_loose]; exact h3 j⟩
  by_cases eb : b = g
  · subst eb
    exact ⟨s', x', y', p', put4_p4 w b s' x' y' p' hg⟩
  · exact ⟨s, x, y, p, h2.but (put4_but w g s' x' y' p') (by simpa using eb)⟩
theorem FracErr.put {f : Rat} {w : World} {v : Value} {g : Nat} {s0 : Bool} {x0 y0 : Int} {p0 : Option Addr} (h : FracErr f w v) (hg : P4 w g s0 x0 y0 p0) (s' : Bool) (x' y' : Int) (p' : Option Addr) : FracErr f (put4 w g s' x' y' p') v := by
  obtain ⟨u, e, hu⟩ := h
  exact ⟨u, e, hu.over hg.1 (put4_but w g s' x' y' p')⟩
/-- a place, laid since, that holds a fraction -/
def Stored (B : Nat) (f : Rat) (w : World) (v : Value) : Prop := ∃ b s x y p, v = .pointer (some ⟨b, 0, none⟩) ∧ B ≤ b ∧ P4 w b s x y p ∧ FracAt w (.agg #[.bool s, .int .u64 x, .int .u64 y, .pointer p]) f
theorem Stored.but {B : Nat} {f : Rat} {w w' : World} {v : Value} (h : Stored B f w v) (hb : But [] w w') : Stored B f w' v := by
  obtain ⟨b, s, x, y, p, e, h1, h2, h3⟩ := h
  exact ⟨b, s, x, y, p, e, h1, h2.but hb (by simp), h3.but hb⟩
theorem run_as (a : Act) (w : World) (d t : Nat) (u : TypeId) (ps : String) (ed : Array Edge) (gd : Option (Nat × Bool)) (N : Value) (h : a.eval (.tmp t) = N) :
    (execOp a.eval { dst := some d, op := Op.assign (.tmp t), type := u, pos := ps, after := ed, guard := gd }).run Tryz.prog w = .ok (.value N) w := by
  unfold execOp
  simp only [h]
  go_simp
theorem run_alloc4 (a : Act) (w : World) (d : Nat) (u : TypeId) (ps : String) (ed : Array Edge) (gd : Option (Nat × Bool)) :
    (execOp a.eval { dst := some d, op := Op.alloc 27, type := u, pos := ps, after := ed, guard := gd }).run Tryz.prog w = .ok (.value (.pointer (some ⟨w.heap.size, 0, none⟩))) (w.alloc (.cells #[.bool false, .int .u64 0, .int .u64 0, .pointer none] 27)) := by
  unfold execOp
  go_simp
end Go.Proofs.YtjbboicccddhbaaGreatDoor
