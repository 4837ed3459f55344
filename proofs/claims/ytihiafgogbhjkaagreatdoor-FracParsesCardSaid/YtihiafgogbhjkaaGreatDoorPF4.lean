/- The product of two fractions, as the Go text of package frac makes it. -/
import Derived.Test.YtihiafgogbhjkaaGreatDoorPF1
import Derived.Test.YtihiafgogbhjkaaGreatDoorPN22
namespace Go.Proofs.YtihiafgogbhjkaaGreatDoor
open Go.RowKit

theorem FracAt.agg {w : World} {v : Value} {f : Rat} (h : FracAt w v f) : ∃ x y p, v = .agg #[.bool (decide (f.num < 0)), .int .u64 x, .int .u64 y, .pointer p] ∧ (p = none → f.num.natAbs < 18446744073709551616 ∧ f.den < 18446744073709551616 ∧ x = (f.num.natAbs : Int) ∧ y = (f.den : Int) - 1) := by
  rcases h with ⟨h1, h2, rfl⟩ | ⟨-, b, v1, v2, rfl, -⟩
  · exact ⟨_, _, _, rfl, fun _ => ⟨h1, h2, rfl, rfl⟩⟩
  · exact ⟨_, _, _, rfl, fun e => by simp at e⟩
/-- a place for a fraction, with nothing in it yet -/
def Blank (w : World) (g : Nat) : Prop := w.cell? ⟨g, 0, none⟩ = some (.bool false) ∧ w.cell? ⟨g, 1, none⟩ = some (.int .u64 0) ∧ w.cell? ⟨g, 2, none⟩ = some (.int .u64 0) ∧ w.cell? ⟨g, 3, none⟩ = some (.pointer none) ∧ ∀ j, 4 ≤ j → w.cell? ⟨g, j, none⟩ = none
theorem Blank.but {w w' : World} {g : Nat} (h : Blank w g) (hb : But [] w w') : Blank w' g := by
  obtain ⟨h0, h1, h2, h3, h4⟩ := h
  have hl := lt_of_cell h0
  exact ⟨hb.cell_some h0 (by simp), hb.cell_some h1 (by simp), hb.cell_some h2 (by simp), hb.cell_some h3 (by simp), fun j hj => (hb.cell (p := ⟨g, j, none⟩) hl (by simp)).trans (h4 j hj)⟩
theorem Blank.frac {w W : World} {g : Nat} (h : Blank w g) {v : Value} {f : Rat} (hf : FracAt w v f) (hb : But [g] w W) : FracAt W v f := hf.over h.1 hb

theorem len_quo (m k n : Nat) (h : (wd 18446744073709551616 m).length ≤ n) : (wd 18446744073709551616 (m / k)).length ≤ n := Nat.le_trans (wd_len_mono (Nat.div_le_self _ _)) h

end Go.Proofs.YtihiafgogbhjkaaGreatDoor
