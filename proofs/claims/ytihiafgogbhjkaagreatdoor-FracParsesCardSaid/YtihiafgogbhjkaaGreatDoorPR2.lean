/- What single operations do, as the Go text of package frac has them: fractions and marks loaded, built, stored, their places made. -/
import Derived.Deep.RegionHeld
import Derived.Test.YtihiafgogbhjkaaGreatDoorPHF
import Derived.Test.YtihiafgogbhjkaaGreatDoorPQ2
namespace Go.Proofs.YtihiafgogbhjkaaGreatDoor
open Go.RowKit

/-- a fraction's four parts lie at a block -/
def P4 (w : World) (g : Nat) (s : Bool) (x y : Int) (p : Option Addr) : Prop := w.cell? ⟨g, 0, none⟩ = some (.bool s) ∧ w.cell? ⟨g, 1, none⟩ = some (.int .u64 x) ∧ w.cell? ⟨g, 2, none⟩ = some (.int .u64 y) ∧ w.cell? ⟨g, 3, none⟩ = some (.pointer p)
theorem P4.but {w w' : World} {g : Nat} {s : Bool} {x y : Int} {p : Option Addr} {l : List Nat} (h : P4 w g s x y p) (hb : But l w w') (hn : g ∉ l) : P4 w' g s x y p := ⟨hb.cell_some h.1 hn, hb.cell_some h.2.1 hn, hb.cell_some h.2.2.1 hn, hb.cell_some h.2.2.2 hn⟩
end Go.Proofs.YtihiafgogbhjkaaGreatDoor

namespace Go.Proofs.YtihiafgogbhjkaaGreatDoor
open Go.RowKit

theorem lenU_mono {a b : Nat} (h : a ≤ b) : (wd 4294967296 a).length ≤ (wd 4294967296 b).length := wd_length_le (by omega) _ _ (Nat.lt_of_le_of_lt h (lt_of_wd_length (by omega) b _ (Nat.le_refl _)))
end Go.Proofs.YtihiafgogbhjkaaGreatDoor

namespace Go.Proofs.YtihiafgogbhjkaaGreatDoor
open Go.RowKit

/-- lowered numbers are no longer -/
theorem lenU_of (f : Rat) (p q : Int) (n : Nat) (hq : q ≠ 0) (h : f.num * q = p * (f.den : Int)) (hp : (wd 4294967296 p.natAbs).length ≤ n) (hl : (wd 4294967296 q.natAbs).length ≤ n) : LenU f n := by
  obtain ⟨e1, e2⟩ := red_rat p q hq f h
  constructor
  · have h1 : f.num.natAbs = p.natAbs / Nat.gcd p.natAbs q.natAbs := by
      rw [e1, redN_abs]
      split <;> simp
    rw [h1]
    exact Nat.le_trans (lenU_mono (Nat.div_le_self _ _)) hp
  · have h2 : f.den = q.natAbs / Nat.gcd p.natAbs q.natAbs := by
      have := e2
      rw [redD] at this
      omega
    rw [h2]
    exact Nat.le_trans (lenU_mono (Nat.div_le_self _ _)) hl
end Go.Proofs.YtihiafgogbhjkaaGreatDoor
