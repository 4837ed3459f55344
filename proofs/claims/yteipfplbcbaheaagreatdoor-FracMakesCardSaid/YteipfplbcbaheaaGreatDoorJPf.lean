/- Plain facts on fractions: what a sum and a product come to, lowered crosswise. -/
import Derived.Test.YteipfplbcbaheaaGreatDoorJBase
namespace Go.Proofs.YteipfplbcbaheaaGreatDoor
theorem rat_of_coprime (n : Int) (d : Nat) (hd : d ≠ 0) (hc : n.natAbs.Coprime d) (q : Rat) (h : q.num * d = n * q.den) : q.num = n ∧ q.den = d := by
  have e : q = ⟨n, d, hd, hc⟩ := by
    rw [Rat.mk_eq_mkRat, ← Rat.mkRat_self q, Rat.mkRat_eq_iff q.den_nz hd]
    exact h
  rw [e]
  exact ⟨rfl, rfl⟩
/-- a number with a sign -/
def sgn (s : Bool) (m : Nat) : Int := if s then -(m : Int) else (m : Int)
theorem sgn_abs (s : Bool) (m : Nat) : (sgn s m).natAbs = m := by cases s <;> simp [sgn]
theorem cross_mul (f g : Rat) : (f * g).num * (f.den * g.den : Nat) = (f.num * g.num) * (f * g).den := by
  have h := Rat.mul_def' f g
  rw [← Rat.mkRat_self (f * g), Rat.mkRat_eq_iff (f * g).den_nz (Nat.mul_ne_zero f.den_nz g.den_nz)] at h
  exact h
end Go.Proofs.YteipfplbcbaheaaGreatDoor
