/- Floats of 64 bits, no matter which NaN: sums, differences, products, quotients, roots, as laws for the walk. -/
import Derived.Laws.ComplexArith
import Derived.Laws.NewFold
import Derived.Test.YtinhoigcajddpaaDoorKBase
namespace Go.Proofs.YtinhoigcajddpaaDoor
open Go.RowKit

/-- the word is a NaN -/
def isNo (x : Nat) : Bool := (Ieee.double.read x).isNaN
/-- a float, no matter which NaN -/
def can (x : Nat) : Option Nat := if isNo x then none else some x
theorem can_some {x : Nat} (h : isNo x = false) : can x = some x := by simp [can, h]
theorem can_none {x : Nat} (h : isNo x = true) : can x = none := by simp [can, h]

theorem read_word (neg : Bool) (r : Nat) (h : r ≤ Ieee.double.infRung) : isNo (Ieee.double.word neg r) = false := by
  have hl := Ieee.double.infRung_lt
  have hm : (Ieee.double.word neg r) % Ieee.double.signWeight = r := by
    unfold Ieee.Format.word
    split
    · rw [Nat.add_mod_left]; exact Nat.mod_eq_of_lt (by omega)
    · exact Nat.mod_eq_of_lt (by omega)
  unfold isNo Ieee.Format.read
  simp only [hm]
  split
  · rfl
  split
  · rfl
  split
  · rfl
  · omega
theorem read_write (d : Ieee.Datum) (h : d.isNaN = false) : isNo (Ieee.double.write d) = false := by
  cases d with
  | number neg mag place =>
    show isNo (Ieee.double.nearest neg mag place) = false
    unfold Ieee.Format.nearest
    dsimp only
    split
    · exact read_word _ _ (Nat.zero_le _)
    · exact read_word _ _ (Nat.min_le_right _ _)
  | infinity neg => exact read_word neg _ (Nat.le_refl _)
  | nan _ _ => simp [Ieee.Datum.isNaN] at h
theorem no_big (r : Nat) (s : Nat) (_hs : s < 2) (h0 : Ieee.double.infRung < r) (h1 : r < Ieee.double.signWeight) : isNo (s * Ieee.double.signWeight + r) = true := by
  have hm : (s * Ieee.double.signWeight + r) % Ieee.double.signWeight = r := by
    rw [Nat.add_comm, Nat.mul_comm, Nat.add_mul_mod_self_left, Nat.mod_eq_of_lt h1]
  have hb : Ieee.double.binade < Ieee.double.infRung := by decide
  unfold isNo Ieee.Format.read
  simp only [hm]
  rw [if_neg (by omega), if_neg (by omega), if_neg (by omega)]
  rfl
theorem no_nan (x y t : Nat) : isNo ((Question.nanBits .f64 x y).cut t) = true := by
  have h := no_big (0x7ff0000000000000 + 1 + (t / 2) % (2 ^ 52 - 1)) (t % 2) (by omega) (by
    show 9218868437227405312 < _
    omega) (by
    show _ < 9223372036854775808
    omega)
  have e : Ieee.double.signWeight = 9223372036854775808 := by decide
  rw [e] at h
  have e2 : (Question.nanBits .f64 x y).cut t = (t % 2) * 9223372036854775808 + (0x7ff0000000000000 + 1 + (t / 2) % (2 ^ 52 - 1)) := by
    rw [← Nat.add_assoc, ← Nat.add_assoc]
    rfl
  rw [e2]
  exact h

theorem sum_no {a b d : Ieee.Datum} (h : a.sum b = some d) : a.isNaN = false ∧ b.isNaN = false ∧ d.isNaN = false := by
  cases a <;> cases b <;> simp only [Ieee.Datum.sum] at h
  all_goals first
    | (cases h; done)
    | (split at h <;> cases h <;> exact ⟨rfl, rfl, rfl⟩)
    | (cases h; exact ⟨rfl, rfl, rfl⟩)
theorem product_no {a b d : Ieee.Datum} (h : a.product b = some d) : a.isNaN = false ∧ b.isNaN = false ∧ d.isNaN = false := by
  cases a <;> cases b <;> simp only [Ieee.Datum.product] at h
  all_goals first
    | (cases h; done)
    | (split at h <;> cases h <;> exact ⟨rfl, rfl, rfl⟩)
    | (cases h; exact ⟨rfl, rfl, rfl⟩)
theorem quotient_no {n : Nat} {a b d : Ieee.Datum} (h : Ieee.Datum.quotient n a b = some d) : a.isNaN = false ∧ b.isNaN = false ∧ d.isNaN = false := by
  cases a <;> cases b <;> simp only [Ieee.Datum.quotient] at h
  all_goals first
    | (cases h; done)
    | (split at h
       · split at h <;> cases h <;> exact ⟨rfl, rfl, rfl⟩
       · cases h; exact ⟨rfl, rfl, rfl⟩)
    | (cases h; exact ⟨rfl, rfl, rfl⟩)
theorem root_no {n : Nat} {a d : Ieee.Datum} (h : Ieee.Datum.root n a = some d) : a.isNaN = false ∧ d.isNaN = false := by
  cases a <;> simp only [Ieee.Datum.root] at h
  · split at h
    · cases h; exact ⟨rfl, rfl⟩
    · split at h
      · cases h
      · cases h; exact ⟨rfl, rfl⟩
  · split at h
    · cases h
    · cases h; exact ⟨rfl, rfl⟩
  · cases h
theorem opposite_no (d : Ieee.Datum) : d.opposite.isNaN = d.isNaN := by cases d <;> rfl

/-- where there is an answer neither side is a NaN, nor is the answer -/
theorem floatBits_no {op : BinOp} {x y r : Nat} (h : floatBits op .f64 x y = some r) : isNo x = false ∧ isNo y = false ∧ isNo r = false := by
  unfold floatBits at h
  cases op <;> simp only at h <;> first | (cases h; done) | skip
  · obtain ⟨d, hd, rfl⟩ := Option.map_eq_some_iff.1 (show Option.map Ieee.double.write ((Ieee.double.read x).sum (Ieee.double.read y)) = some r from h)
    exact ⟨(sum_no hd).1, (sum_no hd).2.1, read_write d (sum_no hd).2.2⟩
  · obtain ⟨d, hd, rfl⟩ := Option.map_eq_some_iff.1 (show Option.map Ieee.double.write ((Ieee.double.read x).sum (Ieee.double.read y).opposite) = some r from h)
    exact ⟨(sum_no hd).1, by rw [← (sum_no hd).2.1, opposite_no]; rfl, read_write d (sum_no hd).2.2⟩
  · obtain ⟨d, hd, rfl⟩ := Option.map_eq_some_iff.1 (show Option.map Ieee.double.write ((Ieee.double.read x).product (Ieee.double.read y)) = some r from h)
    exact ⟨(product_no hd).1, (product_no hd).2.1, read_write d (product_no hd).2.2⟩
  · obtain ⟨d, hd, rfl⟩ := Option.map_eq_some_iff.1 (show Option.map Ieee.double.write ((Ieee.double.read x).quotient (Ieee.double.fractionBits + 2) (Ieee.double.read y)) = some r from h)
    exact ⟨(quotient_no hd).1, (quotient_no hd).2.1, read_write d (quotient_no hd).2.2⟩

/-- an operation on floats, no matter which NaN -/
def fop (op : BinOp) (a b : Option Nat) : Option Nat := a.bind fun x => b.bind fun y => floatBits op .f64 x y
def fsqrt (a : Option Nat) : Option Nat := a.bind fun x => Ieee.double.sqrt x
def fneg (a : Option Nat) : Option Nat := a.map (Op.negFloat .f64)
/-- the bits of an answer, and how many draws it takes -/
def flB (op : BinOp) (x y : Nat) (w : World) : Nat := match floatBits op .f64 x y with
  | some r => r
  | none => (Question.nanBits .f64 x y).cut (w.tape w.drawn (.nanBits .f64 x y))
def flN (op : BinOp) (x y : Nat) : Nat := if (floatBits op .f64 x y).isSome then 0 else 1
def sqB (x : Nat) (w : World) : Nat := match Ieee.double.sqrt x with
  | some r => r
  | none => (Question.nanBits .f64 x x).cut (w.tape w.drawn (.nanBits .f64 x x))
def sqN (x : Nat) : Nat := if (Ieee.double.sqrt x).isSome then 0 else 1
theorem can_flB (op : BinOp) (x y : Nat) (w : World) : can (flB op x y w) = fop op (can x) (can y) := by
  unfold flB
  cases e : floatBits op .f64 x y with
  | some r =>
    obtain ⟨h1, h2, h3⟩ := floatBits_no e
    simp only [can_some h1, can_some h2, can_some h3, fop, Option.bind_some, e]
  | none =>
    simp only [can_none (no_nan x y _)]
    unfold fop can
    split
    · rfl
    · split
      · simp
      · simp [e]
theorem can_sqB (x : Nat) (w : World) : can (sqB x w) = fsqrt (can x) := by
  unfold sqB
  cases e : Ieee.double.sqrt x with
  | some r =>
    obtain ⟨d, hd, rfl⟩ := Option.map_eq_some_iff.1 (show Option.map Ieee.double.write ((Ieee.double.read x).root (Ieee.double.fractionBits + 2)) = some r from e)
    have h1 : isNo x = false := (root_no hd).1
    simp only [can_some h1, can_some (read_write d (root_no hd).2), fsqrt, Option.bind_some, e]
  | none =>
    simp only [can_none (no_nan x x _)]
    unfold fsqrt can
    split
    · rfl
    · simp [e]
theorem isNo_neg (x : Nat) : isNo (Op.negFloat .f64 x) = isNo x := by
  have hm : (x ^^^ 2 ^ 63) % 2 ^ 63 = x % 2 ^ 63 := by
    rw [Nat.xor_mod_two_pow, Nat.mod_self, Nat.xor_zero]
  have e : Ieee.double.signWeight = 2 ^ 63 := by decide
  have e2 : Op.negFloat .f64 x = x ^^^ 2 ^ 63 := rfl
  unfold isNo Ieee.Format.read
  simp only [e, e2, hm]
  split
  · rfl
  split
  · rfl
  split
  · rfl
  · rfl
theorem can_neg (x : Nat) : can (Op.negFloat .f64 x) = fneg (can x) := by
  unfold can
  rw [isNo_neg]
  split
  · rfl
  · rfl

section
variable {P : Program} (w : World)
theorem run_neg (x : Nat) : (Op.unary .neg (.float .f64 x)).run P w = .ok (.float .f64 (Op.negFloat .f64 x)) w := rfl
theorem run_flop (op : BinOp) (hop : op = .add ∨ op = .sub ∨ op = .mul ∨ op = .quo) (x y : Nat) : (Op.floatArith op .f64 x y).run P w = .ok (.float .f64 (flB op x y w)) (w.drewN (flN op x y)) := by
  cases e : floatBits op .f64 x y with
  | some r =>
    rw [run_floatArith w e]
    simp only [flB, flN, e, Option.isSome_some, if_true]
    rfl
  | none =>
    have hw : w.drewN 1 = w.drew := rfl
    rcases hop with rfl | rfl | rfl | rfl
    all_goals
      have e' := e
      simp only [floatBits] at e'
      simp [Op.floatArith, flB, flN, e, e', Question.forced, hw]
theorem run_fl (op : BinOp) (hop : op = .add ∨ op = .sub ∨ op = .mul ∨ op = .quo) (t : TypeId) (x y : Nat) : (binOp op t (.float .f64 x) (.float .f64 y)).run P w = .ok (.float .f64 (flB op x y w)) (w.drewN (flN op x y)) := by
  have h := run_flop (P := P) w op hop x y
  rcases hop with rfl | rfl | rfl | rfl <;> exact h
theorem run_cpart (op : BinOp) (hop : op = .add ∨ op = .sub ∨ op = .mul ∨ op = .quo) (x y : Nat) : (Op.Complex.arith op .f64 x y).run P w = .ok (flB op x y w) (w.drewN (flN op x y)) := by
  simp [Op.Complex.arith, run_flop w op hop x y]
theorem run_cadd (t : TypeId) (a b c d : Nat) : (binOp .add t (.complex .f64 a b) (.complex .f64 c d)).run P w = .ok (.complex .f64 (flB .add a c w) (flB .add b d (w.drewN (flN .add a c)))) (w.drewN (flN .add a c + flN .add b d)) := by
  simp [binOp, Op.complexOp, run_cpart _ .add (.inl rfl)]
theorem run_csub (t : TypeId) (a b c d : Nat) : (binOp .sub t (.complex .f64 a b) (.complex .f64 c d)).run P w = .ok (.complex .f64 (flB .sub a c w) (flB .sub b d (w.drewN (flN .sub a c)))) (w.drewN (flN .sub a c + flN .sub b d)) := by
  simp [binOp, Op.complexOp, run_cpart _ .sub (.inr (.inl rfl))]
theorem run_msqrt (x : Nat) : (Extern.MathSqrt.sqrt #[.float .f64 x]).run P w = .ok (.float .f64 (sqB x w)) (w.drewN (sqN x)) := by
  have hw : w.drewN 1 = w.drew := rfl
  have h0 : w.drewN 0 = w := rfl
  show Sem.run P (match Ieee.double.sqrt x with
    | some r => pure (Value.float .f64 r)
    | none => do pure (.float .f64 (← choose (.nanBits .f64 x x)))) w = _
  cases e : Ieee.double.sqrt x with
  | some r => simp [sqB, sqN, e, h0]
  | none => simp [sqB, sqN, e, hw, Question.forced]
end
end Go.Proofs.YtinhoigcajddpaaDoor
