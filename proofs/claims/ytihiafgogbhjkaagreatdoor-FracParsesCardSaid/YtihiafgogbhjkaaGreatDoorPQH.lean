/- The end of a fraction's text, as the Go text of package frac cuts it: nothing, a percent sign, or what is none. -/
import Derived.Test.YtihiafgogbhjkaaGreatDoorPQD
namespace Go.Proofs.YtihiafgogbhjkaaGreatDoor
open Go.RowKit

/-- a function's body from a statement on -/
def cutFrom : Nat → Code → Code
  | 0, c => c
  | n + 1, .seq _ b => cutFrom n b
  | _ + 1, c => c
noncomputable def cutBody : Code := (Tryz.f98.body).getD .skip
def cutGood (s : Bool) (tw : ByteArray) (k : Int) (tb : ByteArray) (pc : Bool) : Value := .tuple #[.agg #[.bool s, .string tw, .int .u8 k, .string tb, .bool pc], .int .i64 (-1)]
def cutBad (p : Int) : Value := .tuple #[.agg #[.bool false, .string ⟨#[]⟩, .int .u8 0, .string ⟨#[]⟩, .bool false], .int .i64 p]
/-- the answer, of what is left of the text -/
def cutEnd (s : Bool) (tw : ByteArray) (k : Int) (tb : ByteArray) (q : Nat) : List UInt8 → Value
  | [] => cutGood s tw k tb false
  | [c] => if c.toNat = 37 then cutGood s tw k tb true else cutBad q
  | c :: _ :: _ => if c.toNat = 37 then cutBad ((q : Int) + 1) else cutBad q

set_option maxHeartbeats 8000000 in
set_option maxRecDepth 100000 in
theorem cut_end0 (t : ByteArray) (bs r : List UInt8) (q : Nat) (ht : t.data.toList = bs) (hr : bs.drop q = r) (hq : q ≤ bs.length) (hN : bs.length < 2305843009213693952) (w : World) (s : Bool) (tw tb : ByteArray) (k : Int) (y1 y3 y6 y7 y8 y9 y10 y11 y12 y13 y14 y15 y16 y17 y18 y19 y20 y21 y22 y23 y24 y25 y26 y27 y28 y29 y30 y31 y32 y33 y34 y35 y36 y37 y38 y39 y40 y41 y42 y43 y44 y45 y46 y47 y48 y49 y50 y51 y52 y53 y54 y55 y56 y57 y58 y59 y60 y61 y62 y63 y64 y65 y66 y67 y68 y69 y70 y71 y72 y73 y74 y75 y76 y77 y78 y79 y80 : Value) :
    Code.wp Tryz.prog (cutFrom 8 cutBody) (bodyPost Tryz.prog Tryz.f98 fun e w' => e = .returned (cutEnd s tw k tb q r) ∧ But [] w w') { tmps := (.string t :: y1 :: .pointer (some ⟨w.heap.size, 0, none⟩) :: y3 :: .pointer (some ⟨w.heap.size + 1, 0, none⟩) :: .int .i64 (q : Int) :: y6 :: y7 :: y8 :: y9 :: y10 :: y11 :: y12 :: y13 :: y14 :: y15 :: y16 :: y17 :: y18 :: y19 :: y20 :: y21 :: y22 :: y23 :: y24 :: y25 :: y26 :: y27 :: y28 :: y29 :: y30 :: y31 :: y32 :: y33 :: y34 :: y35 :: y36 :: y37 :: y38 :: y39 :: y40 :: y41 :: y42 :: y43 :: y44 :: y45 :: y46 :: y47 :: y48 :: y49 :: y50 :: y51 :: y52 :: y53 :: y54 :: y55 :: y56 :: y57 :: y58 :: y59 :: y60 :: y61 :: y62 :: y63 :: y64 :: y65 :: y66 :: y67 :: y68 :: y69 :: y70 :: y71 :: y72 :: y73 :: y74 :: y75 :: y76 :: y77 :: y78 :: y79 :: y80 :: []).toArray, defers := [] } ((w.alloc (.cells #[.bool false, .string ⟨#[]⟩, .int .u8 0, .string ⟨#[]⟩, .bool false] 116)).alloc (.cells #[.bool s, .string tw, .int .u8 k, .string tb, .bool false] 116)) := by
  conv => arg 2; whnf
  have hsz : t.size = q + r.length := by
    have h1 := congrArg List.length hr
    have h2 := congrArg List.length ht
    rw [List.length_drop] at h1
    have h3 : t.data.toList.length = t.size := by simp
    omega
  have hat : ∀ j, j < r.length → ∀ W, (Instr.index 9 (.string t) (.int .i64 ((q + j : Nat) : Int))).run Tryz.prog W = .ok (.int .u8 (((r[j]?.getD 0).toNat : Nat) : Int)) W := fun j hj W => by
    have h1 := byte_at ht (q + j) (by rw [← hr, List.length_drop] at hj; omega) 9 Tryz.underlying9 W
    rw [← hr, List.getElem?_drop]
    exact h1
  have hN2 : t.size < 2305843009213693952 := by rw [← ht] at hN; simpa using hN
  have q0 : (0 : Int) ≤ (q : Int) := by omega
  clear ht hr hq hN
  match r, hsz, hat with
  | [], hsz, hat =>
    have l1 : decide ((q : Int) < (t.size : Int)) = false := decide_eq_false (by simp at hsz; omega)
    have l2 : ¬ (q : Int) < (t.size : Int) := by simp at hsz; omega
    clear hsz hat hN2
    go_wp2
    exact bodyPost_ret (v := cutGood s tw k tb false) (by simp [cutGood, results, Tryz.results98, go_sem]) rfl ⟨rfl, by repeat (first | exact But.refl _ _ | refine But.alloc ?_ _ | refine But.drew ?_ | refine But.setCell ?_ (.inr (by simp)) _)⟩
  | [c], hsz, hat =>
    have hb := hat 0 (by simp)
    simp only [Nat.add_zero, List.getElem?_cons_zero, Option.getD_some] at hb
    have hsz2 : t.size = q + 1 := hsz
    have l1 : decide ((q : Int) < (t.size : Int)) = true := decide_eq_true (by omega)
    have l2 : (q : Int) < (t.size : Int) := by omega
    have wq : IntKind.i64.wrap ((q : Int) + 1) = (q : Int) + 1 := by rw [IntKind.wrap_i64]; omega
    by_cases hc : c.toNat = 37
    · have e0 : cutEnd s tw k tb q [c] = cutGood s tw k tb true := if_pos hc
      rw [e0]
      rw [hc] at hb
      have l3 : decide ((q : Int) + 1 < (t.size : Int)) = false := decide_eq_false (by omega)
      have l4 : ¬ (q : Int) + 1 < (t.size : Int) := by omega
      clear hsz hat hsz2 hN2 hc e0
      go_wp2
      exact bodyPost_ret (v := cutGood s tw k tb true) (by simp [cutGood, results, Tryz.results98, go_sem]) rfl ⟨rfl, by repeat (first | exact But.refl _ _ | refine But.alloc ?_ _ | refine But.drew ?_ | refine But.setCell ?_ (.inr (by simp)) _)⟩
    · have e0 : cutEnd s tw k tb q [c] = cutBad q := if_neg hc
      rw [e0]
      have n1 : (((c.toNat : Nat) : Int) == 37) = false := beq_eq_false_iff_ne.2 (by omega)
      clear hsz hat hsz2 hN2 hc e0
      go_wp2
      exact bodyPost_ret (v := cutBad q) (by simp [cutBad, results, Tryz.results98, go_sem]) rfl ⟨rfl, by repeat (first | exact But.refl _ _ | refine But.alloc ?_ _ | refine But.drew ?_ | refine But.setCell ?_ (.inr (by simp)) _)⟩
  | c :: c2 :: r, hsz, hat =>
    have hb := hat 0 (by simp)
    simp only [Nat.add_zero, List.getElem?_cons_zero, Option.getD_some] at hb
    have hsz2 : t.size = q + (r.length + 2) := hsz
    have l1 : decide ((q : Int) < (t.size : Int)) = true := decide_eq_true (by omega)
    have l2 : (q : Int) < (t.size : Int) := by omega
    have wq : IntKind.i64.wrap ((q : Int) + 1) = (q : Int) + 1 := by rw [IntKind.wrap_i64]; omega
    by_cases hc : c.toNat = 37
    · have e0 : cutEnd s tw k tb q (c :: c2 :: r) = cutBad ((q : Int) + 1) := if_pos hc
      rw [e0]
      rw [hc] at hb
      have l3 : decide ((q : Int) + 1 < (t.size : Int)) = true := decide_eq_true (by omega)
      have l4 : (q : Int) + 1 < (t.size : Int) := by omega
      clear hsz hat hsz2 hN2 hc e0
      go_wp2
      exact bodyPost_ret (v := cutBad ((q : Int) + 1)) (by simp [cutBad, results, Tryz.results98, go_sem]) rfl ⟨rfl, by repeat (first | exact But.refl _ _ | refine But.alloc ?_ _ | refine But.drew ?_ | refine But.setCell ?_ (.inr (by simp)) _)⟩
    · have e0 : cutEnd s tw k tb q (c :: c2 :: r) = cutBad q := if_neg hc
      rw [e0]
      have n1 : (((c.toNat : Nat) : Int) == 37) = false := beq_eq_false_iff_ne.2 (by omega)
      clear hsz hat hsz2 hN2 hc e0
      go_wp2
      exact bodyPost_ret (v := cutBad q) (by simp [cutBad, results, Tryz.results98, go_sem]) rfl ⟨rfl, by repeat (first | exact But.refl _ _ | refine But.alloc ?_ _ | refine But.drew ?_ | refine But.setCell ?_ (.inr (by simp)) _)⟩

set_option maxHeartbeats 8000000 in
set_option maxRecDepth 100000 in
theorem cut_end1 (t : ByteArray) (bs r : List UInt8) (q : Nat) (ht : t.data.toList = bs) (hr : bs.drop q = r) (hq : q ≤ bs.length) (hN : bs.length < 2305843009213693952) (w : World) (s : Bool) (tw tb : ByteArray) (k : Int) (y1 y3 y6 y7 y8 y9 y10 y11 y12 y13 y14 y15 y16 y17 y18 y19 y20 y21 y22 y23 y24 y25 y26 y27 y28 y29 y30 y31 y32 y33 y34 y35 y36 y37 y38 y39 y40 y41 y42 y43 y44 y45 y46 y47 y48 y49 y50 y51 y52 y53 y54 y55 y56 y57 y58 y59 y60 y61 y62 y63 y64 y65 y66 y67 y68 y69 y70 y71 y72 y73 y74 y75 y76 y77 y78 y79 y80 : Value) :
    Code.wp Tryz.prog (cutFrom 8 cutBody) (bodyPost Tryz.prog Tryz.f98 fun e w' => e = .returned (cutEnd s tw k tb q r) ∧ But [] w w') { tmps := (.string t :: y1 :: .pointer (some ⟨w.heap.size, 0, none⟩) :: y3 :: .pointer (some ⟨w.heap.size + 1, 0, none⟩) :: .int .i64 (q : Int) :: y6 :: y7 :: y8 :: y9 :: y10 :: y11 :: y12 :: y13 :: y14 :: y15 :: y16 :: y17 :: y18 :: y19 :: y20 :: y21 :: y22 :: y23 :: y24 :: y25 :: y26 :: y27 :: y28 :: y29 :: y30 :: y31 :: y32 :: y33 :: y34 :: y35 :: y36 :: y37 :: y38 :: y39 :: y40 :: y41 :: y42 :: y43 :: y44 :: y45 :: y46 :: y47 :: y48 :: y49 :: y50 :: y51 :: y52 :: y53 :: y54 :: y55 :: y56 :: y57 :: y58 :: y59 :: y60 :: y61 :: y62 :: y63 :: y64 :: y65 :: y66 :: y67 :: y68 :: y69 :: y70 :: y71 :: y72 :: y73 :: y74 :: y75 :: y76 :: y77 :: y78 :: y79 :: y80 :: []).toArray, defers := [] } ((w.alloc (.cells #[.bool false, .string ⟨#[]⟩, .int .u8 0, .string ⟨#[]⟩, .bool false] 116)).alloc (.cells #[.bool s, .string tw, .int .u8 k, .string tb, .bool false] 116)).drew := by
  conv => arg 2; whnf
  have hsz : t.size = q + r.length := by
    have h1 := congrArg List.length hr
    have h2 := congrArg List.length ht
    rw [List.length_drop] at h1
    have h3 : t.data.toList.length = t.size := by simp
    omega
  have hat : ∀ j, j < r.length → ∀ W, (Instr.index 9 (.string t) (.int .i64 ((q + j : Nat) : Int))).run Tryz.prog W = .ok (.int .u8 (((r[j]?.getD 0).toNat : Nat) : Int)) W := fun j hj W => by
    have h1 := byte_at ht (q + j) (by rw [← hr, List.length_drop] at hj; omega) 9 Tryz.underlying9 W
    rw [← hr, List.getElem?_drop]
    exact h1
  have hN2 : t.size < 2305843009213693952 := by rw [← ht] at hN; simpa using hN
  have q0 : (0 : Int) ≤ (q : Int) := by omega
  clear ht hr hq hN
  match r, hsz, hat with
  | [], hsz, hat =>
    have l1 : decide ((q : Int) < (t.size : Int)) = false := decide_eq_false (by simp at hsz; omega)
    have l2 : ¬ (q : Int) < (t.size : Int) := by simp at hsz; omega
    clear hsz hat hN2
    go_wp2
    exact bodyPost_ret (v := cutGood s tw k tb false) (by simp [cutGood, results, Tryz.results98, go_sem]) rfl ⟨rfl, by repeat (first | exact But.refl _ _ | refine But.alloc ?_ _ | refine But.drew ?_ | refine But.setCell ?_ (.inr (by simp)) _)⟩
  | [c], hsz, hat =>
    have hb := hat 0 (by simp)
    simp only [Nat.add_zero, List.getElem?_cons_zero, Option.getD_some] at hb
    have hsz2 : t.size = q + 1 := hsz
    have l1 : decide ((q : Int) < (t.size : Int)) = true := decide_eq_true (by omega)
    have l2 : (q : Int) < (t.size : Int) := by omega
    have wq : IntKind.i64.wrap ((q : Int) + 1) = (q : Int) + 1 := by rw [IntKind.wrap_i64]; omega
    by_cases hc : c.toNat = 37
    · have e0 : cutEnd s tw k tb q [c] = cutGood s tw k tb true := if_pos hc
      rw [e0]
      rw [hc] at hb
      have l3 : decide ((q : Int) + 1 < (t.size : Int)) = false := decide_eq_false (by omega)
      have l4 : ¬ (q : Int) + 1 < (t.size : Int) := by omega
      clear hsz hat hsz2 hN2 hc e0
      go_wp2
      exact bodyPost_ret (v := cutGood s tw k tb true) (by simp [cutGood, results, Tryz.results98, go_sem]) rfl ⟨rfl, by repeat (first | exact But.refl _ _ | refine But.alloc ?_ _ | refine But.drew ?_ | refine But.setCell ?_ (.inr (by simp)) _)⟩
    · have e0 : cutEnd s tw k tb q [c] = cutBad q := if_neg hc
      rw [e0]
      have n1 : (((c.toNat : Nat) : Int) == 37) = false := beq_eq_false_iff_ne.2 (by omega)
      clear hsz hat hsz2 hN2 hc e0
      go_wp2
      exact bodyPost_ret (v := cutBad q) (by simp [cutBad, results, Tryz.results98, go_sem]) rfl ⟨rfl, by repeat (first | exact But.refl _ _ | refine But.alloc ?_ _ | refine But.drew ?_ | refine But.setCell ?_ (.inr (by simp)) _)⟩
  | c :: c2 :: r, hsz, hat =>
    have hb := hat 0 (by simp)
    simp only [Nat.add_zero, List.getElem?_cons_zero, Option.getD_some] at hb
    have hsz2 : t.size = q + (r.length + 2) := hsz
    have l1 : decide ((q : Int) < (t.size : Int)) = true := decide_eq_true (by omega)
    have l2 : (q : Int) < (t.size : Int) := by omega
    have wq : IntKind.i64.wrap ((q : Int) + 1) = (q : Int) + 1 := by rw [IntKind.wrap_i64]; omega
    by_cases hc : c.toNat = 37
    · have e0 : cutEnd s tw k tb q (c :: c2 :: r) = cutBad ((q : Int) + 1) := if_pos hc
      rw [e0]
      rw [hc] at hb
      have l3 : decide ((q : Int) + 1 < (t.size : Int)) = true := decide_eq_true (by omega)
      have l4 : (q : Int) + 1 < (t.size : Int) := by omega
      clear hsz hat hsz2 hN2 hc e0
      go_wp2
      exact bodyPost_ret (v := cutBad ((q : Int) + 1)) (by simp [cutBad, results, Tryz.results98, go_sem]) rfl ⟨rfl, by repeat (first | exact But.refl _ _ | refine But.alloc ?_ _ | refine But.drew ?_ | refine But.setCell ?_ (.inr (by simp)) _)⟩
    · have e0 : cutEnd s tw k tb q (c :: c2 :: r) = cutBad q := if_neg hc
      rw [e0]
      have n1 : (((c.toNat : Nat) : Int) == 37) = false := beq_eq_false_iff_ne.2 (by omega)
      clear hsz hat hsz2 hN2 hc e0
      go_wp2
      exact bodyPost_ret (v := cutBad q) (by simp [cutBad, results, Tryz.results98, go_sem]) rfl ⟨rfl, by repeat (first | exact But.refl _ _ | refine But.alloc ?_ _ | refine But.drew ?_ | refine But.setCell ?_ (.inr (by simp)) _)⟩
end Go.Proofs.YtihiafgogbhjkaaGreatDoor
