/- The fact that TriangleBest and TriangleBack lean on: a triangle of two years is read, and has its reserves. -/
import Derived.Test.YtjbboicccddhbaaGreatDoorKBTC
import Derived.Test.YtjbboicccddhbaaGreatDoorKBTV
namespace Go.Proofs.YtjbboicccddhbaaGreatDoor
open Go.RowKit
set_option linter.unusedVariables false

/-- the triangle -/
def tri2 : List (List Int) := [[2, 3], [4]]
theorem tri2_ok : TriOk tri2 := by
  refine ⟨by decide, by decide, fun i r hr => ?_⟩
  match i with
  | 0 =>
    simp only [tri2, List.getElem?_cons_zero, Option.some.injEq] at hr
    subst hr
    exact ⟨rfl, by decide⟩
  | 1 =>
    simp only [tri2, List.getElem?_cons_succ, List.getElem?_cons_zero, Option.some.injEq] at hr
    subst hr
    exact ⟨rfl, by decide⟩
  | i + 2 => simp [tri2] at hr
theorem tri2_good : TriGood tri2 := by
  refine ⟨tri2_ok, fun k hk => ?_⟩
  have : k = 0 := by
    have : k + 1 < 2 := hk
    omega
  subst this
  decide
theorem tri2_text : ([50, 32, 51, 10, 52, 10] : List UInt8) = jn 10 ([[2, 3], [4], []].map lineOf) := by
  simp [lineOf, jn, Lib.itoa, Lib.decDigits]
theorem tri2_rv : rv tri2 0 = 0 ∧ rv tri2 1 = 2 := by
  have e0 : sq tri2 0 1 = 3 := by
    rw [sq_known tri2 0 1 (by decide) (by decide)]
    rfl
  have e1 : sq tri2 1 1 = 6 := by
    show (if 0 + 1 < tri2.length - 1 then _ else _) = _
    rw [if_neg (by decide)]
    have h1 : fc tri2 0 = ((3 : Int) : Rat) / ((2 : Int) : Rat) := rfl
    have h2 : sq tri2 1 0 = ((4 : Int) : Rat) := rfl
    rw [h1, h2]
    grind
  have t0 : tc tri2 0 (tri2.length - 1 - 0) = 3 := rfl
  have t1 : tc tri2 1 (tri2.length - 1 - 1) = 4 := rfl
  unfold rv
  rw [show tri2.length - 1 = 1 from rfl, e0, e1]
  rw [show tc tri2 0 (1 - 0) = 3 from rfl, show tc tri2 1 (1 - 1) = 4 from rfl]
  constructor <;> grind
theorem two_text : (⟨#[50]⟩ : ByteArray) = fracTxt (decide ((2 : Rat).num < 0)) (2 : Rat).num.natAbs (2 : Rat).den := by
  have h1 : (2 : Rat).num = 2 := rfl
  have h2 : (2 : Rat).den = 1 := rfl
  rw [h1, h2]
  unfold fracTxt
  rw [if_pos rfl, if_neg (by decide)]
  have h3 : Lib.decDigits (2 : Int).natAbs = [50] := by simp [Lib.decDigits]
  rw [h3]
  rfl
set_option maxHeartbeats 8000000 in
set_option maxRecDepth 100000 in
theorem grown_any (mx : Int) (w : World) (htab : Lib.TabIs Tryz.prog w "internal/strconv.uint64pow10" .u64 Lib.pow10Tab) (hm : w.cell? ⟨5, 0, none⟩ = some (.int .i64 mx)) :
    Calls Tryz.prog 34 #[] w fun e w' => e = .returned (.bool true) ∧ But [] w w' := by
  have PA := hide (parse_any [[2, 3], [4], []] (by decide) (by decide) (by decide) (by decide) ⟨#[50, 32, 51, 10, 52, 10]⟩ tri2_text (by decide) mx w htab hm tri2 rfl tri2_ok)
  have HT := hide htab
  clear htab hm
  go_enter Tryz.func34, Tryz.ntmps34
  go_wp2_with fail
  refine (unhide PA).mono ?_
  rintro e w1 ⟨v, rfl, htri, hb1⟩
  have RE := hide (reserves_any v tri2 w1 htri.tri (fun a n c e => htri.cap a n c e) 2 rfl)
  have B1 := hide hb1
  obtain ⟨a', m', c', hv'⟩ : ∃ a' m' c', v = .slice a' m' c' := by
    obtain ⟨us, -, h2, -⟩ := htri
    obtain ⟨a', c', e⟩ := ownsRow_form h2
    exact ⟨a', _, c', e⟩
  subst hv'
  clear htri hb1 PA
  go_wp2_with fail
  refine (unhide RE).mono ?_
  rintro e w2 ⟨hb2, ⟨-, g, rfl, hrow, h1, h2, hlen⟩ | ⟨hno, -⟩⟩
  · obtain ⟨s0, x0, y0, p0, c0, f0⟩ := hrow.told 0 (by omega)
    obtain ⟨s1, x1, y1, p1, c1, f1⟩ := hrow.told 1 (by omega)
    rw [tri2_rv.1] at f0
    rw [tri2_rv.2] at f1
    have B2 := hide ((unhide B1).trans' hb2)
    have l1 : Len (2 : Rat) 1000000 := by rw [← tri2_rv.2]; exact (hlen 1).mono (by omega)
    have TX := hide (fracText_len _ 2 w2 f1 l1 (TabIs.but (unhide HT) (unhide B2)) ⟨#[50]⟩ two_text)
    have SG : Hid (∀ W, But [] w2 W → Calls Tryz.prog 19 #[.agg #[.bool s0, .int .u64 x0, .int .u64 y0, .pointer p0]] W fun e w' => e = .returned (.int .i64 0) ∧ But [] W w') := fun W hW => fracSign_any _ 0 W (f0.but hW)
    have C0 := hide c0
    obtain ⟨q0, q1, q2, q3⟩ := c1
    obtain ⟨r0, r1, r2, r3⟩ := c0
    simp only [Nat.zero_mul, Nat.zero_add, Nat.one_mul, Nat.reduceAdd] at q0 q1 q2 q3 r0 r1 r2 r3
    clear hrow f0 f1 hb2 RE hlen l1
    go_wp2_with fail
    refine (unhide TX).mono ?_
    rintro e w3 ⟨rfl, hb3⟩
    have B3 := hide hb3
    have r0' := hb3.cell_some r0 (by simp)
    have r1' := hb3.cell_some r1 (by simp)
    have r2' := hb3.cell_some r2 (by simp)
    have r3' := hb3.cell_some r3 (by simp)
    clear hb3 q0 q1 q2 q3 r0 r1 r2 r3
    go_wp2_with fail
    refine (unhide SG _ (unhide B3)).mono ?_
    rintro e w4 ⟨rfl, hb4⟩
    have B4 := hide (((unhide B2).trans' (unhide B3)).trans' hb4)
    clear hb4
    go_wp2
    go_ret
    exact ⟨rfl, unhide B4⟩
  · exact absurd tri2_good hno
end Go.Proofs.YtjbboicccddhbaaGreatDoor
