/- A whole number is divided by another one, as the Go text of package nat does it. -/
import Derived.Laws.Append
import Derived.OwnWalk
import Derived.WalkSpells
import Derived.Test.YteipfplbcbaheaaGreatDoorJBase
import Derived.Test.YteipfplbcbaheaaGreatDoorJN11
import Derived.Test.YteipfplbcbaheaaGreatDoorJN15
namespace Go.Proofs.YteipfplbcbaheaaGreatDoor
open Go.RowKit

theorem cmpN_cases (m n : Nat) : (m < n ∧ cmpN m n = -1) ∨ (m = n ∧ cmpN m n = 0) ∨ (n < m ∧ cmpN m n = 1) := by
  rcases Nat.lt_trichotomy m n with h | h | h
  · exact .inl ⟨h, by simp [cmpN, h]⟩
  · exact .inr (.inl ⟨h, by simp [cmpN, h]⟩)
  · exact .inr (.inr ⟨h, by simp only [cmpN]; rw [if_neg (by omega), if_neg (by omega)]⟩)
theorem cmpN_lt {m n : Nat} (h : m < n) : cmpN m n = -1 := by simp [cmpN, h]
theorem cmpN_ge {m n : Nat} (h : n ≤ m) : 0 ≤ cmpN m n := by
  rcases cmpN_cases m n with ⟨h1, -⟩ | ⟨-, h1⟩ | ⟨-, h1⟩ <;> omega

def DivideOK (X Y : Nat) : Prop := ∀ (vx vy : Value) (w : World), Sl .u64 w vx (wd 18446744073709551616 X) → Sl .u64 w vy (wd 18446744073709551616 Y) →
  Calls Tryz.prog 188 #[vx, vy] w fun e w' => ∃ v1 v2, e = .returned (.tuple #[v1, v2]) ∧ Sl .u64 w' v1 (wd 18446744073709551616 (X / Y)) ∧ Sl .u64 w' v2 (wd 18446744073709551616 (X % Y)) ∧ But [] w w' ∧ (Y ≤ X → Own w.heap.size w' v2)

set_option maxHeartbeats 2000000 in
set_option maxRecDepth 100000 in
theorem divide_short (X Y : Nat) (h2 : 2 ≤ (wd 18446744073709551616 Y).length) (hle : Y ≤ X) (hl : (wd 18446744073709551616 X).length < 268435456) (hs : (wd 18446744073709551616 X).length < (wd 18446744073709551616 Y).length + 80 ∨ (wd 18446744073709551616 Y).length < 80) : DivideOK X Y := by
  intro vx vy w hx hy
  have hlen := wd_len_mono hle
  have hcmp := natCmp_any vx vy X Y w hx hy (by omega) (by omega)
  have hc0 := cmpN_ge hle
  generalize cmpN X Y = r at *
  have HC := hide hcmp
  have LD := hide (fun (W : World) (h1 : Sl .u64 W vx (wd 18446744073709551616 X)) (h3 : Sl .u64 W vy (wd 18446744073709551616 Y)) => longDivision_any vx vy X Y W h1 h3 h2 hlen hl)
  have HX := hide hx
  have HY := hide hy
  obtain ⟨a1, c1, rfl, -, -⟩ := hx
  obtain ⟨a2, c2, rfl, -, -⟩ := hy
  clear hcmp
  generalize (wd 18446744073709551616 X).length = nx at *
  generalize (wd 18446744073709551616 Y).length = ny at *
  have hr : decide (r < 0) = false := by simp; omega
  by_cases hm : nx < ny + 80
  · go_enter Tryz.func188, Tryz.ntmps188
    go_wp2_with fail
    refine (unhide HC).mono ?_
    rintro e w1 ⟨rfl, q, rfl⟩
    go_wp2_with fail
    refine (unhide LD _ (by exact unhide HX) (by exact unhide HY)).mono ?_
    rintro e w2 ⟨v1, v2, rfl, h1, h3, h4, h5, h6⟩
    have ALL := hide (And.intro h1 (And.intro h3 (And.intro (((But.refl [] _).drewN q).trans' h4) h5)))
    clear h1 h3 h4 h5 h6 LD HC
    go_wp2
    go_ret2
    exact ⟨v1, v2, rfl, (unhide ALL).1, (unhide ALL).2.1, (unhide ALL).2.2.1, fun _ => (unhide ALL).2.2.2⟩
  · have hs2 : ny < 80 := by omega
    clear hs
    go_enter Tryz.func188, Tryz.ntmps188
    go_wp2_with fail
    refine (unhide HC).mono ?_
    rintro e w1 ⟨rfl, q, rfl⟩
    go_wp2_with fail
    refine (unhide LD _ (by exact unhide HX) (by exact unhide HY)).mono ?_
    rintro e w2 ⟨v1, v2, rfl, h1, h3, h4, h5, h6⟩
    have ALL := hide (And.intro h1 (And.intro h3 (And.intro (((But.refl [] _).drewN q).trans' h4) h5)))
    clear h1 h3 h4 h5 h6 LD HC
    go_wp2
    go_ret2
    exact ⟨v1, v2, rfl, (unhide ALL).1, (unhide ALL).2.1, (unhide ALL).2.2.1, fun _ => (unhide ALL).2.2.2⟩

/-- the highest word -/
def topW (Y : Nat) : Nat := (wd 18446744073709551616 Y)[(wd 18446744073709551616 Y).length - 1]?.getD 0
theorem top_pos (Y : Nat) (h : 0 < Y) : 0 < topW Y ∧ topW Y < 18446744073709551616 ∧ Y < (topW Y + 1) * 18446744073709551616 ^ ((wd 18446744073709551616 Y).length - 1) ∧ topW Y * 18446744073709551616 ^ ((wd 18446744073709551616 Y).length - 1) ≤ Y := by
  have hl : 0 < (wd 18446744073709551616 Y).length := by rw [Nat.pos_iff_ne_zero]; intro e; rw [wd_len_zero (by omega)] at e; omega
  obtain ⟨m, hm⟩ : ∃ m, (wd 18446744073709551616 Y).length = m + 1 := ⟨(wd 18446744073709551616 Y).length - 1, by omega⟩
  have e1 := vl_drop_div (wd 18446744073709551616 Y) m (by omega)
  rw [drop_one _ m hm, vl_one, vl_wd (by omega)] at e1
  have e2 := vl_take_lt (wd 18446744073709551616 Y) m (by omega) (wd_mem (by omega) Y)
  have e3 := mem_getD (wd_mem (B := 18446744073709551616) (by omega) Y) (by omega : 0 < 18446744073709551616) m
  unfold topW
  rw [hm, Nat.add_sub_cancel]
  generalize (wd 18446744073709551616 Y)[m]?.getD 0 = t at *
  have ht : 0 < t := by
    rcases Nat.eq_zero_or_pos t with h0 | h0
    · subst h0
      have := wd_length_le (B := 18446744073709551616) (by omega) Y m (by omega)
      omega
    · exact h0
  rw [Nat.mul_comm] at e1
  refine ⟨ht, e3, ?_, by omega⟩
  rw [Nat.add_mul, Nat.one_mul]; omega
theorem norm_len (Y : Nat) (h : 0 < Y) : (wd 18446744073709551616 (Y * 2 ^ lz (topW Y))).length = (wd 18446744073709551616 Y).length := by
  obtain ⟨h1, h2, h3, h4⟩ := top_pos Y h
  obtain ⟨l1, l2, l3, -⟩ := lz_facts (topW Y) h1 h2
  have hl : 0 < (wd 18446744073709551616 Y).length := by rw [Nat.pos_iff_ne_zero]; intro e; rw [wd_len_zero (by omega)] at e; omega
  have hp : 18446744073709551616 = 2 ^ (64 - lz (topW Y)) * 2 ^ lz (topW Y) := by rw [← Nat.pow_add, show (64 - lz (topW Y)) + lz (topW Y) = 64 from by omega]
  have h5 : (topW Y + 1) * 2 ^ lz (topW Y) ≤ 18446744073709551616 := by
    rw [hp] at l2 ⊢
    exact Nat.mul_le_mul_right _ (Nat.lt_of_mul_lt_mul_right l2)
  refine Nat.le_antisymm (wd_length_le (by omega) _ _ ?_) (wd_len_mono (Nat.le_mul_of_pos_right _ (Nat.pow_pos (by omega))))
  have h6 : Y * 2 ^ lz (topW Y) < (topW Y + 1) * 18446744073709551616 ^ ((wd 18446744073709551616 Y).length - 1) * 2 ^ lz (topW Y) := Nat.mul_lt_mul_of_pos_right h3 (Nat.pow_pos (by omega))
  have h7 : (topW Y + 1) * 18446744073709551616 ^ ((wd 18446744073709551616 Y).length - 1) * 2 ^ lz (topW Y) ≤ 18446744073709551616 * 18446744073709551616 ^ ((wd 18446744073709551616 Y).length - 1) := by
    rw [Nat.mul_right_comm]; exact Nat.mul_le_mul_right _ h5
  have h8 : 18446744073709551616 * 18446744073709551616 ^ ((wd 18446744073709551616 Y).length - 1) = 18446744073709551616 ^ (wd 18446744073709551616 Y).length := by rw [Nat.mul_comm, ← Nat.pow_succ]; congr 1; omega
  omega
theorem shl_len (X s : Nat) (hs : s ≤ 63) : (wd 18446744073709551616 (X * 2 ^ s)).length ≤ (wd 18446744073709551616 X).length + 1 := by
  refine wd_length_le (by omega) _ _ ?_
  rw [Nat.pow_succ]
  have h1 := lt_wd X
  have h2 : 2 ^ s ≤ 18446744073709551616 := by
    have : 2 ^ s ≤ 2 ^ 64 := Nat.pow_le_pow_right (by omega) (by omega)
    omega
  exact Nat.lt_of_lt_of_le (Nat.mul_lt_mul_of_pos_right h1 (Nat.pow_pos (by omega))) (Nat.mul_le_mul_left _ h2)

end Go.Proofs.YteipfplbcbaheaaGreatDoor

namespace Go.Proofs.YteipfplbcbaheaaGreatDoor
open Go.RowKit

/-- the built-in append, by its run -/
theorem wpList_app {P : Program} {w : World} {ops : Array Oper} {rest : List Oper} {o : Oper} {a : Act} {Q : Exit → Act → World → Prop} (hgd : o.guard = none) (s x : Operand) (t u : TypeId)
    (ho : o.op = .call { callee := .builtin .append, args := #[s, x], argTypes := #[t, u] }) (vs vx v' : Value) (w' : World) (hs : a.eval s = vs) (hx : a.eval x = vx)
    (hr : (Builtin.append_ #[t, u] o.type #[vs, vx]).run P w = .ok v' w') (h : wpList P ops Q rest (a.put o.dst v') w') : wpList P ops Q (o :: rest) a w :=
  wpList_plain hgd fun _ hK => by
    unfold Oper.wp execOp
    simp only [ho, resolve, invoke, builtin, Sem.run_bind, Sem.run_pure, Result.andThen_ok, List.map_toArray, List.map_cons, List.map_nil, hs, hx, hr]
    exact hK _ _ h

end Go.Proofs.YteipfplbcbaheaaGreatDoor
