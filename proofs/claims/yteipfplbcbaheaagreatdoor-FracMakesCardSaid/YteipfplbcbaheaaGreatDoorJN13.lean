/- How often a divisor fits, as the Go text of package nat guesses it: never too little. -/
import Derived.Test.YteipfplbcbaheaaGreatDoorJN12
namespace Go.Proofs.YteipfplbcbaheaaGreatDoor
open Go.RowKit

theorem vl_two (a b : Nat) : vl 18446744073709551616 [a, b] = a + 18446744073709551616 * b := by simp [vl]
theorem vl_one (a : Nat) : vl 18446744073709551616 [a] = a := by simp [vl]
theorem drop_two (ws : List Nat) (n : Nat) (h : ws.length = n + 2) : ws.drop n = [ws[n]?.getD 0, ws[n + 1]?.getD 0] := by
  rw [List.drop_eq_getElem_cons (by omega), List.drop_eq_getElem_cons (by omega), List.drop_eq_nil_of_le (by omega), List.getElem?_eq_getElem (by omega), List.getElem?_eq_getElem (by omega)]
  rfl
theorem drop_one (ws : List Nat) (n : Nat) (h : ws.length = n + 1) : ws.drop n = [ws[n]?.getD 0] := by
  rw [List.drop_eq_getElem_cons (by omega), List.drop_eq_nil_of_le (by omega), List.getElem?_eq_getElem (by omega)]
  rfl
set_option maxHeartbeats 4000000 in
set_option maxRecDepth 100000 in
theorem guessed_any (vx vy : Value) (ws ys : List Nat) (m : Nat) (w : World) (hx : Sl .u64 w vx ws) (hy : Sl .u64 w vy ys) (hlw : ws.length = m + 3) (hly : ys.length = m + 2) (mw : ∀ x ∈ ws, x < 18446744073709551616) (my : ∀ x ∈ ys, x < 18446744073709551616) (hlt : vl 18446744073709551616 ws < 18446744073709551616 * vl 18446744073709551616 ys) (hm : m < 1073741824) :
    Calls Tryz.prog 239 #[vx, vy] w fun e w' => ∃ q, e = .returned (.int .u64 (q : Nat)) ∧ q < 18446744073709551616 ∧ vl 18446744073709551616 ws < (q + 1) * vl 18446744073709551616 ys ∧ ∃ n, w' = w.drewN n := by
  rcases hx.open with ⟨e, -⟩ | ⟨-, b, off, c, rfl, hc, -, hcx⟩
  · rw [e] at hlw; simp at hlw
  rcases hy.open with ⟨e, -⟩ | ⟨-, b', off', c', rfl, hc', -, hcy⟩
  · rw [e] at hly; simp at hly
  have x2 := hcx (m + 2) (by omega)
  have x1 := hcx (m + 1) (by omega)
  have x0 := hcx m (by omega)
  have y1 := hcy (m + 1) (by omega)
  have y0 := hcy m (by omega)
  have eR := vl_split 18446744073709551616 ws m (by omega)
  rw [drop_two ws (m + 1) (by omega), vl_two] at eR
  have eY := vl_split 18446744073709551616 ys m (by omega)
  rw [drop_one ys (m + 1) (by omega), vl_one] at eY
  have hRl := vl_lt (by omega : 0 < 18446744073709551616) (ws.take m) (fun x hx => mw x (List.mem_of_mem_take hx))
  rw [List.length_take, Nat.min_eq_left (by omega)] at hRl
  have b2 := mem_getD mw (by omega : 0 < 18446744073709551616) (m + 2)
  have b1 := mem_getD mw (by omega : 0 < 18446744073709551616) (m + 1)
  have b0 := mem_getD mw (by omega : 0 < 18446744073709551616) m
  have d1 := mem_getD my (by omega : 0 < 18446744073709551616) (m + 1)
  have d0 := mem_getD my (by omega : 0 < 18446744073709551616) m
  rw [show m + 1 + 1 = m + 2 from rfl] at eR
  rw [hlw] at hc ⊢
  rw [hly] at hc' ⊢
  generalize ws[m + 2]?.getD 0 = X2 at *
  generalize ws[m + 1]?.getD 0 = X1 at *
  generalize ws[m]?.getD 0 = X0 at *
  generalize ys[m + 1]?.getD 0 = F at *
  generalize ys[m]?.getD 0 = S at *
  generalize vl 18446744073709551616 ws = R at *
  generalize vl 18446744073709551616 ys = Y at *
  have I0 : Hid (∀ q r, X2 * 18446744073709551616 + X1 = q * F + r → r < F → R < (q + 1) * Y) := fun q r e hr => gs_init X2 X1 X0 F S _ _ _ R Y q r eR eY hRl b0 e hr
  have I1 : Hid (∀ q r, X2 * 18446744073709551616 + X1 = q * F + r → r * 18446744073709551616 + X0 < q * S → R < q * Y) := fun q r e hc => gs_dec X2 X1 X0 F S _ _ _ R Y q r eR eY hRl e hc
  have HLT := hide hlt
  clear eR eY hRl hlt hcx hcy hx hy mw my hlw hly
  by_cases hge : F ≤ X2
  · go_enter Tryz.func239, Tryz.ntmps239
    go_wp2
    go_quiet (fail)
    go_wp2
    go_ret
    refine ⟨18446744073709551615, rfl, by omega, ?_, nq, rfl⟩
    exact unhide HLT
  · obtain ⟨q, hq⟩ : ∃ q, (X2 * 18446744073709551616 + X1) / F = q := ⟨_, rfl⟩
    obtain ⟨r, hr⟩ : ∃ r, (X2 * 18446744073709551616 + X1) % F = r := ⟨_, rfl⟩
    have hdm := Nat.div_add_mod (X2 * 18446744073709551616 + X1) F
    rw [hq, hr, Nat.mul_comm] at hdm
    have hrF : r < F := by rw [← hr]; exact Nat.mod_lt _ (by omega)
    have hqB : q < 18446744073709551616 := by
      rw [← hq, Nat.div_lt_iff_lt_mul (by omega), Nat.mul_comm]
      have : (X2 + 1) * 18446744073709551616 ≤ F * 18446744073709551616 := Nat.mul_le_mul_right _ (by omega)
      omega
    have DV := hide (fun W => div64_any X2 X1 F d1 b1 (by omega) W q r hq hr)
    obtain ⟨lo, hi, hlo, hhi, e0⟩ := mul_letters q S 0 hqB d0 (by omega)
    rw [Nat.add_zero] at e0
    have MU := hide (fun W => mul64_any q S hi lo hqB d0 hlo e0 W)
    have A0 : Hid (X2 * 18446744073709551616 + X1 = q * F + r ∧ q * S = lo + 18446744073709551616 * hi ∧ R < (q + 1) * Y) := ⟨hdm.symm, e0, unhide I0 q r hdm.symm hrF⟩
    clear hdm e0 hq hr
    have hrB : r < 18446744073709551616 := by omega
    go_enter Tryz.func239, Tryz.ntmps239
    go_wp2
    go_quiet (fail)
    go_wp2
    obtain ⟨W, hW⟩ : ∃ W, W = w.drewN nq := ⟨_, rfl⟩
    have k2 : W.cell? ⟨b, off + (m + 2), none⟩ = some (.int .u64 (X2 : Int)) := by rw [hW]; exact x2
    have k1 : W.cell? ⟨b, off + (m + 1), none⟩ = some (.int .u64 (X1 : Int)) := by rw [hW]; exact x1
    have k0 : W.cell? ⟨b, off + m, none⟩ = some (.int .u64 (X0 : Int)) := by rw [hW]; exact x0
    rw [← hW]
    have HW := hide hW
    clear hW x0 x1 x2 y0 y1
    go_quiet ((go_at_call 186; refine Calls.quiet_of (unhide DV _)))
    go_wp2_with fail
    refine (unhide MU _).mono ?_
    rintro e w1 ⟨rfl, hw⟩
    obtain rfl := hw.symm
    clear hw
    go_wp2_with fail
    go_loop [8, 9, 10, 11] (fun p1 p2 p3 p4 => ∃ q r hi lo : Nat, p1 = .int .u64 q ∧ p2 = .int .u64 r ∧ p3 = .int .u64 hi ∧ p4 = .int .u64 lo ∧ q < 18446744073709551616 ∧ r < 18446744073709551616 ∧ hi < 18446744073709551616 ∧ lo < 18446744073709551616 ∧ Hid (X2 * 18446744073709551616 + X1 = q * F + r ∧ q * S = lo + 18446744073709551616 * hi ∧ R < (q + 1) * Y)) (fun p1 _ _ _ => (intOf p1).toNat)
    case atStart => exact ⟨q, r, hi, lo, rfl, rfl, rfl, rfl, hqB, hrB, hhi, hlo, A0⟩
    case round =>
      clear A0 hrF DV MU hqB hrB hhi hlo
      obtain ⟨q, r, hi, lo, rfl, rfl, rfl, rfl, hqB, hrB, hhi, hlo, HI⟩ := hrel
      by_cases hA : r < hi
      · have hq1 : 1 ≤ q := by
          rcases Nat.eq_zero_or_pos q with h | h
          · subst h; have := (unhide HI).2.1; rw [Nat.zero_mul] at this; omega
          · exact h
        have hRq := unhide I1 q r (unhide HI).1 (by rw [(unhide HI).2.1]; omega)
        obtain ⟨q', rfl⟩ : ∃ q', q = q' + 1 := ⟨q - 1, by omega⟩
        obtain ⟨s, k, hs, hk, he⟩ := add_letters r F 0 hrB d1 (by omega)
        rw [Nat.add_zero] at he
        have AD := fun w => add64c r F hrB d1 s k he hs w
        obtain ⟨l2, bw, hl2, hbw, he2⟩ := sub_letters lo S 0 hlo d0 (by omega)
        rw [Nat.add_zero] at he2
        have SB := fun w => sub64c lo S l2 bw he2 hl2 hlo d0 w
        have e4 := (unhide HI).2.1
        rw [Nat.add_mul, Nat.one_mul] at e4
        have hbh : bw ≤ hi := by omega
        obtain ⟨h', hh'⟩ : ∃ h', h' + bw = hi := ⟨hi - bw, by omega⟩
        have e5 : q' * S = l2 + 18446744073709551616 * h' := by rw [← hh', Nat.mul_add] at e4; omega
        have e6 := (unhide HI).1
        rw [Nat.add_mul, Nat.one_mul] at e6
        have HRQ := hide hRq
        have hk01 : k = 0 ∨ k = 1 := by omega
        rcases hk01 with rfl | rfl
        · have HN : Hid (X2 * 18446744073709551616 + X1 = q' * F + s ∧ q' * S = l2 + 18446744073709551616 * h' ∧ R < (q' + 1) * Y) := ⟨by omega, e5, hRq⟩
          have HH := hide hh'
          clear e4 e5 e6 he he2 hRq HI hh'
          go_wp2
          go_round
          case rel => exact ⟨q', s, h', l2, by go_num, rfl, congrArg (Value.int IntKind.u64) (by have := unhide HH; omega), rfl, by omega, hs, by have := unhide HH; omega, hl2, unhide HN⟩
          case measure => simp [intOf]
        · have HH := hide hh'
          clear e4 e5 e6 he he2 hRq HI hh'
          go_wp2
          go_ret
          exact ⟨q', by go_num, by omega, unhide HRQ, by rw [unhide HW]; exact dr1 _ _ _⟩
      · have hA' : hi ≤ r := by omega
        by_cases hB : hi = r
        · have hB1 : r ≤ hi := by omega
          have hBt : ((hi : Int) == (r : Int)) = true := beq_iff_eq.2 (by omega)
          clear hB
          by_cases hC : X0 < lo
          · have hq1 : 1 ≤ q := by
              rcases Nat.eq_zero_or_pos q with h | h
              · subst h; have := (unhide HI).2.1; rw [Nat.zero_mul] at this; omega
              · exact h
            have hRq := unhide I1 q r (unhide HI).1 (by rw [(unhide HI).2.1]; omega)
            obtain ⟨q', rfl⟩ : ∃ q', q = q' + 1 := ⟨q - 1, by omega⟩
            obtain ⟨s, k, hs, hk, he⟩ := add_letters r F 0 hrB d1 (by omega)
            rw [Nat.add_zero] at he
            have AD := fun w => add64c r F hrB d1 s k he hs w
            obtain ⟨l2, bw, hl2, hbw, he2⟩ := sub_letters lo S 0 hlo d0 (by omega)
            rw [Nat.add_zero] at he2
            have SB := fun w => sub64c lo S l2 bw he2 hl2 hlo d0 w
            have e4 := (unhide HI).2.1
            rw [Nat.add_mul, Nat.one_mul] at e4
            have hbh : bw ≤ hi := by omega
            obtain ⟨h', hh'⟩ : ∃ h', h' + bw = hi := ⟨hi - bw, by omega⟩
            have e5 : q' * S = l2 + 18446744073709551616 * h' := by rw [← hh', Nat.mul_add] at e4; omega
            have e6 := (unhide HI).1
            rw [Nat.add_mul, Nat.one_mul] at e6
            have HRQ := hide hRq
            have hk01 : k = 0 ∨ k = 1 := by omega
            rcases hk01 with rfl | rfl
            · have HN : Hid (X2 * 18446744073709551616 + X1 = q' * F + s ∧ q' * S = l2 + 18446744073709551616 * h' ∧ R < (q' + 1) * Y) := ⟨by omega, e5, hRq⟩
              have HH := hide hh'
              clear e4 e5 e6 he he2 hRq HI hh'
              go_wp2
              go_round
              case rel => exact ⟨q', s, h', l2, by go_num, rfl, congrArg (Value.int IntKind.u64) (by have := unhide HH; omega), rfl, by omega, hs, by have := unhide HH; omega, hl2, unhide HN⟩
              case measure => simp [intOf]
            · have HH := hide hh'
              clear e4 e5 e6 he he2 hRq HI hh'
              go_wp2
              go_ret
              exact ⟨q', by go_num, by omega, unhide HRQ, by rw [unhide HW]; exact dr1 _ _ _⟩
          · have hC' : lo ≤ X0 := by omega
            go_wp2
            go_ret
            exact ⟨q, rfl, hqB, (unhide HI).2.2, by rw [unhide HW]; exact dr1 _ _ _⟩
        · have hB' : ((hi : Int) == (r : Int)) = false := beq_eq_false_iff_ne.2 (by omega)
          go_wp2
          go_ret
          exact ⟨q, rfl, hqB, (unhide HI).2.2, by rw [unhide HW]; exact dr1 _ _ _⟩
end Go.Proofs.YteipfplbcbaheaaGreatDoor
