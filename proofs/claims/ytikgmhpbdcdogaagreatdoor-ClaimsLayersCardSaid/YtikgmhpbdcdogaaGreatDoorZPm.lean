/- Dividing by halves, plain: what holds of quotients that are mended. -/
import Derived.Test.YtikgmhpbdcdogaaGreatDoorZBase
namespace Go.Proofs.YtikgmhpbdcdogaaGreatDoor

theorem quo_rem_of {X Y q r : Nat} (h : X = q * Y + r) (hr : r < Y) : X / Y = q∧X % Y = r:=by
 subst h
 have hY : 0 < Y:=by omega
 constructor
 ·rw [Nat.mul_comm,Nat.mul_add_div hY,Nat.div_eq_of_lt hr,Nat.add_zero]
 ·rw [Nat.mul_comm,Nat.mul_add_mod,Nat.mod_eq_of_lt hr]
/-- how far a quotient is mended: q times Y and m make X and what is to be taken -/
structure Mended (X Y T q m : Nat) : Prop where
 eq : X + T = q * Y + m
 lt : m < T + Y
theorem Mended.start (X Y P : Nat) (hP : 0 < P) (hY : 0 < Y / P) : Mended X Y (X / P / (Y / P) * (Y % P)) (X / P / (Y / P)) (X / P % (Y / P) * P + X % P):=by
 obtain ⟨YH,hYH⟩ : ∃ YH,YH = Y / P:=⟨_,rfl⟩
 obtain ⟨YL,hYL⟩ : ∃ YL,YL = Y % P:=⟨_,rfl⟩
 obtain ⟨XH,hXH⟩ : ∃ XH,XH = X / P:=⟨_,rfl⟩
 obtain ⟨XL,hXL⟩ : ∃ XL,XL = X % P:=⟨_,rfl⟩
 have e1 : Y = P * YH + YL:=by rw [hYH,hYL]; exact (Nat.div_add_mod Y P).symm
 have e2 : X = P * XH + XL:=by rw [hXH,hXL]; exact (Nat.div_add_mod X P).symm
 have l1 : XL < P:=by rw [hXL]; exact Nat.mod_lt _ hP
 rw [← hYH,← hYL,← hXH,← hXL]
 rw [← hYH] at hY
 have e3:=Nat.div_add_mod XH YH
 have l2:=Nat.mod_lt XH hY
 generalize XH / YH = q at *
 generalize XH % YH = r at *
 constructor
 ·rw [e2,e1,← e3]; grind
 ·have h1 : (r + 1) * P ≤ YH * P:=Nat.mul_le_mul_right _ l2
  rw [e1]
  have h2 : (r + 1) * P = r * P + P:=Nat.succ_mul _ _
  have h3 : YH * P = P * YH:=Nat.mul_comm _ _
  omega
theorem Mended.pos {X Y T q m : Nat} (h : Mended X Y T q m) (hm : m < T) : 0 < q:=by
 rcases Nat.eq_zero_or_pos q with h0 | h0
 ·have:=h.eq
  rw [h0,Nat.zero_mul] at this
  omega
 ·exact h0
theorem Mended.next {X Y T q m : Nat} (h : Mended X Y T q m) (hm : m < T) : Mended X Y T (q - 1) (m + Y):=by
 have hq:=h.pos hm
 obtain ⟨p,rfl⟩ : ∃ p,q = p + 1:=⟨q - 1,by omega⟩
 have he:=h.eq
 rw [Nat.succ_mul] at he
 exact ⟨by rw [Nat.add_sub_cancel]; omega,by omega⟩
theorem Mended.fin {X Y T q m : Nat} (h : Mended X Y T q m) (hm : T ≤ m) : X / Y = q∧X % Y = m - T:=by
 have he:=h.eq
 have hl:=h.lt
 exact quo_rem_of (by omega) (by omega)
/-- two halves of a quotient -/
theorem halves (X Y P h r l s : Nat) (h1 : X / P = h * Y + r) (h2 : r * P + X % P = l * Y + s) (hs : s < Y) : X / Y = h * P + l∧X % Y = s:=by
 refine quo_rem_of ?_ hs
 have e:=Nat.div_add_mod X P
 rw [h1] at e
 grind
end Go.Proofs.YtikgmhpbdcdogaaGreatDoor
