/- Plain facts on Lehmer's steps: several steps of Euclid's at once, by leading bits. -/
import Derived.Test.YtjbboicccddhbaaGreatDoorProg
import Derived.Deep.LoopGhost
import Derived.Lib.ItoaNum
import Derived.Laws.IdiomStrings
import Derived.OwnWalk
import Derived.WalkSpells
import Derived.Test.YtjbboicccddhbaaGreatDoorKBBase
namespace Go.Proofs.YtjbboicccddhbaaGreatDoor
structure Leh (a0 b0 a b xx xy yx yy : Nat) (back : Bool) : Prop where
  i1 : a * yy + b * xy = a0
  i2 : a * yx + b * xx = b0
  det : if back then xy * yx = xx * yy + 1 else xx * yy = xy * yx + 1
  le : yx ≤ yy
structure Good (a b xx xy yx yy : Nat) : Prop where
  p1 : 0 < xy
  p2 : 0 < yx
  p3 : xx ≤ xy
  p4 : yy ≤ b
  p5 : b + (xy + yy) ≤ a
theorem Leh.start (a b : Nat) : Leh a b a b 1 0 0 1 false := ⟨by omega, by omega, by simp, by omega⟩
/-- the state of the loop: what the numbers are, and that they have been found good, unless no step was taken yet -/
def Lst (a0 b0 a b xx xy yx yy : Nat) (back : Bool) : Prop := Leh a0 b0 a b xx xy yx yy back ∧ b ≤ a ∧ ((xx = 1 ∧ xy = 0 ∧ yx = 0 ∧ yy = 1) ∨ Good a b xx xy yx yy)
theorem Lst.yy {a0 b0 a b xx xy yx yy : Nat} {back : Bool} (h : Lst a0 b0 a b xx xy yx yy back) : 0 < yy := by
  obtain ⟨h1, -, h2 | h2⟩ := h
  · omega
  · have := h1.le; have := h2.p2; omega
theorem Lst.next {a0 b0 a b xx xy yx yy : Nat} {back : Bool} (h : Lst a0 b0 a b xx xy yx yy back) (q b' : Nat) (e : a = q * b + b') (hb' : b' < b) :
    Leh a0 b0 b b' yx yy (xx + q * yx) (xy + q * yy) (!back) ∧ 0 < xx + q * yx ∧ yx ≤ yy := by
  obtain ⟨h1, hba, h2⟩ := h
  have hq : 1 ≤ q := by
    rcases Nat.eq_zero_or_pos q with h0 | h0
    · subst h0; omega
    · exact h0
  have hle : xx + q * yx ≤ xy + q * yy := by
    rcases h2 with h2 | h2
    · obtain ⟨rfl, rfl, rfl, rfl⟩ := h2; omega
    · exact Nat.add_le_add h2.p3 (Nat.mul_le_mul_left _ h1.le)
  have hp : 0 < xx + q * yx := by
    rcases h2 with h2 | h2
    · omega
    · have := Nat.mul_le_mul hq h2.p2; omega
  refine ⟨⟨?_, ?_, ?_, hle⟩, hp, h1.le⟩
  · rw [← h1.i1, e]; grind
  · rw [← h1.i2, e]; grind
  · have := h1.det
    cases back <;> simp at this ⊢ <;> grind
theorem Leh.bound {a0 b0 a b xx xy yx yy : Nat} {back : Bool} (h : Leh a0 b0 a b xx xy yx yy back) (ha : 0 < a) : yy ≤ a0 ∧ yx ≤ b0 := by
  have h1 := h.i1
  have h2 := h.i2
  have h3 := Nat.mul_le_mul_right yy ha
  have h4 := Nat.mul_le_mul_right yx ha
  omega
theorem Leh.bound2 {a0 b0 a b xx xy yx yy : Nat} {back : Bool} (h : Leh a0 b0 a b xx xy yx yy back) (ha : 0 < a) (hb : 0 < b) : xy + yy ≤ a0 := by
  have h1 := h.i1
  have h3 := Nat.mul_le_mul_right yy ha
  have h4 := Nat.mul_le_mul_right xy hb
  omega
theorem Lst.taken {a0 b0 a b xx xy yx yy : Nat} {back : Bool} (h : Lst a0 b0 a b xx xy yx yy back) (q b' : Nat) (e : a = q * b + b') (hb' : b' < b) (c1 : xy + q * yy ≤ b') (c2 : yy + (xy + q * yy) ≤ b - b') : Lst a0 b0 b b' yx yy (xx + q * yx) (xy + q * yy) (!back) := by
  obtain ⟨n1, n2, n3⟩ := h.next q b' e hb'
  exact ⟨n1, by omega, .inr ⟨h.yy, n2, n3, c1, by omega⟩⟩
theorem gcd_two (x y X Y p q r s : Nat) (hx : X * p + Y * q = x) (hy : X * r + Y * s = y) (hd : ∀ d, d ∣ x → d ∣ y → d ∣ X ∧ d ∣ Y) : Nat.gcd X Y = Nat.gcd x y := by
  apply Nat.dvd_antisymm
  · apply Nat.dvd_gcd
    · rw [← hx]; exact Nat.dvd_add (Nat.dvd_mul_right_of_dvd (Nat.gcd_dvd_left _ _) _) (Nat.dvd_mul_right_of_dvd (Nat.gcd_dvd_right _ _) _)
    · rw [← hy]; exact Nat.dvd_add (Nat.dvd_mul_right_of_dvd (Nat.gcd_dvd_left _ _) _) (Nat.dvd_mul_right_of_dvd (Nat.gcd_dvd_right _ _) _)
  · obtain ⟨h1, h2⟩ := hd _ (Nat.gcd_dvd_left x y) (Nat.gcd_dvd_right x y)
    exact Nat.dvd_gcd h1 h2
theorem Leh.apply {a0 b0 a b xx xy yx yy : Nat} {back : Bool} (h : Leh a0 b0 a b xx xy yx yy back) (g : Good a b xx xy yx yy) (x y K ε δ : Nat) (hx : x = a0 * K + ε) (hy : y = b0 * K + δ) (hε : ε < K) (hδ : δ < K) :
    ∃ X Y : Nat, (if back then X + xx * x = xy * y ∧ Y + yy * y = yx * x else X + xy * y = xx * x ∧ Y + yx * x = yy * y) ∧ Y < X ∧ X ≤ y ∧ Nat.gcd X Y = Nat.gcd x y := by
  obtain ⟨i1, i2, det, le⟩ := h
  obtain ⟨p1, p2, p3, p4, p5⟩ := g
  have m1 : yy * δ ≤ b * K := Nat.mul_le_mul p4 (Nat.le_of_lt hδ)
  have m2 : yx * ε ≤ b * K := Nat.mul_le_mul (Nat.le_trans le p4) (Nat.le_of_lt hε)
  have m3 : (xy + yy) * (δ + 1) ≤ (a - b) * K := Nat.mul_le_mul (by omega) hδ
  have m4 : (xx + yx) * (ε + 1) ≤ (a - b) * K := Nat.mul_le_mul (by omega) hε
  have m5 : (a - b) * K + b * K = a * K := by rw [← Nat.add_mul]; congr 1; omega
  cases back
  · simp only [Bool.false_eq_true, if_false] at det ⊢
    have e1 : yy * b0 = yx * a0 + b := by rw [← i1, ← i2]; grind
    have e2 : xx * a0 = xy * b0 + a := by rw [← i1, ← i2]; grind
    have f1 : yy * y = yx * a0 * K + b * K + yy * δ := by rw [hy]; grind
    have f2 : yx * x = yx * a0 * K + yx * ε := by rw [hx]; grind
    have f3 : xx * x = xy * b0 * K + a * K + xx * ε := by rw [hx]; grind
    have f4 : xy * y = xy * b0 * K + xy * δ := by rw [hy]; grind
    have g1 : (xy + yy) * (δ + 1) = xy * δ + yy * δ + xy + yy := by grind
    obtain ⟨Y, hY⟩ : ∃ Y, Y + yx * x = yy * y := ⟨yy * y - yx * x, by omega⟩
    obtain ⟨X, hX⟩ : ∃ X, X + xy * y = xx * x := ⟨xx * x - xy * y, by omega⟩
    have hYX : Y < X := by omega
    have hx2 : X * yy + Y * xy = x := by
      have : X * yy + Y * xy + xy * y * yy + yx * x * xy = xx * x * yy + yy * y * xy := by rw [← hX, ← hY]; grind
      have e : xx * x * yy = (xy * yx + 1) * x := by rw [← det]; grind
      grind
    have hy2 : X * yx + Y * xx = y := by
      have : X * yx + Y * xx + xy * y * yx + yx * x * xx = xx * x * yx + yy * y * xx := by rw [← hX, ← hY]; grind
      have e : yy * y * xx = (xy * yx + 1) * y := by rw [← det]; grind
      grind
    refine ⟨X, Y, ⟨hX, hY⟩, hYX, ?_, gcd_two x y X Y yy xy yx xx hx2 hy2 (fun d d1 d2 => ⟨?_, ?_⟩)⟩
    · rw [← hy2]; have := Nat.le_mul_of_pos_right X p2; omega
    · exact (Nat.dvd_add_left (Nat.dvd_mul_left_of_dvd d2 xy)).1 (by rw [hX]; exact Nat.dvd_mul_left_of_dvd d1 xx)
    · exact (Nat.dvd_add_left (Nat.dvd_mul_left_of_dvd d1 yx)).1 (by rw [hY]; exact Nat.dvd_mul_left_of_dvd d2 yy)
  · simp only [if_true] at det ⊢
    have e1 : yx * a0 = yy * b0 + b := by rw [← i1, ← i2]; grind
    have e2 : xy * b0 = xx * a0 + a := by rw [← i1, ← i2]; grind
    have f1 : yx * x = yy * b0 * K + b * K + yx * ε := by rw [hx]; grind
    have f2 : yy * y = yy * b0 * K + yy * δ := by rw [hy]; grind
    have f3 : xy * y = xx * a0 * K + a * K + xy * δ := by rw [hy]; grind
    have f4 : xx * x = xx * a0 * K + xx * ε := by rw [hx]; grind
    have g1 : (xx + yx) * (ε + 1) = xx * ε + yx * ε + xx + yx := by grind
    obtain ⟨Y, hY⟩ : ∃ Y, Y + yy * y = yx * x := ⟨yx * x - yy * y, by omega⟩
    obtain ⟨X, hX⟩ : ∃ X, X + xx * x = xy * y := ⟨xy * y - xx * x, by omega⟩
    have hYX : Y < X := by omega
    have hx2 : X * yy + Y * xy = x := by
      have : X * yy + Y * xy + xx * x * yy + yy * y * xy = xy * y * yy + yx * x * xy := by rw [← hX, ← hY]; grind
      have e : yx * x * xy = (xx * yy + 1) * x := by rw [← det]; grind
      grind
    have hy2 : X * yx + Y * xx = y := by
      have : X * yx + Y * xx + xx * x * yx + yy * y * xx = xy * y * yx + yx * x * xx := by rw [← hX, ← hY]; grind
      have e : xy * y * yx = (xx * yy + 1) * y := by rw [← det]; grind
      grind
    refine ⟨X, Y, ⟨hX, hY⟩, hYX, ?_, gcd_two x y X Y yy xy yx xx hx2 hy2 (fun d d1 d2 => ⟨?_, ?_⟩)⟩
    · rw [← hy2]; have := Nat.le_mul_of_pos_right X p2; omega
    · exact (Nat.dvd_add_left (Nat.dvd_mul_left_of_dvd d1 xx)).1 (by rw [hX]; exact Nat.dvd_mul_left_of_dvd d2 xy)
    · exact (Nat.dvd_add_left (Nat.dvd_mul_left_of_dvd d2 yy)).1 (by rw [hY]; exact Nat.dvd_mul_left_of_dvd d1 yx)
theorem mod_same_of (M a b u v : Nat) (ha : a < M) (hb : b < M) (e : a + M * u = b + M * v) : a = b := by
  have h1 : (a + M * u) % M = a := by rw [Nat.add_mul_mod_self_left, Nat.mod_eq_of_lt ha]
  have h2 : (b + M * v) % M = b := by rw [Nat.add_mul_mod_self_left, Nat.mod_eq_of_lt hb]
  rw [← h1, ← h2, e]

/-- leading bits of a number of words: X = (x1 B + x0) B^m + l, and of its two highest words the bits from 64 - n on -/
theorem lead_split (x1 x0 m n l : Nat) (hn : n ≤ 63) (hl : l < 18446744073709551616 ^ m) : ∃ ε, l + 18446744073709551616 ^ m * (x0 + 18446744073709551616 * x1) = (x1 * 2 ^ n + x0 / 2 ^ (64 - n)) * (2 ^ (64 - n) * 18446744073709551616 ^ m) + ε ∧ ε < 2 ^ (64 - n) * 18446744073709551616 ^ m := by
  have hp : 18446744073709551616 = 2 ^ n * 2 ^ (64 - n) := by rw [← Nat.pow_add, show n + (64 - n) = 64 from by omega]
  have h1 := Nat.div_add_mod x0 (2 ^ (64 - n))
  have h2 : x0 % 2 ^ (64 - n) + 1 ≤ 2 ^ (64 - n) := Nat.mod_lt _ (Nat.pow_pos (by omega))
  refine ⟨x0 % 2 ^ (64 - n) * 18446744073709551616 ^ m + l, ?_, ?_⟩
  · have h3 : x0 + 18446744073709551616 * x1 = (x1 * 2 ^ n + x0 / 2 ^ (64 - n)) * 2 ^ (64 - n) + x0 % 2 ^ (64 - n) := by
      conv => lhs; rw [← h1]
      rw [hp]
      generalize 2 ^ (64 - n) = P
      generalize 2 ^ n = Q
      grind
    rw [h3]
    generalize (x1 * 2 ^ n + x0 / 2 ^ (64 - n)) = A
    generalize 2 ^ (64 - n) = P
    generalize x0 % P = r
    generalize 18446744073709551616 ^ m = M
    grind
  · have h3 := Nat.mul_le_mul_right (18446744073709551616 ^ m) h2
    rw [Nat.add_mul, Nat.one_mul] at h3
    omega
theorem lead_le (a b K ε δ X Y : Nat) (hX : X = a * K + ε) (hY : Y = b * K + δ) (hε : ε < K) (hle : Y ≤ X) : b ≤ a := by
  rcases Nat.lt_or_ge a b with h | h
  · exfalso
    have := Nat.mul_le_mul_right K h
    rw [Nat.succ_mul] at this
    omega
  · exact h

/-- what holds ahead of a round that takes steps -/
structure TakeInv (ps qs ps' qs' : List Nat) (c1 c2 c3 c4 k up dn lf rt bo ow : Nat) : Prop where
  lp : ps'.length = ps.length
  lq : qs'.length = qs.length
  mp : ∀ x ∈ ps', x < 18446744073709551616
  mq : ∀ x ∈ qs', x < 18446744073709551616
  dp : ps'.drop k = ps.drop k
  dq : qs'.drop k = qs.drop k
  v1 : vl 18446744073709551616 (ps'.take k) + c2 * vl 18446744073709551616 (qs.take k) + up * 18446744073709551616 ^ k = c1 * vl 18446744073709551616 (ps.take k) + (dn + bo) * 18446744073709551616 ^ k
  v2 : vl 18446744073709551616 (qs'.take k) + c3 * vl 18446744073709551616 (ps.take k) + rt * 18446744073709551616 ^ k = c4 * vl 18446744073709551616 (qs.take k) + (lf + ow) * 18446744073709551616 ^ k
theorem TakeInv.start (ps qs : List Nat) (c1 c2 c3 c4 : Nat) (hp : ∀ x ∈ ps, x < 18446744073709551616) (hq : ∀ x ∈ qs, x < 18446744073709551616) : TakeInv ps qs ps qs c1 c2 c3 c4 0 0 0 0 0 0 0 :=
  ⟨rfl, rfl, hp, hq, rfl, rfl, by simp [vl], by simp [vl]⟩
theorem drop_get (xs ys : List Nat) (k : Nat) (h : xs.drop k = ys.drop k) : xs[k]?.getD 0 = ys[k]?.getD 0 := by
  have := congrArg (fun l : List Nat => l[0]?.getD 0) h
  simpa [List.getElem?_drop] using this
theorem take_set (rs : List Nat) (k s : Nat) (h : k < rs.length) : (rs.set k s).take (k + 1) = rs.take k ++ [s] := by
  rw [take_snoc_getD _ k (by rw [List.length_set]; exact h), List.getElem?_set_self h, List.take_set_of_le (Nat.le_refl k)]; rfl
theorem drop_set' (rs : List Nat) (k s : Nat) : (rs.set k s).drop (k + 1) = rs.drop (k + 1) := List.drop_set_of_lt (by omega)
theorem vl_snoc (rs : List Nat) (k s : Nat) (h : k < rs.length) : vl 18446744073709551616 ((rs.set k s).take (k + 1)) = vl 18446744073709551616 (rs.take k) + s * 18446744073709551616 ^ k := by
  rw [take_set rs k s h, vl_append, vl, vl, List.length_take, Nat.min_eq_left (by omega)]
  simp [Nat.mul_comm]
theorem TakeInv.step {ps qs ps' qs' : List Nat} {c1 c2 c3 c4 k up dn lf rt bo ow : Nat} (h : TakeInv ps qs ps' qs' c1 c2 c3 c4 k up dn lf rt bo ow) (hk : k < ps.length) (hl : ps.length = qs.length) (s1 s2 up' dn' lf' rt' bo' ow' p1 m1 p2 m2 : Nat) (hs1 : s1 < 18446744073709551616) (hs2 : s2 < 18446744073709551616)
    (e1 : c1 * ps[k]?.getD 0 + up = p1 + 18446744073709551616 * up') (e2 : c2 * qs[k]?.getD 0 + dn = m1 + 18446744073709551616 * dn') (e3 : s1 + m1 + bo = p1 + 18446744073709551616 * bo')
    (e4 : c4 * qs[k]?.getD 0 + rt = p2 + 18446744073709551616 * rt') (e5 : c3 * ps[k]?.getD 0 + lf = m2 + 18446744073709551616 * lf') (e6 : s2 + m2 + ow = p2 + 18446744073709551616 * ow') :
    TakeInv ps qs (ps'.set k s1) (qs'.set k s2) c1 c2 c3 c4 (k + 1) up' dn' lf' rt' bo' ow' := by
  have a1 := h.lp
  have a2 := h.lq
  have d1 : ps'.drop (k + 1) = ps.drop (k + 1) := by have := congrArg (List.drop 1) h.dp; rwa [List.drop_drop, List.drop_drop] at this
  have d2 : qs'.drop (k + 1) = qs.drop (k + 1) := by have := congrArg (List.drop 1) h.dq; rwa [List.drop_drop, List.drop_drop] at this
  refine ⟨by rw [List.length_set]; exact a1, by rw [List.length_set]; exact a2, mem_set h.mp _ _ hs1, mem_set h.mq _ _ hs2, by rw [drop_set']; exact d1, by rw [drop_set']; exact d2, ?_, ?_⟩
  · rw [vl_snoc _ _ _ (by omega), vl_take_succ 18446744073709551616 qs k (by omega), vl_take_succ 18446744073709551616 ps k hk, Nat.pow_succ]
    have hv := h.v1
    generalize vl 18446744073709551616 (ps'.take k) = A at *
    generalize vl 18446744073709551616 (qs.take k) = Q at *
    generalize vl 18446744073709551616 (ps.take k) = P at *
    generalize 18446744073709551616 ^ k = M at *
    generalize ps[k]?.getD 0 = a at *
    generalize qs[k]?.getD 0 = b at *
    have f : (s1 + c2 * b + 18446744073709551616 * up' + dn + bo) * M = (c1 * a + 18446744073709551616 * dn' + 18446744073709551616 * bo' + up) * M := by congr 1; omega
    grind
  · rw [vl_snoc _ _ _ (by omega), vl_take_succ 18446744073709551616 qs k (by omega), vl_take_succ 18446744073709551616 ps k hk, Nat.pow_succ]
    have hv := h.v2
    generalize vl 18446744073709551616 (qs'.take k) = A at *
    generalize vl 18446744073709551616 (qs.take k) = Q at *
    generalize vl 18446744073709551616 (ps.take k) = P at *
    generalize 18446744073709551616 ^ k = M at *
    generalize ps[k]?.getD 0 = a at *
    generalize qs[k]?.getD 0 = b at *
    have f : (s2 + c3 * a + 18446744073709551616 * rt' + lf + ow) * M = (c4 * b + 18446744073709551616 * lf' + 18446744073709551616 * ow' + rt) * M := by congr 1; omega
    grind
theorem TakeInv.fin {ps qs ps' qs' : List Nat} {c1 c2 c3 c4 up dn lf rt bo ow : Nat} (h : TakeInv ps qs ps' qs' c1 c2 c3 c4 ps.length up dn lf rt bo ow) (hl : ps.length = qs.length) (P' Q' X Y hp hq : Nat)
    (eP : P' = vl 18446744073709551616 ps + 18446744073709551616 ^ ps.length * hp) (eQ : Q' = vl 18446744073709551616 qs + 18446744073709551616 ^ ps.length * hq) (eX : X + c2 * Q' = c1 * P') (eY : Y + c3 * P' = c4 * Q') (hX : X < 18446744073709551616 ^ ps.length) (hY : Y < 18446744073709551616 ^ ps.length) : vl 18446744073709551616 ps' = X ∧ vl 18446744073709551616 qs' = Y := by
  have h1 := h.v1
  have h2 := h.v2
  have b1 := vl_lt (by omega : 0 < 18446744073709551616) ps' h.mp
  have b2 := vl_lt (by omega : 0 < 18446744073709551616) qs' h.mq
  have a1 := h.lp
  have a2 := h.lq
  rw [a1] at b1
  rw [a2, ← hl] at b2
  rw [List.take_of_length_le (by omega), List.take_of_length_le (by omega), List.take_of_length_le (by omega)] at h1 h2
  generalize 18446744073709551616 ^ ps.length = M at *
  generalize vl 18446744073709551616 ps' = A at *
  generalize vl 18446744073709551616 qs' = C at *
  generalize vl 18446744073709551616 ps = P at *
  generalize vl 18446744073709551616 qs = Q at *
  subst eP eQ
  exact ⟨mod_same_of M A X (up + c1 * hp) (dn + bo + c2 * hq) b1 hX (by grind), mod_same_of M C Y (rt + c4 * hq) (lf + ow + c3 * hp) b2 hY (by grind)⟩
end Go.Proofs.YtjbboicccddhbaaGreatDoor

namespace Go.Proofs.YtjbboicccddhbaaGreatDoor
open Go.RowKit

theorem But.grown {a w w' : World} {row : Option Nat} (h : But [] a w) (hg : w.grownBy w' row) (hr : ∀ k, row = some k → a.heap.size ≤ k) : But [] a w' :=
  ⟨hg.os.trans h.os, hg.tape.trans h.tape, hg.output.trans h.output, Nat.le_trans h.size hg.size, fun k hk hn => by
    rw [hg.block k (Nat.lt_of_lt_of_le hk h.size) (fun e => by have := hr k e.symm; omega)]
    exact h.block k hk hn⟩
theorem grown_but {w w' : World} {g : Nat} (hg : w.grownBy w' (some g)) : But [g] w w' :=
  ⟨hg.os, hg.tape, hg.output, hg.size, fun k hk hn => hg.block k hk (fun e => hn (by simp only [Option.some.injEq] at e; simp [e]))⟩
theorem grown_but_none {w w' : World} (hg : w.grownBy w' none) : But [] w w' :=
  ⟨hg.os, hg.tape, hg.output, hg.size, fun k hk _ => hg.block k hk (by simp)⟩
theorem owns_but {w w' : World} {base : Nat} {e : TypeId} {size : Nat} {v : Value} {n : Nat} {xs : List Value} (h : w.ownsRow base e size v n xs) (hb : But [] w w') : w'.ownsRow base e size v n xs := by
  obtain ⟨h1, h2⟩ := h
  refine ⟨h1, ?_⟩
  rcases h2 with h2 | ⟨g, cap, cur, e1, e2, e3, e4⟩
  · exact .inl h2
  · refine .inr ⟨g, cap, cur, e1, e2, ?_, e4⟩
    have hlt : g < w.heap.size := by
      rcases Nat.lt_or_ge g w.heap.size with h | h
      · exact h
      · rw [Array.getElem?_eq_none h] at e3; cases e3
    rw [hb.block g hlt (by simp)]; exact e3

/-- a byte's value -/
def u8v (b : UInt8) : Value := .int .u8 (b.toNat : Int)
/-- the decimal digits' bytes, the last first; none for 0 -/
def rdig (n : Nat) : List UInt8 := if h : 0 < n then UInt8.ofNat (48 + n % 10) :: rdig (n / 10) else []
  termination_by n
  decreasing_by exact Nat.div_lt_self h (by omega)
theorem rdig_zero : rdig 0 = [] := by rw [rdig]; simp
theorem rdig_pos {n : Nat} (h : 0 < n) : rdig n = UInt8.ofNat (48 + n % 10) :: rdig (n / 10) := by rw [rdig, dif_pos h]
theorem rdig_rev (n : Nat) (h : 0 < n) : (rdig n).reverse = Lib.decDigits n := by
  induction n using Nat.strongRecOn with
  | _ n ih =>
    rw [rdig_pos h, List.reverse_cons, Lib.decDigits]
    by_cases h10 : n < 10
    · rw [dif_pos h10, Nat.div_eq_of_lt h10, rdig_zero, Nat.mod_eq_of_lt h10]; rfl
    · rw [dif_neg h10, ih (n / 10) (Nat.div_lt_self h (by omega)) (by omega)]
theorem rdig_length (n k : Nat) (h : n < 10 ^ k) : (rdig n).length ≤ k := by
  induction k generalizing n with
  | zero =>
    have : n = 0 := by simp at h; omega
    subst this; simp [rdig_zero]
  | succ k ih =>
    by_cases hn : 0 < n
    · rw [rdig_pos hn, List.length_cons]
      have := ih (n / 10) (by rw [Nat.div_lt_iff_lt_mul (by omega)]; rw [Nat.pow_succ] at h; exact h)
      omega
    · have : n = 0 := by omega
      subst this; simp [rdig_zero]
theorem info_u8 : ∃ i, Tryz.prog.info? 5 = some i ∧ i.zero = some (.int .u8 0) ∧ i.size = 1 ∧ i.bytes = 1 := by
  have h : (Tryz.prog.info? 5).map (fun i => (i.zero, i.size, i.bytes)) = some (some (.int .u8 0), 1, 1) := by kernel_rfl
  obtain ⟨i, hi, he⟩ := Option.map_eq_some_iff.1 h
  simp only [Prod.mk.injEq] at he
  exact ⟨i, hi, he.1, he.2.1, he.2.2⟩

/-- ahead of round i of the reversal -/
structure RevInv (bs cs : List Nat) (i : Nat) : Prop where
  len : cs.length = bs.length
  at' : ∀ k, k < bs.length → cs[k]?.getD 0 = if k < i ∨ bs.length - i ≤ k then bs[bs.length - 1 - k]?.getD 0 else bs[k]?.getD 0
theorem RevInv.start (bs : List Nat) : RevInv bs bs 0 := ⟨rfl, fun k hk => by rw [if_neg (by omega)]⟩
theorem getD_set (l : List Nat) (i k x : Nat) (hi : i < l.length) : (l.set i x)[k]?.getD 0 = if k = i then x else l[k]?.getD 0 := by
  by_cases h : k = i
  · subst h; rw [List.getElem?_set_self hi, if_pos rfl]; rfl
  · rw [List.getElem?_set_ne (Ne.symm h), if_neg h]
theorem RevInv.step {bs cs : List Nat} {i : Nat} (h : RevInv bs cs i) (hij : i < bs.length - 1 - i) : RevInv bs ((cs.set i (cs[bs.length - 1 - i]?.getD 0)).set (bs.length - 1 - i) (cs[i]?.getD 0)) (i + 1) := by
  have hl := h.len
  refine ⟨by simp [hl], fun k hk => ?_⟩
  have e1 : cs[i]?.getD 0 = bs[i]?.getD 0 := by rw [h.at' i (by omega), if_neg (by omega)]
  have e2 : cs[bs.length - 1 - i]?.getD 0 = bs[bs.length - 1 - i]?.getD 0 := by rw [h.at' (bs.length - 1 - i) (by omega), if_neg (by omega)]
  rw [getD_set _ _ _ _ (by simp [hl]; omega), getD_set _ _ _ _ (by omega), e1, e2]
  by_cases h1 : k = bs.length - 1 - i
  · subst h1
    rw [if_pos rfl, if_pos (by omega), show bs.length - 1 - (bs.length - 1 - i) = i from by omega]
  · rw [if_neg h1]
    by_cases h2 : k = i
    · subst h2
      rw [if_pos rfl, if_pos (by omega)]
    · rw [if_neg h2, h.at' k hk]
      by_cases h3 : k < i ∨ bs.length - i ≤ k
      · rw [if_pos h3, if_pos (by omega)]
      · rw [if_neg h3, if_neg (by omega)]
theorem RevInv.fin {bs cs : List Nat} {i : Nat} (h : RevInv bs cs i) (hij : bs.length ≤ 2 * i + 1) : cs = bs.reverse := by
  refine List.ext_getElem (by simp [h.len]) fun k h1 h2 => ?_
  have hk : k < bs.length := by rw [← h.len]; exact h1
  have e := h.at' k hk
  rw [List.getElem?_eq_getElem h1, Option.getD_some] at e
  rw [e, List.getElem_reverse]
  by_cases h3 : k < i ∨ bs.length - i ≤ k
  · rw [if_pos h3, List.getElem?_eq_getElem (by omega)]; rfl
  · rw [if_neg h3, List.getElem?_eq_getElem hk, Option.getD_some]
    have : bs.length - 1 - k = k := by omega
    simp only [this]
theorem owns_row {w : World} {base : Nat} {e : TypeId} {v : Value} {bs : List UInt8} (h : w.ownsRow base e 1 v bs.length (bs.map u8v)) (h0 : 0 < bs.length) :
    ∃ g cap, v = .slice (some ⟨g, 0, none⟩) bs.length cap ∧ base ≤ g ∧ bs.length ≤ cap ∧ Row .u8 w g (bs.map UInt8.toNat) := by
  obtain ⟨h1, h2⟩ := h
  rcases h2 with ⟨-, h2⟩ | ⟨g, cap, cur, e1, e2, e3, e4, e5, e6, e7⟩
  · omega
  · refine ⟨g, cap, e1, e2, e4, fun i hi => ?_⟩
    rw [List.length_map] at hi
    have hc : cur[i]? = some (u8v bs[i]) := by
      have : (cur.toList.take (bs.length * 1))[i]? = some (u8v bs[i]) := by rw [e7, List.getElem?_map, List.getElem?_eq_getElem hi]; rfl
      rw [List.getElem?_take_of_lt (by omega)] at this
      simpa using this
    refine ⟨?_, by simp [World.frozen?, e3]⟩
    simp only [World.cell?, e3, hc]
    simp [u8v, hi]

theorem sl_grown {k : IntKind} {w2 w3 : World} {v : Value} {xs : List Nat} {o : Obj} {row : Option Nat} {B : Nat} (h : Sl k w2 v xs) (hg : (w2.alloc o).grownBy w3 row) (hr : ∀ k, row = some k → k < B) (hf : Fresh B v) : Sl k w3 v xs := by
  have h1 := h.but_nil ((But.refl [] w2).alloc o)
  cases row with
  | none => exact h1.but_nil (grown_but_none hg)
  | some g => exact h1.but (grown_but hg) (fun b off cap n e => by have := hf b off n cap e; have := hr g rfl; simp; omega)
theorem u8v_digit (r : Nat) (h : r < 10) : Value.int .u8 (48 + (r : Int)) = u8v (UInt8.ofNat (48 + r)) := by
  unfold u8v
  rw [UInt8.toNat_ofNat_of_lt' (by simp [UInt8.size]; omega)]
  simp

/-- the last k digits, with noughts, the last first -/
def pdig : Nat → Nat → List UInt8
  | 0, _ => []
  | k + 1, r => UInt8.ofNat (48 + r % 10) :: pdig k (r / 10)
theorem pdig_length : ∀ k r, (pdig k r).length = k
  | 0, _ => rfl
  | k + 1, r => by rw [pdig, List.length_cons, pdig_length k]
theorem pdig_snoc : ∀ k r, pdig (k + 1) r = pdig k r ++ [UInt8.ofNat (48 + r / 10 ^ k % 10)]
  | 0, r => by simp [pdig]
  | k + 1, r => by
    rw [pdig, pdig_snoc k (r / 10), pdig, List.cons_append, Nat.div_div_eq_div_mul, Nat.pow_succ, Nat.mul_comm 10]
theorem pdig_mod : ∀ k r, pdig k (r % 10 ^ k) = pdig k r
  | 0, r => rfl
  | k + 1, r => by
    have h1 : r % 10 ^ (k + 1) % 10 = r % 10 := Nat.mod_mod_of_dvd _ ⟨10 ^ k, by rw [Nat.pow_succ, Nat.mul_comm]⟩
    have h2 : r % 10 ^ (k + 1) / 10 = r / 10 % 10 ^ k := by rw [Nat.pow_succ, Nat.mul_comm, Nat.mod_mul_right_div_self]
    rw [pdig, pdig, h1, h2, pdig_mod k]
theorem rdig_part : ∀ k n, 10 ^ k ≤ n → rdig n = pdig k n ++ rdig (n / 10 ^ k)
  | 0, n, _ => by simp [pdig]
  | k + 1, n, h => by
    have hp : 0 < 10 ^ k := Nat.pow_pos (by omega)
    have h0 : 0 < n := by have := Nat.pow_pos (n := k + 1) (show 0 < 10 from by omega); omega
    rw [rdig_pos h0, rdig_part k (n / 10) (by rw [Nat.le_div_iff_mul_le (by omega), ← Nat.pow_succ]; exact h), pdig, List.cons_append, Nat.div_div_eq_div_mul, Nat.pow_succ, Nat.mul_comm 10]
end Go.Proofs.YtjbboicccddhbaaGreatDoor

namespace Go.Proofs.YtjbboicccddhbaaGreatDoor
open Go.RowKit

/-- the digits of a number, the last first, with noughts up to a width -/
def wdig (W X : Nat) : List UInt8 := rdig X ++ List.replicate (W - (rdig X).length) 48
theorem wdig_zero (X : Nat) : wdig 0 X = rdig X := by simp [wdig]
theorem pdig_nought : ∀ k, pdig k 0 = List.replicate k 48
  | 0 => rfl
  | k + 1 => by rw [pdig, Nat.zero_div, pdig_nought k, List.replicate_succ]; rfl
theorem pdig_wdig : ∀ k n, n < 10 ^ k → pdig k n = wdig k n
  | 0, n, h => by
    have : n = 0 := by simp at h; omega
    subst this; simp [pdig, wdig, rdig_zero]
  | k + 1, n, h => by
    by_cases h0 : 0 < n
    · rw [pdig, pdig_wdig k (n / 10) (by rw [Nat.div_lt_iff_lt_mul (by omega)]; rw [Nat.pow_succ] at h; exact h), wdig, wdig, rdig_pos h0, List.cons_append, List.length_cons, Nat.add_sub_add_right]
    · have : n = 0 := by omega
      subst this; rw [pdig_nought, wdig, rdig_zero]; simp
theorem pdig_add : ∀ a b n, pdig (a + b) n = pdig a n ++ pdig b (n / 10 ^ a)
  | 0, b, n => by simp [pdig]
  | a + 1, b, n => by
    rw [Nat.succ_add, pdig, pdig_add a b, pdig, List.cons_append, Nat.div_div_eq_div_mul, Nat.pow_succ, Nat.mul_comm 10]
theorem wdig_long (D X : Nat) (h : 10 ^ D ≤ X) : wdig 0 X = wdig D (X % 10 ^ D) ++ wdig 0 (X / 10 ^ D) := by
  rw [wdig_zero, wdig_zero, rdig_part D X h, ← pdig_mod D X, pdig_wdig D _ (Nat.mod_lt _ (Nat.pow_pos (by omega)))]
theorem wdig_wide (D X : Nat) (h : X < 10 ^ (D + D)) : wdig (D + D) X = wdig D (X % 10 ^ D) ++ wdig D (X / 10 ^ D) := by
  have hp : 0 < 10 ^ D := Nat.pow_pos (by omega)
  rw [← pdig_wdig _ _ h, pdig_add, ← pdig_mod D X, pdig_wdig D _ (Nat.mod_lt _ hp), pdig_wdig D (X / 10 ^ D) (by rw [Nat.div_lt_iff_lt_mul hp, ← Nat.pow_add]; exact h)]
theorem wdig_length (W X : Nat) : (wdig W X).length = max W (rdig X).length := by
  rw [wdig, List.length_append, List.length_replicate]; omega
theorem wdig_pos (W X : Nat) (h : 0 < X ∨ 0 < W) : 0 < (wdig W X).length := by
  rw [wdig_length]
  rcases h with h | h
  · rw [rdig_pos h]; simp; omega
  · omega

/-- rows of words stay -/
def Keep64 (w w' : World) : Prop := ∀ v xs, Sl .u64 w v xs → Sl .u64 w' v xs
theorem Keep64.of_but {w w' : World} (h : But [] w w') : Keep64 w w' := fun _ _ hs => hs.but_nil h
theorem Keep64.trans {a b c : World} (h : Keep64 a b) (k : Keep64 b c) : Keep64 a c := fun v xs hs => k v xs (h v xs hs)
theorem keep_grown {w w' : World} {base : Nat} {vo : Value} {ods : List UInt8} (ho : w.ownsRow base 5 1 vo ods.length (ods.map u8v)) (hn : vo = .slice none 0 0 ∨ 0 < ods.length) (hg : w.grownBy w' vo.ownBlock) : Keep64 w w' := by
  intro v xs hs
  rcases hn with rfl | h0
  · exact hs.but_nil (grown_but_none hg)
  · obtain ⟨g, cap, rfl, -, -, hr⟩ := owns_row ho h0
    exact hs.over (grown_but hg) (hr 0 (by simpa using h0)).1 (by simp)
theorem below_grown {w w' : World} {base : Nat} {vo : Value} {n : Nat} {xs : List Value} (ho : w.ownsRow base 5 1 vo n xs) (hb : base ≤ w.heap.size) (hg : w.grownBy w' vo.ownBlock) : Below base w w' :=
  ⟨hg.os, hg.tape, hg.output, hg.size, fun k hk => hg.block k (by omega) (fun e => by have := (ho.lt k e.symm).1; omega)⟩
theorem But.below_of {w w' : World} {base : Nat} (h : But [] w w') (hb : base ≤ w.heap.size) : Below base w w' := ⟨h.os, h.tape, h.output, h.size, fun k hk => h.block k (by omega) (by simp)⟩
theorem below_trans {a b c : World} {n : Nat} (h : Below n a b) (k : Below n b c) : Below n a c :=
  ⟨k.os.trans h.os, k.tape.trans h.tape, k.output.trans h.output, Nat.le_trans h.size k.size, fun i hi => (k.block i hi).trans (h.block i hi)⟩
theorem owns_shape {w : World} {base : Nat} {e : TypeId} {v : Value} {n : Nat} {xs : List Value} (h : w.ownsRow base e 1 v n xs) : ∃ a c, v = .slice a n c := by
  obtain ⟨-, h2⟩ := h
  rcases h2 with ⟨rfl, rfl⟩ | ⟨g, cap, cur, e1, -⟩
  · exact ⟨_, _, rfl⟩
  · exact ⟨_, _, e1⟩
end Go.Proofs.YtjbboicccddhbaaGreatDoor
