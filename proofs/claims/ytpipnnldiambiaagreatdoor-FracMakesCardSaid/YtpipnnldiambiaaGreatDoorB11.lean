/- The quotient of two ratios, as the Go text of packages tontinebig and tontineref makes it, of whole numbers of 64 bits. -/
import Derived.Test.YtpipnnldiambiaaGreatDoorB10
import Derived.Deep.RegionWith
namespace Go.Proofs.YtpipnnldiambiaaGreatDoor
open Go.RowKit

set_option maxHeartbeats 1000000 in
theorem den_any (b : Nat) (p : Int) (n : Nat) (w : World) (h : RatAt w b p n) (hn0 : 0 < n) :
    Calls Tryz.prog 38 #[.pointer (some ⟨b, 0, none⟩)] w fun e w' => e = .returned (.pointer (some ⟨b, 2, none⟩)) ∧ w' = w := by
  obtain ⟨-, ⟨-, vb, b1, hvb⟩, -, -⟩ := h
  simp only [Nat.reduceAdd] at b1
  have hl : (wd 4294967296 n).length ≠ 0 := by rw [ne_eq, wd_len_zero (by omega)]; omega
  rw [Int.natAbs_natCast] at hvb
  obtain ⟨a, cap, rfl, -, -⟩ := hvb
  have n0 : (((wd 4294967296 n).length : Int) == 0) = false := by simp; intro h; simp [h] at hl
  generalize (wd 4294967296 n).length = l at *
  go_enter Tryz.func38, Tryz.ntmps38
  go_wp2
  go_ret
  exact ⟨rfl, rfl⟩

set_option maxHeartbeats 1000000 in
theorem intSign_any (b o : Nat) (z : Int) (w : World) (h : IntAt w b o z) (s : Int) (hs : Hid (s = z.sign)) (hl : (wd 4294967296 z.natAbs).length < 2147483648) :
    Calls Tryz.prog 35 #[.pointer (some ⟨b, o, none⟩)] w fun e w' => e = .returned (.int .i64 s) ∧ w' = w := by
  obtain ⟨b0, vb, b1, hvb⟩ := h
  have hz := wd_len_zero (B := 4294967296) (by omega) z.natAbs
  obtain ⟨a, cap, rfl, -, -⟩ := hvb
  generalize (wd 4294967296 z.natAbs).length = l at *
  by_cases h0 : z = 0
  · have hl0 : l = 0 := by omega
    subst hl0
    clear hz
    have es : Hid (s = 0) := by show _ = _; rw [unhide hs, h0]; rfl
    clear h0 hs
    go_enter Tryz.func35, Tryz.ntmps35
    go_wp2
    go_ret
    exact ⟨by rw [unhide es]; rfl, rfl⟩
  · have n0 : ((l : Int) == 0) = false := by simp; omega
    clear hz
    by_cases h1 : z < 0
    · have es : Hid (s = -1) := by show _ = _; rw [unhide hs, Int.sign_eq_neg_one_of_neg h1]
      rw [decide_eq_true h1] at b0
      clear h0 h1 hs
      go_enter Tryz.func35, Tryz.ntmps35
      go_wp2
      go_ret
      exact ⟨by rw [unhide es]; rfl, rfl⟩
    · have es : Hid (s = 1) := by show _ = _; rw [unhide hs, Int.sign_eq_one_of_pos (by omega)]
      rw [decide_eq_false h1] at b0
      clear h0 h1 hs
      go_enter Tryz.func35, Tryz.ntmps35
      go_wp2
      go_ret
      exact ⟨by rw [unhide es]; rfl, rfl⟩

set_option maxHeartbeats 1000000 in
theorem ratSign_any (b : Nat) (p q : Int) (w : World) (h : RatAt w b p q) (s : Int) (hs : Hid (s = p.sign)) (hl : (wd 4294967296 p.natAbs).length < 2147483648) :
    Calls Tryz.prog 19 #[.pointer (some ⟨b, 0, none⟩)] w fun e w' => e = .returned (.int .i64 s) ∧ w' = w := by
  go_enter Tryz.func19, Tryz.ntmps19
  go_wp2_with fail
  refine (intSign_any b 0 p _ h.up s hs hl).mono ?_
  rintro e w' ⟨rfl, hw⟩
  obtain rfl := hw.symm
  go_wp2
  go_ret
  exact ⟨rfl, rfl⟩

theorem slot_new' (w : World) (o : Obj) (t : TypeId) : Slot ((w.alloc o).alloc (.cells #[.bool false, .slice none 0 0] t)) (w.heap.size + 1) 0 := by
  have h := slot_new (w.alloc o) t
  simpa using h
theorem slotA1 (w : World) (t : TypeId) : Slot (w.alloc (.cells #[.bool false, .slice none 0 0] t)).drew w.heap.size 0 := (slot_new w t).drew
theorem slotA2 (w : World) (o : Obj) (t : TypeId) : Slot ((w.alloc (.cells #[.bool false, .slice none 0 0] t)).alloc o).drew w.heap.size 0 := Slot.drew ((slot_new w t).but ((But.refl [] _).alloc o) (by simp))
theorem slotA3 (w : World) (o : Obj) (t : TypeId) : Slot ((w.alloc o).alloc (.cells #[.bool false, .slice none 0 0] t)).drew (w.heap.size + 1) 0 := Slot.drew (slot_new' w o t)
theorem IntAt.drew {w : World} {b o : Nat} {z : Int} (h : IntAt w b o z) : IntAt w.drew b o z := h

theorem intMul_new (A b1 o1 b2 o2 : Nat) (x y z : Int) (hz : x * y = z) (w P : World) (hs : Slot P A 0) (hw : But [] w P) (hA : w.heap.size ≤ A) (hx : IntAt w b1 o1 x) (hy : IntAt w b2 o2 y) (hlx : x.natAbs < 18446744073709551616) (hly : y.natAbs < 18446744073709551616) (hlz : z.natAbs < 18446744073709551616) :
    Calls Tryz.prog 37 #[.pointer (some ⟨A, 0, none⟩), .pointer (some ⟨b1, o1, none⟩), .pointer (some ⟨b2, o2, none⟩)] P fun e W1 => e = .returned (.pointer (some ⟨A, 0, none⟩)) ∧ But [] w W1 ∧ IntAt W1 A 0 z ∧ (∀ B, B ≠ A → Slot P B 0 → Slot W1 B 0) ∧ (∀ b o z, b ≠ A → IntAt P b o z → IntAt W1 b o z) ∧ P.heap.size ≤ W1.heap.size := by
  have l1 := hx.lt
  have l2 := hy.lt
  refine (intMul_any A 0 b1 o1 b2 o2 x y P hs (by omega) (by omega) (hx.but hw) (hy.but hw) (len64 _ hlx) (len64 _ hly) (by rw [← Int.natAbs_mul, hz]; exact len64' _ hlz)).mono ?_
  rintro e W1 ⟨rfl, w1, v, hb, hv, rfl⟩
  rw [hz] at hv ⊢
  have hs1 := hs.but hb (by simp)
  exact ⟨rfl, (hw.trans' hb).trans (put_but ..) (by simp; exact hA), put_int hs1 _ _ hv, fun B hB hS => put_slot_other _ _ (hS.but hb (by simp)) (.inl hB), fun b o z' hB hI => put_int_other hs1 _ _ (hI.but hb) (.inl hB), by rw [put_size]; exact hb.size⟩

set_option maxHeartbeats 16000000 in
set_option maxRecDepth 100000 in
theorem quo_any (zb xb yb : Nat) (x y : Int) (w : World) (hz0 : Slot w zb 0) (hz2 : Slot w zb 2) (hx : RatAt w xb x ((1 : Nat) : Int)) (hy : RatAt w yb y ((1 : Nat) : Int)) (hxl : x.natAbs < 18446744073709551616) (hyl : y.natAbs < 18446744073709551616) (hy0 : y ≠ 0) (N D : Int) (eN0 : Hid (N = redN (if y < 0 then -x else x) y.natAbs)) (eD0 : Hid (D = redD x y.natAbs)) :
    Calls Tryz.prog 20 #[.pointer (some ⟨zb, 0, none⟩), .pointer (some ⟨xb, 0, none⟩), .pointer (some ⟨yb, 0, none⟩)] w fun e w' => e = .returned (.pointer (some ⟨zb, 0, none⟩)) ∧ But [zb] w w' ∧ RatAt w' zb N D := by
  have lx := hx.lt
  have ly := hy.lt
  have lz := hz0.lt
  go_enter Tryz.func20, Tryz.ntmps20
  go_wp2
  go_region_with (first
    | (go_at_call_of 38 (Value.pointer (some ⟨yb, 0, none⟩)); refine (den_any yb y 1 _ ?_ (by omega)).mono ?_; (refine hy.but ?_; repeat (first | assumption | exact But.refl _ _ | apply But.drew | apply But.alloc)); rintro e w' ⟨rfl, rfl⟩)
    | (go_at_call_of 38 (Value.pointer (some ⟨xb, 0, none⟩)); refine (den_any xb x 1 _ ?_ (by omega)).mono ?_; (refine hx.but ?_; repeat (first | assumption | exact But.refl _ _ | apply But.drew | apply But.alloc)); rintro e w' ⟨rfl, rfl⟩)
    | (go_at_call_of 37 (Value.pointer (some ⟨yb, 2, none⟩)); refine (intMul_new _ xb 0 yb 2 x ((1 : Nat) : Int) x (by simp) w _ ?_ ?_ ?_ hx.up hy.low hxl (by simp) hxl).mono ?_; (first | exact slotA1 _ _ | exact slotA2 _ _ _ | exact slotA3 _ _ _); (repeat (first | assumption | exact But.refl _ _ | apply But.drew | apply But.alloc)); omega; rintro e W1 ⟨rfl, KB1, KA1, KS1, KI1, KL1⟩)
    | (go_at_call_of 37 (Value.pointer (some ⟨xb, 2, none⟩)); refine (intMul_new _ xb 2 yb 0 ((1 : Nat) : Int) y y (by simp) w _ ?_ ?_ ?_ hx.low hy.up (by simp) hyl hyl).mono ?_; (first | exact slot_new _ _ | exact KS1 _ (by omega) (slotA2 _ _ _) | exact KS1 _ (by omega) (slotA3 _ _ _)); (repeat (first | assumption | exact But.refl _ _ | apply But.drew | apply But.alloc)); (have := KB1.size; omega); rintro e W2 ⟨rfl, KB2, KA2, KS2, KI2, KL2⟩)
    | (go_at_call 36; refine (setFrac_any zb _ 0 _ 0 x y _ (hz0.but KB2 (by simp)) (hz2.but KB2 (by simp)) (KI2 _ _ _ ?_ ?_) KA2 hxl hyl hy0 N D eN0 eD0).mono ?_; (have := KA1.lt; omega); (refine KA1.but ?_; repeat (first | exact But.refl _ _ | apply But.drew | apply But.alloc)); rintro e W3 ⟨rfl, KB3, KR3⟩))
  all_goals go_wp2
  all_goals go_ret
  all_goals exact ⟨rfl, (KB2.of_nil (l := [zb])).trans KB3 (by simp), KR3⟩

set_option maxHeartbeats 4000000 in
theorem refDiv_any (xb yb : Nat) (x y : Int) (w : World) (hx : RatAt w xb x 1) (hy : RatAt w yb y 1) (hxl : x.natAbs < 18446744073709551616) (hyl : y.natAbs < 18446744073709551616) (hy0 : y ≠ 0) (N D : Int) (eN0 : Hid (N = redN (if y < 0 then -x else x) y.natAbs)) (eD0 : Hid (D = redD x y.natAbs)) :
    Calls Tryz.prog 8 #[.pointer (some ⟨xb, 0, none⟩), .pointer (some ⟨yb, 0, none⟩)] w fun e w' => ∃ zb, e = .returned (.pointer (some ⟨zb, 0, none⟩)) ∧ But [] w w' ∧ RatAt w' zb N D := by
  obtain ⟨s, hs⟩ : ∃ s, s = y.sign := ⟨_, rfl⟩
  have hs0 : (s == 0) = false := by rw [hs]; simp; exact hy0
  go_enter Tryz.func8, Tryz.ntmps8
  go_wp2_with fail
  refine (ratSign_any yb y 1 _ hy s hs (len64' _ hyl)).mono ?_
  rintro e w1 ⟨rfl, hw⟩
  obtain rfl := hw.symm
  clear hs hw
  go_wp2_with fail
  have hsl := ratSlots w 54
  have hb : But [] w (w.alloc (.cells #[.bool false, .slice none 0 0, .bool false, .slice none 0 0] 54)) := (But.refl _ _).alloc _
  refine (quo_any w.heap.size xb yb x y _ hsl.1 hsl.2 (hx.but hb) (hy.but hb) hxl hyl hy0 N D eN0 eD0).mono ?_
  rintro e w3 ⟨rfl, B3, R3⟩
  go_wp2
  go_ret
  exact ⟨w.heap.size, rfl, hb.trans B3 (by simp), R3⟩
end Go.Proofs.YtpipnnldiambiaaGreatDoor
