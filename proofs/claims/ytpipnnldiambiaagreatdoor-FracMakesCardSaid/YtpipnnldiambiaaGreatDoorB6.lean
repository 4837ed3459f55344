/- The product of two whole numbers, written into a place, as the Go text of package tontinebig does it. -/
import Derived.Test.YtpipnnldiambiaaGreatDoorB5
import Derived.Deep.RegionHeld
namespace Go.Proofs.YtpipnnldiambiaaGreatDoor
open Go.RowKit

theorem sign_mul (x y : Int) : ((decide (x < 0) != decide (y < 0)) && decide (0 < (wd 4294967296 (x.natAbs * y.natAbs)).length)) = decide (x * y < 0) := by
  have h := wd_len_zero (B := 4294967296) (by omega) (x.natAbs * y.natAbs)
  rw [← Int.natAbs_mul] at h ⊢
  rw [← neg_len (x * y)]
  by_cases h0 : 0 < (wd 4294967296 (x * y).natAbs).length
  · have hne : x * y ≠ 0 := by intro e; rw [e] at h0; simp [wd_zero] at h0
    have hx : x ≠ 0 := by rintro rfl; simp at hne
    have hy : y ≠ 0 := by rintro rfl; simp at hne
    simp only [h0, decide_true, Bool.and_true]
    rcases Int.lt_or_gt_of_ne hx with hx | hx <;> rcases Int.lt_or_gt_of_ne hy with hy | hy
    · have := Int.mul_pos_of_neg_of_neg hx hy
      simp [hx, hy]; omega
    · have := Int.mul_neg_of_neg_of_pos hx hy
      have : ¬ y < 0 := by omega
      simp [*]
    · have := Int.mul_neg_of_pos_of_neg hx hy
      have : ¬ x < 0 := by omega
      simp [*]
    · have := Int.mul_pos hx hy
      have : ¬ x < 0 := by omega
      have : ¬ y < 0 := by omega
      have : ¬ x * y < 0 := by omega
      simp [*]
  · simp only [h0, decide_false, Bool.and_false]

set_option maxHeartbeats 4000000 in
theorem intMul_any (b o b1 o1 b2 o2 : Nat) (x y : Int) (w : World) (hs : Slot w b o) (hne1 : b ≠ b1) (hne2 : b ≠ b2) (hx : IntAt w b1 o1 x) (hy : IntAt w b2 o2 y) (hlx : (wd 4294967296 x.natAbs).length < 1073741824) (hly : (wd 4294967296 y.natAbs).length < 1073741824) (hlen : (wd 4294967296 (x.natAbs * y.natAbs)).length < 2147483648) :
    Calls Tryz.prog 37 #[.pointer (some ⟨b, o, none⟩), .pointer (some ⟨b1, o1, none⟩), .pointer (some ⟨b2, o2, none⟩)] w fun e w' => e = .returned (.pointer (some ⟨b, o, none⟩)) ∧ ∃ w1 v, But [] w w1 ∧ Sl .u32 w1 v (wd 4294967296 (x * y).natAbs) ∧ w' = put w1 b o v (decide (x * y < 0)) := by
  obtain ⟨h0, v0, h1, hv⟩ := hx
  obtain ⟨g0, u0, g1, hu⟩ := hy
  have HS := hide (sign_mul x y)
  generalize hsx : decide (x < 0) = sx at h0 HS
  generalize hsy : decide (y < 0) = sy at g0 HS
  clear hsx hsy
  go_enter Tryz.func37, Tryz.ntmps37
  go_wp2
  go_region_held (fun w' => w'.cell? ⟨b1, o1, none⟩ = some (.bool sx) ∧ w'.cell? ⟨b1, o1 + 1, none⟩ = some v0 ∧ w'.cell? ⟨b2, o2, none⟩ = some (.bool sy) ∧ w'.cell? ⟨b2, o2 + 1, none⟩ = some u0) (go_keep) (first
    | (go_at_call 54; refine (mul_any v0 u0 _ _ _ ?_ ?_ hlx hly).mono ?_; exact hv; exact hu; rintro e w1 ⟨v, rfl, hv1, hb⟩; have hb0 : But [] w w1 := (by first | exact hb | exact (But.refl _ _).drew.trans' hb | exact ((But.refl _ _).drewN _).trans' hb); have k0 := hb0.cell_some h0 (by simp); have k1 := hb0.cell_some h1 (by simp); have k2 := hb0.cell_some g0 (by simp); have k3 := hb0.cell_some g1 (by simp))
    | (go_at_call 53; (obtain ⟨⟨s0, hc0⟩, ⟨a0, n0, c0, hc1⟩, f0, f1⟩ := hs.but hb0 (by simp)); refine (give_any b o _ v _ (.bool s0) (.slice a0 n0 c0) _ hv1 hlen hc0 hc1 f0 f1).mono ?_; rintro e w2 ⟨rfl, rfl⟩))
  all_goals go_wp2
  all_goals go_ret
  all_goals refine ⟨rfl, w1, v, hb0, by rw [Int.natAbs_mul]; exact hv1, ?_⟩
  all_goals (rw [← unhide HS]; rfl)
end Go.Proofs.YtpipnnldiambiaaGreatDoor
