/- A number copied, and turned round, as the Go text of package tontinebig does it. -/
import Derived.Test.YtpipnnldiambiaaGreatDoorB2
import Derived.Deep.RegionWith
import Derived.WalkSpells
namespace Go.Proofs.YtpipnnldiambiaaGreatDoor
open Go.RowKit

set_option maxHeartbeats 1000000 in
theorem set_any (b o b' o' : Nat) (z : Int) (w : World) (hs : Slot w b o) (hz : IntAt w b' o' z) (hlen : (wd 4294967296 z.natAbs).length < 2147483648) :
    Calls Tryz.prog 51 #[.pointer (some ⟨b, o, none⟩), .pointer (some ⟨b', o', none⟩)] w fun e w' => e = .returned (.pointer (some ⟨b, o, none⟩)) ∧ ∃ w1 v, But [] w w1 ∧ Sl .u32 w1 v (wd 4294967296 z.natAbs) ∧ w' = put w1 b o v (decide (z < 0)) := by
  obtain ⟨h0, v0, h1, hv⟩ := hz
  go_enter Tryz.func51, Tryz.ntmps51
  go_wp2
  go_region_with (first
    | (go_at_call 73; refine (twin_any v0 _ _ ?_ hlen).mono ?_; exact hv; rintro e w1 ⟨v, rfl, hv1, hb⟩; have hb0 : But [] w w1 := (by first | exact hb | exact (But.refl _ _).drew.trans' hb | exact ((But.refl _ _).drewN _).trans' hb); have hc9 := hb0.cell_some h0 (by simp))
    | (go_at_call 53; (obtain ⟨⟨s0, hc0⟩, ⟨a0, n0, c0, hc1⟩, f0, f1⟩ := hs.but hb0 (by simp)); refine (give_any b o _ v _ (.bool s0) (.slice a0 n0 c0) _ hv1 hlen hc0 hc1 f0 f1).mono ?_; rintro e w2 ⟨rfl, rfl⟩))
  all_goals go_wp2
  all_goals go_ret
  all_goals refine ⟨rfl, w1, v, hb0, hv1, ?_⟩
  all_goals (rw [neg_len]; rfl)

theorem neg_len' (z : Int) : (!decide (z < 0) && decide (0 < (wd 4294967296 z.natAbs).length)) = decide (-z < 0) := by
  have h := wd_len_zero (B := 4294967296) (by omega) z.natAbs
  rw [Bool.eq_iff_iff]
  simp only [Bool.and_eq_true, Bool.not_eq_true', decide_eq_false_iff_not, decide_eq_true_eq]
  omega

set_option maxHeartbeats 1000000 in
theorem neg_any (b o b' o' : Nat) (z : Int) (w : World) (hs : Slot w b o) (hz : IntAt w b' o' z) (hlen : (wd 4294967296 z.natAbs).length < 2147483648) :
    Calls Tryz.prog 75 #[.pointer (some ⟨b, o, none⟩), .pointer (some ⟨b', o', none⟩)] w fun e w' => e = .returned (.pointer (some ⟨b, o, none⟩)) ∧ ∃ w1 v, But [] w w1 ∧ Sl .u32 w1 v (wd 4294967296 (-z).natAbs) ∧ w' = put w1 b o v (decide (-z < 0)) := by
  obtain ⟨h0, v0, h1, hv⟩ := hz
  go_enter Tryz.func75, Tryz.ntmps75
  go_wp2
  go_region_with (first
    | (go_at_call 73; refine (twin_any v0 _ _ ?_ hlen).mono ?_; exact hv; rintro e w1 ⟨v, rfl, hv1, hb⟩; have hb0 : But [] w w1 := (by first | exact hb | exact (But.refl _ _).drew.trans' hb | exact ((But.refl _ _).drewN _).trans' hb); have hc9 := hb0.cell_some h0 (by simp))
    | (go_at_call 53; (obtain ⟨⟨s0, hc0⟩, ⟨a0, n0, c0, hc1⟩, f0, f1⟩ := hs.but hb0 (by simp)); refine (give_any b o _ v _ (.bool s0) (.slice a0 n0 c0) _ hv1 hlen hc0 hc1 f0 f1).mono ?_; rintro e w2 ⟨rfl, rfl⟩))
  all_goals go_wp2
  all_goals go_ret
  all_goals refine ⟨rfl, w1, v, hb0, by rw [Int.natAbs_neg]; exact hv1, ?_⟩
  all_goals (rw [neg_len']; rfl)
end Go.Proofs.YtpipnnldiambiaaGreatDoor
