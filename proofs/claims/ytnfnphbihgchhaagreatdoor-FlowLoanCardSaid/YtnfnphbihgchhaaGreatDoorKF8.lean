/- A fraction's text, as the Go text of package frac writes it. -/
import Derived.Test.YtnfnphbihgchhaaGreatDoorKF4
import Derived.Test.YtnfnphbihgchhaaGreatDoorKN30
namespace Go.Proofs.YtnfnphbihgchhaaGreatDoor
open Go.RowKit

/-- a fraction's text -/
def fracTxt (s : Bool) (p q : Nat) : ByteArray := (if s then ⟨#[45]⟩ ++ ⟨(Lib.decDigits p).toArray⟩ else ⟨(Lib.decDigits p).toArray⟩) ++ (if q = 1 then ⟨#[]⟩ else ⟨#[47]⟩ ++ ⟨(Lib.decDigits q).toArray⟩)
theorem dec_short (u : Nat) (h : u < 10 ^ 608) : (Lib.decDigits u).length ≤ 608 := by
  rcases Nat.eq_zero_or_pos u with rfl | h0
  · rw [Lib.decDigits_length, Lib.nDigits_small (by omega)]; omega
  · rw [← rdig_rev u h0, List.length_reverse]; exact rdig_length u 608 h
theorem ba_nil (t : ByteArray) : t ++ ⟨#[]⟩ = t := by
  cases t; simp [ByteArray.ext_iff]

set_option maxHeartbeats 4000000 in
set_option maxRecDepth 100000 in
theorem fracText_at (v : Value) (f : Rat) (w : World) (hf : FracAt w v f) (hN : f.num.natAbs < 10 ^ 608) (hD : f.den < 10 ^ 608) (htab : Lib.TabIs Tryz.prog w "internal/strconv.uint64pow10" .u64 Lib.pow10Tab) (t : ByteArray) (ht : Hid (t = fracTxt (decide (f.num < 0)) f.num.natAbs f.den)) :
    Calls Tryz.prog 20 #[v] w fun e w' => e = .returned (.string t) ∧ But [] w w' := by
  have hq0 := den_pos f
  obtain ⟨tp, htp⟩ : ∃ tp : ByteArray, tp = ⟨(Lib.decDigits f.num.natAbs).toArray⟩ := ⟨_, rfl⟩
  obtain ⟨tq, htq⟩ : ∃ tq : ByteArray, tq = ⟨(Lib.decDigits f.den).toArray⟩ := ⟨_, rfl⟩
  have sp : tp.size ≤ 608 := by rw [htp]; exact dec_short _ hN
  have sq : tq.size ≤ 608 := by rw [htq]; exact dec_short _ hD
  have HNU : Hid (∀ W, But [] w W → Calls Tryz.prog 24 #[v] W fun e w' => ∃ v1 v2, e = .returned (.tuple #[v1, v2]) ∧ Sl .u64 w' v1 (wd 18446744073709551616 f.num.natAbs) ∧ Sl .u64 w' v2 (wd 18446744073709551616 f.den) ∧ But [] W w') := fun W hb => numbers_any v f W (hf.but hb)
  have T1 : Hid (∀ W v1, But [] w W → Sl .u64 W v1 (wd 18446744073709551616 f.num.natAbs) → Calls Tryz.prog 39 #[v1] W fun e w' => e = .returned (.string tp) ∧ But [] W w') := fun W v1 hb h => natText_any v1 _ W h hN (TabIs.but htab hb) tp htp
  have T2 : Hid (∀ W v1, But [] w W → Sl .u64 W v1 (wd 18446744073709551616 f.den) → Calls Tryz.prog 39 #[v1] W fun e w' => e = .returned (.string tq) ∧ But [] W w') := fun W v1 hb h => natText_any v1 _ W h hD (TabIs.but htab hb) tq htq
  have HT : Hid (t = (if decide (f.num < 0) then ⟨#[45]⟩ ++ tp else tp) ++ (if f.den = 1 then ⟨#[]⟩ else ⟨#[47]⟩ ++ tq)) := by show _ = _; rw [unhide ht, fracTxt, htp, htq]
  have ONE : Hid (∀ W v1 (r : Bool), Hid (r = decide (f.den = 1)) → Sl .u64 W v1 (wd 18446744073709551616 f.den) → Calls Tryz.prog 40 #[v1] W fun e w' => e = .returned (.bool r) ∧ w' = W) := fun W v1 r hr h => natOne_any v1 _ W h (by have := short_len hD; omega) r hr
  obtain ⟨x, y, p, rfl, -⟩ := hf.agg
  have hbw : But [] w (w.alloc (.cells #[.bool (decide (f.num < 0)), .int .u64 x, .int .u64 y, .pointer p] 28)) := (But.refl _ _).alloc _
  clear htp htq ht htab hN hD hf
  generalize hs : decide (f.num < 0) = s at *
  clear hs
  go_enter Tryz.func20, Tryz.ntmps20
  go_wp2_with fail
  refine (unhide HNU _ hbw).mono ?_
  rintro e w1 ⟨v1, v2, rfl, hv1, hv2, hb1⟩
  have B1 := hide (hbw.trans' hb1)
  have HV1 := hide hv1
  have HV2 := hide hv2
  have c0 := hb1.cell_some (show (w.alloc (.cells #[.bool s, .int .u64 x, .int .u64 y, .pointer p] 28)).cell? ⟨w.heap.size, 0, none⟩ = some (.bool s) by simp) (by simp)
  clear hv1 hv2 hb1
  go_wp2_with fail
  refine (unhide T1 _ v1 (unhide B1) (unhide HV1)).mono ?_
  rintro e w2 ⟨rfl, hb2⟩
  have d0 := hb2.cell_some c0 (by simp)
  have B2 : Hid (But [] w w2) := (unhide B1).trans' hb2
  have HV3 := hide ((unhide HV2).but_nil hb2)
  clear hb2 c0 HV2 hbw
  cases s
  all_goals
    go_wp2_with fail
    by_cases hq1 : f.den = 1
    · refine (unhide ONE _ v2 true (by show true = _; simp [hq1]) (unhide HV3)).mono ?_
      rintro e w3 ⟨rfl, hw⟩
      obtain rfl := hw.symm
      clear hw
      go_wp2
      go_ret
      exact ⟨by rw [unhide HT, if_pos hq1, ba_nil]; rfl, unhide B2⟩
    · refine (unhide ONE _ v2 false (by show false = _; simp [hq1]) (unhide HV3)).mono ?_
      rintro e w3 ⟨rfl, hw⟩
      obtain rfl := hw.symm
      clear hw
      go_wp2_with fail
      refine (unhide T2 _ v2 (unhide B2) (unhide HV3)).mono ?_
      rintro e w3 ⟨rfl, hb3⟩
      go_wp2
      go_ret
      exact ⟨by rw [unhide HT, if_neg hq1]; rfl, (unhide B2).trans' hb3⟩
end Go.Proofs.YtnfnphbihgchhaaGreatDoor
