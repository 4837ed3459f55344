/- A fraction's text, as the Go text of package frac writes it. -/
import Derived.Test.YteipfplbcbaheaaGreatDoorJBase
import Derived.Test.YteipfplbcbaheaaGreatDoorJC1
import Derived.Test.YteipfplbcbaheaaGreatDoorJF4
import Derived.Test.YteipfplbcbaheaaGreatDoorJN16
import Derived.Test.YteipfplbcbaheaaGreatDoorJN9
namespace Go.Proofs.YteipfplbcbaheaaGreatDoor
open Go.RowKit

/-- a fraction's text -/
def fracTxt (s : Bool) (p q : Nat) : ByteArray := (if s then ⟨#[45]⟩ ++ ⟨(Lib.decDigits p).toArray⟩ else ⟨(Lib.decDigits p).toArray⟩) ++ (if q = 1 then ⟨#[]⟩ else ⟨#[47]⟩ ++ ⟨(Lib.decDigits q).toArray⟩)
theorem dec_short (u : Nat) (h : (wd 18446744073709551616 u).length ≤ 1000000) : (Lib.decDigits u).length ≤ 20000000 := by
  rcases Nat.eq_zero_or_pos u with rfl | h0
  · rw [Lib.decDigits_length, Lib.nDigits_small (by omega)]; omega
  · rw [← rdig_rev u h0, List.length_reverse]; exact dig_len u 1000000 h
theorem ba_nil (t : ByteArray) : t ++ ⟨#[]⟩ = t := by
  cases t; simp [ByteArray.ext_iff]

set_option maxHeartbeats 4000000 in
set_option maxRecDepth 100000 in
theorem fracText_len (v : Value) (f : Rat) (w : World) (hf : FracAt w v f) (hL : Len f 1000000) (htab : Lib.TabIs Tryz.prog w "internal/strconv.uint64pow10" .u64 Lib.pow10Tab) (t : ByteArray) (ht : Hid (t = fracTxt (decide (f.num < 0)) f.num.natAbs f.den)) :
    Calls Tryz.prog 12 #[v] w fun e w' => e = .returned (.string t) ∧ But [] w w' := by
  have hq0 := den_pos f
  obtain ⟨hN, hD⟩ := hL
  obtain ⟨tp, htp⟩ : ∃ tp : ByteArray, tp = ⟨(Lib.decDigits f.num.natAbs).toArray⟩ := ⟨_, rfl⟩
  obtain ⟨tq, htq⟩ : ∃ tq : ByteArray, tq = ⟨(Lib.decDigits f.den).toArray⟩ := ⟨_, rfl⟩
  have sp : tp.size ≤ 20000000 := by rw [htp]; exact dec_short _ hN
  have sq : tq.size ≤ 20000000 := by rw [htq]; exact dec_short _ hD
  have HNU : Hid (∀ W, But [] w W → Calls Tryz.prog 60 #[v] W fun e w' => ∃ v1 v2, e = .returned (.tuple #[v1, v2]) ∧ Sl .u64 w' v1 (wd 18446744073709551616 f.num.natAbs) ∧ Sl .u64 w' v2 (wd 18446744073709551616 f.den) ∧ But [] W w') := fun W hb => numbers_any v f W (hf.but hb)
  have T1 : Hid (∀ W v1, But [] w W → Sl .u64 W v1 (wd 18446744073709551616 f.num.natAbs) → Calls Tryz.prog 61 #[v1] W fun e w' => e = .returned (.string tp) ∧ But [] W w') := fun W v1 hb h => natText_all v1 _ W h hN (TabIs.but htab hb) tp htp
  have T2 : Hid (∀ W v1, But [] w W → Sl .u64 W v1 (wd 18446744073709551616 f.den) → Calls Tryz.prog 61 #[v1] W fun e w' => e = .returned (.string tq) ∧ But [] W w') := fun W v1 hb h => natText_all v1 _ W h hD (TabIs.but htab hb) tq htq
  have HT : Hid (t = (if decide (f.num < 0) then ⟨#[45]⟩ ++ tp else tp) ++ (if f.den = 1 then ⟨#[]⟩ else ⟨#[47]⟩ ++ tq)) := by show _ = _; rw [unhide ht, fracTxt, htp, htq]
  have ONE : Hid (∀ W v1 (r : Bool), Hid (r = decide (f.den = 1)) → Sl .u64 W v1 (wd 18446744073709551616 f.den) → Calls Tryz.prog 62 #[v1] W fun e w' => e = .returned (.bool r) ∧ w' = W) := fun W v1 r hr h => natOne_any v1 _ W h (by omega) r hr
  obtain ⟨x, y, p, rfl, -⟩ := hf.agg
  have hbw : But [] w (w.alloc (.cells #[.bool (decide (f.num < 0)), .int .u64 x, .int .u64 y, .pointer p] 27)) := (But.refl _ _).alloc _
  clear htp htq ht htab hN hD hf
  generalize hs : decide (f.num < 0) = s at *
  clear hs
  go_enter Tryz.func12, Tryz.ntmps12
  go_wp2_with fail
  refine (unhide HNU _ hbw).mono ?_
  rintro e w1 ⟨v1, v2, rfl, hv1, hv2, hb1⟩
  have B1 := hide (hbw.trans' hb1)
  have HV1 := hide hv1
  have HV2 := hide hv2
  have c0 := hb1.cell_some (show (w.alloc (.cells #[.bool s, .int .u64 x, .int .u64 y, .pointer p] 27)).cell? ⟨w.heap.size, 0, none⟩ = some (.bool s) by simp) (by simp)
  clear hv1 hv2 hb1
  go_wp2_with fail
  refine (unhide T1 _ v1 (unhide B1) (unhide HV1)).mono ?_
  rintro e w2 ⟨rfl, hb2⟩
  have d0 := hb2.cell_some c0 (by simp)
  have B2 : Hid (But [] w w2) := (unhide B1).trans' hb2
  have HV3 := hide ((unhide HV2).but_nil hb2)
  clear hb2 c0 HV2 hbw
  cases s
  all_goals
    go_wp2_with fail
    by_cases hq1 : f.den = 1
    · refine (unhide ONE _ v2 true (by show true = _; simp [hq1]) (unhide HV3)).mono ?_
      rintro e w3 ⟨rfl, hw⟩
      obtain rfl := hw.symm
      clear hw
      go_wp2
      go_ret
      exact ⟨by rw [unhide HT, if_pos hq1, ba_nil]; rfl, unhide B2⟩
    · refine (unhide ONE _ v2 false (by show false = _; simp [hq1]) (unhide HV3)).mono ?_
      rintro e w3 ⟨rfl, hw⟩
      obtain rfl := hw.symm
      clear hw
      go_wp2_with fail
      refine (unhide T2 _ v2 (unhide B2) (unhide HV3)).mono ?_
      rintro e w3 ⟨rfl, hb3⟩
      go_wp2
      go_ret
      exact ⟨by rw [unhide HT, if_neg hq1]; rfl, (unhide B2).trans' hb3⟩
end Go.Proofs.YteipfplbcbaheaaGreatDoor

namespace Go.Proofs.YteipfplbcbaheaaGreatDoor
open Go.RowKit

theorem rat_ex (s : Bool) (p q : Nat) (hq : 0 < q) (hc : Nat.Coprime p q) : ∃ f : Rat, f.num = sgn s p ∧ f.den = q :=
  ⟨⟨sgn s p, q, by omega, by rw [sgn_abs]; exact hc⟩, rfl, rfl⟩
theorem gcd_cop (x y : Nat) (hy : 0 < y) : Nat.Coprime (x / Nat.gcd x y) (y / Nat.gcd x y) := Nat.coprime_div_gcd_div_gcd (Nat.gcd_pos_of_pos_right _ hy)

theorem len_of {f : Rat} {m n : Nat} (h1 : f.num.natAbs < 18446744073709551616 ^ m) (h2 : f.den < 18446744073709551616 ^ n) (k : Nat) (hm : m ≤ k) (hn : n ≤ k) : Len f k :=
  ⟨Nat.le_trans (wd_length_le (by omega) _ _ h1) hm, Nat.le_trans (wd_length_le (by omega) _ _ h2) hn⟩
theorem Len.mono {f : Rat} {m n : Nat} (h : Len f m) (hn : m ≤ n) : Len f n := ⟨Nat.le_trans h.1 hn, Nat.le_trans h.2 hn⟩
theorem of_rel (x y : Int) (p q k : Nat) (hx : x.natAbs = p * k) (hy : y.natAbs = q * k) : sgn (decide (x < 0) != decide (y < 0)) p * y = x * q := by
  have ex : x = sgn (decide (x < 0)) (p * k) := by
    by_cases h : x < 0
    · simp [sgn, h]; omega
    · simp [sgn, h]; omega
  have ey : y = sgn (decide (y < 0)) (q * k) := by
    by_cases h : y < 0
    · simp [sgn, h]; omega
    · simp [sgn, h]; omega
  generalize decide (x < 0) = a at *
  generalize decide (y < 0) = b at *
  rw [ex, ey]
  cases a <;> cases b <;> simp [sgn, Int.natCast_mul] <;> grind
theorem fracOf_at (x y : Int) (hx1 : -9223372036854775808 ≤ x) (hx2 : x < 9223372036854775808) (hy1 : -9223372036854775808 ≤ y) (hy2 : y < 9223372036854775808) (hy0 : y ≠ 0) :
    ∃ (f : Rat) (r : Bool) (p q : Int), Len f 1 ∧ f.num * y = x * f.den ∧ (∀ W, FracAt W (.agg #[.bool r, .int .u64 p, .int .u64 q, .pointer none]) f) ∧ ∀ W, Calls Tryz.prog 42 #[.int .i64 x, .int .i64 y] W fun e w' => e = .returned (.tuple #[.agg #[.bool r, .int .u64 p, .int .u64 q, .pointer none], .nilIface]) ∧ But [] W w' := by
  have hyp : 0 < y.natAbs := by omega
  have hg : 0 < Nat.gcd x.natAbs y.natAbs := Nat.gcd_pos_of_pos_right _ hyp
  have hd1 := Nat.div_mul_cancel (Nat.gcd_dvd_left x.natAbs y.natAbs)
  have hd2 := Nat.div_mul_cancel (Nat.gcd_dvd_right x.natAbs y.natAbs)
  have hq0 : 0 < y.natAbs / Nat.gcd x.natAbs y.natAbs := Nat.div_pos (Nat.le_of_dvd hyp (Nat.gcd_dvd_right _ _)) hg
  have hpB : x.natAbs / Nat.gcd x.natAbs y.natAbs < 18446744073709551616 := Nat.lt_of_le_of_lt (Nat.div_le_self _ _) (by omega)
  have hqB : y.natAbs / Nat.gcd x.natAbs y.natAbs < 18446744073709551616 := Nat.lt_of_le_of_lt (Nat.div_le_self _ _) (by omega)
  obtain ⟨f, hn, hd⟩ := rat_ex (decide (x < 0) != decide (y < 0)) _ _ hq0 (gcd_cop x.natAbs y.natAbs hyp)
  have habs : f.num.natAbs = x.natAbs / Nat.gcd x.natAbs y.natAbs := by rw [hn, sgn_abs]
  refine ⟨f, decide (f.num < 0), (f.num.natAbs : Int), (f.den : Int) - 1, ?_, ?_, fun W => .inl ⟨by rw [habs]; exact hpB, by rw [hd]; exact hqB, rfl⟩, fun W => ?_⟩
  · exact len_of (m := 1) (n := 1) (by rw [habs, Nat.pow_one]; exact hpB) (by rw [hd, Nat.pow_one]; exact hqB) 1 (Nat.le_refl _) (Nat.le_refl _)
  · rw [hn, hd]
    exact of_rel x y _ _ _ hd1.symm hd2.symm
  · rw [habs, hd]
    exact fracOf_any x y hx1 hx2 hy1 hy2 hy0 W _ _ _ (by show _ = _; rw [hn, sgn_neg]) rfl rfl

end Go.Proofs.YteipfplbcbaheaaGreatDoor
