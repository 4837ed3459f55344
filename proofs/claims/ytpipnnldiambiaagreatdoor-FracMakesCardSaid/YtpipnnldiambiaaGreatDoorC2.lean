/- Fractions of words: made, and written, as the Go text of packages frac and nat does it. -/
import Derived.Test.YtpipnnldiambiaaGreatDoorC1
import Derived.Test.YtpipnnldiambiaaGreatDoorG0
import Derived.Deep.RegionHeld
import Derived.Lib.AppendIntMem
namespace Go.Proofs.YtpipnnldiambiaaGreatDoor
open Go.RowKit

theorem TabIs.but {w w' : World} (h : Lib.TabIs Tryz.prog w "internal/strconv.uint64pow10" .u64 Lib.pow10Tab) (hb : But [] w w') : Lib.TabIs Tryz.prog w' "internal/strconv.uint64pow10" .u64 Lib.pow10Tab :=
  Go.Lib.tabBelow_of_tabIs h w' hb.below

set_option maxHeartbeats 1000000 in
theorem natOf_any (u : Nat) (hu : u < 18446744073709551616) (w : World) :
    Calls Tryz.prog 26 #[.int .u64 u] w fun e w' => ∃ v, e = .returned v ∧ Sl .u64 w' v (wd 18446744073709551616 u) ∧ But [] w w' := by
  by_cases h0 : u = 0
  · subst h0
    go_enter Tryz.func26, Tryz.ntmps26
    go_wp2
    go_ret
    exact ⟨_, rfl, by rw [wd_zero]; exact Sl.nil _ _, But.refl _ _⟩
  · have n0 : ((u : Int) == 0) = false := by simp; exact h0
    go_enter Tryz.func26, Tryz.ntmps26
    go_wp2
    go_ret
    refine ⟨_, rfl, ?_, (But.refl _ _).alloc _⟩
    have e : wd 18446744073709551616 u = [u] := by rw [wd_pos (by omega) (by omega), Nat.mod_eq_of_lt hu, Nat.div_eq_of_lt hu, wd_zero]
    rw [e]
    exact Sl.mk (xs := [u]) w.heap.size 0 1 (by simp) (fun i hi => by
      have : i = 0 := by simpa using hi
      subst this; simp)

/-- a word as a number of words: none for 0 -/
theorem word_open {w : World} {v : Value} {u : Nat} (h : Sl .u64 w v (wd 18446744073709551616 u)) (hu : u < 18446744073709551616) : (u = 0 ∧ ∃ a c, v = .slice a 0 c) ∨ (0 < u ∧ ∃ b off c, v = .slice (some ⟨b, off, none⟩) 1 c ∧ w.cell? ⟨b, off, none⟩ = some (.int .u64 u)) := by
  rcases Nat.eq_zero_or_pos u with h0 | h0
  · subst h0
    rw [wd_zero] at h
    obtain ⟨a, c, e, -⟩ := h
    exact .inl ⟨rfl, a, c, e⟩
  · have e : wd 18446744073709551616 u = [u] := by rw [wd_pos (by omega) h0, Nat.mod_eq_of_lt hu, Nat.div_eq_of_lt hu, wd_zero]
    rw [e] at h
    rcases h.open with ⟨e, -⟩ | ⟨-, b, off, c, e, -, -, hc⟩
    · simp at e
    · exact .inr ⟨h0, b, off, c, e, hc 0 (by simp)⟩

set_option maxHeartbeats 1000000 in
theorem natWord_any (v : Value) (u : Nat) (hu : u < 18446744073709551616) (w : World) (hv : Sl .u64 w v (wd 18446744073709551616 u)) :
    Calls Tryz.prog 28 #[v] w fun e w' => e = .returned (.tuple #[.int .u64 u, .bool true]) ∧ w' = w := by
  rcases word_open hv hu with ⟨rfl, a, c, rfl⟩ | ⟨h0, b, off, c, rfl, hc⟩
  · go_enter Tryz.func28, Tryz.ntmps28
    go_wp2
    go_ret2
    exact ⟨rfl, rfl⟩
  · go_enter Tryz.func28, Tryz.ntmps28
    go_wp2
    go_ret2
    exact ⟨rfl, rfl⟩

set_option maxHeartbeats 1000000 in
theorem natText_any (v : Value) (u : Nat) (hu : u < 18446744073709551616) (w : World) (hv : Sl .u64 w v (wd 18446744073709551616 u)) (htab : Lib.TabIs Tryz.prog w "internal/strconv.uint64pow10" .u64 Lib.pow10Tab) (t : ByteArray) (ht : Hid (t = ⟨(Lib.decDigits u).toArray⟩)) :
    Calls Tryz.prog 16 #[v] w fun e w' => e = .returned (.string t) ∧ But [] w w' := by
  have H := hide htab
  clear htab
  go_enter Tryz.func16, Tryz.ntmps16
  go_wp2_with fail
  refine (natWord_any v u hu _ hv).mono ?_
  rintro e w1 ⟨rfl, hw⟩
  obtain rfl := hw.symm
  clear hw
  go_wp2_with fail
  refine (strconvFormatUint_any u hu _ (unhide H) t ht).mono ?_
  rintro e w1 ⟨rfl, hb⟩
  go_wp2
  go_ret
  exact ⟨rfl, hb⟩

set_option maxHeartbeats 1000000 in
theorem natOne_any (v : Value) (u : Nat) (hu : u < 18446744073709551616) (w : World) (hv : Sl .u64 w v (wd 18446744073709551616 u)) (r : Bool) (hr : Hid (r = decide (u = 1))) :
    Calls Tryz.prog 17 #[v] w fun e w' => e = .returned (.bool r) ∧ w' = w := by
  rcases word_open hv hu with ⟨rfl, a, c, rfl⟩ | ⟨h0, b, off, c, rfl, hc⟩
  · have e : Hid (r = false) := by show _ = _; rw [unhide hr]; rfl
    clear hr
    go_enter Tryz.func17, Tryz.ntmps17
    go_wp2
    go_ret
    exact ⟨by rw [unhide e]; rfl, rfl⟩
  · have e : ((u : Int) == 1) = r := by rw [unhide hr, Bool.eq_iff_iff]; simp; omega
    clear hr
    go_enter Tryz.func17, Tryz.ntmps17
    go_wp2
    go_ret
    exact ⟨rfl, rfl⟩

/-- a fraction of words as a value -/
def fv (s : Bool) (p q : Nat) : Value := .agg #[.bool s, .int .u64 (p : Int), .int .u64 ((q : Int) - 1), .pointer none]

set_option maxHeartbeats 1000000 in
theorem under_any (s : Bool) (p q : Nat) (hq : q < 18446744073709551616) (hq0 : 0 < q) (w : World) :
    Calls Tryz.prog 27 #[.agg #[.bool s, .int .u64 (p : Int), .int .u64 ((q : Int) - 1), .pointer none]] w fun e w' => e = .returned (.int .u64 (q : Int)) ∧ But [] w w' := by
  go_enter Tryz.func27, Tryz.ntmps27
  go_wp2
  go_ret
  exact ⟨rfl, (But.refl _ _).alloc _⟩

set_option maxHeartbeats 4000000 in
theorem numbers_any (s : Bool) (p q : Nat) (hp : p < 18446744073709551616) (hq : q < 18446744073709551616) (hq0 : 0 < q) (w : World) :
    Calls Tryz.prog 15 #[.agg #[.bool s, .int .u64 (p : Int), .int .u64 ((q : Int) - 1), .pointer none]] w fun e w' => ∃ v1 v2, e = .returned (.tuple #[v1, v2]) ∧ Sl .u64 w' v1 (wd 18446744073709551616 p) ∧ Sl .u64 w' v2 (wd 18446744073709551616 q) ∧ But [] w w' := by
  go_enter Tryz.func15, Tryz.ntmps15
  go_wp2
  obtain ⟨W, hW⟩ : ∃ W, W = w.alloc (.cells #[.bool s, .int .u64 (p : Int), .int .u64 ((q : Int) - 1), .pointer none] 25) := ⟨_, rfl⟩
  have c0 : W.cell? ⟨w.heap.size, 0, none⟩ = some (.bool s) := by rw [hW]; simp
  have c1 : W.cell? ⟨w.heap.size, 1, none⟩ = some (.int .u64 (p : Int)) := by rw [hW]; simp
  have c2 : W.cell? ⟨w.heap.size, 2, none⟩ = some (.int .u64 ((q : Int) - 1)) := by rw [hW]; simp
  have c3 : W.cell? ⟨w.heap.size, 3, none⟩ = some (.pointer none) := by rw [hW]; simp
  have hB : But [] w W := by rw [hW]; exact (But.refl _ _).alloc _
  rw [← hW]
  clear hW
  generalize w.heap.size = g at *
  go_region_held (fun w' => w'.cell? ⟨g, 0, none⟩ = some (.bool s) ∧ w'.cell? ⟨g, 1, none⟩ = some (.int .u64 (p : Int)) ∧ w'.cell? ⟨g, 2, none⟩ = some (.int .u64 ((q : Int) - 1)) ∧ w'.cell? ⟨g, 3, none⟩ = some (.pointer none)) (go_keep) (first
    | (go_at_call_of 26 (Value.int IntKind.u64 (p : Int)); refine (natOf_any p hp _).mono ?_; rintro e w1 ⟨v1, rfl, hv1, hb1⟩; have B1 : But [] W w1 := (by first | exact hb1 | exact (But.refl _ _).drew.trans' hb1); have k0 := B1.cell_some c0 (by simp); have k1 := B1.cell_some c1 (by simp); have k2 := B1.cell_some c2 (by simp); have k3 := B1.cell_some c3 (by simp))
    | (go_at_call 27; refine (under_any s p q hq hq0 _).mono ?_; rintro e w2 ⟨rfl, hb2⟩; have B2 : But [] W w2 := B1.trans' hb2; have l0 := B2.cell_some c0 (by simp); have l1 := B2.cell_some c1 (by simp); have l2 := B2.cell_some c2 (by simp); have l3 := B2.cell_some c3 (by simp))
    | (go_at_call_of 26 (Value.int IntKind.u64 (q : Int)); refine (natOf_any q hq _).mono ?_; rintro e w3 ⟨v3, rfl, hv3, hb3⟩; have B3 : But [] W w3 := B2.trans' hb3; have m0 := B3.cell_some c0 (by simp); have m1 := B3.cell_some c1 (by simp); have m2 := B3.cell_some c2 (by simp); have m3 := B3.cell_some c3 (by simp)))
  all_goals go_wp2
  all_goals go_ret2
  all_goals exact ⟨v1, v3, rfl, (hv1.but_nil hb2).but_nil hb3, hv3, hB.trans' B3⟩

/-- a fraction's text -/
def fracTxt (s : Bool) (p q : Nat) : ByteArray := (if s then ⟨#[45]⟩ ++ ⟨(Lib.decDigits p).toArray⟩ else ⟨(Lib.decDigits p).toArray⟩) ++ (if q = 1 then ⟨#[]⟩ else ⟨#[47]⟩ ++ ⟨(Lib.decDigits q).toArray⟩)
theorem dec_short (u : Nat) (h : u < 18446744073709551616) : (Lib.decDigits u).length ≤ 20 := by
  rw [Lib.decDigits_length]
  rcases Nat.eq_zero_or_pos u with rfl | h0
  · rw [Lib.nDigits_small (by omega)]; omega
  · have := Lib.numDigits_eq u h0 h
    split at this <;> omega
theorem ba_nil (t : ByteArray) : t ++ ⟨#[]⟩ = t := by
  cases t; simp [ByteArray.ext_iff]

set_option maxHeartbeats 4000000 in
theorem fracText_any (s : Bool) (p q : Nat) (hp : p < 18446744073709551616) (hq : q < 18446744073709551616) (hq0 : 0 < q) (w : World) (htab : Lib.TabIs Tryz.prog w "internal/strconv.uint64pow10" .u64 Lib.pow10Tab) (t : ByteArray) (ht : Hid (t = fracTxt s p q)) :
    Calls Tryz.prog 6 #[.agg #[.bool s, .int .u64 (p : Int), .int .u64 ((q : Int) - 1), .pointer none]] w fun e w' => e = .returned (.string t) ∧ But [] w w' := by
  have H := hide htab
  clear htab
  obtain ⟨tp, htp⟩ : ∃ tp : ByteArray, tp = ⟨(Lib.decDigits p).toArray⟩ := ⟨_, rfl⟩
  obtain ⟨tq, htq⟩ : ∃ tq : ByteArray, tq = ⟨(Lib.decDigits q).toArray⟩ := ⟨_, rfl⟩
  have sp : tp.size ≤ 20 := by rw [htp]; exact dec_short p hp
  have sq : tq.size ≤ 20 := by rw [htq]; exact dec_short q hq
  have HP := hide htp
  have HQ := hide htq
  have HT : Hid (t = (if s then ⟨#[45]⟩ ++ tp else tp) ++ (if q = 1 then ⟨#[]⟩ else ⟨#[47]⟩ ++ tq)) := by show _ = _; rw [unhide ht, fracTxt, htp, htq]
  clear htp htq ht
  have hbw : But [] w (w.alloc (.cells #[.bool s, .int .u64 (p : Int), .int .u64 ((q : Int) - 1), .pointer none] 25)) := (But.refl _ _).alloc _
  go_enter Tryz.func6, Tryz.ntmps6
  go_wp2_with fail
  refine (numbers_any s p q hp hq hq0 _).mono ?_
  rintro e w1 ⟨v1, v2, rfl, hv1, hv2, hb1⟩
  have B1 := hbw.trans' hb1
  have c0 := hb1.cell_some (show (w.alloc (.cells #[.bool s, .int .u64 (p : Int), .int .u64 ((q : Int) - 1), .pointer none] 25)).cell? ⟨w.heap.size, 0, none⟩ = some (.bool s) by simp) (by simp)
  go_wp2_with fail
  refine (natText_any v1 p hp _ hv1 (TabIs.but (unhide H) B1) tp HP).mono ?_
  rintro e w2 ⟨rfl, hb2⟩
  have d0 := hb2.cell_some c0 (by simp)
  have B2 := B1.trans' hb2
  cases s
  all_goals
    go_wp2_with fail
    by_cases hq1 : q = 1
    · refine (natOne_any v2 q hq _ (hv2.but_nil hb2) true (by show true = _; simp [hq1])).mono ?_
      rintro e w3 ⟨rfl, hw⟩
      obtain rfl := hw.symm
      clear hw
      go_wp2
      go_ret
      exact ⟨by rw [unhide HT, if_pos hq1, ba_nil]; rfl, B2⟩
    · refine (natOne_any v2 q hq _ (hv2.but_nil hb2) false (by show false = _; simp [hq1])).mono ?_
      rintro e w3 ⟨rfl, hw⟩
      obtain rfl := hw.symm
      clear hw
      go_wp2_with fail
      refine (natText_any v2 q hq _ (hv2.but_nil hb2) (TabIs.but (unhide H) B2) tq HQ).mono ?_
      rintro e w3 ⟨rfl, hb3⟩
      go_wp2
      go_ret
      exact ⟨by rw [unhide HT, if_neg hq1]; rfl, B2.trans' hb3⟩
end Go.Proofs.YtpipnnldiambiaaGreatDoor
