/- A ratio's text, as the Go text of packages tontinebig and tontineref writes it. -/
import Derived.Test.YtpipnnldiambiaaGreatDoorB11
import Derived.Test.YtpipnnldiambiaaGreatDoorB12
namespace Go.Proofs.YtpipnnldiambiaaGreatDoor
open Go.RowKit

set_option maxHeartbeats 1000000 in
set_option maxRecDepth 100000 in
theorem intText_any (b o : Nat) (z : Int) (w : World) (h : IntAt w b o z) (hl : (wd 4294967296 z.natAbs).length < 1073741824) (hd : (rdig z.natAbs).length < 1073741824) (t : ByteArray) (ht : Hid (t = ⟨(decI z).toArray⟩)) :
    Calls Tryz.prog 50 #[.pointer (some ⟨b, o, none⟩), .int .i64 10] w fun e w' => e = .returned (.string t) ∧ But [] w w' := by
  by_cases hz : z = 0
  · subst hz
    obtain ⟨b0, vb, b1, hvb⟩ := h
    simp only [Int.natAbs_zero, wd_zero] at hvb
    obtain ⟨a, cap, rfl, -, -⟩ := hvb
    have e : Hid (t = ⟨#[48]⟩) := by
      show _ = _
      rw [unhide ht]
      have : decI 0 = [48] := by rw [decI, if_neg (by omega), Int.natAbs_zero, Lib.decDigits, dif_pos (by omega)]; rfl
      rw [this]
    clear ht hl hd b0
    go_enter Tryz.func50, Tryz.ntmps50
    go_wp2
    go_ret
    exact ⟨by rw [unhide e]; rfl, But.refl _ _⟩
  · exact intText_pos b o z w h hz hl hd t ht

set_option maxHeartbeats 1000000 in
theorem intString_any (b o : Nat) (z : Int) (w : World) (h : IntAt w b o z) (hl : (wd 4294967296 z.natAbs).length < 1073741824) (hd : (rdig z.natAbs).length < 1073741824) (t : ByteArray) (ht : Hid (t = ⟨(decI z).toArray⟩)) :
    Calls Tryz.prog 33 #[.pointer (some ⟨b, o, none⟩)] w fun e w' => e = .returned (.string t) ∧ But [] w w' := by
  go_enter Tryz.func33, Tryz.ntmps33
  go_wp2_with fail
  refine (intText_any b o z _ h hl hd t ht).mono ?_
  rintro e w1 ⟨rfl, hb⟩
  go_wp2
  go_ret
  exact ⟨rfl, hb⟩

theorem cmp_one (n : Nat) (hn : 0 < n) : (cmpN n 1 == 0) = decide (n = 1) := by
  rw [cmpN, if_neg (by omega), Bool.eq_iff_iff]
  by_cases h : n = 1 <;> simp [h]

set_option maxHeartbeats 1000000 in
theorem isInt_any (b : Nat) (p : Int) (n : Nat) (w : World) (h : RatAt w b p n) (hn0 : 0 < n) (hn : n < 18446744073709551616) (r : Bool) (hr : Hid (r = decide (n = 1))) :
    Calls Tryz.prog 32 #[.pointer (some ⟨b, 0, none⟩)] w fun e w' => e = .returned (.bool r) ∧ But [] w w' := by
  go_enter Tryz.func32, Tryz.ntmps32
  go_wp2_with fail
  refine (den_any b p n _ h hn0).mono ?_
  rintro e w1 ⟨rfl, hw⟩
  obtain rfl := hw.symm
  clear hw
  go_wp2_with fail
  refine (newInt_any 1 _ (by omega) (by omega)).mono ?_
  rintro e w2 ⟨rfl, B2, I2, S2⟩
  go_wp2_with fail
  refine (intCmp_nat b 2 w.heap.size 0 n 1 _ (h.low.but B2) I2 (len64' _ hn) (len64' _ (by omega))).mono ?_
  rintro e w3 ⟨rfl, k, rfl⟩
  have ec : (cmpN n 1 == 0) = r := by rw [unhide hr]; exact cmp_one n hn0
  generalize cmpN n 1 = c at *
  clear hr
  go_wp2
  go_ret
  exact ⟨rfl, B2.drewN k⟩

/-- a ratio's text -/
def ratTxt (p : Int) (n : Nat) : ByteArray := if n = 1 then ⟨(decI p).toArray⟩ else ⟨(decI p).toArray⟩ ++ ⟨#[47]⟩ ++ ⟨(decI n).toArray⟩
theorem rdig_short (n : Nat) (h : n < 18446744073709551616) : (rdig n).length ≤ 20 := rdig_length n 20 (by omega)
theorem decI_short (z : Int) (h : z.natAbs < 18446744073709551616) : (decI z).length ≤ 21 := by
  have h1 : (Lib.decDigits z.natAbs).length ≤ 20 := by
    rcases Nat.eq_zero_or_pos z.natAbs with h0 | h0
    · rw [h0, Lib.decDigits, dif_pos (by omega)]; simp
    · rw [← rdig_rev _ h0, List.length_reverse]; exact rdig_short _ h
  rw [decI]
  split <;> simp <;> omega

set_option maxHeartbeats 1000000 in
theorem ratString_any (b : Nat) (p : Int) (n : Nat) (w : World) (h : RatAt w b p n) (hn0 : 0 < n) (hn : n < 18446744073709551616) (hp : p.natAbs < 18446744073709551616) (t : ByteArray) (ht : Hid (t = ⟨(decI p).toArray⟩ ++ ⟨#[47]⟩ ++ ⟨(decI n).toArray⟩)) :
    Calls Tryz.prog 34 #[.pointer (some ⟨b, 0, none⟩)] w fun e w' => e = .returned (.string t) ∧ But [] w w' := by
  obtain ⟨tp, htp⟩ : ∃ tp : ByteArray, tp = ⟨(decI p).toArray⟩ := ⟨_, rfl⟩
  obtain ⟨tn, htn⟩ : ∃ tn : ByteArray, tn = ⟨(decI n).toArray⟩ := ⟨_, rfl⟩
  have sp : tp.size ≤ 21 := by rw [htp]; exact decI_short p hp
  have sn : tn.size ≤ 21 := by rw [htn]; exact decI_short n hn
  rw [← htp, ← htn] at ht
  go_enter Tryz.func34, Tryz.ntmps34
  go_wp2_with fail
  refine (intString_any b 0 p _ h.up (len64 _ hp) (by have := rdig_short _ hp; omega) tp htp).mono ?_
  rintro e w1 ⟨rfl, B1⟩
  have H1 := hide htp
  clear htp
  go_wp2_with fail
  refine (den_any b p n _ (h.but B1) hn0).mono ?_
  rintro e w2 ⟨rfl, hw⟩
  obtain rfl := hw.symm
  clear hw
  go_wp2_with fail
  refine (intString_any b 2 n _ (h.but B1).low (len64 _ hn) (by have := rdig_short _ hn; rw [Int.natAbs_natCast]; omega) tn htn).mono ?_
  rintro e w2 ⟨rfl, B2⟩
  clear htn
  go_wp2
  go_ret
  exact ⟨by rw [unhide ht]; rfl, B1.trans' B2⟩

set_option maxHeartbeats 1000000 in
theorem ratRatString_any (b : Nat) (p : Int) (n : Nat) (w : World) (h : RatAt w b p n) (hn0 : 0 < n) (hn : n < 18446744073709551616) (hp : p.natAbs < 18446744073709551616) (t : ByteArray) (ht : Hid (t = ratTxt p n)) :
    Calls Tryz.prog 18 #[.pointer (some ⟨b, 0, none⟩)] w fun e w' => e = .returned (.string t) ∧ But [] w w' := by
  by_cases h1 : n = 1
  · have e1 : Hid (t = ⟨(decI p).toArray⟩) := by show _ = _; rw [unhide ht, ratTxt, if_pos h1]
    go_enter Tryz.func18, Tryz.ntmps18
    go_wp2_with fail
    refine (isInt_any b p n _ h hn0 hn true (by show true = _; simp [h1])).mono ?_
    rintro e w1 ⟨rfl, B1⟩
    go_wp2_with fail
    refine (intString_any b 0 p _ (h.but B1).up (len64 _ hp) (by have := rdig_short _ hp; omega) t e1).mono ?_
    rintro e w2 ⟨rfl, B2⟩
    go_wp2
    go_ret
    exact ⟨rfl, B1.trans' B2⟩
  · have e1 : Hid (t = ⟨(decI p).toArray⟩ ++ ⟨#[47]⟩ ++ ⟨(decI n).toArray⟩) := by show _ = _; rw [unhide ht, ratTxt, if_neg h1]
    go_enter Tryz.func18, Tryz.ntmps18
    go_wp2_with fail
    refine (isInt_any b p n _ h hn0 hn false (by show false = _; simp [h1])).mono ?_
    rintro e w1 ⟨rfl, B1⟩
    go_wp2_with fail
    refine (ratString_any b p n _ (h.but B1) hn0 hn hp t e1).mono ?_
    rintro e w2 ⟨rfl, B2⟩
    go_wp2
    go_ret
    exact ⟨rfl, B1.trans' B2⟩

set_option maxHeartbeats 1000000 in
theorem refText_any (b : Nat) (p : Int) (n : Nat) (w : World) (h : RatAt w b p n) (hn0 : 0 < n) (hn : n < 18446744073709551616) (hp : p.natAbs < 18446744073709551616) (t : ByteArray) (ht : Hid (t = ratTxt p n)) :
    Calls Tryz.prog 7 #[.pointer (some ⟨b, 0, none⟩)] w fun e w' => e = .returned (.string t) ∧ But [] w w' := by
  go_enter Tryz.func7, Tryz.ntmps7
  go_wp2_with fail
  refine (ratRatString_any b p n _ h hn0 hn hp t ht).mono ?_
  rintro e w1 ⟨rfl, hb⟩
  go_wp2
  go_ret
  exact ⟨rfl, hb⟩
end Go.Proofs.YtpipnnldiambiaaGreatDoor
