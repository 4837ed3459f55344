/- A text is cut into its parts, whatever it is, as the Go text of package frac does it. -/
import Derived.Deep.DeepCutAuto
import Derived.Test.YtihiafgogbhjkaaGreatDoorPQH
namespace Go.Proofs.YtihiafgogbhjkaaGreatDoor
open Go.RowKit

set_option maxHeartbeats 8000000 in
set_option maxRecDepth 100000 in
theorem cutp_none (t : ByteArray) (l : List UInt8) (w : World) (ht : t.data.toList = [] ++ l) (h45 : ∀ d, l.head? = some d → d ≠ 45) (hN : t.data.toList.length < 2305843009213693952) (m : Nat) (hm : Hid (m = 0 + (dgs l).length)) (h0 : (dgs l).length = 0) :
    Calls Tryz.prog 98 #[.string t] w fun e w' => e = .returned (cutBad 0) ∧ But [] w w' := by
  have htA : t.data.toList = [] ++ dgs l ++ und l := by rw [ht, List.append_assoc, dgs_und]
  have HP : Hid (∀ W, Calls Tryz.prog 155 #[.string t, .string ⟨#[45]⟩] W fun e w' => e = .returned (.bool false) ∧ w' = W) := fun W => by
    have h := Tryz.strings_HasPrefix t ⟨#[45]⟩ W
    rw [ht, show (⟨#[45]⟩ : ByteArray).data.toList = [45] from rfl, show [] ++ l = l from rfl, prefix_minus _ h45] at h
    exact h
  have hszA : t.size = 0 + l.length := by
    have h1 := congrArg List.length ht
    have h2 : t.data.toList.length = t.size := by simp
    rw [List.length_append] at h1
    simp only [List.length_nil] at h1
    omega
  have hul := und_length l
  have hN2 : t.size < 2305843009213693952 := by simpa using hN
  have DE : Hid (∀ W, Calls Tryz.prog 160 #[.string t, .int .i64 0] W fun e w' => e = .returned (.int .i64 (m : Int)) ∧ w' = W) := fun W => digitsEnd_big t _ (dgs l) (und l) 0 W rfl (by rw [ht]; exact (dgs_und l).symm) (by rw [ht, List.length_append]; simp) (dgs_digits l) (und_head l) hN _ (by show _ = _; rw [unhide hm])
  have hsz : t.size = m + (und l).length := by rw [hszA, unhide hm]; omega
  obtain rfl : m = 0 := by rw [unhide hm, h0]
  clear htA ht hszA hul hN hN2 hsz h0 hm h45
  go_enter Tryz.func98, Tryz.ntmps98
  go_wp2_with fail
  refine (unhide HP _).mono ?_
  rintro e w1 ⟨rfl, hw⟩
  obtain rfl := hw.symm
  clear hw
  go_wp2_with fail
  refine (unhide DE _).mono ?_
  rintro e w1 ⟨rfl, hw⟩
  obtain rfl := hw.symm
  clear hw
  go_wp2
  exact bodyPost_ret (v := cutBad 0) (by simp [cutBad, results, Tryz.results98, go_sem]) rfl ⟨rfl, by repeat (first | exact But.refl _ _ | refine But.alloc ?_ _ | refine But.drew ?_ | refine But.setCell ?_ (.inr (by simp)) _)⟩

set_option maxHeartbeats 8000000 in
set_option maxRecDepth 100000 in
theorem cutp_plain (t : ByteArray) (l : List UInt8) (w : World) (ht : t.data.toList = [] ++ l) (h45 : ∀ d, l.head? = some d → d ≠ 45) (hN : t.data.toList.length < 2305843009213693952) (m : Nat) (hm : Hid (m = 0 + (dgs l).length)) (h0 : 0 < (dgs l).length) (hu : ∀ c, (und l).head? = some c → c.toNat ≠ 47 ∧ c.toNat ≠ 46) :
    Calls Tryz.prog 98 #[.string t] w fun e w' => e = .returned (cutEnd false (t.extract 0 m) 0 ⟨#[]⟩ m (und l)) ∧ But [] w w' := by
  have htA : t.data.toList = [] ++ dgs l ++ und l := by rw [ht, List.append_assoc, dgs_und]
  have HP : Hid (∀ W, Calls Tryz.prog 155 #[.string t, .string ⟨#[45]⟩] W fun e w' => e = .returned (.bool false) ∧ w' = W) := fun W => by
    have h := Tryz.strings_HasPrefix t ⟨#[45]⟩ W
    rw [ht, show (⟨#[45]⟩ : ByteArray).data.toList = [45] from rfl, show [] ++ l = l from rfl, prefix_minus _ h45] at h
    exact h
  have hszA : t.size = 0 + l.length := by
    have h1 := congrArg List.length ht
    have h2 : t.data.toList.length = t.size := by simp
    rw [List.length_append] at h1
    simp only [List.length_nil] at h1
    omega
  have hul := und_length l
  have hN2 : t.size < 2305843009213693952 := by simpa using hN
  have DE : Hid (∀ W, Calls Tryz.prog 160 #[.string t, .int .i64 0] W fun e w' => e = .returned (.int .i64 (m : Int)) ∧ w' = W) := fun W => digitsEnd_big t _ (dgs l) (und l) 0 W rfl (by rw [ht]; exact (dgs_und l).symm) (by rw [ht, List.length_append]; simp) (dgs_digits l) (und_head l) hN _ (by show _ = _; rw [unhide hm])
  have hsz : t.size = m + (und l).length := by rw [hszA, unhide hm]; omega
  have END := hide (fun y => cut_end0 t _ (und l) m rfl (by rw [htA, unhide hm, show 0 + (dgs l).length = ([] ++ dgs l : List UInt8).length from by simp, List.drop_left]) (by rw [htA, List.length_append, List.length_append, unhide hm]; simp) hN w false (t.extract 0 m) ⟨#[]⟩ 0 y)
  have n1 : ((m : Int) == 0) = false := beq_eq_false_iff_ne.2 (by have := unhide hm; omega)
  have hm0 : 0 ≤ (m : Int) := by have := unhide hm; omega
  have hmt : (m : Int) ≤ (t.size : Int) := by omega
  have hmm : (0 : Int) ≤ (m : Int) := by omega
  have CASE : Hid ((¬ (m : Int) < (t.size : Int)) ∨ ((m : Int) < (t.size : Int) ∧ ∃ c : Nat, c ≠ 47 ∧ c ≠ 46 ∧ ∀ W, (Instr.index 9 (.string t) (.int .i64 (m : Int))).run Tryz.prog W = .ok (.int .u8 (c : Int)) W)) := by
    cases hul2 : und l with
    | nil => exact .inl (by rw [hul2] at hsz; simp at hsz; omega)
    | cons c r =>
      refine .inr ⟨by rw [hul2] at hsz; simp at hsz; omega, c.toNat, (hu c (by rw [hul2]; rfl)).1, (hu c (by rw [hul2]; rfl)).2, fun W => ?_⟩
      have h1 := byte_at (t := t) rfl m (by rw [htA, hul2, List.length_append, List.length_append, unhide hm]; simp) 9 Tryz.underlying9 W
      have h2 : t.data.toList[m]?.getD 0 = c := by
        rw [htA, hul2, List.getElem?_append_right (by rw [List.length_append, unhide hm]; simp), show m - ([] ++ dgs l : List UInt8).length = 0 from by rw [List.length_append, unhide hm]; simp]
        rfl
      rw [h2] at h1
      exact h1
  clear htA ht hszA hul hN hsz h0 hu h45
  rcases unhide CASE with hlt | ⟨hlt, c, hc1, hc2, hb⟩
  · have l1 : decide ((m : Int) < (t.size : Int)) = false := decide_eq_false hlt
    clear CASE
    go_enter Tryz.func98, Tryz.ntmps98
    go_wp2_with fail
    refine (unhide HP _).mono ?_
    rintro e w1 ⟨rfl, hw⟩
    obtain rfl := hw.symm
    clear hw
    go_wp2_with fail
    refine (unhide DE _).mono ?_
    rintro e w1 ⟨rfl, hw⟩
    obtain rfl := hw.symm
    clear hw
    go_upto_if 39 with fail
    go_cut [5] (fun s5 wx => s5 = .int .i64 (m : Int) ∧ wx = ((w.alloc (.cells #[.bool false, .string ⟨#[]⟩, .int .u8 0, .string ⟨#[]⟩, .bool false] 116)).alloc (.cells #[.bool false, .string (t.extract 0 m), .int .u8 0, .string ⟨#[]⟩, .bool false] 116)))
    case first =>
      go_wp2
      go_meet
      exact ⟨rfl, rfl⟩
    case rest =>
      obtain ⟨rfl, rfl⟩ := hcut
      rename ∀ a w, Code.wp _ _ _ a w → _ => hK
      refine hK _ _ ?_
      exact unhide END _ _ _ _ _ _ _ _ _ _ _ _ _ _ _ _ _ _ _ _ _ _ _ _ _ _ _ _ _ _ _ _ _ _ _ _ _ _ _ _ _ _ _ _ _ _ _ _ _ _ _ _ _ _ _ _ _ _ _ _ _ _ _ _ _ _ _ _ _ _ _ _ _ _ _ _ _
  · have l1 : decide ((m : Int) < (t.size : Int)) = true := decide_eq_true hlt
    have n2 : ((c : Int) == 47) = false := beq_eq_false_iff_ne.2 (by omega)
    have n3 : ((c : Int) == 46) = false := beq_eq_false_iff_ne.2 (by omega)
    clear CASE hc1 hc2
    go_enter Tryz.func98, Tryz.ntmps98
    go_wp2_with fail
    refine (unhide HP _).mono ?_
    rintro e w1 ⟨rfl, hw⟩
    obtain rfl := hw.symm
    clear hw
    go_wp2_with fail
    refine (unhide DE _).mono ?_
    rintro e w1 ⟨rfl, hw⟩
    obtain rfl := hw.symm
    clear hw
    go_upto_if 39 with fail
    go_cut [5] (fun s5 wx => s5 = .int .i64 (m : Int) ∧ wx = ((w.alloc (.cells #[.bool false, .string ⟨#[]⟩, .int .u8 0, .string ⟨#[]⟩, .bool false] 116)).alloc (.cells #[.bool false, .string (t.extract 0 m), .int .u8 0, .string ⟨#[]⟩, .bool false] 116)))
    case first =>
      go_wp2
      go_meet
      exact ⟨rfl, rfl⟩
    case rest =>
      obtain ⟨rfl, rfl⟩ := hcut
      rename ∀ a w, Code.wp _ _ _ a w → _ => hK
      refine hK _ _ ?_
      exact unhide END _ _ _ _ _ _ _ _ _ _ _ _ _ _ _ _ _ _ _ _ _ _ _ _ _ _ _ _ _ _ _ _ _ _ _ _ _ _ _ _ _ _ _ _ _ _ _ _ _ _ _ _ _ _ _ _ _ _ _ _ _ _ _ _ _ _ _ _ _ _ _ _ _ _ _ _ _

set_option maxHeartbeats 8000000 in
set_option maxRecDepth 100000 in
theorem cutp_bare47 (t : ByteArray) (l : List UInt8) (w : World) (ht : t.data.toList = [] ++ l) (h45 : ∀ d, l.head? = some d → d ≠ 45) (hN : t.data.toList.length < 2305843009213693952) (m : Nat) (hm : Hid (m = 0 + (dgs l).length)) (h0 : 0 < (dgs l).length) (c : UInt8) (r : List UInt8) (hu : und l = c :: r) (hc : c.toNat = 47) (he : (dgs r).length = 0) :
    Calls Tryz.prog 98 #[.string t] w fun e w' => e = .returned (cutBad ((m : Int) + 1)) ∧ But [] w w' := by
  have htA : t.data.toList = [] ++ dgs l ++ und l := by rw [ht, List.append_assoc, dgs_und]
  have HP : Hid (∀ W, Calls Tryz.prog 155 #[.string t, .string ⟨#[45]⟩] W fun e w' => e = .returned (.bool false) ∧ w' = W) := fun W => by
    have h := Tryz.strings_HasPrefix t ⟨#[45]⟩ W
    rw [ht, show (⟨#[45]⟩ : ByteArray).data.toList = [45] from rfl, show [] ++ l = l from rfl, prefix_minus _ h45] at h
    exact h
  have hszA : t.size = 0 + l.length := by
    have h1 := congrArg List.length ht
    have h2 : t.data.toList.length = t.size := by simp
    rw [List.length_append] at h1
    simp only [List.length_nil] at h1
    omega
  have hul := und_length l
  have hN2 : t.size < 2305843009213693952 := by simpa using hN
  have DE : Hid (∀ W, Calls Tryz.prog 160 #[.string t, .int .i64 0] W fun e w' => e = .returned (.int .i64 (m : Int)) ∧ w' = W) := fun W => digitsEnd_big t _ (dgs l) (und l) 0 W rfl (by rw [ht]; exact (dgs_und l).symm) (by rw [ht, List.length_append]; simp) (dgs_digits l) (und_head l) hN _ (by show _ = _; rw [unhide hm])
  have hsz : t.size = m + (und l).length := by rw [hszA, unhide hm]; omega
  have htB : t.data.toList = ([] ++ dgs l ++ [c]) ++ r := by rw [htA, hu]; simp
  have hlB : ([] ++ dgs l ++ [c] : List UInt8).length = m + 1 := by rw [List.length_append, List.length_append, unhide hm]; simp
  have hur := und_length r
  have hszB : t.size = m + 1 + r.length := by rw [hsz, hu]; simp; omega
  have hb : ∀ W, (Instr.index 9 (.string t) (.int .i64 (m : Int))).run Tryz.prog W = .ok (.int .u8 47) W := fun W => by
    have h1 := byte_at (t := t) rfl m (by rw [htB, List.length_append, hlB]; omega) 9 Tryz.underlying9 W
    have h2 : t.data.toList[m]?.getD 0 = c := by
      rw [htA, hu, List.getElem?_append_right (by rw [List.length_append, unhide hm]; simp), show m - ([] ++ dgs l : List UInt8).length = 0 from by rw [List.length_append, unhide hm]; simp]
      rfl
    rw [h2, hc] at h1
    exact h1
  have hdr : t.data.toList.drop (m + 1) = r := by rw [htB, ← hlB, List.drop_left]
  have n1 : ((m : Int) == 0) = false := beq_eq_false_iff_ne.2 (by have := unhide hm; omega)
  have hm0 : 0 ≤ (m : Int) := by have := unhide hm; omega
  have hmt : (m : Int) ≤ (t.size : Int) := by omega
  have hmm : (0 : Int) ≤ (m : Int) := by omega
  have hlt : (m : Int) < (t.size : Int) := by omega
  have l1 : decide ((m : Int) < (t.size : Int)) = true := decide_eq_true hlt
  have wm : IntKind.i64.wrap ((m : Int) + 1) = (m : Int) + 1 := by rw [IntKind.wrap_i64]; omega
  have DE2 : Hid (∀ W, Calls Tryz.prog 160 #[.string t, .int .i64 ((m : Int) + 1)] W fun e w' => e = .returned (.int .i64 ((m : Int) + 1)) ∧ w' = W) := fun W => digitsEnd_big t _ (dgs r) (und r) (m + 1) W rfl (by rw [hdr]; exact (dgs_und r).symm) (by rw [htB, List.length_append, hlB]; omega) (dgs_digits r) (und_head r) hN _ (by show _ = _; rw [he]; simp)
  clear htA ht hszA hul hN hsz h0 hu hc he htB hlB hur hszB hdr hN2 h45
  go_enter Tryz.func98, Tryz.ntmps98
  go_wp2_with fail
  refine (unhide HP _).mono ?_
  rintro e w1 ⟨rfl, hw⟩
  obtain rfl := hw.symm
  clear hw
  go_wp2_with fail
  refine (unhide DE _).mono ?_
  rintro e w1 ⟨rfl, hw⟩
  obtain rfl := hw.symm
  clear hw
  go_wp2_with fail
  refine (unhide DE2 _).mono ?_
  rintro e w1 ⟨rfl, hw⟩
  obtain rfl := hw.symm
  clear hw
  go_wp2
  exact bodyPost_ret (v := cutBad ((m : Int) + 1)) (by simp [cutBad, results, Tryz.results98, go_sem]) rfl ⟨rfl, by repeat (first | exact But.refl _ _ | refine But.alloc ?_ _ | refine But.drew ?_ | refine But.setCell ?_ (.inr (by simp)) _)⟩

set_option maxHeartbeats 8000000 in
set_option maxRecDepth 100000 in
theorem cutp_full47 (t : ByteArray) (l : List UInt8) (w : World) (ht : t.data.toList = [] ++ l) (h45 : ∀ d, l.head? = some d → d ≠ 45) (hN : t.data.toList.length < 2305843009213693952) (m : Nat) (hm : Hid (m = 0 + (dgs l).length)) (h0 : 0 < (dgs l).length) (c : UInt8) (r : List UInt8) (hu : und l = c :: r) (hc : c.toNat = 47) (he : 0 < (dgs r).length) (p : Nat) (hp : Hid (p = m + 1 + (dgs r).length)) :
    Calls Tryz.prog 98 #[.string t] w fun e w' => e = .returned (cutEnd false (t.extract 0 m) 47 (t.extract (m + 1) p) p (und r)) ∧ But [] w w' := by
  have htA : t.data.toList = [] ++ dgs l ++ und l := by rw [ht, List.append_assoc, dgs_und]
  have HP : Hid (∀ W, Calls Tryz.prog 155 #[.string t, .string ⟨#[45]⟩] W fun e w' => e = .returned (.bool false) ∧ w' = W) := fun W => by
    have h := Tryz.strings_HasPrefix t ⟨#[45]⟩ W
    rw [ht, show (⟨#[45]⟩ : ByteArray).data.toList = [45] from rfl, show [] ++ l = l from rfl, prefix_minus _ h45] at h
    exact h
  have hszA : t.size = 0 + l.length := by
    have h1 := congrArg List.length ht
    have h2 : t.data.toList.length = t.size := by simp
    rw [List.length_append] at h1
    simp only [List.length_nil] at h1
    omega
  have hul := und_length l
  have hN2 : t.size < 2305843009213693952 := by simpa using hN
  have DE : Hid (∀ W, Calls Tryz.prog 160 #[.string t, .int .i64 0] W fun e w' => e = .returned (.int .i64 (m : Int)) ∧ w' = W) := fun W => digitsEnd_big t _ (dgs l) (und l) 0 W rfl (by rw [ht]; exact (dgs_und l).symm) (by rw [ht, List.length_append]; simp) (dgs_digits l) (und_head l) hN _ (by show _ = _; rw [unhide hm])
  have hsz : t.size = m + (und l).length := by rw [hszA, unhide hm]; omega
  have htB : t.data.toList = ([] ++ dgs l ++ [c]) ++ r := by rw [htA, hu]; simp
  have hlB : ([] ++ dgs l ++ [c] : List UInt8).length = m + 1 := by rw [List.length_append, List.length_append, unhide hm]; simp
  have hur := und_length r
  have hszB : t.size = m + 1 + r.length := by rw [hsz, hu]; simp; omega
  have hb : ∀ W, (Instr.index 9 (.string t) (.int .i64 (m : Int))).run Tryz.prog W = .ok (.int .u8 47) W := fun W => by
    have h1 := byte_at (t := t) rfl m (by rw [htB, List.length_append, hlB]; omega) 9 Tryz.underlying9 W
    have h2 : t.data.toList[m]?.getD 0 = c := by
      rw [htA, hu, List.getElem?_append_right (by rw [List.length_append, unhide hm]; simp), show m - ([] ++ dgs l : List UInt8).length = 0 from by rw [List.length_append, unhide hm]; simp]
      rfl
    rw [h2, hc] at h1
    exact h1
  have hdr : t.data.toList.drop (m + 1) = r := by rw [htB, ← hlB, List.drop_left]
  have n1 : ((m : Int) == 0) = false := beq_eq_false_iff_ne.2 (by have := unhide hm; omega)
  have hm0 : 0 ≤ (m : Int) := by have := unhide hm; omega
  have hmt : (m : Int) ≤ (t.size : Int) := by omega
  have hmm : (0 : Int) ≤ (m : Int) := by omega
  have hlt : (m : Int) < (t.size : Int) := by omega
  have l1 : decide ((m : Int) < (t.size : Int)) = true := decide_eq_true hlt
  have wm : IntKind.i64.wrap ((m : Int) + 1) = (m : Int) + 1 := by rw [IntKind.wrap_i64]; omega
  have DE2 : Hid (∀ W, Calls Tryz.prog 160 #[.string t, .int .i64 ((m : Int) + 1)] W fun e w' => e = .returned (.int .i64 (p : Int)) ∧ w' = W) := fun W => digitsEnd_big t _ (dgs r) (und r) (m + 1) W rfl (by rw [hdr]; exact (dgs_und r).symm) (by rw [htB, List.length_append, hlB]; omega) (dgs_digits r) (und_head r) hN _ (by show _ = _; rw [unhide hp])
  have hp1 : (m : Int) + 1 ≤ (p : Int) := by have := unhide hp; omega
  have hp2 : (p : Int) ≤ (t.size : Int) := by have := unhide hp; omega
  have n2 : ((p : Int) == (m : Int) + 1) = false := beq_eq_false_iff_ne.2 (by have := unhide hp; omega)
  have hsl : ∀ W, (Instr.slice 9 (.string t) (some (.int .i64 ((m : Int) + 1))) (some (.int .i64 (p : Int))) none).run Tryz.prog W = .ok (.string (t.extract (m + 1) p)) W := fun W => by
    rw [run_slice_string W 9 t .i64 .i64 _ _ Tryz.underlying9 (by omega) (by omega) (by omega)]
    rfl
  have END := hide (fun y => cut_end1 t _ (und r) p rfl (by rw [unhide hp, ← List.drop_drop, hdr]; conv => lhs; arg 2; rw [← dgs_und r]
                                                            rw [List.drop_left]) (by have h2 : t.data.toList.length = t.size := by simp
                                                                                     omega) hN w false (t.extract 0 m) (t.extract (m + 1) p) 47 y)
  clear htA ht hszA hul hN hsz h0 hu hc he htB hlB hur hszB hdr hN2 h45
  go_enter Tryz.func98, Tryz.ntmps98
  go_wp2_with fail
  refine (unhide HP _).mono ?_
  rintro e w1 ⟨rfl, hw⟩
  obtain rfl := hw.symm
  clear hw
  go_wp2_with fail
  refine (unhide DE _).mono ?_
  rintro e w1 ⟨rfl, hw⟩
  obtain rfl := hw.symm
  clear hw
  go_upto_if 39 with fail
  go_cut [5] (fun s5 wx => s5 = .int .i64 (p : Int) ∧ wx = ((w.alloc (.cells #[.bool false, .string ⟨#[]⟩, .int .u8 0, .string ⟨#[]⟩, .bool false] 116)).alloc (.cells #[.bool false, .string (t.extract 0 m), .int .u8 47, .string (t.extract (m + 1) p), .bool false] 116)).drew)
  case first =>
    go_wp2_with fail
    refine (unhide DE2 _).mono ?_
    rintro e w1 ⟨rfl, hw⟩
    obtain rfl := hw.symm
    clear hw
    go_wp2
    go_region_held (fun _ => True) (first | trivial | go_keep) (fail)
    all_goals go_wp2
    all_goals go_meet
    all_goals exact ⟨rfl, rfl⟩
  case rest =>
    obtain ⟨rfl, rfl⟩ := hcut
    rename ∀ a w, Code.wp _ _ _ a w → _ => hK
    refine hK _ _ ?_
    exact unhide END _ _ _ _ _ _ _ _ _ _ _ _ _ _ _ _ _ _ _ _ _ _ _ _ _ _ _ _ _ _ _ _ _ _ _ _ _ _ _ _ _ _ _ _ _ _ _ _ _ _ _ _ _ _ _ _ _ _ _ _ _ _ _ _ _ _ _ _ _ _ _ _ _ _ _ _ _

set_option maxHeartbeats 8000000 in
set_option maxRecDepth 100000 in
theorem cutp_bare46 (t : ByteArray) (l : List UInt8) (w : World) (ht : t.data.toList = [] ++ l) (h45 : ∀ d, l.head? = some d → d ≠ 45) (hN : t.data.toList.length < 2305843009213693952) (m : Nat) (hm : Hid (m = 0 + (dgs l).length)) (h0 : 0 < (dgs l).length) (c : UInt8) (r : List UInt8) (hu : und l = c :: r) (hc : c.toNat = 46) (he : (dgs r).length = 0) :
    Calls Tryz.prog 98 #[.string t] w fun e w' => e = .returned (cutBad ((m : Int) + 1)) ∧ But [] w w' := by
  have htA : t.data.toList = [] ++ dgs l ++ und l := by rw [ht, List.append_assoc, dgs_und]
  have HP : Hid (∀ W, Calls Tryz.prog 155 #[.string t, .string ⟨#[45]⟩] W fun e w' => e = .returned (.bool false) ∧ w' = W) := fun W => by
    have h := Tryz.strings_HasPrefix t ⟨#[45]⟩ W
    rw [ht, show (⟨#[45]⟩ : ByteArray).data.toList = [45] from rfl, show [] ++ l = l from rfl, prefix_minus _ h45] at h
    exact h
  have hszA : t.size = 0 + l.length := by
    have h1 := congrArg List.length ht
    have h2 : t.data.toList.length = t.size := by simp
    rw [List.length_append] at h1
    simp only [List.length_nil] at h1
    omega
  have hul := und_length l
  have hN2 : t.size < 2305843009213693952 := by simpa using hN
  have DE : Hid (∀ W, Calls Tryz.prog 160 #[.string t, .int .i64 0] W fun e w' => e = .returned (.int .i64 (m : Int)) ∧ w' = W) := fun W => digitsEnd_big t _ (dgs l) (und l) 0 W rfl (by rw [ht]; exact (dgs_und l).symm) (by rw [ht, List.length_append]; simp) (dgs_digits l) (und_head l) hN _ (by show _ = _; rw [unhide hm])
  have hsz : t.size = m + (und l).length := by rw [hszA, unhide hm]; omega
  have htB : t.data.toList = ([] ++ dgs l ++ [c]) ++ r := by rw [htA, hu]; simp
  have hlB : ([] ++ dgs l ++ [c] : List UInt8).length = m + 1 := by rw [List.length_append, List.length_append, unhide hm]; simp
  have hur := und_length r
  have hszB : t.size = m + 1 + r.length := by rw [hsz, hu]; simp; omega
  have hb : ∀ W, (Instr.index 9 (.string t) (.int .i64 (m : Int))).run Tryz.prog W = .ok (.int .u8 46) W := fun W => by
    have h1 := byte_at (t := t) rfl m (by rw [htB, List.length_append, hlB]; omega) 9 Tryz.underlying9 W
    have h2 : t.data.toList[m]?.getD 0 = c := by
      rw [htA, hu, List.getElem?_append_right (by rw [List.length_append, unhide hm]; simp), show m - ([] ++ dgs l : List UInt8).length = 0 from by rw [List.length_append, unhide hm]; simp]
      rfl
    rw [h2, hc] at h1
    exact h1
  have hdr : t.data.toList.drop (m + 1) = r := by rw [htB, ← hlB, List.drop_left]
  have n1 : ((m : Int) == 0) = false := beq_eq_false_iff_ne.2 (by have := unhide hm; omega)
  have hm0 : 0 ≤ (m : Int) := by have := unhide hm; omega
  have hmt : (m : Int) ≤ (t.size : Int) := by omega
  have hmm : (0 : Int) ≤ (m : Int) := by omega
  have hlt : (m : Int) < (t.size : Int) := by omega
  have l1 : decide ((m : Int) < (t.size : Int)) = true := decide_eq_true hlt
  have wm : IntKind.i64.wrap ((m : Int) + 1) = (m : Int) + 1 := by rw [IntKind.wrap_i64]; omega
  have DE2 : Hid (∀ W, Calls Tryz.prog 160 #[.string t, .int .i64 ((m : Int) + 1)] W fun e w' => e = .returned (.int .i64 ((m : Int) + 1)) ∧ w' = W) := fun W => digitsEnd_big t _ (dgs r) (und r) (m + 1) W rfl (by rw [hdr]; exact (dgs_und r).symm) (by rw [htB, List.length_append, hlB]; omega) (dgs_digits r) (und_head r) hN _ (by show _ = _; rw [he]; simp)
  clear htA ht hszA hul hN hsz h0 hu hc he htB hlB hur hszB hdr hN2 h45
  go_enter Tryz.func98, Tryz.ntmps98
  go_wp2_with fail
  refine (unhide HP _).mono ?_
  rintro e w1 ⟨rfl, hw⟩
  obtain rfl := hw.symm
  clear hw
  go_wp2_with fail
  refine (unhide DE _).mono ?_
  rintro e w1 ⟨rfl, hw⟩
  obtain rfl := hw.symm
  clear hw
  go_wp2_with fail
  refine (unhide DE2 _).mono ?_
  rintro e w1 ⟨rfl, hw⟩
  obtain rfl := hw.symm
  clear hw
  go_wp2
  exact bodyPost_ret (v := cutBad ((m : Int) + 1)) (by simp [cutBad, results, Tryz.results98, go_sem]) rfl ⟨rfl, by repeat (first | exact But.refl _ _ | refine But.alloc ?_ _ | refine But.drew ?_ | refine But.setCell ?_ (.inr (by simp)) _)⟩

set_option maxHeartbeats 8000000 in
set_option maxRecDepth 100000 in
theorem cutp_full46 (t : ByteArray) (l : List UInt8) (w : World) (ht : t.data.toList = [] ++ l) (h45 : ∀ d, l.head? = some d → d ≠ 45) (hN : t.data.toList.length < 2305843009213693952) (m : Nat) (hm : Hid (m = 0 + (dgs l).length)) (h0 : 0 < (dgs l).length) (c : UInt8) (r : List UInt8) (hu : und l = c :: r) (hc : c.toNat = 46) (he : 0 < (dgs r).length) (p : Nat) (hp : Hid (p = m + 1 + (dgs r).length)) :
    Calls Tryz.prog 98 #[.string t] w fun e w' => e = .returned (cutEnd false (t.extract 0 m) 46 (t.extract (m + 1) p) p (und r)) ∧ But [] w w' := by
  have htA : t.data.toList = [] ++ dgs l ++ und l := by rw [ht, List.append_assoc, dgs_und]
  have HP : Hid (∀ W, Calls Tryz.prog 155 #[.string t, .string ⟨#[45]⟩] W fun e w' => e = .returned (.bool false) ∧ w' = W) := fun W => by
    have h := Tryz.strings_HasPrefix t ⟨#[45]⟩ W
    rw [ht, show (⟨#[45]⟩ : ByteArray).data.toList = [45] from rfl, show [] ++ l = l from rfl, prefix_minus _ h45] at h
    exact h
  have hszA : t.size = 0 + l.length := by
    have h1 := congrArg List.length ht
    have h2 : t.data.toList.length = t.size := by simp
    rw [List.length_append] at h1
    simp only [List.length_nil] at h1
    omega
  have hul := und_length l
  have hN2 : t.size < 2305843009213693952 := by simpa using hN
  have DE : Hid (∀ W, Calls Tryz.prog 160 #[.string t, .int .i64 0] W fun e w' => e = .returned (.int .i64 (m : Int)) ∧ w' = W) := fun W => digitsEnd_big t _ (dgs l) (und l) 0 W rfl (by rw [ht]; exact (dgs_und l).symm) (by rw [ht, List.length_append]; simp) (dgs_digits l) (und_head l) hN _ (by show _ = _; rw [unhide hm])
  have hsz : t.size = m + (und l).length := by rw [hszA, unhide hm]; omega
  have htB : t.data.toList = ([] ++ dgs l ++ [c]) ++ r := by rw [htA, hu]; simp
  have hlB : ([] ++ dgs l ++ [c] : List UInt8).length = m + 1 := by rw [List.length_append, List.length_append, unhide hm]; simp
  have hur := und_length r
  have hszB : t.size = m + 1 + r.length := by rw [hsz, hu]; simp; omega
  have hb : ∀ W, (Instr.index 9 (.string t) (.int .i64 (m : Int))).run Tryz.prog W = .ok (.int .u8 46) W := fun W => by
    have h1 := byte_at (t := t) rfl m (by rw [htB, List.length_append, hlB]; omega) 9 Tryz.underlying9 W
    have h2 : t.data.toList[m]?.getD 0 = c := by
      rw [htA, hu, List.getElem?_append_right (by rw [List.length_append, unhide hm]; simp), show m - ([] ++ dgs l : List UInt8).length = 0 from by rw [List.length_append, unhide hm]; simp]
      rfl
    rw [h2, hc] at h1
    exact h1
  have hdr : t.data.toList.drop (m + 1) = r := by rw [htB, ← hlB, List.drop_left]
  have n1 : ((m : Int) == 0) = false := beq_eq_false_iff_ne.2 (by have := unhide hm; omega)
  have hm0 : 0 ≤ (m : Int) := by have := unhide hm; omega
  have hmt : (m : Int) ≤ (t.size : Int) := by omega
  have hmm : (0 : Int) ≤ (m : Int) := by omega
  have hlt : (m : Int) < (t.size : Int) := by omega
  have l1 : decide ((m : Int) < (t.size : Int)) = true := decide_eq_true hlt
  have wm : IntKind.i64.wrap ((m : Int) + 1) = (m : Int) + 1 := by rw [IntKind.wrap_i64]; omega
  have DE2 : Hid (∀ W, Calls Tryz.prog 160 #[.string t, .int .i64 ((m : Int) + 1)] W fun e w' => e = .returned (.int .i64 (p : Int)) ∧ w' = W) := fun W => digitsEnd_big t _ (dgs r) (und r) (m + 1) W rfl (by rw [hdr]; exact (dgs_und r).symm) (by rw [htB, List.length_append, hlB]; omega) (dgs_digits r) (und_head r) hN _ (by show _ = _; rw [unhide hp])
  have hp1 : (m : Int) + 1 ≤ (p : Int) := by have := unhide hp; omega
  have hp2 : (p : Int) ≤ (t.size : Int) := by have := unhide hp; omega
  have n2 : ((p : Int) == (m : Int) + 1) = false := beq_eq_false_iff_ne.2 (by have := unhide hp; omega)
  have hsl : ∀ W, (Instr.slice 9 (.string t) (some (.int .i64 ((m : Int) + 1))) (some (.int .i64 (p : Int))) none).run Tryz.prog W = .ok (.string (t.extract (m + 1) p)) W := fun W => by
    rw [run_slice_string W 9 t .i64 .i64 _ _ Tryz.underlying9 (by omega) (by omega) (by omega)]
    rfl
  have END := hide (fun y => cut_end1 t _ (und r) p rfl (by rw [unhide hp, ← List.drop_drop, hdr]; conv => lhs; arg 2; rw [← dgs_und r]
                                                            rw [List.drop_left]) (by have h2 : t.data.toList.length = t.size := by simp
                                                                                     omega) hN w false (t.extract 0 m) (t.extract (m + 1) p) 46 y)
  clear htA ht hszA hul hN hsz h0 hu hc he htB hlB hur hszB hdr hN2 h45
  go_enter Tryz.func98, Tryz.ntmps98
  go_wp2_with fail
  refine (unhide HP _).mono ?_
  rintro e w1 ⟨rfl, hw⟩
  obtain rfl := hw.symm
  clear hw
  go_wp2_with fail
  refine (unhide DE _).mono ?_
  rintro e w1 ⟨rfl, hw⟩
  obtain rfl := hw.symm
  clear hw
  go_upto_if 39 with fail
  go_cut [5] (fun s5 wx => s5 = .int .i64 (p : Int) ∧ wx = ((w.alloc (.cells #[.bool false, .string ⟨#[]⟩, .int .u8 0, .string ⟨#[]⟩, .bool false] 116)).alloc (.cells #[.bool false, .string (t.extract 0 m), .int .u8 46, .string (t.extract (m + 1) p), .bool false] 116)).drew)
  case first =>
    go_wp2_with fail
    refine (unhide DE2 _).mono ?_
    rintro e w1 ⟨rfl, hw⟩
    obtain rfl := hw.symm
    clear hw
    go_wp2
    go_region_held (fun _ => True) (first | trivial | go_keep) (fail)
    all_goals go_wp2
    all_goals go_meet
    all_goals exact ⟨rfl, rfl⟩
  case rest =>
    obtain ⟨rfl, rfl⟩ := hcut
    rename ∀ a w, Code.wp _ _ _ a w → _ => hK
    refine hK _ _ ?_
    exact unhide END _ _ _ _ _ _ _ _ _ _ _ _ _ _ _ _ _ _ _ _ _ _ _ _ _ _ _ _ _ _ _ _ _ _ _ _ _ _ _ _ _ _ _ _ _ _ _ _ _ _ _ _ _ _ _ _ _ _ _ _ _ _ _ _ _ _ _ _ _ _ _ _ _ _ _ _ _

set_option maxHeartbeats 8000000 in
set_option maxRecDepth 100000 in
theorem cutn_none (t : ByteArray) (l : List UInt8) (w : World) (ht : t.data.toList = [45] ++ l) (hN : t.data.toList.length < 2305843009213693952) (m : Nat) (hm : Hid (m = 1 + (dgs l).length)) (h0 : (dgs l).length = 0) :
    Calls Tryz.prog 98 #[.string t] w fun e w' => e = .returned (cutBad 1) ∧ But [] w w' := by
  have htA : t.data.toList = [45] ++ dgs l ++ und l := by rw [ht, List.append_assoc, dgs_und]
  have HP : Hid (∀ W, Calls Tryz.prog 155 #[.string t, .string ⟨#[45]⟩] W fun e w' => e = .returned (.bool true) ∧ w' = W) := fun W => by
    have h := Tryz.strings_HasPrefix t ⟨#[45]⟩ W
    rw [ht, show (⟨#[45]⟩ : ByteArray).data.toList = [45] from rfl, show [45] ++ l = 45 :: l from rfl, prefix_yes] at h
    exact h
  have hszA : t.size = 1 + l.length := by
    have h1 := congrArg List.length ht
    have h2 : t.data.toList.length = t.size := by simp
    rw [List.length_append] at h1
    simp only [List.length_cons, List.length_nil] at h1
    omega
  have hul := und_length l
  have hN2 : t.size < 2305843009213693952 := by simpa using hN
  have DE : Hid (∀ W, Calls Tryz.prog 160 #[.string t, .int .i64 1] W fun e w' => e = .returned (.int .i64 (m : Int)) ∧ w' = W) := fun W => digitsEnd_big t _ (dgs l) (und l) 1 W rfl (by rw [ht]; exact (dgs_und l).symm) (by rw [ht, List.length_append]; simp) (dgs_digits l) (und_head l) hN _ (by show _ = _; rw [unhide hm])
  have hsz : t.size = m + (und l).length := by rw [hszA, unhide hm]; omega
  obtain rfl : m = 1 := by rw [unhide hm, h0]
  clear htA ht hszA hul hN hN2 hsz h0 hm
  go_enter Tryz.func98, Tryz.ntmps98
  go_wp2_with fail
  refine (unhide HP _).mono ?_
  rintro e w1 ⟨rfl, hw⟩
  obtain rfl := hw.symm
  clear hw
  go_wp2_with fail
  refine (unhide DE _).mono ?_
  rintro e w1 ⟨rfl, hw⟩
  obtain rfl := hw.symm
  clear hw
  go_wp2
  exact bodyPost_ret (v := cutBad 1) (by simp [cutBad, results, Tryz.results98, go_sem]) rfl ⟨rfl, by repeat (first | exact But.refl _ _ | refine But.alloc ?_ _ | refine But.drew ?_ | refine But.setCell ?_ (.inr (by simp)) _)⟩

set_option maxHeartbeats 8000000 in
set_option maxRecDepth 100000 in
theorem cutn_plain (t : ByteArray) (l : List UInt8) (w : World) (ht : t.data.toList = [45] ++ l) (hN : t.data.toList.length < 2305843009213693952) (m : Nat) (hm : Hid (m = 1 + (dgs l).length)) (h0 : 0 < (dgs l).length) (hu : ∀ c, (und l).head? = some c → c.toNat ≠ 47 ∧ c.toNat ≠ 46) :
    Calls Tryz.prog 98 #[.string t] w fun e w' => e = .returned (cutEnd true (t.extract 1 m) 0 ⟨#[]⟩ m (und l)) ∧ But [] w w' := by
  have htA : t.data.toList = [45] ++ dgs l ++ und l := by rw [ht, List.append_assoc, dgs_und]
  have HP : Hid (∀ W, Calls Tryz.prog 155 #[.string t, .string ⟨#[45]⟩] W fun e w' => e = .returned (.bool true) ∧ w' = W) := fun W => by
    have h := Tryz.strings_HasPrefix t ⟨#[45]⟩ W
    rw [ht, show (⟨#[45]⟩ : ByteArray).data.toList = [45] from rfl, show [45] ++ l = 45 :: l from rfl, prefix_yes] at h
    exact h
  have hszA : t.size = 1 + l.length := by
    have h1 := congrArg List.length ht
    have h2 : t.data.toList.length = t.size := by simp
    rw [List.length_append] at h1
    simp only [List.length_cons, List.length_nil] at h1
    omega
  have hul := und_length l
  have hN2 : t.size < 2305843009213693952 := by simpa using hN
  have DE : Hid (∀ W, Calls Tryz.prog 160 #[.string t, .int .i64 1] W fun e w' => e = .returned (.int .i64 (m : Int)) ∧ w' = W) := fun W => digitsEnd_big t _ (dgs l) (und l) 1 W rfl (by rw [ht]; exact (dgs_und l).symm) (by rw [ht, List.length_append]; simp) (dgs_digits l) (und_head l) hN _ (by show _ = _; rw [unhide hm])
  have hsz : t.size = m + (und l).length := by rw [hszA, unhide hm]; omega
  have END := hide (fun y => cut_end0 t _ (und l) m rfl (by rw [htA, unhide hm, show 1 + (dgs l).length = ([45] ++ dgs l : List UInt8).length from by simp <;> omega, List.drop_left]) (by rw [htA, List.length_append, List.length_append, unhide hm]; simp) hN w true (t.extract 1 m) ⟨#[]⟩ 0 y)
  have n1 : ((m : Int) == 1) = false := beq_eq_false_iff_ne.2 (by have := unhide hm; omega)
  have hm0 : 1 ≤ (m : Int) := by have := unhide hm; omega
  have hmt : (m : Int) ≤ (t.size : Int) := by omega
  have hmm : (0 : Int) ≤ (m : Int) := by omega
  have CASE : Hid ((¬ (m : Int) < (t.size : Int)) ∨ ((m : Int) < (t.size : Int) ∧ ∃ c : Nat, c ≠ 47 ∧ c ≠ 46 ∧ ∀ W, (Instr.index 9 (.string t) (.int .i64 (m : Int))).run Tryz.prog W = .ok (.int .u8 (c : Int)) W)) := by
    cases hul2 : und l with
    | nil => exact .inl (by rw [hul2] at hsz; simp at hsz; omega)
    | cons c r =>
      refine .inr ⟨by rw [hul2] at hsz; simp at hsz; omega, c.toNat, (hu c (by rw [hul2]; rfl)).1, (hu c (by rw [hul2]; rfl)).2, fun W => ?_⟩
      have h1 := byte_at (t := t) rfl m (by rw [htA, hul2, List.length_append, List.length_append, unhide hm]; simp <;> omega) 9 Tryz.underlying9 W
      have h2 : t.data.toList[m]?.getD 0 = c := by
        rw [htA, hul2, List.getElem?_append_right (by rw [List.length_append, unhide hm]; simp <;> omega), show m - ([45] ++ dgs l : List UInt8).length = 0 from by rw [List.length_append, unhide hm]; simp <;> omega]
        rfl
      rw [h2] at h1
      exact h1
  clear htA ht hszA hul hN hsz h0 hu
  rcases unhide CASE with hlt | ⟨hlt, c, hc1, hc2, hb⟩
  · have l1 : decide ((m : Int) < (t.size : Int)) = false := decide_eq_false hlt
    clear CASE
    go_enter Tryz.func98, Tryz.ntmps98
    go_wp2_with fail
    refine (unhide HP _).mono ?_
    rintro e w1 ⟨rfl, hw⟩
    obtain rfl := hw.symm
    clear hw
    go_wp2_with fail
    refine (unhide DE _).mono ?_
    rintro e w1 ⟨rfl, hw⟩
    obtain rfl := hw.symm
    clear hw
    go_upto_if 39 with fail
    go_cut [5] (fun s5 wx => s5 = .int .i64 (m : Int) ∧ wx = ((w.alloc (.cells #[.bool false, .string ⟨#[]⟩, .int .u8 0, .string ⟨#[]⟩, .bool false] 116)).alloc (.cells #[.bool true, .string (t.extract 1 m), .int .u8 0, .string ⟨#[]⟩, .bool false] 116)))
    case first =>
      go_wp2
      go_meet
      exact ⟨rfl, rfl⟩
    case rest =>
      obtain ⟨rfl, rfl⟩ := hcut
      rename ∀ a w, Code.wp _ _ _ a w → _ => hK
      refine hK _ _ ?_
      exact unhide END _ _ _ _ _ _ _ _ _ _ _ _ _ _ _ _ _ _ _ _ _ _ _ _ _ _ _ _ _ _ _ _ _ _ _ _ _ _ _ _ _ _ _ _ _ _ _ _ _ _ _ _ _ _ _ _ _ _ _ _ _ _ _ _ _ _ _ _ _ _ _ _ _ _ _ _ _
  · have l1 : decide ((m : Int) < (t.size : Int)) = true := decide_eq_true hlt
    have n2 : ((c : Int) == 47) = false := beq_eq_false_iff_ne.2 (by omega)
    have n3 : ((c : Int) == 46) = false := beq_eq_false_iff_ne.2 (by omega)
    clear CASE hc1 hc2
    go_enter Tryz.func98, Tryz.ntmps98
    go_wp2_with fail
    refine (unhide HP _).mono ?_
    rintro e w1 ⟨rfl, hw⟩
    obtain rfl := hw.symm
    clear hw
    go_wp2_with fail
    refine (unhide DE _).mono ?_
    rintro e w1 ⟨rfl, hw⟩
    obtain rfl := hw.symm
    clear hw
    go_upto_if 39 with fail
    go_cut [5] (fun s5 wx => s5 = .int .i64 (m : Int) ∧ wx = ((w.alloc (.cells #[.bool false, .string ⟨#[]⟩, .int .u8 0, .string ⟨#[]⟩, .bool false] 116)).alloc (.cells #[.bool true, .string (t.extract 1 m), .int .u8 0, .string ⟨#[]⟩, .bool false] 116)))
    case first =>
      go_wp2
      go_meet
      exact ⟨rfl, rfl⟩
    case rest =>
      obtain ⟨rfl, rfl⟩ := hcut
      rename ∀ a w, Code.wp _ _ _ a w → _ => hK
      refine hK _ _ ?_
      exact unhide END _ _ _ _ _ _ _ _ _ _ _ _ _ _ _ _ _ _ _ _ _ _ _ _ _ _ _ _ _ _ _ _ _ _ _ _ _ _ _ _ _ _ _ _ _ _ _ _ _ _ _ _ _ _ _ _ _ _ _ _ _ _ _ _ _ _ _ _ _ _ _ _ _ _ _ _ _

set_option maxHeartbeats 8000000 in
set_option maxRecDepth 100000 in
theorem cutn_bare47 (t : ByteArray) (l : List UInt8) (w : World) (ht : t.data.toList = [45] ++ l) (hN : t.data.toList.length < 2305843009213693952) (m : Nat) (hm : Hid (m = 1 + (dgs l).length)) (h0 : 0 < (dgs l).length) (c : UInt8) (r : List UInt8) (hu : und l = c :: r) (hc : c.toNat = 47) (he : (dgs r).length = 0) :
    Calls Tryz.prog 98 #[.string t] w fun e w' => e = .returned (cutBad ((m : Int) + 1)) ∧ But [] w w' := by
  have htA : t.data.toList = [45] ++ dgs l ++ und l := by rw [ht, List.append_assoc, dgs_und]
  have HP : Hid (∀ W, Calls Tryz.prog 155 #[.string t, .string ⟨#[45]⟩] W fun e w' => e = .returned (.bool true) ∧ w' = W) := fun W => by
    have h := Tryz.strings_HasPrefix t ⟨#[45]⟩ W
    rw [ht, show (⟨#[45]⟩ : ByteArray).data.toList = [45] from rfl, show [45] ++ l = 45 :: l from rfl, prefix_yes] at h
    exact h
  have hszA : t.size = 1 + l.length := by
    have h1 := congrArg List.length ht
    have h2 : t.data.toList.length = t.size := by simp
    rw [List.length_append] at h1
    simp only [List.length_cons, List.length_nil] at h1
    omega
  have hul := und_length l
  have hN2 : t.size < 2305843009213693952 := by simpa using hN
  have DE : Hid (∀ W, Calls Tryz.prog 160 #[.string t, .int .i64 1] W fun e w' => e = .returned (.int .i64 (m : Int)) ∧ w' = W) := fun W => digitsEnd_big t _ (dgs l) (und l) 1 W rfl (by rw [ht]; exact (dgs_und l).symm) (by rw [ht, List.length_append]; simp) (dgs_digits l) (und_head l) hN _ (by show _ = _; rw [unhide hm])
  have hsz : t.size = m + (und l).length := by rw [hszA, unhide hm]; omega
  have htB : t.data.toList = ([45] ++ dgs l ++ [c]) ++ r := by rw [htA, hu]; simp
  have hlB : ([45] ++ dgs l ++ [c] : List UInt8).length = m + 1 := by rw [List.length_append, List.length_append, unhide hm]; simp <;> omega
  have hur := und_length r
  have hszB : t.size = m + 1 + r.length := by rw [hsz, hu]; simp; omega
  have hb : ∀ W, (Instr.index 9 (.string t) (.int .i64 (m : Int))).run Tryz.prog W = .ok (.int .u8 47) W := fun W => by
    have h1 := byte_at (t := t) rfl m (by rw [htB, List.length_append, hlB]; omega) 9 Tryz.underlying9 W
    have h2 : t.data.toList[m]?.getD 0 = c := by
      rw [htA, hu, List.getElem?_append_right (by rw [List.length_append, unhide hm]; simp <;> omega), show m - ([45] ++ dgs l : List UInt8).length = 0 from by rw [List.length_append, unhide hm]; simp <;> omega]
      rfl
    rw [h2, hc] at h1
    exact h1
  have hdr : t.data.toList.drop (m + 1) = r := by rw [htB, ← hlB, List.drop_left]
  have n1 : ((m : Int) == 1) = false := beq_eq_false_iff_ne.2 (by have := unhide hm; omega)
  have hm0 : 1 ≤ (m : Int) := by have := unhide hm; omega
  have hmt : (m : Int) ≤ (t.size : Int) := by omega
  have hmm : (0 : Int) ≤ (m : Int) := by omega
  have hlt : (m : Int) < (t.size : Int) := by omega
  have l1 : decide ((m : Int) < (t.size : Int)) = true := decide_eq_true hlt
  have wm : IntKind.i64.wrap ((m : Int) + 1) = (m : Int) + 1 := by rw [IntKind.wrap_i64]; omega
  have DE2 : Hid (∀ W, Calls Tryz.prog 160 #[.string t, .int .i64 ((m : Int) + 1)] W fun e w' => e = .returned (.int .i64 ((m : Int) + 1)) ∧ w' = W) := fun W => digitsEnd_big t _ (dgs r) (und r) (m + 1) W rfl (by rw [hdr]; exact (dgs_und r).symm) (by rw [htB, List.length_append, hlB]; omega) (dgs_digits r) (und_head r) hN _ (by show _ = _; rw [he]; simp)
  clear htA ht hszA hul hN hsz h0 hu hc he htB hlB hur hszB hdr hN2
  go_enter Tryz.func98, Tryz.ntmps98
  go_wp2_with fail
  refine (unhide HP _).mono ?_
  rintro e w1 ⟨rfl, hw⟩
  obtain rfl := hw.symm
  clear hw
  go_wp2_with fail
  refine (unhide DE _).mono ?_
  rintro e w1 ⟨rfl, hw⟩
  obtain rfl := hw.symm
  clear hw
  go_wp2_with fail
  refine (unhide DE2 _).mono ?_
  rintro e w1 ⟨rfl, hw⟩
  obtain rfl := hw.symm
  clear hw
  go_wp2
  exact bodyPost_ret (v := cutBad ((m : Int) + 1)) (by simp [cutBad, results, Tryz.results98, go_sem]) rfl ⟨rfl, by repeat (first | exact But.refl _ _ | refine But.alloc ?_ _ | refine But.drew ?_ | refine But.setCell ?_ (.inr (by simp)) _)⟩

set_option maxHeartbeats 8000000 in
set_option maxRecDepth 100000 in
theorem cutn_full47 (t : ByteArray) (l : List UInt8) (w : World) (ht : t.data.toList = [45] ++ l) (hN : t.data.toList.length < 2305843009213693952) (m : Nat) (hm : Hid (m = 1 + (dgs l).length)) (h0 : 0 < (dgs l).length) (c : UInt8) (r : List UInt8) (hu : und l = c :: r) (hc : c.toNat = 47) (he : 0 < (dgs r).length) (p : Nat) (hp : Hid (p = m + 1 + (dgs r).length)) :
    Calls Tryz.prog 98 #[.string t] w fun e w' => e = .returned (cutEnd true (t.extract 1 m) 47 (t.extract (m + 1) p) p (und r)) ∧ But [] w w' := by
  have htA : t.data.toList = [45] ++ dgs l ++ und l := by rw [ht, List.append_assoc, dgs_und]
  have HP : Hid (∀ W, Calls Tryz.prog 155 #[.string t, .string ⟨#[45]⟩] W fun e w' => e = .returned (.bool true) ∧ w' = W) := fun W => by
    have h := Tryz.strings_HasPrefix t ⟨#[45]⟩ W
    rw [ht, show (⟨#[45]⟩ : ByteArray).data.toList = [45] from rfl, show [45] ++ l = 45 :: l from rfl, prefix_yes] at h
    exact h
  have hszA : t.size = 1 + l.length := by
    have h1 := congrArg List.length ht
    have h2 : t.data.toList.length = t.size := by simp
    rw [List.length_append] at h1
    simp only [List.length_cons, List.length_nil] at h1
    omega
  have hul := und_length l
  have hN2 : t.size < 2305843009213693952 := by simpa using hN
  have DE : Hid (∀ W, Calls Tryz.prog 160 #[.string t, .int .i64 1] W fun e w' => e = .returned (.int .i64 (m : Int)) ∧ w' = W) := fun W => digitsEnd_big t _ (dgs l) (und l) 1 W rfl (by rw [ht]; exact (dgs_und l).symm) (by rw [ht, List.length_append]; simp) (dgs_digits l) (und_head l) hN _ (by show _ = _; rw [unhide hm])
  have hsz : t.size = m + (und l).length := by rw [hszA, unhide hm]; omega
  have htB : t.data.toList = ([45] ++ dgs l ++ [c]) ++ r := by rw [htA, hu]; simp
  have hlB : ([45] ++ dgs l ++ [c] : List UInt8).length = m + 1 := by rw [List.length_append, List.length_append, unhide hm]; simp <;> omega
  have hur := und_length r
  have hszB : t.size = m + 1 + r.length := by rw [hsz, hu]; simp; omega
  have hb : ∀ W, (Instr.index 9 (.string t) (.int .i64 (m : Int))).run Tryz.prog W = .ok (.int .u8 47) W := fun W => by
    have h1 := byte_at (t := t) rfl m (by rw [htB, List.length_append, hlB]; omega) 9 Tryz.underlying9 W
    have h2 : t.data.toList[m]?.getD 0 = c := by
      rw [htA, hu, List.getElem?_append_right (by rw [List.length_append, unhide hm]; simp <;> omega), show m - ([45] ++ dgs l : List UInt8).length = 0 from by rw [List.length_append, unhide hm]; simp <;> omega]
      rfl
    rw [h2, hc] at h1
    exact h1
  have hdr : t.data.toList.drop (m + 1) = r := by rw [htB, ← hlB, List.drop_left]
  have n1 : ((m : Int) == 1) = false := beq_eq_false_iff_ne.2 (by have := unhide hm; omega)
  have hm0 : 1 ≤ (m : Int) := by have := unhide hm; omega
  have hmt : (m : Int) ≤ (t.size : Int) := by omega
  have hmm : (0 : Int) ≤ (m : Int) := by omega
  have hlt : (m : Int) < (t.size : Int) := by omega
  have l1 : decide ((m : Int) < (t.size : Int)) = true := decide_eq_true hlt
  have wm : IntKind.i64.wrap ((m : Int) + 1) = (m : Int) + 1 := by rw [IntKind.wrap_i64]; omega
  have DE2 : Hid (∀ W, Calls Tryz.prog 160 #[.string t, .int .i64 ((m : Int) + 1)] W fun e w' => e = .returned (.int .i64 (p : Int)) ∧ w' = W) := fun W => digitsEnd_big t _ (dgs r) (und r) (m + 1) W rfl (by rw [hdr]; exact (dgs_und r).symm) (by rw [htB, List.length_append, hlB]; omega) (dgs_digits r) (und_head r) hN _ (by show _ = _; rw [unhide hp])
  have hp1 : (m : Int) + 1 ≤ (p : Int) := by have := unhide hp; omega
  have hp2 : (p : Int) ≤ (t.size : Int) := by have := unhide hp; omega
  have n2 : ((p : Int) == (m : Int) + 1) = false := beq_eq_false_iff_ne.2 (by have := unhide hp; omega)
  have hsl : ∀ W, (Instr.slice 9 (.string t) (some (.int .i64 ((m : Int) + 1))) (some (.int .i64 (p : Int))) none).run Tryz.prog W = .ok (.string (t.extract (m + 1) p)) W := fun W => by
    rw [run_slice_string W 9 t .i64 .i64 _ _ Tryz.underlying9 (by omega) (by omega) (by omega)]
    rfl
  have END := hide (fun y => cut_end1 t _ (und r) p rfl (by rw [unhide hp, ← List.drop_drop, hdr]; conv => lhs; arg 2; rw [← dgs_und r]
                                                            rw [List.drop_left]) (by have h2 : t.data.toList.length = t.size := by simp
                                                                                     omega) hN w true (t.extract 1 m) (t.extract (m + 1) p) 47 y)
  clear htA ht hszA hul hN hsz h0 hu hc he htB hlB hur hszB hdr hN2
  go_enter Tryz.func98, Tryz.ntmps98
  go_wp2_with fail
  refine (unhide HP _).mono ?_
  rintro e w1 ⟨rfl, hw⟩
  obtain rfl := hw.symm
  clear hw
  go_wp2_with fail
  refine (unhide DE _).mono ?_
  rintro e w1 ⟨rfl, hw⟩
  obtain rfl := hw.symm
  clear hw
  go_upto_if 39 with fail
  go_cut [5] (fun s5 wx => s5 = .int .i64 (p : Int) ∧ wx = ((w.alloc (.cells #[.bool false, .string ⟨#[]⟩, .int .u8 0, .string ⟨#[]⟩, .bool false] 116)).alloc (.cells #[.bool true, .string (t.extract 1 m), .int .u8 47, .string (t.extract (m + 1) p), .bool false] 116)).drew)
  case first =>
    go_wp2_with fail
    refine (unhide DE2 _).mono ?_
    rintro e w1 ⟨rfl, hw⟩
    obtain rfl := hw.symm
    clear hw
    go_wp2
    go_region_held (fun _ => True) (first | trivial | go_keep) (fail)
    all_goals go_wp2
    all_goals go_meet
    all_goals exact ⟨rfl, rfl⟩
  case rest =>
    obtain ⟨rfl, rfl⟩ := hcut
    rename ∀ a w, Code.wp _ _ _ a w → _ => hK
    refine hK _ _ ?_
    exact unhide END _ _ _ _ _ _ _ _ _ _ _ _ _ _ _ _ _ _ _ _ _ _ _ _ _ _ _ _ _ _ _ _ _ _ _ _ _ _ _ _ _ _ _ _ _ _ _ _ _ _ _ _ _ _ _ _ _ _ _ _ _ _ _ _ _ _ _ _ _ _ _ _ _ _ _ _ _

set_option maxHeartbeats 8000000 in
set_option maxRecDepth 100000 in
theorem cutn_bare46 (t : ByteArray) (l : List UInt8) (w : World) (ht : t.data.toList = [45] ++ l) (hN : t.data.toList.length < 2305843009213693952) (m : Nat) (hm : Hid (m = 1 + (dgs l).length)) (h0 : 0 < (dgs l).length) (c : UInt8) (r : List UInt8) (hu : und l = c :: r) (hc : c.toNat = 46) (he : (dgs r).length = 0) :
    Calls Tryz.prog 98 #[.string t] w fun e w' => e = .returned (cutBad ((m : Int) + 1)) ∧ But [] w w' := by
  have htA : t.data.toList = [45] ++ dgs l ++ und l := by rw [ht, List.append_assoc, dgs_und]
  have HP : Hid (∀ W, Calls Tryz.prog 155 #[.string t, .string ⟨#[45]⟩] W fun e w' => e = .returned (.bool true) ∧ w' = W) := fun W => by
    have h := Tryz.strings_HasPrefix t ⟨#[45]⟩ W
    rw [ht, show (⟨#[45]⟩ : ByteArray).data.toList = [45] from rfl, show [45] ++ l = 45 :: l from rfl, prefix_yes] at h
    exact h
  have hszA : t.size = 1 + l.length := by
    have h1 := congrArg List.length ht
    have h2 : t.data.toList.length = t.size := by simp
    rw [List.length_append] at h1
    simp only [List.length_cons, List.length_nil] at h1
    omega
  have hul := und_length l
  have hN2 : t.size < 2305843009213693952 := by simpa using hN
  have DE : Hid (∀ W, Calls Tryz.prog 160 #[.string t, .int .i64 1] W fun e w' => e = .returned (.int .i64 (m : Int)) ∧ w' = W) := fun W => digitsEnd_big t _ (dgs l) (und l) 1 W rfl (by rw [ht]; exact (dgs_und l).symm) (by rw [ht, List.length_append]; simp) (dgs_digits l) (und_head l) hN _ (by show _ = _; rw [unhide hm])
  have hsz : t.size = m + (und l).length := by rw [hszA, unhide hm]; omega
  have htB : t.data.toList = ([45] ++ dgs l ++ [c]) ++ r := by rw [htA, hu]; simp
  have hlB : ([45] ++ dgs l ++ [c] : List UInt8).length = m + 1 := by rw [List.length_append, List.length_append, unhide hm]; simp <;> omega
  have hur := und_length r
  have hszB : t.size = m + 1 + r.length := by rw [hsz, hu]; simp; omega
  have hb : ∀ W, (Instr.index 9 (.string t) (.int .i64 (m : Int))).run Tryz.prog W = .ok (.int .u8 46) W := fun W => by
    have h1 := byte_at (t := t) rfl m (by rw [htB, List.length_append, hlB]; omega) 9 Tryz.underlying9 W
    have h2 : t.data.toList[m]?.getD 0 = c := by
      rw [htA, hu, List.getElem?_append_right (by rw [List.length_append, unhide hm]; simp <;> omega), show m - ([45] ++ dgs l : List UInt8).length = 0 from by rw [List.length_append, unhide hm]; simp <;> omega]
      rfl
    rw [h2, hc] at h1
    exact h1
  have hdr : t.data.toList.drop (m + 1) = r := by rw [htB, ← hlB, List.drop_left]
  have n1 : ((m : Int) == 1) = false := beq_eq_false_iff_ne.2 (by have := unhide hm; omega)
  have hm0 : 1 ≤ (m : Int) := by have := unhide hm; omega
  have hmt : (m : Int) ≤ (t.size : Int) := by omega
  have hmm : (0 : Int) ≤ (m : Int) := by omega
  have hlt : (m : Int) < (t.size : Int) := by omega
  have l1 : decide ((m : Int) < (t.size : Int)) = true := decide_eq_true hlt
  have wm : IntKind.i64.wrap ((m : Int) + 1) = (m : Int) + 1 := by rw [IntKind.wrap_i64]; omega
  have DE2 : Hid (∀ W, Calls Tryz.prog 160 #[.string t, .int .i64 ((m : Int) + 1)] W fun e w' => e = .returned (.int .i64 ((m : Int) + 1)) ∧ w' = W) := fun W => digitsEnd_big t _ (dgs r) (und r) (m + 1) W rfl (by rw [hdr]; exact (dgs_und r).symm) (by rw [htB, List.length_append, hlB]; omega) (dgs_digits r) (und_head r) hN _ (by show _ = _; rw [he]; simp)
  clear htA ht hszA hul hN hsz h0 hu hc he htB hlB hur hszB hdr hN2
  go_enter Tryz.func98, Tryz.ntmps98
  go_wp2_with fail
  refine (unhide HP _).mono ?_
  rintro e w1 ⟨rfl, hw⟩
  obtain rfl := hw.symm
  clear hw
  go_wp2_with fail
  refine (unhide DE _).mono ?_
  rintro e w1 ⟨rfl, hw⟩
  obtain rfl := hw.symm
  clear hw
  go_wp2_with fail
  refine (unhide DE2 _).mono ?_
  rintro e w1 ⟨rfl, hw⟩
  obtain rfl := hw.symm
  clear hw
  go_wp2
  exact bodyPost_ret (v := cutBad ((m : Int) + 1)) (by simp [cutBad, results, Tryz.results98, go_sem]) rfl ⟨rfl, by repeat (first | exact But.refl _ _ | refine But.alloc ?_ _ | refine But.drew ?_ | refine But.setCell ?_ (.inr (by simp)) _)⟩

set_option maxHeartbeats 8000000 in
set_option maxRecDepth 100000 in
theorem cutn_full46 (t : ByteArray) (l : List UInt8) (w : World) (ht : t.data.toList = [45] ++ l) (hN : t.data.toList.length < 2305843009213693952) (m : Nat) (hm : Hid (m = 1 + (dgs l).length)) (h0 : 0 < (dgs l).length) (c : UInt8) (r : List UInt8) (hu : und l = c :: r) (hc : c.toNat = 46) (he : 0 < (dgs r).length) (p : Nat) (hp : Hid (p = m + 1 + (dgs r).length)) :
    Calls Tryz.prog 98 #[.string t] w fun e w' => e = .returned (cutEnd true (t.extract 1 m) 46 (t.extract (m + 1) p) p (und r)) ∧ But [] w w' := by
  have htA : t.data.toList = [45] ++ dgs l ++ und l := by rw [ht, List.append_assoc, dgs_und]
  have HP : Hid (∀ W, Calls Tryz.prog 155 #[.string t, .string ⟨#[45]⟩] W fun e w' => e = .returned (.bool true) ∧ w' = W) := fun W => by
    have h := Tryz.strings_HasPrefix t ⟨#[45]⟩ W
    rw [ht, show (⟨#[45]⟩ : ByteArray).data.toList = [45] from rfl, show [45] ++ l = 45 :: l from rfl, prefix_yes] at h
    exact h
  have hszA : t.size = 1 + l.length := by
    have h1 := congrArg List.length ht
    have h2 : t.data.toList.length = t.size := by simp
    rw [List.length_append] at h1
    simp only [List.length_cons, List.length_nil] at h1
    omega
  have hul := und_length l
  have hN2 : t.size < 2305843009213693952 := by simpa using hN
  have DE : Hid (∀ W, Calls Tryz.prog 160 #[.string t, .int .i64 1] W fun e w' => e = .returned (.int .i64 (m : Int)) ∧ w' = W) := fun W => digitsEnd_big t _ (dgs l) (und l) 1 W rfl (by rw [ht]; exact (dgs_und l).symm) (by rw [ht, List.length_append]; simp) (dgs_digits l) (und_head l) hN _ (by show _ = _; rw [unhide hm])
  have hsz : t.size = m + (und l).length := by rw [hszA, unhide hm]; omega
  have htB : t.data.toList = ([45] ++ dgs l ++ [c]) ++ r := by rw [htA, hu]; simp
  have hlB : ([45] ++ dgs l ++ [c] : List UInt8).length = m + 1 := by rw [List.length_append, List.length_append, unhide hm]; simp <;> omega
  have hur := und_length r
  have hszB : t.size = m + 1 + r.length := by rw [hsz, hu]; simp; omega
  have hb : ∀ W, (Instr.index 9 (.string t) (.int .i64 (m : Int))).run Tryz.prog W = .ok (.int .u8 46) W := fun W => by
    have h1 := byte_at (t := t) rfl m (by rw [htB, List.length_append, hlB]; omega) 9 Tryz.underlying9 W
    have h2 : t.data.toList[m]?.getD 0 = c := by
      rw [htA, hu, List.getElem?_append_right (by rw [List.length_append, unhide hm]; simp <;> omega), show m - ([45] ++ dgs l : List UInt8).length = 0 from by rw [List.length_append, unhide hm]; simp <;> omega]
      rfl
    rw [h2, hc] at h1
    exact h1
  have hdr : t.data.toList.drop (m + 1) = r := by rw [htB, ← hlB, List.drop_left]
  have n1 : ((m : Int) == 1) = false := beq_eq_false_iff_ne.2 (by have := unhide hm; omega)
  have hm0 : 1 ≤ (m : Int) := by have := unhide hm; omega
  have hmt : (m : Int) ≤ (t.size : Int) := by omega
  have hmm : (0 : Int) ≤ (m : Int) := by omega
  have hlt : (m : Int) < (t.size : Int) := by omega
  have l1 : decide ((m : Int) < (t.size : Int)) = true := decide_eq_true hlt
  have wm : IntKind.i64.wrap ((m : Int) + 1) = (m : Int) + 1 := by rw [IntKind.wrap_i64]; omega
  have DE2 : Hid (∀ W, Calls Tryz.prog 160 #[.string t, .int .i64 ((m : Int) + 1)] W fun e w' => e = .returned (.int .i64 (p : Int)) ∧ w' = W) := fun W => digitsEnd_big t _ (dgs r) (und r) (m + 1) W rfl (by rw [hdr]; exact (dgs_und r).symm) (by rw [htB, List.length_append, hlB]; omega) (dgs_digits r) (und_head r) hN _ (by show _ = _; rw [unhide hp])
  have hp1 : (m : Int) + 1 ≤ (p : Int) := by have := unhide hp; omega
  have hp2 : (p : Int) ≤ (t.size : Int) := by have := unhide hp; omega
  have n2 : ((p : Int) == (m : Int) + 1) = false := beq_eq_false_iff_ne.2 (by have := unhide hp; omega)
  have hsl : ∀ W, (Instr.slice 9 (.string t) (some (.int .i64 ((m : Int) + 1))) (some (.int .i64 (p : Int))) none).run Tryz.prog W = .ok (.string (t.extract (m + 1) p)) W := fun W => by
    rw [run_slice_string W 9 t .i64 .i64 _ _ Tryz.underlying9 (by omega) (by omega) (by omega)]
    rfl
  have END := hide (fun y => cut_end1 t _ (und r) p rfl (by rw [unhide hp, ← List.drop_drop, hdr]; conv => lhs; arg 2; rw [← dgs_und r]
                                                            rw [List.drop_left]) (by have h2 : t.data.toList.length = t.size := by simp
                                                                                     omega) hN w true (t.extract 1 m) (t.extract (m + 1) p) 46 y)
  clear htA ht hszA hul hN hsz h0 hu hc he htB hlB hur hszB hdr hN2
  go_enter Tryz.func98, Tryz.ntmps98
  go_wp2_with fail
  refine (unhide HP _).mono ?_
  rintro e w1 ⟨rfl, hw⟩
  obtain rfl := hw.symm
  clear hw
  go_wp2_with fail
  refine (unhide DE _).mono ?_
  rintro e w1 ⟨rfl, hw⟩
  obtain rfl := hw.symm
  clear hw
  go_upto_if 39 with fail
  go_cut [5] (fun s5 wx => s5 = .int .i64 (p : Int) ∧ wx = ((w.alloc (.cells #[.bool false, .string ⟨#[]⟩, .int .u8 0, .string ⟨#[]⟩, .bool false] 116)).alloc (.cells #[.bool true, .string (t.extract 1 m), .int .u8 46, .string (t.extract (m + 1) p), .bool false] 116)).drew)
  case first =>
    go_wp2_with fail
    refine (unhide DE2 _).mono ?_
    rintro e w1 ⟨rfl, hw⟩
    obtain rfl := hw.symm
    clear hw
    go_wp2
    go_region_held (fun _ => True) (first | trivial | go_keep) (fail)
    all_goals go_wp2
    all_goals go_meet
    all_goals exact ⟨rfl, rfl⟩
  case rest =>
    obtain ⟨rfl, rfl⟩ := hcut
    rename ∀ a w, Code.wp _ _ _ a w → _ => hK
    refine hK _ _ ?_
    exact unhide END _ _ _ _ _ _ _ _ _ _ _ _ _ _ _ _ _ _ _ _ _ _ _ _ _ _ _ _ _ _ _ _ _ _ _ _ _ _ _ _ _ _ _ _ _ _ _ _ _ _ _ _ _ _ _ _ _ _ _ _ _ _ _ _ _ _ _ _ _ _ _ _ _ _ _ _ _
end Go.Proofs.YtihiafgogbhjkaaGreatDoor
