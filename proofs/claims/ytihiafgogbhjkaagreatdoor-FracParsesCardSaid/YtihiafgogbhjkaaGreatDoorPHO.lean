/- SetString of package tontinebig: digits read to the base ten. -/
import Derived.Test.YtihiafgogbhjkaaGreatDoorPHD
import Derived.Test.YtihiafgogbhjkaaGreatDoorPPt
namespace Go.Proofs.YtihiafgogbhjkaaGreatDoor
open Go.RowKit

theorem dval_len32 {ds : List UInt8} (hd : Digits ds) : (wd 4294967296 (dval ds)).length ≤ ds.length :=
  wd_length_le (B := 4294967296) (by omega) _ ds.length (Nat.lt_of_lt_of_le (dval_lt hd) (Nat.pow_le_pow_left (by omega) _))

set_option maxHeartbeats 8000000 in
set_option maxRecDepth 100000 in
theorem setString_any (b : Nat) (t : ByteArray) (ds : List UInt8) (w : World) (ht : t.data.toList = ds) (hd : Digits ds) (h0 : 0 < ds.length) (hl : ds.length ≤ 1000) (hs : Slot w b 0) :
    Calls Tryz.prog 104 #[.pointer (some ⟨b, 0, none⟩), .string t, .int .i64 10] w fun e w' => e = .returned (.tuple #[.pointer (some ⟨b, 0, none⟩), .bool true]) ∧ But [b] w w' ∧ IntAt w' b 0 ((dval ds : Nat) : Int) := by
  have hsz : t.size = ds.length := by rw [← ht]; simp
  have hx : 0 < t.size := by omega
  have hd0 := hd (t[0]'hx) (by rw [← ht]; exact Array.mem_toList_iff.2 (Array.getElem_mem (xs := t.data) hx))
  have n45 : (((t[0]'hx).toNat : Int) == 45) = false := beq_eq_false_iff_ne.2 (by omega)
  have n43 : (((t[0]'hx).toNat : Int) == 43) = false := beq_eq_false_iff_ne.2 (by omega)
  have z0 : (0 : Int) < ((t.size : Nat) : Int) := by omega
  have z1 : (((t.size : Nat) : Int) == 0) = false := beq_eq_false_iff_ne.2 (by omega)
  have HD := hide hd
  have HT := hide ht
  have HS := hide hs
  have HSZ := hide hsz
  clear hd ht hs hd0 h0
  obtain ⟨m, hm⟩ : ∃ m, m = ds.length := ⟨_, rfl⟩
  have hsm : t.size = m := by omega
  have hm1 : m ≤ 1000 := by omega
  have z2 : (0 : Int) < (m : Int) := by omega
  have z3 : ((m : Int) == 0) = false := beq_eq_false_iff_ne.2 (by omega)
  have HM := hide hm
  clear hm hsz hl z0 z1
  go_enter Tryz.func104, Tryz.ntmps104
  go_wp2
  go_loopg [9, 10] m (fun k r i wq => ∃ j : Nat, j + k = m ∧ i = .int .i64 j ∧ Hid (Sl .u32 wq r (wd 4294967296 (dval (ds.take j))) ∧ But [] w wq))
  case atStart => exact ⟨0, by omega, rfl, by rw [List.take_zero]; exact wd_zero 4294967296 ▸ Sl.nil _ _, But.refl _ _⟩
  case round =>
    obtain ⟨j, hj, rfl, HI⟩ := hrel
    rename World => wr
    by_cases hjm : j < m
    · obtain ⟨d1, d2, d3, d4⟩ := take_dval (unhide HD) (by have := unhide HM; omega : j < ds.length)
      have hb := fun W => byte_at (unhide HT) j (by have := unhide HM; omega) 9 Tryz.underlying9 W
      generalize (ds[j]?.getD 0).toNat = d at *
      obtain ⟨d', rfl⟩ : ∃ d', d = 48 + d' := ⟨d - 48, by omega⟩
      have hd9 : d' ≤ 9 := by omega
      obtain ⟨X, hX⟩ : ∃ X, X = dval (ds.take j) := ⟨_, rfl⟩
      have lX : (wd 4294967296 X).length ≤ 1000 := by
        rw [hX]
        refine Nat.le_trans (dval_len32 (fun e he => unhide HD e (List.mem_of_mem_take he))) ?_
        rw [List.length_take]
        omega
      rw [← hX] at d1 HI
      have HX : Hid (dval (ds.take (j + 1)) = X * 10 + d') := by show _ = _; rw [d1]; omega
      have l10 : (wd 4294967296 10).length ≤ 1 := wd_length_le (B := 4294967296) (by omega) _ 1 (by omega)
      have lX2 : (wd 4294967296 (X * 10)).length ≤ 1001 := Nat.le_trans (lenU_mul X 10) (by omega)
      have ld : (wd 4294967296 d').length ≤ 1 := wd_length_le (B := 4294967296) (by omega) _ 1 (by omega)
      have WT := hide (fun W => words_any 10 W (by omega))
      have WD := hide (fun W => words_any d' W (by omega))
      have MU := hide (fun W va vb (ha : Sl .u32 W va (wd 4294967296 X)) (hb : Sl .u32 W vb (wd 4294967296 10)) => mul_any va vb X 10 W ha hb (by omega) (by omega))
      have AD := hide (fun W va vb (ha : Sl .u32 W va (wd 4294967296 (X * 10))) (hb : Sl .u32 W vb (wd 4294967296 d')) => addU_any va vb (X * 10) d' W ha hb (by omega) (by omega))
      have e1 : IntKind.u8.wrap (((48 + d' : Nat) : Int) - 48) = (d' : Int) := by rw [IntKind.wrap_u8]; omega
      have e2 : IntKind.i64.wrap (d' : Int) = (d' : Int) := by rw [IntKind.wrap_i64]; omega
      have e3 : IntKind.u64.wrap (d' : Int) = (d' : Int) := by rw [IntKind.wrap_u64]; omega
      have c1 : decide (48 ≤ ((48 + d' : Nat) : Int)) = true := decide_eq_true (by omega)
      have c2 : decide (((48 + d' : Nat) : Int) ≤ 57) = true := decide_eq_true (by omega)
      have c3 : decide (10 ≤ (d' : Int)) = false := decide_eq_false (by omega)
      have l1 : (j : Int) < (t.size : Int) := by omega
      have l2 : decide ((j : Int) < (t.size : Int)) = true := decide_eq_true l1
      have i0 : (0 : Int) ≤ (j : Int) := by omega
      clear d1 d2 d3 d4 hX lX l10 lX2 ld n45 n43
      go_wp2_with fail
      refine (unhide WT _).mono ?_
      rintro e w1 ⟨v1, rfl, hv1, hb1, -⟩
      replace HI := hide (And.intro ((unhide HI).1.but hb1 (by simp)) (And.intro ((unhide HI).2.trans' hb1) hv1))
      clear hv1 hb1 WT
      go_wp2_with fail
      refine (unhide MU _ _ v1 (unhide HI).1 (unhide HI).2.2).mono ?_
      rintro e w2 ⟨v2, rfl, hv2, hb2⟩
      replace HI := hide (And.intro ((unhide HI).2.1.trans' hb2) hv2)
      clear hv2 hb2 MU
      go_wp2_with fail
      rw [show (48 + (d' : Int) - 48) = (d' : Int) from by omega]
      refine (unhide WD _).mono ?_
      rintro e w3 ⟨v3, rfl, hv3, hb3, -⟩
      replace HI := hide (And.intro ((unhide HI).1.trans' hb3) (And.intro ((unhide HI).2.but hb3 (by simp)) hv3))
      clear hv3 hb3 WD
      go_wp2_with fail
      refine (unhide AD _ v2 v3 (unhide HI).2.1 (unhide HI).2.2).mono ?_
      rintro e w4 ⟨v4, rfl, hv4, hb4, -⟩
      replace HI := hide (And.intro ((unhide HI).1.trans' hb4) hv4)
      clear hv4 hb4 AD
      go_wp2
      go_roundg (gk - 1)
      case measure => omega
      case rel => exact ⟨j + 1, by omega, by go_num, by rw [unhide HX]; exact (unhide HI).2, (unhide HI).1⟩
    · have hje : j = m := by omega
      subst hje
      have HV : Hid (Sl .u32 wr u9 (wd 4294967296 (dval ds)) ∧ But [] w wr) := by
        have h1 := unhide HI
        rw [unhide HM, List.take_length] at h1
        exact h1
      have hlen : (wd 4294967296 (dval ds)).length < 2147483648 := by
        have := dval_len32 (unhide HD)
        have := unhide HM
        omega
      have hsl := (unhide HS).but (unhide HV).2 (by simp)
      obtain ⟨⟨s0, hc0⟩, ⟨a0, n0, c0, hc1⟩, f0, f1⟩ := hsl
      obtain ⟨V, hV⟩ : ∃ V, V = putI wr b 0 u9 false := ⟨_, rfl⟩
      have GV : Hid (Calls Tryz.prog 137 #[.pointer (some ⟨b, 0, none⟩), .bool false, u9] wr fun e w' => e = .returned (.pointer (some ⟨b, 0, none⟩)) ∧ w' = V) := by
        rw [hV]
        exact give_any b 0 false u9 _ (.bool s0) (.slice a0 n0 c0) wr (unhide HV).1 hlen hc0 hc1 f0 f1
      have FIN : Hid (But [b] w V ∧ IntAt V b 0 ((dval ds : Nat) : Int)) := by
        rw [hV]
        have h1 := put_int ((unhide HS).but (unhide HV).2 (by simp)) u9 ((dval ds : Nat) : Int) (by rw [Int.natAbs_natCast]; exact (unhide HV).1)
        rw [decide_eq_false (by omega)] at h1
        exact ⟨((unhide HV).2.mono (by simp)).trans (put_but _ _ _ _ _) (by simp), h1⟩
      have l2 : decide ((j : Int) < (t.size : Int)) = false := decide_eq_false (by omega)
      have l3 : ¬ ((j : Int) < (t.size : Int)) := by omega
      clear HI HV hlen hc0 hc1 f0 f1 hV n45 n43
      go_wp2_with fail
      refine (unhide GV).mono ?_
      rintro e w2 ⟨rfl, hw⟩
      obtain rfl := hw.symm
      clear hw GV
      go_wp2
      exact bodyPost_ret (v := .tuple #[.pointer (some ⟨b, 0, none⟩), .bool true]) (by simp [results, Tryz.results104, go_sem]) rfl ⟨rfl, unhide FIN⟩
end Go.Proofs.YtihiafgogbhjkaaGreatDoor
