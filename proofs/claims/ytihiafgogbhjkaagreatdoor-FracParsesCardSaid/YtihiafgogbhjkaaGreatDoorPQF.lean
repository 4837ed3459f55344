/- The numbers above and below the line of a text with a percent sign. -/
import Derived.Test.YtihiafgogbhjkaaGreatDoorPQ5
namespace Go.Proofs.YtihiafgogbhjkaaGreatDoor
open Go.RowKit

set_option maxHeartbeats 4000000 in
set_option maxRecDepth 100000 in
theorem numbersP_0 (s : Bool) (tw : ByteArray) (ds : List UInt8) (w : World) (ht : tw.data.toList = ds) (hd : Digits ds) (hl : ds.length < 1000) :
    Calls Tryz.prog 101 #[.agg #[.bool s, .string tw, .int .u8 0, .string ⟨#[]⟩, .bool true]] w fun e w' => ∃ v1 v2, e = .returned (.tuple #[v1, v2]) ∧ Sl .u64 w' v1 (wd 18446744073709551616 (dval ds)) ∧ Sl .u64 w' v2 (wd 18446744073709551616 ((1) * 100)) ∧ But [] w w' := by
  have HLY : Hid ((wd 18446744073709551616 (1)).length ≤ 1000) := Nat.le_trans (wd_length_le (B := 18446744073709551616) (by omega) 1 1 (by omega)) (by omega)
  have HL1 : Hid ((wd 18446744073709551616 100).length ≤ 1) := wd_length_le (B := 18446744073709551616) (by omega) _ 1 (by omega)
  have RD := hide (fun W => natRead_any tw ds W ht hd (by omega))
  clear ht hd hl
  obtain ⟨W, hW⟩ : ∃ W, W = w.alloc (.cells #[.bool s, .string tw, .int .u8 0, .string ⟨#[]⟩, .bool true] 116) := ⟨_, rfl⟩
  have c1 : W.cell? ⟨w.heap.size, 1, none⟩ = some (.string tw) := by rw [hW]; simp
  have c2 : W.cell? ⟨w.heap.size, 2, none⟩ = some (.int .u8 0) := by rw [hW]; simp
  have c3 : W.cell? ⟨w.heap.size, 3, none⟩ = some (.string ⟨#[]⟩) := by rw [hW]; simp
  have c4 : W.cell? ⟨w.heap.size, 4, none⟩ = some (.bool true) := by rw [hW]; simp
  have HB : Hid (But [] w W) := by show But _ _ _; rw [hW]; exact (But.refl _ _).alloc _
  have HW := hide hW
  clear hW
  go_enter Tryz.func101, Tryz.ntmps101
  go_wp2_with fail
  rw [← unhide HW]
  clear HW
  generalize w.heap.size = g at *
  refine (unhide RD _).mono ?_
  rintro e w1 ⟨v1, rfl, hv1, hb1⟩
  replace c1 := hb1.cell_some c1 (by simp)
  replace c2 := hb1.cell_some c2 (by simp)
  replace c3 := hb1.cell_some c3 (by simp)
  replace c4 := hb1.cell_some c4 (by simp)
  replace HB : Hid (But [] w w1) := (unhide HB).trans' hb1
  have H1 := hide hv1
  clear hv1 hb1
  go_wp2_with fail
  refine (natOf_any 1 (by omega) _).mono ?_
  rintro e w2 ⟨v2, rfl, hv2, hb2, -⟩
  replace c1 := hb2.cell_some c1 (by simp)
  replace c2 := hb2.cell_some c2 (by simp)
  replace c3 := hb2.cell_some c3 (by simp)
  replace c4 := hb2.cell_some c4 (by simp)
  replace HB : Hid (But [] w w2) := (unhide HB).trans' hb2
  replace H1 := hide ((unhide H1).but_nil hb2)
  have H2 := hide hv2
  clear hv2 hb2
  go_wp2_with fail
  refine (natOf_any 100 (by omega) _).mono ?_
  rintro e w8 ⟨v8, rfl, hv8, hb8, -⟩
  replace HB := hide ((unhide HB).trans' hb8)
  replace H1 := hide ((unhide H1).but_nil hb8)
  have MU := hide (natMul_any v2 v8 (1) 100 w8 ((unhide H2).but_nil hb8) hv8 (by have := unhide HLY; have := unhide HL1; omega))
  clear hv8 hb8
  go_wp2_with fail
  refine (unhide MU).mono ?_
  rintro e w9 ⟨v9, rfl, hv9, hb9, -⟩
  have FIN := hide (And.intro ((unhide H1).but_nil hb9) (And.intro hv9 ((unhide HB).trans' hb9)))
  clear hv9 hb9 MU
  go_wp2
  go_ret2
  exact ⟨v1, v9, rfl, (unhide FIN).1, (unhide FIN).2.1, (unhide FIN).2.2⟩

set_option maxHeartbeats 4000000 in
set_option maxRecDepth 100000 in
theorem numbersP_47 (s : Bool) (tw tb : ByteArray) (ds : List UInt8) (w : World) (ht : tw.data.toList = ds) (hd : Digits ds) (hl : ds.length < 1000) (es : List UInt8) (he : tb.data.toList = es) (hde : Digits es) (hel : es.length < 1000) :
    Calls Tryz.prog 101 #[.agg #[.bool s, .string tw, .int .u8 47, .string tb, .bool true]] w fun e w' => ∃ v1 v2, e = .returned (.tuple #[v1, v2]) ∧ Sl .u64 w' v1 (wd 18446744073709551616 (dval ds)) ∧ Sl .u64 w' v2 (wd 18446744073709551616 ((dval es) * 100)) ∧ But [] w w' := by
  have HLY : Hid ((wd 18446744073709551616 (dval es)).length ≤ 1000) := Nat.le_trans (wd_length_le (B := 18446744073709551616) (by omega) _ es.length (Nat.lt_of_lt_of_le (dval_lt hde) (Nat.pow_le_pow_left (by omega) _))) (by omega)
  have HL1 : Hid ((wd 18446744073709551616 100).length ≤ 1) := wd_length_le (B := 18446744073709551616) (by omega) _ 1 (by omega)
  have RD := hide (fun W => natRead_any tw ds W ht hd (by omega))
  have RE := hide (fun W => natRead_any tb es W he hde (by omega))
  clear ht hd hl he hde hel
  obtain ⟨W, hW⟩ : ∃ W, W = w.alloc (.cells #[.bool s, .string tw, .int .u8 47, .string tb, .bool true] 116) := ⟨_, rfl⟩
  have c1 : W.cell? ⟨w.heap.size, 1, none⟩ = some (.string tw) := by rw [hW]; simp
  have c2 : W.cell? ⟨w.heap.size, 2, none⟩ = some (.int .u8 47) := by rw [hW]; simp
  have c3 : W.cell? ⟨w.heap.size, 3, none⟩ = some (.string tb) := by rw [hW]; simp
  have c4 : W.cell? ⟨w.heap.size, 4, none⟩ = some (.bool true) := by rw [hW]; simp
  have HB : Hid (But [] w W) := by show But _ _ _; rw [hW]; exact (But.refl _ _).alloc _
  have HW := hide hW
  clear hW
  go_enter Tryz.func101, Tryz.ntmps101
  go_wp2_with fail
  rw [← unhide HW]
  clear HW
  generalize w.heap.size = g at *
  refine (unhide RD _).mono ?_
  rintro e w1 ⟨v1, rfl, hv1, hb1⟩
  replace c1 := hb1.cell_some c1 (by simp)
  replace c2 := hb1.cell_some c2 (by simp)
  replace c3 := hb1.cell_some c3 (by simp)
  replace c4 := hb1.cell_some c4 (by simp)
  replace HB : Hid (But [] w w1) := (unhide HB).trans' hb1
  have H1 := hide hv1
  clear hv1 hb1
  go_wp2_with fail
  refine (natOf_any 1 (by omega) _).mono ?_
  rintro e w2 ⟨v2, rfl, hv2, hb2, -⟩
  replace c1 := hb2.cell_some c1 (by simp)
  replace c2 := hb2.cell_some c2 (by simp)
  replace c3 := hb2.cell_some c3 (by simp)
  replace c4 := hb2.cell_some c4 (by simp)
  replace HB : Hid (But [] w w2) := (unhide HB).trans' hb2
  replace H1 := hide ((unhide H1).but_nil hb2)
  have H2 := hide hv2
  clear hv2 hb2
  go_wp2_with fail
  refine (unhide RE _).mono ?_
  rintro e w3 ⟨v3, rfl, hv3, hb3⟩
  replace c1 := hb3.cell_some c1 (by simp)
  replace c2 := hb3.cell_some c2 (by simp)
  replace c3 := hb3.cell_some c3 (by simp)
  replace c4 := hb3.cell_some c4 (by simp)
  replace HB : Hid (But [] w w3) := (unhide HB).trans' hb3
  replace H1 := hide ((unhide H1).but_nil hb3)
  replace H2 := hide ((unhide H2).but_nil hb3)
  have H3 := hide hv3
  clear hv3 hb3
  go_wp2_with fail
  refine (natOf_any 100 (by omega) _).mono ?_
  rintro e w8 ⟨v8, rfl, hv8, hb8, -⟩
  replace HB := hide ((unhide HB).trans' hb8)
  replace H1 := hide ((unhide H1).but_nil hb8)
  have MU := hide (natMul_any v3 v8 (dval es) 100 w8 ((unhide H3).but_nil hb8) hv8 (by have := unhide HLY; have := unhide HL1; omega))
  clear hv8 hb8
  go_wp2_with fail
  refine (unhide MU).mono ?_
  rintro e w9 ⟨v9, rfl, hv9, hb9, -⟩
  have FIN := hide (And.intro ((unhide H1).but_nil hb9) (And.intro hv9 ((unhide HB).trans' hb9)))
  clear hv9 hb9 MU
  go_wp2
  go_ret2
  exact ⟨v1, v9, rfl, (unhide FIN).1, (unhide FIN).2.1, (unhide FIN).2.2⟩

set_option maxHeartbeats 4000000 in
set_option maxRecDepth 100000 in
theorem numbersP_46 (s : Bool) (tw tb : ByteArray) (ds : List UInt8) (w : World) (ht : tw.data.toList = ds) (hd : Digits ds) (hl : ds.length < 1000) (es : List UInt8) (he : tb.data.toList = es) (hde : Digits es) (hel : es.length < 1000) :
    Calls Tryz.prog 101 #[.agg #[.bool s, .string tw, .int .u8 46, .string tb, .bool true]] w fun e w' => ∃ v1 v2, e = .returned (.tuple #[v1, v2]) ∧ Sl .u64 w' v1 (wd 18446744073709551616 (dval (ds ++ es))) ∧ Sl .u64 w' v2 (wd 18446744073709551616 ((10 ^ es.length) * 100)) ∧ But [] w w' := by
  have HLY : Hid ((wd 18446744073709551616 (10 ^ es.length)).length ≤ 1000) := Nat.le_trans (wd_length_le (B := 18446744073709551616) (by omega) _ (es.length + 1) (Nat.lt_of_le_of_lt (Nat.pow_le_pow_left (by omega) _) (Nat.pow_lt_pow_right (by omega) (Nat.lt_succ_self _)))) (by omega)
  have HL1 : Hid ((wd 18446744073709551616 100).length ≤ 1) := wd_length_le (B := 18446744073709551616) (by omega) _ 1 (by omega)
  have RD := hide (fun W => natRead_any tw ds W ht hd (by omega))
  have RE := hide (fun W => natRead_any (tw ++ tb) (ds ++ es) W (by rw [ba_list, ht, he]) (fun d h => by rcases List.mem_append.1 h with h | h; exact hd d h; exact hde d h) (by rw [List.length_append]; omega))
  have hten : (wd 18446744073709551616 10).length ≤ 1 := wd_length_le (by omega) _ _ (by omega)
  have htl : (wd 18446744073709551616 (10 ^ es.length)).length ≤ es.length + 1 := wd_length_le (by omega) _ _ (Nat.lt_of_lt_of_le (Nat.pow_lt_pow_right (by omega) (Nat.lt_succ_self _)) (Nat.pow_le_pow_left (by omega) _))
  have PW := hide (fun (W : World) (v : Value) (h : Sl .u64 W v (wd 18446744073709551616 10)) => natPow_any v 10 es.length W h (by omega) (by omega) (by omega))
  have hsz : tb.size = es.length := by rw [← he]; simp
  have hs2 : tw.size = ds.length := by rw [← ht]; simp
  have hcat : ((tw.size : Nat) : Int) + ((tb.size : Nat) : Int) ≤ 2000 := by omega
  rw [← hsz] at PW hel
  rw [hsz] at hel
  have HSZ := hide hsz
  clear hten htl hsz hs2
  clear ht hd hl he hde hel
  obtain ⟨W, hW⟩ : ∃ W, W = w.alloc (.cells #[.bool s, .string tw, .int .u8 46, .string tb, .bool true] 116) := ⟨_, rfl⟩
  have c1 : W.cell? ⟨w.heap.size, 1, none⟩ = some (.string tw) := by rw [hW]; simp
  have c2 : W.cell? ⟨w.heap.size, 2, none⟩ = some (.int .u8 46) := by rw [hW]; simp
  have c3 : W.cell? ⟨w.heap.size, 3, none⟩ = some (.string tb) := by rw [hW]; simp
  have c4 : W.cell? ⟨w.heap.size, 4, none⟩ = some (.bool true) := by rw [hW]; simp
  have HB : Hid (But [] w W) := by show But _ _ _; rw [hW]; exact (But.refl _ _).alloc _
  have HW := hide hW
  clear hW
  go_enter Tryz.func101, Tryz.ntmps101
  go_wp2_with fail
  rw [← unhide HW]
  clear HW
  generalize w.heap.size = g at *
  refine (unhide RD _).mono ?_
  rintro e w1 ⟨v1, rfl, hv1, hb1⟩
  replace c1 := hb1.cell_some c1 (by simp)
  replace c2 := hb1.cell_some c2 (by simp)
  replace c3 := hb1.cell_some c3 (by simp)
  replace c4 := hb1.cell_some c4 (by simp)
  replace HB : Hid (But [] w w1) := (unhide HB).trans' hb1
  have H1 := hide hv1
  clear hv1 hb1
  go_wp2_with fail
  refine (natOf_any 1 (by omega) _).mono ?_
  rintro e w2 ⟨v2, rfl, hv2, hb2, -⟩
  replace c1 := hb2.cell_some c1 (by simp)
  replace c2 := hb2.cell_some c2 (by simp)
  replace c3 := hb2.cell_some c3 (by simp)
  replace c4 := hb2.cell_some c4 (by simp)
  replace HB : Hid (But [] w w2) := (unhide HB).trans' hb2
  replace H1 := hide ((unhide H1).but_nil hb2)
  have H2 := hide hv2
  clear hv2 hb2
  go_wp2_with fail
  refine (unhide RE _).mono ?_
  rintro e w3 ⟨v3, rfl, hv3, hb3⟩
  replace c1 := hb3.cell_some c1 (by simp)
  replace c2 := hb3.cell_some c2 (by simp)
  replace c3 := hb3.cell_some c3 (by simp)
  replace c4 := hb3.cell_some c4 (by simp)
  replace HB : Hid (But [] w w3) := (unhide HB).trans' hb3
  replace H1 := hide ((unhide H1).but_nil hb3)
  replace H2 := hide ((unhide H2).but_nil hb3)
  have H3 := hide hv3
  clear hv3 hb3
  go_wp2_with fail
  go_region_held (fun w' => w'.cell? ⟨g, 2, none⟩ = some (.int .u8 46) ∧ w'.cell? ⟨g, 3, none⟩ = some (.string tb) ∧ w'.cell? ⟨g, 4, none⟩ = some (.bool true)) (go_keep) (first
    | (go_at_call 72; have hchk := Br1; clear hchk; refine (unhide PW _ v4 (by first | exact unhide H4 | exact (unhide H4).but_nil (But.refl _ _).drew)).mono ?_; rintro e wr2 ⟨v5, rfl, hv5, hcr2⟩; have Br2 : But [] w3 wr2 := (by first | exact Br1.trans' hcr2 | exact (Br1.drew).trans' hcr2); have H5 := hide hv5; clear hv5; clear hcr2; have c2_r2 := Br2.cell_some c2 (by simp); have c3_r2 := Br2.cell_some c3 (by simp); have c4_r2 := Br2.cell_some c4 (by simp); clear c2_r1 c3_r1 c4_r1)
    | (go_at_call 83; refine (natOf_any 10 (by omega) _).mono ?_; rintro e wr1 ⟨v4, rfl, hv4, hcr1, -⟩; have Br1 : But [] w3 wr1 := (by first | exact hcr1 | exact (But.refl _ _).drew.trans' hcr1); have H4 := hide hv4; clear hv4; clear hcr1; have c2_r1 := Br1.cell_some c2 (by simp); have c3_r1 := Br1.cell_some c3 (by simp); have c4_r1 := Br1.cell_some c4 (by simp)))
  have HBr : Hid (But [] w wr2) := (unhide HB).trans' Br2
  have H3r := hide ((unhide H3).but_nil Br2)
  rw [unhide HSZ] at H5
  clear Br1 Br2
  go_wp2_with fail
  refine (natOf_any 100 (by omega) _).mono ?_
  rintro e w8 ⟨v8, rfl, hv8, hb8, -⟩
  replace HBr := hide ((unhide HBr).trans' hb8)
  replace H3r := hide ((unhide H3r).but_nil hb8)
  have MU := hide (natMul_any v5 v8 (10 ^ es.length) 100 w8 ((unhide H5).but_nil hb8) hv8 (by have := unhide HLY; have := unhide HL1; omega))
  clear hv8 hb8
  go_wp2_with fail
  refine (unhide MU).mono ?_
  rintro e w9 ⟨v9, rfl, hv9, hb9, -⟩
  have FIN := hide (And.intro ((unhide H3r).but_nil hb9) (And.intro hv9 ((unhide HBr).trans' hb9)))
  clear hv9 hb9 MU
  go_wp2
  go_ret2
  exact ⟨v3, v9, rfl, (unhide FIN).1, (unhide FIN).2.1, (unhide FIN).2.2⟩

end Go.Proofs.YtihiafgogbhjkaaGreatDoor
