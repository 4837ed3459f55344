/- A fraction's text is read, as the Go text of package frac does it: the frame. -/
import Derived.Test.YtihiafgogbhjkaaGreatDoorPD2
import Derived.Test.YtihiafgogbhjkaaGreatDoorPQF
import Derived.Test.YtihiafgogbhjkaaGreatDoorPQJ
namespace Go.Proofs.YtihiafgogbhjkaaGreatDoor
open Go.RowKit

theorem dval_words {ds : List UInt8} (hd : Digits ds) (hl : ds.length ≤ 1000000) : (wd 18446744073709551616 (dval ds)).length ≤ 1000000 :=
  Nat.le_trans (wd_length_le (B := 18446744073709551616) (by omega) _ ds.length (Nat.lt_of_lt_of_le (dval_lt hd) (Nat.pow_le_pow_left (by omega) _))) hl
theorem size_list {t : ByteArray} {ds : List UInt8} (h : t.data.toList = ds) : t.size = ds.length := by rw [← h]; simp
end Go.Proofs.YtihiafgogbhjkaaGreatDoor

namespace Go.Proofs.YtihiafgogbhjkaaGreatDoor
open Go.RowKit

def CutIs : Form → Value → Prop
  | .bad p, v => v = cutBad p
  | .good s ds k es pc, v => ∃ tw tb : ByteArray, v = cutGood s tw k tb pc ∧ tw.data.toList = ds ∧ tb.data.toList = es
theorem cutEnd_is (s : Bool) (tw tb : ByteArray) (k q : Nat) (r ds es : List UInt8) (h1 : tw.data.toList = ds) (h2 : tb.data.toList = es) : CutIs (endForm s ds k es q r) (cutEnd s tw k tb q r) := by
  match r with
  | [] => exact ⟨tw, tb, rfl, h1, h2⟩
  | [c] =>
    dsimp only [endForm, cutEnd]
    by_cases h : c.toNat = 37
    · rw [if_pos h, if_pos h]; exact ⟨tw, tb, rfl, h1, h2⟩
    · rw [if_neg h, if_neg h]; rfl
  | c :: c2 :: r =>
    dsimp only [endForm, cutEnd]
    by_cases h : c.toNat = 37
    · rw [if_pos h, if_pos h]; rfl
    · rw [if_neg h, if_neg h]; rfl

theorem cutp_any (t : ByteArray) (l : List UInt8) (w : World) (ht : t.data.toList = [] ++ l) (h45 : ∀ d, l.head? = some d → d ≠ 45) (hN : t.data.toList.length < 2305843009213693952) :
    Calls Tryz.prog 98 #[.string t] w fun e w' => ∃ v, e = .returned v ∧ CutIs (signForm false 0 l) v ∧ But [] w w' := by
  have htA : t.data.toList = [] ++ dgs l ++ und l := by rw [ht, List.append_assoc, dgs_und]
  have hex : (t.extract 0 (0 + (dgs l).length)).data.toList = dgs l := extract_mid t [] (dgs l) (und l) htA
  by_cases h0 : (dgs l).length = 0
  · have e0 : signForm false 0 l = .bad 0 := if_pos h0
    rw [e0]
    exact (cutp_none t l w ht h45 hN 0 (by show _ = _; rw [h0]) h0).mono (fun e w' h => ⟨_, h.1, rfl, h.2⟩)
  · have e0 : signForm false 0 l = midForm false (dgs l) (0 + (dgs l).length) (und l) := if_neg h0
    rw [e0]
    by_cases hk : ∃ c r, und l = c :: r ∧ (c.toNat = 47 ∨ c.toNat = 46)
    · obtain ⟨c, r, hu, hc⟩ := hk
      have e1 : midForm false (dgs l) (0 + (dgs l).length) (und l) = if (dgs r).length = 0 then .bad (0 + (dgs l).length + 1) else endForm false (dgs l) c.toNat (dgs r) (0 + (dgs l).length + 1 + (dgs r).length) (und r) := by rw [hu]; exact if_pos hc
      rw [e1]
      have htB : t.data.toList = ([] ++ dgs l ++ [c]) ++ dgs r ++ und r := by rw [htA, hu, List.append_assoc, List.append_assoc, List.append_assoc, List.append_assoc, dgs_und]; rfl
      have hlB : ([] ++ dgs l ++ [c] : List UInt8).length = 0 + (dgs l).length + 1 := by rw [List.length_append, List.length_append]; simp <;> omega
      have hex2 := extract_mid t ([] ++ dgs l ++ [c]) (dgs r) (und r) htB
      rw [hlB] at hex2
      by_cases he : (dgs r).length = 0
      · rw [if_pos he]
        rcases hc with hc | hc
        · exact (cutp_bare47 t l w ht h45 hN _ rfl (by omega) c r hu hc he).mono (fun e w' h => ⟨_, h.1, rfl, h.2⟩)
        · exact (cutp_bare46 t l w ht h45 hN _ rfl (by omega) c r hu hc he).mono (fun e w' h => ⟨_, h.1, rfl, h.2⟩)
      · rw [if_neg he]
        rcases hc with hc | hc
        · rw [hc]
          exact (cutp_full47 t l w ht h45 hN _ rfl (by omega) c r hu hc (by omega) _ rfl).mono (fun e w' h => ⟨_, h.1, cutEnd_is _ _ _ 47 _ _ _ _ hex hex2, h.2⟩)
        · rw [hc]
          exact (cutp_full46 t l w ht h45 hN _ rfl (by omega) c r hu hc (by omega) _ rfl).mono (fun e w' h => ⟨_, h.1, cutEnd_is _ _ _ 46 _ _ _ _ hex hex2, h.2⟩)
    · have e1 : midForm false (dgs l) (0 + (dgs l).length) (und l) = endForm false (dgs l) 0 [] (0 + (dgs l).length) (und l) := by
        cases hu : und l with
        | nil => rfl
        | cons c r => exact if_neg (fun h => hk ⟨c, r, hu, h⟩)
      rw [e1]
      exact (cutp_plain t l w ht h45 hN _ rfl (by omega) (fun c hc => by
        cases hu : und l with
        | nil => rw [hu] at hc; cases hc
        | cons d r =>
          rw [hu] at hc
          obtain rfl : d = c := Option.some.inj hc
          exact ⟨fun h => hk ⟨d, r, hu, .inl h⟩, fun h => hk ⟨d, r, hu, .inr h⟩⟩)).mono (fun e w' h => ⟨_, h.1, cutEnd_is _ _ ⟨#[]⟩ 0 _ _ _ _ hex rfl, h.2⟩)

theorem cutn_any (t : ByteArray) (l : List UInt8) (w : World) (ht : t.data.toList = [45] ++ l) (hN : t.data.toList.length < 2305843009213693952) :
    Calls Tryz.prog 98 #[.string t] w fun e w' => ∃ v, e = .returned v ∧ CutIs (signForm true 1 l) v ∧ But [] w w' := by
  have htA : t.data.toList = [45] ++ dgs l ++ und l := by rw [ht, List.append_assoc, dgs_und]
  have hex : (t.extract 1 (1 + (dgs l).length)).data.toList = dgs l := extract_mid t [45] (dgs l) (und l) htA
  by_cases h0 : (dgs l).length = 0
  · have e0 : signForm true 1 l = .bad 1 := if_pos h0
    rw [e0]
    exact (cutn_none t l w ht hN 1 (by show _ = _; rw [h0]) h0).mono (fun e w' h => ⟨_, h.1, rfl, h.2⟩)
  · have e0 : signForm true 1 l = midForm true (dgs l) (1 + (dgs l).length) (und l) := if_neg h0
    rw [e0]
    by_cases hk : ∃ c r, und l = c :: r ∧ (c.toNat = 47 ∨ c.toNat = 46)
    · obtain ⟨c, r, hu, hc⟩ := hk
      have e1 : midForm true (dgs l) (1 + (dgs l).length) (und l) = if (dgs r).length = 0 then .bad (1 + (dgs l).length + 1) else endForm true (dgs l) c.toNat (dgs r) (1 + (dgs l).length + 1 + (dgs r).length) (und r) := by rw [hu]; exact if_pos hc
      rw [e1]
      have htB : t.data.toList = ([45] ++ dgs l ++ [c]) ++ dgs r ++ und r := by rw [htA, hu, List.append_assoc, List.append_assoc, List.append_assoc, List.append_assoc, dgs_und]; rfl
      have hlB : ([45] ++ dgs l ++ [c] : List UInt8).length = 1 + (dgs l).length + 1 := by rw [List.length_append, List.length_append]; simp <;> omega
      have hex2 := extract_mid t ([45] ++ dgs l ++ [c]) (dgs r) (und r) htB
      rw [hlB] at hex2
      by_cases he : (dgs r).length = 0
      · rw [if_pos he]
        rcases hc with hc | hc
        · exact (cutn_bare47 t l w ht hN _ rfl (by omega) c r hu hc he).mono (fun e w' h => ⟨_, h.1, rfl, h.2⟩)
        · exact (cutn_bare46 t l w ht hN _ rfl (by omega) c r hu hc he).mono (fun e w' h => ⟨_, h.1, rfl, h.2⟩)
      · rw [if_neg he]
        rcases hc with hc | hc
        · rw [hc]
          exact (cutn_full47 t l w ht hN _ rfl (by omega) c r hu hc (by omega) _ rfl).mono (fun e w' h => ⟨_, h.1, cutEnd_is _ _ _ 47 _ _ _ _ hex hex2, h.2⟩)
        · rw [hc]
          exact (cutn_full46 t l w ht hN _ rfl (by omega) c r hu hc (by omega) _ rfl).mono (fun e w' h => ⟨_, h.1, cutEnd_is _ _ _ 46 _ _ _ _ hex hex2, h.2⟩)
    · have e1 : midForm true (dgs l) (1 + (dgs l).length) (und l) = endForm true (dgs l) 0 [] (1 + (dgs l).length) (und l) := by
        cases hu : und l with
        | nil => rfl
        | cons c r => exact if_neg (fun h => hk ⟨c, r, hu, h⟩)
      rw [e1]
      exact (cutn_plain t l w ht hN _ rfl (by omega) (fun c hc => by
        cases hu : und l with
        | nil => rw [hu] at hc; cases hc
        | cons d r =>
          rw [hu] at hc
          obtain rfl : d = c := Option.some.inj hc
          exact ⟨fun h => hk ⟨d, r, hu, .inl h⟩, fun h => hk ⟨d, r, hu, .inr h⟩⟩)).mono (fun e w' h => ⟨_, h.1, cutEnd_is _ _ ⟨#[]⟩ 0 _ _ _ _ hex rfl, h.2⟩)

theorem cut_any (t : ByteArray) (w : World) (hN : t.data.toList.length < 2305843009213693952) :
    Calls Tryz.prog 98 #[.string t] w fun e w' => ∃ v, e = .returned v ∧ CutIs (formOf t.data.toList) v ∧ But [] w w' := by
  cases hb : t.data.toList with
  | nil => exact cutp_any t [] w hb (fun d h => by cases h) hN
  | cons c l =>
    by_cases hc : c.toNat = 45
    · have e0 : formOf (c :: l) = signForm true 1 l := if_pos hc
      have e1 : c = 45 := UInt8.toNat_inj.1 hc
      rw [e0]
      exact cutn_any t l w (by rw [hb, e1]; rfl) hN
    · have e0 : formOf (c :: l) = signForm false 0 (c :: l) := if_neg hc
      rw [e0]
      exact cutp_any t (c :: l) w hb (fun d h => by
        obtain rfl : c = d := Option.some.inj h
        intro e
        exact hc (by rw [e]; rfl)) hN
end Go.Proofs.YtihiafgogbhjkaaGreatDoor

namespace Go.Proofs.YtihiafgogbhjkaaGreatDoor
open Go.RowKit Go.Extern.Stop Go.Stop Go.Extern

theorem noUnwrapE (v : Value) (xT : TypeId) (w : World) : (Instr.typeAssert (.iface 35 v) xT 194 true).run Tryz.prog w = .ok (.tuple #[.nilIface, .bool false]) w := run_typeAssert_lacksB Tryz.underlying194 (by kernel_rfl) (by kernel_rfl) v xT w

theorem isAtA (v : Value) (xT : TypeId) (w : World) : (Instr.typeAssert (.iface 119 v) xT 119 true).run Tryz.prog w = .ok (.tuple #[v, .bool true]) w := by kernel_rfl
theorem isAtE (v : Value) (xT : TypeId) (w : World) : (Instr.typeAssert (.iface 35 v) xT 119 true).run Tryz.prog w = .ok (.tuple #[.pointer none, .bool false]) w := by kernel_rfl

set_option maxHeartbeats 8000000 in
set_option maxRecDepth 100000 in
theorem place_at (n p : Int) (a : Nat) (w : World) (ha0 : w.cell? ⟨a, 0, none⟩ = some (.int .i64 n)) (ha1 : w.cell? ⟨a, 1, none⟩ = some (.int .i64 p)) (hg : w.cell? ⟨1, 0, none⟩ = some (.iface 212 (.agg #[.pointer (some ⟨8, 32, none⟩)]))) :
    Calls Tryz.prog 107 #[.iface 119 (.pointer (some ⟨a, 0, none⟩))] w fun e w' => e = .returned (.tuple #[.int .i64 n, .int .i64 p]) ∧ But [] w w' := by
  have TE := hide (tell_at n p a w ha0 ha1 hg)
  have H1 := hide ha1
  have iA := isAtA
  clear ha0 ha1 hg
  go_enter Tryz.func107, Tryz.ntmps107
  go_wp2_with fail
  refine (unhide TE).mono ?_
  rintro e w1 ⟨rfl, hb⟩
  have c1 := hb.cell_some (unhide H1) (by simp)
  have HB := hide hb
  clear hb TE H1
  go_wp2
  refine wp_loop_rounds 1 ?_
  rw [rounds_succ]
  go_wp2
  go_region_with (fail)
  all_goals go_wp2
  all_goals exact bodyPost_ret (v := .tuple #[.int .i64 n, .int .i64 p]) (by simp [results, Tryz.results107, go_sem]) rfl ⟨rfl, by first | exact unhide HB | exact (unhide HB).drew | exact (unhide HB).drewN _⟩

set_option maxHeartbeats 8000000 in
set_option maxRecDepth 100000 in
theorem place_errno (n : Int) (w : World) (hg : w.cell? ⟨1, 0, none⟩ = some (.iface 212 (.agg #[.pointer (some ⟨8, 32, none⟩)]))) :
    Calls Tryz.prog 107 #[.iface 35 (.int .i64 n)] w fun e w' => e = .returned (.tuple #[.int .i64 n, .int .i64 (-1)]) ∧ But [] w w' := by
  have TE := hide (tell_errno n w hg)
  have nU := noUnwrapE
  have iE := isAtE
  clear hg
  go_enter Tryz.func107, Tryz.ntmps107
  go_wp2_with fail
  refine (unhide TE).mono ?_
  rintro e w1 ⟨rfl, hb⟩
  have HB := hide hb
  clear hb TE
  go_wp2
  refine wp_loop_rounds 1 ?_
  rw [rounds_succ]
  go_wp2
  exact bodyPost_ret (v := .tuple #[.int .i64 n, .int .i64 (-1)]) (by simp [results, Tryz.results107, go_sem]) rfl ⟨rfl, unhide HB⟩

/-- an error, as Place tells it: a number, and a place or -1 -/
def ErrAt (w : World) (ev : Value) (n p : Int) : Prop := (ev = .iface 35 (.int .i64 n) ∧ p = -1) ∨ ∃ a : Nat, ev = .iface 119 (.pointer (some ⟨a, 0, none⟩)) ∧ w.cell? ⟨a, 0, none⟩ = some (.int .i64 n) ∧ w.cell? ⟨a, 1, none⟩ = some (.int .i64 p)
theorem ErrAt.but {w w' : World} {ev : Value} {n p : Int} (h : ErrAt w ev n p) (hb : But [] w w') : ErrAt w' ev n p := by
  rcases h with h | ⟨a, h1, h2, h3⟩
  · exact .inl h
  · exact .inr ⟨a, h1, hb.cell_some h2 (by simp), hb.cell_some h3 (by simp)⟩
theorem place_any (ev : Value) (n p : Int) (w : World) (h : ErrAt w ev n p) (hg : w.cell? ⟨1, 0, none⟩ = some (.iface 212 (.agg #[.pointer (some ⟨8, 32, none⟩)]))) :
    Calls Tryz.prog 107 #[ev] w fun e w' => e = .returned (.tuple #[.int .i64 n, .int .i64 p]) ∧ But [] w w' := by
  rcases h with ⟨rfl, rfl⟩ | ⟨a, rfl, h2, h3⟩
  · exact place_errno n w hg
  · exact place_at n p a w h2 h3 hg

set_option maxHeartbeats 4000000 in
theorem at_any (ev : Value) (n p : Int) (w : World) (h : ErrAt w ev n p) (hg : w.cell? ⟨1, 0, none⟩ = some (.iface 212 (.agg #[.pointer (some ⟨8, 32, none⟩)]))) :
    Calls Tryz.prog 45 #[ev, .agg #[.int .i64 n, .int .i64 p]] w fun e w' => e = .returned (.bool true) ∧ But [] w w' := by
  obtain ⟨V, hV⟩ : ∃ V, V = w.alloc (.cells #[.int .i64 n, .int .i64 p] 62) := ⟨_, rfl⟩
  obtain ⟨b, hb⟩ : ∃ b, b = w.heap.size := ⟨_, rfl⟩
  have bV : But [] w V := by rw [hV]; exact (But.refl _ _).alloc _
  have c0 : V.cell? ⟨b, 0, none⟩ = some (.int .i64 n) := by rw [hV, hb]; simp
  have c1 : V.cell? ⟨b, 1, none⟩ = some (.int .i64 p) := by rw [hV, hb]; simp
  have PL := hide (place_any ev n p V (h.but bV) (bV.cell_some hg (by simp)))
  have HV := hide hV
  have HB := hide bV
  have HC := hide (And.intro c0 c1)
  clear hV bV c0 c1 h hg
  go_enter Tryz.func45, Tryz.ntmps45
  go_wp2_with fail
  rw [← unhide HV]
  try rw [← hb]
  clear hb HV
  refine (unhide PL).mono ?_
  rintro e w1 ⟨rfl, hb1⟩
  have k0 := hb1.cell_some (unhide HC).1 (by simp)
  have k1 := hb1.cell_some (unhide HC).2 (by simp)
  replace HB := hide ((unhide HB).trans' hb1)
  clear hb1 PL HC
  go_wp2
  go_ret
  exact ⟨rfl, unhide HB⟩
end Go.Proofs.YtihiafgogbhjkaaGreatDoor

namespace Go.Proofs.YtihiafgogbhjkaaGreatDoor
open Go.RowKit

set_option maxHeartbeats 8000000 in
set_option maxRecDepth 100000 in
theorem parse_genP (t : ByteArray) (s pc : Bool) (k n1 n2 : Int) (P : ByteArray → ByteArray → Prop) (h1 : n1 ≤ 60) (h2 : n2 ≤ 60) (X Y : Nat) (hY : 0 < Y) (lx : (wd 18446744073709551616 X).length ≤ 1000000) (ly : (wd 18446744073709551616 Y).length ≤ 1000000) (f : Rat) (hf : f.num * (Y : Int) = sgn s X * (f.den : Int)) (w : World)
    (CU : Hid (∀ W, Calls Tryz.prog 98 #[.string t] W fun e w' => ∃ tw tb, e = .returned (.tuple #[.agg #[.bool s, .string tw, .int .u8 k, .string tb, .bool pc], .int .i64 (-1)]) ∧ P tw tb ∧ But [] W w'))
    (AB : Hid (∀ tw tb, P tw tb → ∀ W, Calls Tryz.prog 99 #[.agg #[.bool s, .string tw, .int .u8 k, .string tb, .bool pc]] W fun e w' => e = .returned (.int .i64 n1) ∧ But [] W w'))
    (UN : Hid (∀ tw tb, P tw tb → ∀ W, Calls Tryz.prog 100 #[.agg #[.bool s, .string tw, .int .u8 k, .string tb, .bool pc]] W fun e w' => e = .returned (.int .i64 n2) ∧ But [] W w'))
    (NU : Hid (∀ tw tb, P tw tb → ∀ W, Calls Tryz.prog 101 #[.agg #[.bool s, .string tw, .int .u8 k, .string tb, .bool pc]] W fun e w' => ∃ v1 v2, e = .returned (.tuple #[v1, v2]) ∧ Sl .u64 w' v1 (wd 18446744073709551616 X) ∧ Sl .u64 w' v2 (wd 18446744073709551616 Y) ∧ But [] W w')) :
    Calls Tryz.prog 43 #[.string t] w fun e w' => ∃ v, e = .returned (.tuple #[v, .nilIface]) ∧ FracAt w' v f ∧ But [] w w' := by
  have hyl : 0 < (wd 18446744073709551616 Y).length := by rw [Nat.pos_iff_ne_zero]; intro e; rw [wd_len_zero (by omega)] at e; omega
  have ON := hide (fun (W : World) (v1 v2 : Value) (a : Sl .u64 W v1 (wd 18446744073709551616 X)) (b : Sl .u64 W v2 (wd 18446744073709551616 Y)) => ofNumbers_any s v1 v2 X Y W a b hY lx ly f hf)
  have d1 : decide (60 < n1) = false := decide_eq_false (by omega)
  have d2 : decide (60 < n2) = false := decide_eq_false (by omega)
  obtain ⟨W, hW⟩ : ∃ W, W = w.alloc (.cells #[.bool false, .int .u64 0, .int .u64 0, .pointer none] 27) := ⟨_, rfl⟩
  have r0 : W.cell? ⟨w.heap.size, 0, none⟩ = some (.bool false) := by rw [hW]; simp
  have r1 : W.cell? ⟨w.heap.size, 1, none⟩ = some (.int .u64 0) := by rw [hW]; simp
  have r2 : W.cell? ⟨w.heap.size, 2, none⟩ = some (.int .u64 0) := by rw [hW]; simp
  have r3 : W.cell? ⟨w.heap.size, 3, none⟩ = some (.pointer none) := by rw [hW]; simp
  have fz : ∀ j, W.frozen? ⟨w.heap.size, j, none⟩ = false := fun j => by rw [hW]; simp
  have BL : Hid (Blank W w.heap.size) := ⟨r0, r1, r2, r3, fun j hj => by rw [hW, World.cell?_alloc_new]; simp; omega⟩
  have HB : Hid (But [] w W) := by show But _ _ _; rw [hW]; exact (But.refl _ _).alloc _
  have HW := hide hW
  clear hW hf lx ly hY
  go_enter Tryz.func43, Tryz.ntmps43
  go_wp2_with fail
  rw [← unhide HW]
  obtain ⟨gr, hgr⟩ : ∃ gr, gr = w.heap.size := ⟨_, rfl⟩
  rw [← hgr] at r0 r1 r2 r3 fz BL
  rw [← hgr]
  have HGR : Hid (w.heap.size ≤ gr) := by show _ ≤ _; omega
  clear hgr HW
  have grl : gr < W.heap.size := lt_of_cell r0
  refine (unhide CU _).mono ?_
  rintro e w1 ⟨tw, tb, rfl, hP, hb1⟩
  have AB' := hide (unhide AB tw tb hP)
  have UN' := hide (unhide UN tw tb hP)
  have NU' := hide (unhide NU tw tb hP)
  have KW := hide hb1
  clear AB UN NU CU hP hb1
  go_wp2_with fail
  obtain ⟨W1, hW1⟩ : ∃ W1, W1 = w1.alloc (.cells #[.bool s, .string tw, .int .u8 k, .string tb, .bool pc] 116) := ⟨_, rfl⟩
  have c0 : W1.cell? ⟨w1.heap.size, 0, none⟩ = some (.bool s) := by rw [hW1]; simp
  have c1 : W1.cell? ⟨w1.heap.size, 1, none⟩ = some (.string tw) := by rw [hW1]; simp
  have c2 : W1.cell? ⟨w1.heap.size, 2, none⟩ = some (.int .u8 k) := by rw [hW1]; simp
  have c3 : W1.cell? ⟨w1.heap.size, 3, none⟩ = some (.string tb) := by rw [hW1]; simp
  have c4 : W1.cell? ⟨w1.heap.size, 4, none⟩ = some (.bool pc) := by rw [hW1]; simp
  have KW1 : Hid (But [] W W1) := by show But _ _ _; rw [hW1]; exact (unhide KW).alloc _
  rw [← hW1]
  clear hW1 KW
  generalize w1.heap.size = gw at *
  refine (unhide AB' _).mono ?_
  rintro e w2 ⟨rfl, hb⟩
  replace c0 := hb.cell_some c0 (by simp)
  replace c1 := hb.cell_some c1 (by simp)
  replace c2 := hb.cell_some c2 (by simp)
  replace c3 := hb.cell_some c3 (by simp)
  replace c4 := hb.cell_some c4 (by simp)
  replace KW1 : Hid (But [] W w2) := (unhide KW1).trans' hb
  clear hb
  go_wp2_with fail
  refine (unhide UN' _).mono ?_
  rintro e w3 ⟨rfl, hb⟩
  replace c0 := hb.cell_some c0 (by simp)
  replace c1 := hb.cell_some c1 (by simp)
  replace c2 := hb.cell_some c2 (by simp)
  replace c3 := hb.cell_some c3 (by simp)
  replace c4 := hb.cell_some c4 (by simp)
  replace KW1 : Hid (But [] W w3) := (unhide KW1).trans' hb
  clear hb
  go_wp2_with fail
  refine (unhide NU' _).mono ?_
  rintro e w4 ⟨v1, v2, rfl, hv1, hv2, hb⟩
  replace c0 := hb.cell_some c0 (by simp)
  replace c1 := hb.cell_some c1 (by simp)
  replace c2 := hb.cell_some c2 (by simp)
  replace c3 := hb.cell_some c3 (by simp)
  replace c4 := hb.cell_some c4 (by simp)
  replace KW1 : Hid (But [] W w4) := (unhide KW1).trans' hb
  have H1 := hide hv1
  have H2 := hide hv2
  obtain ⟨a2, e2, rfl, -, -⟩ := hv2
  clear hv1
  clear hb
  generalize (wd 18446744073709551616 Y).length = ny at *
  have n0 : ((ny : Int) == 0) = false := beq_eq_false_iff_ne.2 (by omega)
  go_wp2_with fail
  refine (unhide ON _ v1 _ (unhide H1) (unhide H2)).mono ?_
  rintro e w5 ⟨vr, rfl, hvr, hb⟩
  have K5 : But [] W w5 := (unhide KW1).trans' hb
  have B5 : Hid (But [] w w5) := (unhide HB).trans' K5
  have HVR := hide hvr
  obtain ⟨x8, y8, p8, rfl, -⟩ := hvr.agg
  generalize decide (f.num < 0) = r8 at *
  have u0 := K5.cell_some r0 (by simp)
  have u1 := K5.cell_some r1 (by simp)
  have u2 := K5.cell_some r2 (by simp)
  have u3 := K5.cell_some r3 (by simp)
  have uf : ∀ j, w5.frozen? ⟨gr, j, none⟩ = false := fun j => (K5.frozen (p := ⟨gr, j, none⟩) grl (by simp)).trans (fz j)
  have BL5 : Hid (Blank w5 gr) := (unhide BL).but K5
  clear hvr hb K5 r0 r1 r2 r3 fz grl c0 c1 c2 c3 c4
  go_wp2
  have hBg : But [gr] w5 ((((w5.setCell ⟨gr, 0, none⟩ (.bool r8)).setCell ⟨gr, 1, none⟩ (.int .u64 x8)).setCell ⟨gr, 2, none⟩ (.int .u64 y8)).setCell ⟨gr, 3, none⟩ (.pointer p8)) := (((((But.refl [gr] w5).setCell (.inl (by simp)) _).setCell (.inl (by simp)) _).setCell (.inl (by simp)) _).setCell (.inl (by simp)) _)
  have hBf := ((((unhide B5).setCell (p := ⟨gr, 0, none⟩) (.inr (unhide HGR)) (.bool r8)).setCell (p := ⟨gr, 1, none⟩) (.inr (unhide HGR)) (.int .u64 x8)).setCell (p := ⟨gr, 2, none⟩) (.inr (unhide HGR)) (.int .u64 y8)).setCell (p := ⟨gr, 3, none⟩) (.inr (unhide HGR)) (.pointer p8)
  exact bodyPost_ret (v := .tuple #[.agg #[.bool r8, .int .u64 x8, .int .u64 y8, .pointer p8], .nilIface]) (by simp [results, Tryz.results43, go_sem, u0, u1, u2, u3]) rfl ⟨_, rfl, (unhide BL5).frac (unhide HVR) hBg, hBf⟩
end Go.Proofs.YtihiafgogbhjkaaGreatDoor

namespace Go.Proofs.YtihiafgogbhjkaaGreatDoor
open Go.RowKit

set_option maxHeartbeats 8000000 in
set_option maxRecDepth 100000 in
theorem parse_bad (t : ByteArray) (p : Nat) (w : World)
    (CU : Hid (∀ W, Calls Tryz.prog 98 #[.string t] W fun e w' => e = .returned (cutBad p) ∧ But [] W w')) :
    Calls Tryz.prog 43 #[.string t] w fun e w' => ∃ ev, e = .returned (.tuple #[.agg #[.bool false, .int .u64 0, .int .u64 0, .pointer none], ev]) ∧ ErrAt w' ev 3 p ∧ But [] w w' := by
  obtain ⟨W, hW⟩ : ∃ W, W = w.alloc (.cells #[.bool false, .int .u64 0, .int .u64 0, .pointer none] 27) := ⟨_, rfl⟩
  have r0 : W.cell? ⟨w.heap.size, 0, none⟩ = some (.bool false) := by rw [hW]; simp
  have r1 : W.cell? ⟨w.heap.size, 1, none⟩ = some (.int .u64 0) := by rw [hW]; simp
  have r2 : W.cell? ⟨w.heap.size, 2, none⟩ = some (.int .u64 0) := by rw [hW]; simp
  have r3 : W.cell? ⟨w.heap.size, 3, none⟩ = some (.pointer none) := by rw [hW]; simp
  have fz : ∀ j, W.frozen? ⟨w.heap.size, j, none⟩ = false := fun j => by rw [hW]; simp
  have HB : Hid (But [] w W) := by show But _ _ _; rw [hW]; exact (But.refl _ _).alloc _
  have HW := hide hW
  have hp0 : (0 : Int) ≤ (p : Int) := by omega
  have dp : decide ((0 : Int) ≤ (p : Int)) = true := decide_eq_true hp0
  clear hW
  go_enter Tryz.func43, Tryz.ntmps43
  go_wp2_with fail
  rw [← unhide HW]
  obtain ⟨gr, hgr⟩ : ∃ gr, gr = w.heap.size := ⟨_, rfl⟩
  rw [← hgr] at r0 r1 r2 r3 fz
  rw [← hgr]
  have HGR : Hid (w.heap.size ≤ gr) := by show _ ≤ _; omega
  clear hgr HW
  have grl : gr < W.heap.size := lt_of_cell r0
  refine (unhide CU _).mono ?_
  rintro e w1 ⟨rfl, hb1⟩
  unfold cutBad
  have u0 := hb1.cell_some r0 (by simp)
  have u1 := hb1.cell_some r1 (by simp)
  have u2 := hb1.cell_some r2 (by simp)
  have u3 := hb1.cell_some r3 (by simp)
  have uf : ∀ j, w1.frozen? ⟨gr, j, none⟩ = false := fun j => (hb1.frozen (p := ⟨gr, j, none⟩) grl (by simp)).trans (fz j)
  have gl : gr < w1.heap.size := lt_of_cell u0
  have B1 : Hid (But [] w w1) := (unhide HB).trans' hb1
  clear hb1 CU HB r0 r1 r2 r3 fz grl
  go_wp2
  obtain ⟨S, hS⟩ : ∃ S, S = ((((w1.setCell ⟨gr, 0, none⟩ (.bool false)).setCell ⟨gr, 1, none⟩ (.int .u64 0)).setCell ⟨gr, 2, none⟩ (.int .u64 0)).setCell ⟨gr, 3, none⟩ (.pointer none)) := ⟨_, rfl⟩
  have hBf : But [] w S := by
    rw [hS]
    exact ((((unhide B1).setCell (p := ⟨gr, 0, none⟩) (.inr (unhide HGR)) (.bool false)).setCell (p := ⟨gr, 1, none⟩) (.inr (unhide HGR)) (.int .u64 0)).setCell (p := ⟨gr, 2, none⟩) (.inr (unhide HGR)) (.int .u64 0)).setCell (p := ⟨gr, 3, none⟩) (.inr (unhide HGR)) (.pointer none)
  have sz : S.heap.size = w1.heap.size := by rw [hS]; simp
  have k0 : S.cell? ⟨gr, 0, none⟩ = some (.bool false) := by rw [hS, World.cell?_setCell_other _ _ _ _ (by simp), World.cell?_setCell_other _ _ _ _ (by simp), World.cell?_setCell_other _ _ _ _ (by simp)]; exact World.cell?_setCell_same _ _ _ (by exact u0)
  have k1 : S.cell? ⟨gr, 1, none⟩ = some (.int .u64 0) := by rw [hS, World.cell?_setCell_other _ _ _ _ (by simp), World.cell?_setCell_other _ _ _ _ (by simp)]; exact World.cell?_setCell_same _ _ _ (by rw [World.cell?_setCell_other _ _ _ _ (by simp)]; exact u1)
  have k2 : S.cell? ⟨gr, 2, none⟩ = some (.int .u64 0) := by rw [hS, World.cell?_setCell_other _ _ _ _ (by simp)]; exact World.cell?_setCell_same _ _ _ (by rw [World.cell?_setCell_other _ _ _ _ (by simp), World.cell?_setCell_other _ _ _ _ (by simp)]; exact u2)
  have k3 : S.cell? ⟨gr, 3, none⟩ = some (.pointer none) := by rw [hS]; exact World.cell?_setCell_same _ _ _ (by rw [World.cell?_setCell_other _ _ _ _ (by simp), World.cell?_setCell_other _ _ _ _ (by simp), World.cell?_setCell_other _ _ _ _ (by simp)]; exact u3)
  rw [← hS]
  clear hS u0 u1 u2 u3 uf
  have al : ∀ o1 o2 j, ((S.alloc o1).alloc o2).cell? ⟨gr, j, none⟩ = S.cell? ⟨gr, j, none⟩ := fun o1 o2 j => by
    rw [World.cell?_alloc_lt _ _ ⟨gr, j, none⟩ (by show gr < _; simp; omega), World.cell?_alloc_lt _ _ ⟨gr, j, none⟩ (by show gr < _; omega)]
  exact bodyPost_ret (v := .tuple #[.agg #[.bool false, .int .u64 0, .int .u64 0, .pointer none], .iface 119 (.pointer (some ⟨w1.heap.size + 1, 0, none⟩))]) (by simp [results, Tryz.results43, go_sem, al, k0, k1, k2, k3]) rfl ⟨_, rfl, .inr ⟨w1.heap.size + 1, rfl, by rw [World.cell?_alloc_at _ _ _ _ (by simp [sz])]; rfl, by rw [World.cell?_alloc_at _ _ _ _ (by simp [sz])]; rfl⟩, (hBf.alloc _).alloc _⟩
end Go.Proofs.YtihiafgogbhjkaaGreatDoor
