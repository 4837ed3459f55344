/- Copies of words, and the setters of whole numbers, as the Go text of package tontinebig makes them. -/
import Derived.Test.YtpipnnldiambiaaGreatDoorB1
import Derived.Laws.Append
import Derived.Deep.AppendSrc
namespace Go.Proofs.YtpipnnldiambiaaGreatDoor
open Go.RowKit

theorem info_u32 : ∃ i, Tryz.prog.info? 126 = some i ∧ i.zero = some (.int .u32 0) ∧ i.size = 1 ∧ i.bytes = 4 := by
  have h : (Tryz.prog.info? 126).map (fun i => (i.zero, i.size, i.bytes)) = some (some (.int .u32 0), 1, 4) := by kernel_rfl
  obtain ⟨i, hi, he⟩ := Option.map_eq_some_iff.1 h
  simp only [Prod.mk.injEq] at he
  exact ⟨i, hi, he.1, he.2.1, he.2.2⟩

theorem run_append_empty {P : Program} (w : World) (t ty e : TypeId) (i : TypeInfo) (ht : P.underlying t = some (.slice e)) (hi : P.info? e = some i) (a : Option Addr) (c : Nat) :
    (Builtin.append_ #[t, t] ty #[.slice none 0 0, .slice a 0 c]).run P w = .ok (.slice none 0 0) w := by
  cases a with
  | none => simp [Builtin.append_, run_underlying ht, sizeOf, typeInfo, hi, Builtin.lenOf, run_firstCells_none]
  | some a =>
    have hf := run_firstCells_some (P := P) w i.size 0 a 0 c [] (by simp) (by simp)
    simp [Builtin.append_, run_underlying ht, sizeOf, typeInfo, hi, Builtin.lenOf, hf]

/-- the built-in append, by its run -/
theorem wpList_app {P : Program} {w : World} {ops : Array Oper} {rest : List Oper} {o : Oper} {a : Act} {Q : Exit → Act → World → Prop} (hgd : o.guard = none) (s x : Operand) (t u : TypeId)
    (ho : o.op = .call { callee := .builtin .append, args := #[s, x], argTypes := #[t, u] }) (vs vx v' : Value) (w' : World) (hs : a.eval s = vs) (hx : a.eval x = vx)
    (hr : (Builtin.append_ #[t, u] o.type #[vs, vx]).run P w = .ok v' w') (h : wpList P ops Q rest (a.put o.dst v') w') : wpList P ops Q (o :: rest) a w :=
  wpList_plain hgd fun _ hK => by
    unfold Oper.wp execOp
    simp only [ho, resolve, invoke, builtin, Sem.run_bind, Sem.run_pure, Result.andThen_ok, List.map_toArray, List.map_cons, List.map_nil, hs, hx, hr]
    exact hK _ _ h

set_option maxHeartbeats 400000 in
theorem twin_any (v : Value) (xs : List Nat) (w : World) (hv : Sl .u32 w v xs) (hl : xs.length < 2147483648) :
    Calls Tryz.prog 73 #[v] w fun e w' => ∃ v', e = .returned v' ∧ Sl .u32 w' v' xs ∧ But [] w w' := by
  rcases hv.open with ⟨rfl, a, cap, rfl⟩ | ⟨h0, b, off, cap, rfl, hc, hb, hcell⟩
  · obtain ⟨i, hi, hz, hs, hbt⟩ := info_u32
    have hr := run_append_empty (P := Tryz.prog) w 50 50 126 i Tryz.underlying50 hi a cap
    clear hi hz hs hbt i
    go_enter Tryz.func73, Tryz.ntmps73
    have H := hide hr
    clear hr
    go_wp2_with (at_builtin; refine wpList_app rfl _ _ 50 50 rfl _ _ _ _ rfl rfl (unhide H) ?_)
    go_ret
    exact ⟨_, rfl, Sl.nil _ _, But.refl _ _⟩
  · obtain ⟨i, hi, hz, hs, hbt⟩ := info_u32
    have hr := run_append_nil (P := Tryz.prog) w 50 50 126 i (.int .u32 0) Tryz.underlying50 hi hz ⟨b, off, none⟩ xs.length cap (xs.map fun (x : Nat) => Value.int .u32 (x : Int)) (by simp [hs]) (by
      intro j v hj
      simp only [List.getElem?_map, Option.map_eq_some_iff] at hj
      obtain ⟨x, hx, rfl⟩ := hj
      have hlt : j < xs.length := (List.getElem?_eq_some_iff.1 hx).1
      have := hcell j hlt
      rw [hx] at this
      have e : (⟨b, off, none⟩ : Addr).add j = ⟨b, off + j, none⟩ := by by_cases h : j = 0 <;> simp [Addr.add, h]
      rw [e]; exact this) h0 (by omega) (by rw [hbt]; omega)
    have hcg := grownCap_ge w xs.length 0 126
    generalize grownCap w xs.length 0 126 = cg at hr hcg
    clear hi hz hs hbt i
    go_enter Tryz.func73, Tryz.ntmps73
    have H := hide hr
    clear hr
    go_wp2_with (at_builtin; refine wpList_app rfl _ _ 50 50 rfl _ _ _ _ rfl rfl (unhide H) ?_)
    go_ret
    refine ⟨_, rfl, Sl.mk w.heap.size 0 cg hcg (fun j hj => ?_), (But.refl _ _).drew.alloc _⟩
    rw [World.cell?_drew, World.cell?_alloc_new, Nat.zero_add, Array.getElem?_append_left (by simp; exact hj)]
    simp [hj]

/-- a place for a number, which may be written -/
structure Slot (w : World) (b o : Nat) : Prop where
  c0 : ∃ s, w.cell? ⟨b, o, none⟩ = some (.bool s)
  c1 : ∃ a n c, w.cell? ⟨b, o + 1, none⟩ = some (.slice a n c)
  f0 : w.frozen? ⟨b, o, none⟩ = false
  f1 : w.frozen? ⟨b, o + 1, none⟩ = false
theorem Slot.lt {w : World} {b o : Nat} (h : Slot w b o) : b < w.heap.size := by obtain ⟨s, hs⟩ := h.c0; exact lt_of_cell hs
theorem Slot.but {w w' : World} {b o : Nat} {l : List Nat} (h : Slot w b o) (hb : But l w w') (hn : b ∉ l) : Slot w' b o := by
  obtain ⟨s, hs⟩ := h.c0
  obtain ⟨a, n, c, hc⟩ := h.c1
  have hl := h.lt
  exact ⟨⟨s, hb.cell_some hs hn⟩, ⟨a, n, c, hb.cell_some hc hn⟩, (hb.frozen (p := ⟨b, o, none⟩) hl hn).trans h.f0, (hb.frozen (p := ⟨b, o + 1, none⟩) hl hn).trans h.f1⟩
theorem IntAt.lt {w : World} {b o : Nat} {z : Int} (h : IntAt w b o z) : b < w.heap.size := lt_of_cell h.1
theorem IntAt.but {w w' : World} {b o : Nat} {z : Int} (h : IntAt w b o z) (hb : But [] w w') : IntAt w' b o z := by
  obtain ⟨h0, v, h1, hs⟩ := h
  exact ⟨hb.cell_some h0 (by simp), v, hb.cell_some h1 (by simp), hs.but_nil hb⟩
/-- a store at a cell that holds no number of words leaves words alone -/
theorem Sl.setCell {k : IntKind} {w : World} {v : Value} {xs : List Nat} (h : Sl k w v xs) (p : Addr) (u old : Value) (ho : w.cell? p = some old) (hne : ∀ n, old ≠ .int k n) : Sl k (w.setCell p u) v xs := by
  obtain ⟨a, cap, rfl, hc, h⟩ := h
  refine ⟨a, cap, rfl, hc, fun i hi => ?_⟩
  obtain ⟨b, off, rfl, h2⟩ := h i hi
  refine ⟨b, off, rfl, ?_⟩
  rw [World.cell?_setCell_other _ _ _ _ (by rintro rfl; rw [ho] at h2; exact hne _ (Option.some.inj h2))]
  exact h2
/-- the number z written into a place: w1 is the world ahead of the two stores -/
def put (w1 : World) (b o : Nat) (v : Value) (s : Bool) : World := (w1.setCell ⟨b, o + 1, none⟩ v).setCell ⟨b, o, none⟩ (.bool s)
theorem put_size (w1 : World) (b o : Nat) (v : Value) (s : Bool) : (put w1 b o v s).heap.size = w1.heap.size := by simp [put]
theorem put_but (w1 : World) (b o : Nat) (v : Value) (s : Bool) : But [b] w1 (put w1 b o v s) := ((But.refl _ _).setCell (by simp) _).setCell (by simp) _
theorem put_frozen (w1 : World) (b o : Nat) (v : Value) (s : Bool) (p : Addr) : (put w1 b o v s).frozen? p = w1.frozen? p := by simp [put]
theorem put_cell0 {w1 : World} {b o : Nat} (h : Slot w1 b o) (v : Value) (s : Bool) : (put w1 b o v s).cell? ⟨b, o, none⟩ = some (.bool s) := by
  obtain ⟨s0, hs⟩ := h.c0
  exact World.cell?_setCell_same _ _ _ (u := .bool s0) (by rw [World.cell?_setCell_other _ _ _ _ (by simp)]; exact hs)
theorem put_cell1 {w1 : World} {b o : Nat} (h : Slot w1 b o) (v : Value) (s : Bool) : (put w1 b o v s).cell? ⟨b, o + 1, none⟩ = some v := by
  obtain ⟨a, n, c, hc⟩ := h.c1
  unfold put
  rw [World.cell?_setCell_other _ _ _ _ (by simp)]
  exact World.cell?_setCell_same _ _ _ hc
theorem put_other (w1 : World) (b o : Nat) (v : Value) (s : Bool) (p : Addr) (hp : p ≠ ⟨b, o, none⟩) (hp' : p ≠ ⟨b, o + 1, none⟩) : (put w1 b o v s).cell? p = w1.cell? p := by
  unfold put
  rw [World.cell?_setCell_other _ _ _ _ (Ne.symm hp), World.cell?_setCell_other _ _ _ _ (Ne.symm hp')]
theorem put_sl {w1 : World} {b o : Nat} (h : Slot w1 b o) (v : Value) (s : Bool) {x : Value} {xs : List Nat} (hx : Sl .u32 w1 x xs) : Sl .u32 (put w1 b o v s) x xs := by
  obtain ⟨s0, hs⟩ := h.c0
  obtain ⟨a, n, c, hc⟩ := h.c1
  exact (hx.setCell ⟨b, o + 1, none⟩ v _ hc (by simp)).setCell ⟨b, o, none⟩ _ (.bool s0) (by rw [World.cell?_setCell_other _ _ _ _ (by simp)]; exact hs) (by simp)
theorem put_int {w1 : World} {b o : Nat} (h : Slot w1 b o) (v : Value) (z : Int) (hv : Sl .u32 w1 v (wd 4294967296 z.natAbs)) : IntAt (put w1 b o v (decide (z < 0))) b o z :=
  ⟨put_cell0 h v _, v, put_cell1 h v _, put_sl h v _ hv⟩
theorem put_slot {w1 : World} {b o : Nat} (h : Slot w1 b o) (a : Option Addr) (n c : Nat) (s : Bool) : Slot (put w1 b o (.slice a n c) s) b o :=
  ⟨⟨s, put_cell0 h _ _⟩, ⟨a, n, c, put_cell1 h _ _⟩, (put_frozen ..).trans h.f0, (put_frozen ..).trans h.f1⟩
theorem Sl.slice {k : IntKind} {w : World} {v : Value} {xs : List Nat} (h : Sl k w v xs) : ∃ a n c, v = .slice a n c := by
  obtain ⟨a, cap, rfl, _⟩ := h; exact ⟨_, _, _, rfl⟩
/-- another number in another place -/
theorem put_int_other {w1 : World} {b o : Nat} (h : Slot w1 b o) (v : Value) (s : Bool) {b' o' : Nat} {z : Int} (hz : IntAt w1 b' o' z) (hne : b' ≠ b ∨ (o' ≠ o ∧ o' + 1 ≠ o ∧ o' ≠ o + 1)) : IntAt (put w1 b o v s) b' o' z := by
  obtain ⟨h0, x, h1, hs⟩ := hz
  refine ⟨?_, x, ?_, put_sl h v s hs⟩
  · rw [put_other _ _ _ _ _ _ (by simp only [ne_eq, Addr.mk.injEq]; omega) (by simp only [ne_eq, Addr.mk.injEq]; omega)]; exact h0
  · rw [put_other _ _ _ _ _ _ (by simp only [ne_eq, Addr.mk.injEq]; omega) (by simp only [ne_eq, Addr.mk.injEq]; omega)]; exact h1
theorem put_slot_other {w1 : World} {b o : Nat} (v : Value) (s : Bool) {b' o' : Nat} (hz : Slot w1 b' o') (hne : b' ≠ b ∨ (o' ≠ o ∧ o' + 1 ≠ o ∧ o' ≠ o + 1)) : Slot (put w1 b o v s) b' o' := by
  obtain ⟨⟨s0, hs⟩, ⟨a, n, c, hc⟩, f0, f1⟩ := hz
  refine ⟨⟨s0, ?_⟩, ⟨a, n, c, ?_⟩, (put_frozen ..).trans f0, (put_frozen ..).trans f1⟩
  · rw [put_other _ _ _ _ _ _ (by simp only [ne_eq, Addr.mk.injEq]; omega) (by simp only [ne_eq, Addr.mk.injEq]; omega)]; exact hs
  · rw [put_other _ _ _ _ _ _ (by simp only [ne_eq, Addr.mk.injEq]; omega) (by simp only [ne_eq, Addr.mk.injEq]; omega)]; exact hc

theorem slot_new (w : World) (t : TypeId) : Slot (w.alloc (.cells #[.bool false, .slice none 0 0] t)) w.heap.size 0 :=
  ⟨⟨false, by simp⟩, ⟨none, 0, 0, by simp⟩, by simp, by simp⟩
theorem neg_len (z : Int) : (decide (z < 0) && decide (0 < (wd 4294967296 z.natAbs).length)) = decide (z < 0) := by
  by_cases h : z < 0
  · have : 0 < (wd 4294967296 z.natAbs).length := by
      rw [Nat.pos_iff_ne_zero]; intro e
      rw [wd_len_zero (by omega)] at e
      omega
    simp [h, this]
  · simp [h]
theorem wd_short (n : Nat) (h : n < 18446744073709551616) : (wd 4294967296 n).length < 2147483648 := by
  have := wd_length_le (B := 4294967296) (by omega) n 2 (by omega)
  omega

set_option maxHeartbeats 400000 in
theorem setInt64_any (b o : Nat) (x : Int) (w : World) (h1 : -9223372036854775808 ≤ x) (h2 : x < 9223372036854775808) (hs : Slot w b o) :
    Calls Tryz.prog 55 #[.pointer (some ⟨b, o, none⟩), .int .i64 x] w fun e w' => e = .returned (.pointer (some ⟨b, o, none⟩)) ∧ ∃ w1 v, But [] w w1 ∧ Sl .u32 w1 v (wd 4294967296 x.natAbs) ∧ w' = put w1 b o v (decide (x < 0)) := by
  by_cases hx : x < 0
  · go_enter Tryz.func55, Tryz.ntmps55
    go_wp2_with fail
    rw [show IntKind.u64.wrap (-IntKind.u64.wrap x) = ((x.natAbs : Nat) : Int) from by rw [IntKind.wrap_u64, IntKind.wrap_u64]; omega]
    refine (words_any x.natAbs _ (by omega)).mono ?_
    rintro e w1 ⟨v, rfl, hv, hb⟩
    go_wp2_with fail
    have hs1 := hs.but hb (by simp)
    obtain ⟨s0, hc0⟩ := hs1.c0
    obtain ⟨a0, n0, c0, hc1⟩ := hs1.c1
    refine (give_any b o true v _ _ _ w1 hv (wd_short _ (by omega)) hc0 hc1 hs1.f0 hs1.f1).mono ?_
    rintro e w2 ⟨rfl, rfl⟩
    go_wp2
    go_ret
    refine ⟨rfl, w1, v, hb, hv, ?_⟩
    have := neg_len x
    simp only [hx, decide_true, Bool.true_and] at this
    rw [this, decide_eq_true hx]
    rfl
  · obtain ⟨n, rfl⟩ := Int.eq_ofNat_of_zero_le (Int.not_lt.1 hx)
    go_enter Tryz.func55, Tryz.ntmps55
    go_wp2_with fail
    refine (words_any n _ (by omega)).mono ?_
    rintro e w1 ⟨v, rfl, hv, hb⟩
    go_wp2_with fail
    have hs1 := hs.but hb (by simp)
    obtain ⟨s0, hc0⟩ := hs1.c0
    obtain ⟨a0, n0, c0, hc1⟩ := hs1.c1
    refine (give_any b o false v _ _ _ w1 hv (wd_short _ (by omega)) hc0 hc1 hs1.f0 hs1.f1).mono ?_
    rintro e w2 ⟨rfl, rfl⟩
    go_wp2
    go_ret
    exact ⟨rfl, w1, v, hb, hv, by rw [show decide ((n : Int) < 0) = false from decide_eq_false (by omega)]; rfl⟩

set_option maxHeartbeats 400000 in
theorem newInt_any (x : Int) (w : World) (h1 : -9223372036854775808 ≤ x) (h2 : x < 9223372036854775808) :
    Calls Tryz.prog 39 #[.int .i64 x] w fun e w' => e = .returned (.pointer (some ⟨w.heap.size, 0, none⟩)) ∧ But [] w w' ∧ IntAt w' w.heap.size 0 x ∧ Slot w' w.heap.size 0 := by
  go_enter Tryz.func39, Tryz.ntmps39
  go_wp2_with fail
  have hs := slot_new w 52
  refine (setInt64_any w.heap.size 0 x _ h1 h2 hs).mono ?_
  rintro e w' ⟨rfl, w1, v, hb, hv, rfl⟩
  go_wp2
  go_ret
  have hs1 := hs.but hb (by simp)
  obtain ⟨a, n, c, rfl⟩ := hv.slice
  exact ⟨rfl, (((But.refl [] w).alloc _).trans' hb).trans (put_but _ _ _ _ _) (by simp), put_int hs1 _ x hv, put_slot hs1 _ _ _ _⟩
end Go.Proofs.YtpipnnldiambiaaGreatDoor
