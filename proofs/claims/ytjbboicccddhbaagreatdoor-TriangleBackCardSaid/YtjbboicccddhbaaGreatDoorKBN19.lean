/- A row is cloned; numbers are lessened; the greatest common divisor of two numbers, as the Go text of package nat does it. -/
import Derived.Laws.Append
import Derived.OwnWalk
import Derived.WalkSpells
import Derived.Test.YtjbboicccddhbaaGreatDoorKBN17
import Derived.Test.YtjbboicccddhbaaGreatDoorKBN18
namespace Go.Proofs.YtjbboicccddhbaaGreatDoor
open Go.RowKit

/-- the built-in append, by its run -/
theorem wpList_app {P : Program} {w : World} {ops : Array Oper} {rest : List Oper} {o : Oper} {a : Act} {Q : Exit → Act → World → Prop} (hgd : o.guard = none) (s x : Operand) (t u : TypeId)
    (ho : o.op = .call { callee := .builtin .append, args := #[s, x], argTypes := #[t, u] }) (vs vx v' : Value) (w' : World) (hs : a.eval s = vs) (hx : a.eval x = vx)
    (hr : (Builtin.append_ #[t, u] o.type #[vs, vx]).run P w = .ok v' w') (h : wpList P ops Q rest (a.put o.dst v') w') : wpList P ops Q (o :: rest) a w :=
  wpList_plain hgd fun _ hK => by
    unfold Oper.wp execOp
    simp only [ho, resolve, invoke, builtin, Sem.run_bind, Sem.run_pure, Result.andThen_ok, List.map_toArray, List.map_cons, List.map_nil, hs, hx, hr]
    exact hK _ _ h

set_option maxHeartbeats 1000000 in
set_option maxRecDepth 100000 in
theorem clone_any (b off c : Nat) (xs : List Nat) (w : World) (hv : Sl .u64 w (.slice (some ⟨b, off, none⟩) xs.length c) xs) (h0 : 0 < xs.length) (hl : xs.length < 1073741824) :
    Calls Tryz.prog 107 #[.slice (some ⟨b, off, none⟩) xs.length c] w fun e w' => ∃ v', e = .returned v' ∧ Sl .u64 w' v' xs ∧ But [] w w' ∧ Own w.heap.size w' v' ∧ (∃ g c', v' = .slice (some ⟨g, 0, none⟩) xs.length c') := by
  have hnil := fun W => Lib.run_eql_slice_nil (P := Tryz.prog) W 96 24 (some ⟨b, off, none⟩) xs.length c 0 0 Tryz.underlying96
  obtain ⟨i, hi, hz, hs, hbt⟩ := info_u64
  obtain ⟨W0, hW0⟩ : ∃ W0, W0 = w.alloc (.cells #[] 24) := ⟨_, rfl⟩
  have hb0 : But [] w W0 := by rw [hW0]; exact (But.refl _ _).alloc _
  have hv0 := hv.but_nil hb0
  rcases hv0.open with ⟨e, -⟩ | ⟨-, b', off', c', e, hc, -, hcell⟩
  · rw [e] at h0; simp at h0
  simp only [Value.slice.injEq, Option.some.injEq, Addr.mk.injEq] at e
  obtain ⟨⟨rfl, rfl, -⟩, -, rfl⟩ := e
  have hr := fun ty => run_append_grow (P := Tryz.prog) W0 96 ty 24 i (.int .u64 0) Tryz.underlying96 hi hz ⟨w.heap.size, 0, none⟩ 0 0 [] (by simp) (by simp) ⟨b, off, none⟩ xs.length c (xs.map fun (x : Nat) => Value.int .u64 (x : Int)) (by simp [hs]) (fun j v hj => by
    obtain ⟨h1, rfl⟩ := getD_map_u64 xs j v hj
    rw [addr_add]; exact hcell j h1) (by omega) (by omega) (growslice_fits (by omega) (by rw [hbt]; omega))
  have hcg := grownCap_ge W0 (0 + xs.length) 0 24
  rw [Nat.zero_add] at hr hcg
  generalize grownCap W0 xs.length 0 24 = cg at hr hcg
  have hsz : W0.heap.size = w.heap.size + 1 := by rw [hW0]; simp
  rw [hW0] at hr
  have H := hide hr
  have HW0 := hide hW0
  have HB0 := hide hb0
  have HSZ := hide hsz
  clear hr hi hz hs hbt i hv hcell hv0 hW0 hb0 hsz
  go_enter Tryz.func107, Tryz.ntmps107
  go_wp2_with (at_builtin; refine wpList_app rfl _ _ 96 96 rfl _ _ _ _ rfl rfl (unhide H _) ?_)
  go_ret
  rw [← unhide HW0]
  have es : w.heap.size + 1 = W0.heap.size := (unhide HSZ).symm
  refine ⟨.slice (some ⟨w.heap.size + 1, 0, none⟩) xs.length cg, rfl, ?_, ((unhide HB0).alloc _).drew, ?_, ⟨_, _, rfl⟩⟩
  · rw [es]
    exact Sl.mk W0.heap.size 0 cg hcg (fun j hj => by
      rw [Nat.zero_add, World.cell?_drew, World.cell?_alloc_new, Array.getElem?_append_left (by simp; exact hj)]
      simp [hj]) (fun _ i v hv => by
      rw [World.cell?_drew, World.cell?_alloc_new] at hv
      have hm := Array.mem_of_getElem? hv
      rw [Array.mem_append] at hm
      rcases hm with hm | hm
      · simp only [List.mem_toArray, List.mem_map] at hm
        obtain ⟨x, -, rfl⟩ := hm
        exact ⟨_, rfl⟩
      · unfold Builtin.zeroCells at hm
        exact ⟨0, by simp at hm; grind⟩)
  · intro b off n c e
    simp only [Value.slice.injEq, Option.some.injEq, Addr.mk.injEq] at e
    obtain ⟨⟨rfl, rfl, -⟩, -, -⟩ := e
    refine ⟨by omega, fun i _ => ?_⟩
    rw [es]
    simp

/-- two rows that don't share a block -/
def Apart (v1 v2 : Value) : Prop := ∀ b off n c b' off' n' c', v1 = .slice (some ⟨b, off, none⟩) n c → v2 = .slice (some ⟨b', off', none⟩) n' c' → b ≠ b'
/-- the two numbers of a round: in rows of the call's own, apart from each other -/
structure Pair (lo : Nat) (w : World) (v1 v2 : Value) (X Y : Nat) : Prop where
  s1 : Sl .u64 w v1 (wd 18446744073709551616 X)
  s2 : Sl .u64 w v2 (wd 18446744073709551616 Y)
  o1 : Own lo w v1
  o2 : Own lo w v2
  ap : Apart v1 v2
theorem Sl.seg {w : World} {g o c n : Nat} {xs : List Nat} (h : Sl .u64 w (.slice (some ⟨g, o, none⟩) n c) xs) (ho : ∀ i, i < n → w.frozen? ⟨g, o + i, none⟩ = false) : Seg w g o xs := ⟨fun i hi => by
  obtain ⟨a, cap, e, -, hc, -⟩ := h
  simp only [Value.slice.injEq] at e
  obtain ⟨rfl, rfl, -⟩ := e
  obtain ⟨b, off, e, h2⟩ := hc i hi
  simp only [Option.some.injEq, Addr.mk.injEq] at e
  obtain ⟨rfl, rfl, -⟩ := e
  exact ⟨h2, ho i hi⟩, fun h0 => by
  obtain ⟨a, cap, e, -, -, hi⟩ := h
  simp only [Value.slice.injEq] at e
  obtain ⟨rfl, -, -⟩ := e
  exact hi _ _ rfl h0⟩
theorem OwnIn.own {g lo : Nat} {w : World} {v : Value} (h : OwnIn g w v) (hg : lo ≤ g) : Own lo w v := fun b off n c e => by
  obtain ⟨rfl, h2⟩ := h b off n c e
  exact ⟨hg, h2⟩
theorem Own.but {lo : Nat} {w w' : World} {v : Value} {k : IntKind} {xs : List Nat} (h : Own lo w v) (hs : Sl k w v xs) (hb : But [] w w') : Own lo w' v := fun b off n c e => by
  obtain ⟨h1, h2⟩ := h b off n c e
  refine ⟨h1, fun i hi => ?_⟩
  obtain ⟨a, cap, e2, -, hc, -⟩ := hs
  rw [e] at e2
  simp only [Value.slice.injEq] at e2
  obtain ⟨rfl, rfl, -⟩ := e2
  obtain ⟨b', off', e3, h4⟩ := hc i hi
  simp only [Option.some.injEq, Addr.mk.injEq] at e3
  obtain ⟨rfl, rfl, -⟩ := e3
  exact (hb.frozen (p := ⟨b, off + i, none⟩) (lt_of_cell h4) (by simp)).trans (h2 i hi)
theorem Pair.but {lo : Nat} {w w' : World} {v1 v2 : Value} {X Y : Nat} (h : Pair lo w v1 v2 X Y) (hb : But [] w w') : Pair lo w' v1 v2 X Y :=
  ⟨h.s1.but_nil hb, h.s2.but_nil hb, h.o1.but h.s1 hb, h.o2.but h.s2 hb, h.ap⟩
end Go.Proofs.YtjbboicccddhbaaGreatDoor

namespace Go.Proofs.YtjbboicccddhbaaGreatDoor
open Go.RowKit

theorem two_top (X m : Nat) (h : (wd 18446744073709551616 X).length = m + 2) : X = vl 18446744073709551616 ((wd 18446744073709551616 X).take m) + 18446744073709551616 ^ m * ((wd 18446744073709551616 X)[m]?.getD 0 + 18446744073709551616 * (wd 18446744073709551616 X)[m + 1]?.getD 0) := by
  have e := vl_split 18446744073709551616 (wd 18446744073709551616 X) m (by omega)
  rw [drop_one _ (m + 1) (by omega), vl_one, vl_wd (by omega)] at e
  exact e
theorem one_top (X m : Nat) (h : (wd 18446744073709551616 X).length = m + 1) : X = vl 18446744073709551616 ((wd 18446744073709551616 X).take m) + 18446744073709551616 ^ m * ((wd 18446744073709551616 X)[m]?.getD 0 + 18446744073709551616 * 0) := by
  have e := vl_split 18446744073709551616 (wd 18446744073709551616 X) m (by omega)
  rw [List.drop_eq_nil_of_le (by omega), vl, vl_wd (by omega)] at e
  exact e
theorem top_sum (x1 x0 n : Nat) (hn : n ≤ 63) (hx0 : x0 < 18446744073709551616) (h : x1 * 2 ^ n < 18446744073709551616) : x1 * 2 ^ n + x0 / 2 ^ (64 - n) < 18446744073709551616 := by
  have hp : 18446744073709551616 = 2 ^ (64 - n) * 2 ^ n := by rw [← Nat.pow_add, show (64 - n) + n = 64 from by omega]
  have h5 : (x1 + 1) * 2 ^ n ≤ 18446744073709551616 := by
    rw [hp] at h ⊢
    exact Nat.mul_le_mul_right _ (Nat.lt_of_mul_lt_mul_right h)
  rw [Nat.add_mul, Nat.one_mul] at h5
  have := (sh_or x1 x0 n hn hx0).2
  generalize x0 / 2 ^ (64 - n) = z at *
  generalize x1 * 2 ^ n = y at *
  generalize 2 ^ n = P at *
  omega
theorem TakeInv.fin' {ps qs ps' qs' : List Nat} {c1 c2 c3 c4 n up dn lf rt bo ow : Nat} (h : TakeInv ps qs ps' qs' c1 c2 c3 c4 n up dn lf rt bo ow) (hn : ps.length = n) (hl : ps.length = qs.length) (P' Q' X Y hp hq : Nat)
    (eP : P' = vl 18446744073709551616 ps + 18446744073709551616 ^ n * hp) (eQ : Q' = vl 18446744073709551616 qs + 18446744073709551616 ^ n * hq) (eX : X + c2 * Q' = c1 * P') (eY : Y + c3 * P' = c4 * Q') (hX : X < 18446744073709551616 ^ n) (hY : Y < 18446744073709551616 ^ n) : vl 18446744073709551616 ps' = X ∧ vl 18446744073709551616 qs' = Y := by
  subst hn
  exact h.fin hl P' Q' X Y hp hq eP eQ eX eY hX hY
theorem stepsOf_any (vx vy : Value) (X Y : Nat) (w : World) (hx : Sl .u64 w vx (wd 18446744073709551616 X)) (hy : Sl .u64 w vy (wd 18446744073709551616 Y)) (h2 : 2 ≤ (wd 18446744073709551616 Y).length) (hn : (wd 18446744073709551616 X).length < (wd 18446744073709551616 Y).length + 2) (hle : Y ≤ X) (hl : (wd 18446744073709551616 X).length < 268435456) :
    Calls Tryz.prog 148 #[vx, vy] w fun e w' => ∃ (xx xy yx yy : Nat) (back : Bool), e = .returned (.agg #[.int .u64 (xx : Int), .int .u64 (xy : Int), .int .u64 (yx : Int), .int .u64 (yy : Int), .bool back]) ∧ xx < 18446744073709551616 ∧ xy < 18446744073709551616 ∧ yx < 18446744073709551616 ∧ yy < 18446744073709551616 ∧ StepsOK X Y xx xy yx yy back ∧ But [] w w' := by
  have hlen := wd_len_mono hle
  rcases hx.open with ⟨e, -⟩ | ⟨-, b1, o1, c1, rfl, hc1, -, hcx⟩
  · rw [e, List.length_nil] at hlen; omega
  rcases hy.open with ⟨e, -⟩ | ⟨-, b2, o2, c2, rfl, hc2, -, hcy⟩
  · rw [e] at h2; simp at h2
  obtain ⟨m, hm⟩ : ∃ m, (wd 18446744073709551616 X).length = m + 2 := ⟨(wd 18446744073709551616 X).length - 2, by omega⟩
  have hXp : 0 < X := by
    rcases Nat.eq_zero_or_pos X with h | h
    · subst h; rw [wd_zero] at hm; simp at hm
    · exact h
  obtain ⟨t1, t2, -, -⟩ := top_pos X hXp
  have ht : topW X = (wd 18446744073709551616 X)[m + 1]?.getD 0 := by unfold topW; rw [hm]; rfl
  obtain ⟨z1, z2, -, -⟩ := lz_facts (topW X) t1 t2
  have eX := two_top X m hm
  have lX := vl_take_lt (wd 18446744073709551616 X) m (by omega) (wd_mem (by omega) X)
  have mX := wd_mem (B := 18446744073709551616) (by omega) X
  have mY := wd_mem (B := 18446744073709551616) (by omega) Y
  have k1 := hcx (m + 1) (by omega)
  have k0 := hcx m (by omega)
  have bx0 := mem_getD mX (by omega : 0 < 18446744073709551616) m
  rw [ht] at t1 t2 z1 z2
  obtain ⟨ε, e1, e2⟩ := lead_split ((wd 18446744073709551616 X)[m + 1]?.getD 0) ((wd 18446744073709551616 X)[m]?.getD 0) m (lz ((wd 18446744073709551616 X)[m + 1]?.getD 0)) _ z1 lX
  rw [← eX] at e1
  have haB := top_sum _ _ _ z1 bx0 z2
  rcases Nat.lt_or_ge (wd 18446744073709551616 Y).length (m + 2) with hsh | hsh
  · have hny : (wd 18446744073709551616 Y).length = m + 1 := by omega
    have eY := one_top Y m hny
    have lY := vl_take_lt (wd 18446744073709551616 Y) m (by omega) mY
    obtain ⟨δ, f1, f2⟩ := lead_split 0 ((wd 18446744073709551616 Y)[m]?.getD 0) m (lz ((wd 18446744073709551616 X)[m + 1]?.getD 0)) _ z1 lY
    rw [← eY] at f1
    rw [Nat.zero_mul] at f1
    have hda := lead_le _ _ _ _ _ X Y e1 f1 e2 hle
    exact stepsOf_less b1 o1 c1 b2 o2 c2 _ _ w ((wd 18446744073709551616 X)[m + 1]?.getD 0) ((wd 18446744073709551616 X)[m]?.getD 0) 0 ((wd 18446744073709551616 Y)[m]?.getD 0) _ (0 + (wd 18446744073709551616 Y)[m]?.getD 0 / 2 ^ (64 - lz ((wd 18446744073709551616 X)[m + 1]?.getD 0))) (lz ((wd 18446744073709551616 X)[m + 1]?.getD 0)) m X Y hm hny (by omega) k1 k0 (fun h => by omega) (hcy m (by omega)) t1 t2 bx0 (by omega) (mem_getD mY (by omega) m) z1 (by show _ = _; rfl) (by show _ = _; rfl) (by show _ = _; rw [if_neg (by omega)]) z2 (fun h => by omega) haB (Nat.lt_of_le_of_lt hda haB) hda (fun a b xx xy yx yy back h => StepsOK.of h X Y _ ε δ e1 f1 e2 f2) hc1 hc2
  · have hny : (wd 18446744073709551616 Y).length = m + 2 := by omega
    have eY := two_top Y m hny
    have lY := vl_take_lt (wd 18446744073709551616 Y) m (by omega) mY
    obtain ⟨δ, f1, f2⟩ := lead_split ((wd 18446744073709551616 Y)[m + 1]?.getD 0) ((wd 18446744073709551616 Y)[m]?.getD 0) m (lz ((wd 18446744073709551616 X)[m + 1]?.getD 0)) _ z1 lY
    rw [← eY] at f1
    have hda := lead_le _ _ _ _ _ X Y e1 f1 e2 hle
    exact stepsOf_same b1 o1 c1 b2 o2 c2 _ _ w ((wd 18446744073709551616 X)[m + 1]?.getD 0) ((wd 18446744073709551616 X)[m]?.getD 0) ((wd 18446744073709551616 Y)[m + 1]?.getD 0) ((wd 18446744073709551616 Y)[m]?.getD 0) _ _ (lz ((wd 18446744073709551616 X)[m + 1]?.getD 0)) m X Y hm hny (by omega) k1 k0 (fun _ => hcy (m + 1) (by omega)) (hcy m (by omega)) t1 t2 bx0 (mem_getD mY (by omega) _) (mem_getD mY (by omega) m) z1 (by show _ = _; rfl) (by show _ = _; rfl) (by show _ = _; rw [if_pos hny]) z2 (fun _ => Nat.lt_of_le_of_lt (Nat.le_trans (Nat.le_add_right _ _) hda) haB) haB (Nat.lt_of_le_of_lt hda haB) hda (fun a b xx xy yx yy back h => StepsOK.of h X Y _ ε δ e1 f1 e2 f2) hc1 hc2

/-- what becomes of two numbers: lesser ones with the same divisors -/
def Less (lo : Nat) (w : World) (X Y : Nat) (e : Ending) (w' : World) : Prop := ∃ v1 v2 X' Y', e = .returned (.tuple #[v1, v2]) ∧ Pair lo w' v1 v2 X' Y' ∧ Y' ≤ X' ∧ Y' < Y ∧ X' ≤ X ∧ Nat.gcd X' Y' = Nat.gcd X Y ∧ ∃ l : List Nat, (∀ x ∈ l, lo ≤ x) ∧ But l w w'

theorem gcd_mod (X Y : Nat) : Nat.gcd Y (X % Y) = Nat.gcd X Y := by rw [Nat.gcd_comm X Y, Nat.gcd_rec Y X, Nat.gcd_comm]

set_option maxHeartbeats 4000000 in
set_option maxRecDepth 100000 in
theorem taken_any (lo : Nat) (vx vy : Value) (X Y xx xy yx yy : Nat) (back : Bool) (w : World) (hp : Pair lo w vx vy X Y) (h2 : 2 ≤ (wd 18446744073709551616 Y).length) (hle : Y ≤ X) (hl : (wd 18446744073709551616 X).length < 1073741824) (hxx : xx < 18446744073709551616) (hxy : xy < 18446744073709551616) (hyx : yx < 18446744073709551616) (hyy : yy < 18446744073709551616) (hs : StepsOK X Y xx xy yx yy back) (hne : xy ≠ 0) :
    Calls Tryz.prog 149 #[.agg #[.int .u64 (xx : Int), .int .u64 (xy : Int), .int .u64 (yx : Int), .int .u64 (yy : Int), .bool back], vx, vy] w fun e w' => Less lo w X Y e w' := by
  have hlen := wd_len_mono hle
  rcases hs with h0 | ⟨X', Y', hrel, hlt, hXY, hg⟩
  · exact absurd h0 hne
  have mX := wd_mem (B := 18446744073709551616) (by omega) X
  have mY := wd_mem (B := 18446744073709551616) (by omega) Y
  rcases hp.s1.open with ⟨e, -⟩ | ⟨-, g1, o1, c1, rfl, hc1, -, -⟩
  · rw [e, List.length_nil] at hlen; omega
  rcases hp.s2.open with ⟨e, -⟩ | ⟨-, g2, o2, c2, rfl, hc2, -, -⟩
  · rw [e] at h2; simp at h2
  have hap : g1 ≠ g2 := hp.ap _ _ _ _ _ _ _ _ rfl rfl
  obtain ⟨l1, f1⟩ := hp.o1 _ _ _ _ rfl
  obtain ⟨l2, f2⟩ := hp.o2 _ _ _ _ rfl
  have s1 := hp.s1.seg f1
  have s2 := hp.s2.seg f2
  have sP := s1.sub 0 (wd 18446744073709551616 Y).length (by omega)
  rw [List.drop_zero, Nat.add_zero] at sP
  have lP : ((wd 18446744073709551616 X).take (wd 18446744073709551616 Y).length).length = (wd 18446744073709551616 Y).length := by rw [List.length_take]; omega
  have eP := vl_drop_div (wd 18446744073709551616 X) (wd 18446744073709551616 Y).length hlen
  rw [vl_wd (by omega)] at eP
  have eQ : Y = vl 18446744073709551616 (wd 18446744073709551616 Y) + 18446744073709551616 ^ (wd 18446744073709551616 Y).length * 0 := by rw [vl_wd (by omega)]; omega
  have hYl := lt_wd Y
  have mP : ∀ x ∈ (wd 18446744073709551616 X).take (wd 18446744073709551616 Y).length, x < 18446744073709551616 := fun x hx => mX x (List.mem_of_mem_take hx)
  cases back
  · simp only [Bool.false_eq_true, if_false] at hrel
    refine (taken_fwd g1 o1 c1 g2 o2 c2 _ _ ((wd 18446744073709551616 X).take (wd 18446744073709551616 Y).length) (wd 18446744073709551616 Y) w xx xy yx yy hxx hxy hyx hyy hap sP s2 lP rfl (by omega) hlen hc1 hc2 hl mP mY X' Y' (fun ps' qs' u d l r b o h => ?_)).mono ?_
    · exact h.fin' lP lP X Y X' Y' _ 0 eP eQ hrel.1 hrel.2 (by omega) (by omega)
    · rintro e w' ⟨v1, v2, rfl, h1, h2', hb, ho1, ho2⟩
      exact ⟨v1, v2, X', Y', rfl, ⟨h1, h2', ho1.own l1, ho2.own l2, fun b off n c b' off' n' c' e1 e2 => by rw [(ho1 _ _ _ _ e1).1, (ho2 _ _ _ _ e2).1]; exact hap⟩, by omega, by omega, by omega, hg, [g1, g2], fun x hx => by simp at hx; rcases hx with rfl | rfl <;> assumption, hb⟩
  · simp only [if_true] at hrel
    refine (taken_back g1 o1 c1 g2 o2 c2 _ _ (wd 18446744073709551616 Y) ((wd 18446744073709551616 X).take (wd 18446744073709551616 Y).length) w xx xy yx yy hxx hxy hyx hyy hap sP s2 rfl lP (by omega) hlen hc1 hc2 hl mY mP X' Y' (fun ps' qs' u d l r b o h => ?_)).mono ?_
    · exact h.fin' rfl lP.symm Y X X' Y' 0 _ eQ eP hrel.1 hrel.2 (by omega) (by omega)
    · rintro e w' ⟨v1, v2, rfl, h1, h2', hb, ho1, ho2⟩
      exact ⟨v1, v2, X', Y', rfl, ⟨h1, h2', ho1.own l2, ho2.own l1, fun b off n c b' off' n' c' e1 e2 => by rw [(ho1 _ _ _ _ e1).1, (ho2 _ _ _ _ e2).1]; exact hap.symm⟩, by omega, by omega, by omega, hg, [g1, g2], fun x hx => by simp at hx; rcases hx with rfl | rfl <;> assumption, hb⟩
end Go.Proofs.YtjbboicccddhbaaGreatDoor

namespace Go.Proofs.YtjbboicccddhbaaGreatDoor
open Go.RowKit

theorem append_byte (w : World) (base : Nat) (v : Value) (ds : List UInt8) (hown : w.ownsRow base 5 1 v ds.length (ds.map u8v)) (a : Addr) (d : UInt8) (hc : w.cell? a = some (u8v d)) (hl : ds.length < 1073741824) (hb : base ≤ w.heap.size) :
    ∃ v' w', (Builtin.append_ #[123, 123] 123 #[v, .slice (some a) 1 1]).run Tryz.prog w = .ok v' w' ∧ w'.ownsRow base 5 1 v' (ds ++ [d]).length ((ds ++ [d]).map u8v) ∧ w.grownBy w' v.ownBlock ∧ (v'.ownBlock = v.ownBlock ∨ ∀ k, v'.ownBlock = some k → w.heap.size ≤ k) := by
  obtain ⟨i0, hi, hz0, hz1, hz2⟩ := info_u8
  have hnews : ∀ j u, [u8v d][j]? = some u → w.cell? (a.add j) = some u := fun j u hj => by
    cases j with
    | zero => simp at hj; subst hj; rw [show a.add 0 = a from by simp [Addr.add]]; exact hc
    | succ j => simp at hj
  have h1 : ∀ u ∈ [u8v d], u.oneCell' = true := fun u hu => by simp at hu; subst hu; rfl
  have hrun := fun (base : Nat) (ho : w.ownsRow base 5 1 v ds.length (ds.map u8v)) (hb : base ≤ w.heap.size) => run_append_own (P := Tryz.prog) w base 123 123 5 i0 (.int .u8 0) 1 1 Tryz.underlying123 hi hz0 hz1 hz2 rfl (by decide) v ds.length (ds.map u8v) ho a 1 1 [u8v d] rfl hnews h1 (by unfold maxLen; omega) (by omega) hb
  obtain ⟨v', w', hr, ho', hg', -⟩ := hrun base hown hb
  refine ⟨v', w', hr, by rw [List.length_append, List.map_append]; exact ho', hg', ?_⟩
  rcases hown.2 with ⟨rfl, -⟩ | ⟨g, cap, cur, rfl, -, hgc, hnc, hcm, hcs, htake⟩
  · have hd : ds = [] := by
      obtain ⟨hx, hy | ⟨g, cap, cur, e, -⟩⟩ := hown
      · exact List.eq_nil_of_length_eq_zero hy.2
      · simp at e
    subst hd
    obtain ⟨v2, w2, hr2, ho2, -, -⟩ := hrun w.heap.size (World.ownsRow_nil _ _ _ _) (Nat.le_refl _)
    rw [hr] at hr2
    simp only [Result.ok.injEq] at hr2
    obtain ⟨rfl, rfl⟩ := hr2
    exact .inr fun k hk => (ho2.lt k hk).1
  · by_cases hroom : ds.length + 1 ≤ cap
    · have h2 := run_append_room (P := Tryz.prog) w 123 123 5 i0 Tryz.underlying123 hi g ds.length cap cur hgc a 1 1 [u8v d] (by rw [hz1]; rfl) hnews h1 hroom (by rw [hz1, hcs]; simp; omega)
      rw [hr] at h2
      simp only [Result.ok.injEq] at h2
      rw [h2.1]
      exact .inl rfl
    · have h2 := run_append_grow (P := Tryz.prog) w 123 123 5 i0 (.int .u8 0) Tryz.underlying123 hi hz0 ⟨g, 0, none⟩ ds.length cap (ds.map u8v) (by rw [hz1]; simp) (hown.cells rfl) a 1 1 [u8v d] (by rw [hz1]; rfl) hnews (by omega) (by omega) (growslice_fits (by omega) (by rw [hz2]; omega))
      rw [hr] at h2
      simp only [Result.ok.injEq] at h2
      rw [h2.1]
      refine .inr fun k hk => ?_
      simp only [Value.ownBlock, Option.some.injEq] at hk
      omega
end Go.Proofs.YtjbboicccddhbaaGreatDoor
