/- A row is cloned; numbers are lessened; the greatest common divisor of two numbers, as the Go text of package nat does it. -/
import Derived.Laws.Append
import Derived.OwnWalk
import Derived.WalkSpells
import Derived.Test.YtihiafgogbhjkaaGreatDoorPN18
namespace Go.Proofs.YtihiafgogbhjkaaGreatDoor
open Go.RowKit

/-- the built-in append, by its run -/
theorem wpList_app {P : Program} {w : World} {ops : Array Oper} {rest : List Oper} {o : Oper} {a : Act} {Q : Exit → Act → World → Prop} (hgd : o.guard = none) (s x : Operand) (t u : TypeId)
    (ho : o.op = .call { callee := .builtin .append, args := #[s, x], argTypes := #[t, u] }) (vs vx v' : Value) (w' : World) (hs : a.eval s = vs) (hx : a.eval x = vx)
    (hr : (Builtin.append_ #[t, u] o.type #[vs, vx]).run P w = .ok v' w') (h : wpList P ops Q rest (a.put o.dst v') w') : wpList P ops Q (o :: rest) a w :=
  wpList_plain hgd fun _ hK => by
    unfold Oper.wp execOp
    simp only [ho, resolve, invoke, builtin, Sem.run_bind, Sem.run_pure, Result.andThen_ok, List.map_toArray, List.map_cons, List.map_nil, hs, hx, hr]
    exact hK _ _ h

set_option maxHeartbeats 1000000 in
set_option maxRecDepth 100000 in
theorem clone_any (b off c : Nat) (xs : List Nat) (w : World) (hv : Sl .u64 w (.slice (some ⟨b, off, none⟩) xs.length c) xs) (h0 : 0 < xs.length) (hl : xs.length < 1073741824) :
    Calls Tryz.prog 122 #[.slice (some ⟨b, off, none⟩) xs.length c] w fun e w' => ∃ v', e = .returned v' ∧ Sl .u64 w' v' xs ∧ But [] w w' ∧ Own w.heap.size w' v' ∧ (∃ g c', v' = .slice (some ⟨g, 0, none⟩) xs.length c') := by
  have hnil := fun W => Lib.run_eql_slice_nil (P := Tryz.prog) W 82 24 (some ⟨b, off, none⟩) xs.length c 0 0 Tryz.underlying82
  obtain ⟨i, hi, hz, hs, hbt⟩ := info_u64
  obtain ⟨W0, hW0⟩ : ∃ W0, W0 = w.alloc (.cells #[] 24) := ⟨_, rfl⟩
  have hb0 : But [] w W0 := by rw [hW0]; exact (But.refl _ _).alloc _
  have hv0 := hv.but_nil hb0
  rcases hv0.open with ⟨e, -⟩ | ⟨-, b', off', c', e, hc, -, hcell⟩
  · rw [e] at h0; simp at h0
  simp only [Value.slice.injEq, Option.some.injEq, Addr.mk.injEq] at e
  obtain ⟨⟨rfl, rfl, -⟩, -, rfl⟩ := e
  have hr := fun ty => run_append_grow (P := Tryz.prog) W0 82 ty 24 i (.int .u64 0) Tryz.underlying82 hi hz ⟨w.heap.size, 0, none⟩ 0 0 [] (by simp) (by simp) ⟨b, off, none⟩ xs.length c (xs.map fun (x : Nat) => Value.int .u64 (x : Int)) (by simp [hs]) (fun j v hj => by
    obtain ⟨h1, rfl⟩ := getD_map_u64 xs j v hj
    rw [addr_add]; exact hcell j h1) (by omega) (by omega) (growslice_fits (by omega) (by rw [hbt]; omega))
  have hcg := grownCap_ge W0 (0 + xs.length) 0 24
  rw [Nat.zero_add] at hr hcg
  generalize grownCap W0 xs.length 0 24 = cg at hr hcg
  have hsz : W0.heap.size = w.heap.size + 1 := by rw [hW0]; simp
  rw [hW0] at hr
  have H := hide hr
  have HW0 := hide hW0
  have HB0 := hide hb0
  have HSZ := hide hsz
  clear hr hi hz hs hbt i hv hcell hv0 hW0 hb0 hsz
  go_enter Tryz.func122, Tryz.ntmps122
  go_wp2_with (at_builtin; refine wpList_app rfl _ _ 82 82 rfl _ _ _ _ rfl rfl (unhide H _) ?_)
  go_ret
  rw [← unhide HW0]
  have es : w.heap.size + 1 = W0.heap.size := (unhide HSZ).symm
  refine ⟨.slice (some ⟨w.heap.size + 1, 0, none⟩) xs.length cg, rfl, ?_, ((unhide HB0).alloc _).drew, ?_, ⟨_, _, rfl⟩⟩
  · rw [es]
    exact Sl.mk W0.heap.size 0 cg hcg (fun j hj => by
      rw [Nat.zero_add, World.cell?_drew, World.cell?_alloc_new, Array.getElem?_append_left (by simp; exact hj)]
      simp [hj]) (fun _ i v hv => by
      rw [World.cell?_drew, World.cell?_alloc_new] at hv
      have hm := Array.mem_of_getElem? hv
      rw [Array.mem_append] at hm
      rcases hm with hm | hm
      · simp only [List.mem_toArray, List.mem_map] at hm
        obtain ⟨x, -, rfl⟩ := hm
        exact ⟨_, rfl⟩
      · unfold Builtin.zeroCells at hm
        exact ⟨0, by simp at hm; grind⟩)
  · intro b off n c e
    simp only [Value.slice.injEq, Option.some.injEq, Addr.mk.injEq] at e
    obtain ⟨⟨rfl, rfl, -⟩, -, -⟩ := e
    refine ⟨by omega, fun i _ => ?_⟩
    rw [es]
    simp

/-- two rows that don't share a block -/
def Apart (v1 v2 : Value) : Prop := ∀ b off n c b' off' n' c', v1 = .slice (some ⟨b, off, none⟩) n c → v2 = .slice (some ⟨b', off', none⟩) n' c' → b ≠ b'
/-- the two numbers of a round: in rows of the call's own, apart from each other -/
structure Pair (lo : Nat) (w : World) (v1 v2 : Value) (X Y : Nat) : Prop where
  s1 : Sl .u64 w v1 (wd 18446744073709551616 X)
  s2 : Sl .u64 w v2 (wd 18446744073709551616 Y)
  o1 : Own lo w v1
  o2 : Own lo w v2
  ap : Apart v1 v2
theorem Sl.seg {w : World} {g o c n : Nat} {xs : List Nat} (h : Sl .u64 w (.slice (some ⟨g, o, none⟩) n c) xs) (ho : ∀ i, i < n → w.frozen? ⟨g, o + i, none⟩ = false) : Seg w g o xs := ⟨fun i hi => by
  obtain ⟨a, cap, e, -, hc, -⟩ := h
  simp only [Value.slice.injEq] at e
  obtain ⟨rfl, rfl, -⟩ := e
  obtain ⟨b, off, e, h2⟩ := hc i hi
  simp only [Option.some.injEq, Addr.mk.injEq] at e
  obtain ⟨rfl, rfl, -⟩ := e
  exact ⟨h2, ho i hi⟩, fun h0 => by
  obtain ⟨a, cap, e, -, -, hi⟩ := h
  simp only [Value.slice.injEq] at e
  obtain ⟨rfl, -, -⟩ := e
  exact hi _ _ rfl h0⟩
theorem OwnIn.own {g lo : Nat} {w : World} {v : Value} (h : OwnIn g w v) (hg : lo ≤ g) : Own lo w v := fun b off n c e => by
  obtain ⟨rfl, h2⟩ := h b off n c e
  exact ⟨hg, h2⟩
theorem Own.but {lo : Nat} {w w' : World} {v : Value} {k : IntKind} {xs : List Nat} (h : Own lo w v) (hs : Sl k w v xs) (hb : But [] w w') : Own lo w' v := fun b off n c e => by
  obtain ⟨h1, h2⟩ := h b off n c e
  refine ⟨h1, fun i hi => ?_⟩
  obtain ⟨a, cap, e2, -, hc, -⟩ := hs
  rw [e] at e2
  simp only [Value.slice.injEq] at e2
  obtain ⟨rfl, rfl, -⟩ := e2
  obtain ⟨b', off', e3, h4⟩ := hc i hi
  simp only [Option.some.injEq, Addr.mk.injEq] at e3
  obtain ⟨rfl, rfl, -⟩ := e3
  exact (hb.frozen (p := ⟨b, off + i, none⟩) (lt_of_cell h4) (by simp)).trans (h2 i hi)
theorem Pair.but {lo : Nat} {w w' : World} {v1 v2 : Value} {X Y : Nat} (h : Pair lo w v1 v2 X Y) (hb : But [] w w') : Pair lo w' v1 v2 X Y :=
  ⟨h.s1.but_nil hb, h.s2.but_nil hb, h.o1.but h.s1 hb, h.o2.but h.s2 hb, h.ap⟩
end Go.Proofs.YtihiafgogbhjkaaGreatDoor
