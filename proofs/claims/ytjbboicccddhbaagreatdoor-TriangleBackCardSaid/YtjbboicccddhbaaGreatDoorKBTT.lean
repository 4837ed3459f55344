/- Rows of whole numbers, and triangles, of the call's own, that grow; single places that hold one value. -/
import Derived.Test.YtjbboicccddhbaaGreatDoorKBEKr
import Derived.Test.YtjbboicccddhbaaGreatDoorKBL2
import Derived.Test.YtjbboicccddhbaaGreatDoorKBTL
namespace Go.Proofs.YtjbboicccddhbaaGreatDoor
open Go.RowKit
set_option linter.unusedVariables false

theorem info_int : ∃ i, Tryz.prog.info? 3 = some i ∧ i.zero = some (.int .i64 0) ∧ i.size = 1 ∧ i.bytes = 8 := by
  have h : (Tryz.prog.info? 3).map (fun i => (i.zero, i.size, i.bytes)) = some (some (.int .i64 0), 1, 8) := by kernel_rfl
  cases e : Tryz.prog.info? 3 with
  | none => rw [e] at h; simp at h
  | some i =>
    rw [e] at h
    simp only [Option.map_some, Option.some.injEq, Prod.mk.injEq] at h
    exact ⟨i, rfl, h.1, h.2.1, h.2.2⟩
theorem info_ints : ∃ i, Tryz.prog.info? 53 = some i ∧ i.zero = some (.slice none 0 0) ∧ i.size = 1 ∧ i.bytes = 24 := by
  have h : (Tryz.prog.info? 53).map (fun i => (i.zero, i.size, i.bytes)) = some (some (.slice none 0 0), 1, 24) := by kernel_rfl
  cases e : Tryz.prog.info? 53 with
  | none => rw [e] at h; simp at h
  | some i =>
    rw [e] at h
    simp only [Option.map_some, Option.some.injEq, Prod.mk.injEq] at h
    exact ⟨i, rfl, h.1, h.2.1, h.2.2⟩
/-- whole numbers as values -/
def vI (xs : List Int) : List Value := xs.map (Value.int .i64)
/-- a row of whole numbers of the call's own -/
def OwnI (w : World) (base : Nat) (v : Value) (xs : List Int) : Prop := w.ownsRow base 3 1 v xs.length (vI xs)
theorem OwnI.nil (w : World) (base : Nat) : OwnI w base (.slice none 0 0) [] := World.ownsRow_nil _ _ _ _
theorem OwnI.but {w w' : World} {base : Nat} {v : Value} {xs : List Int} (h : OwnI w base v xs) (hb : But [] w w') : OwnI w' base v xs := ownsRow_but h hb
theorem OwnI.mono {w : World} {base b2 : Nat} {v : Value} {xs : List Int} (h : OwnI w base v xs) (hb : b2 ≤ base) : OwnI w b2 v xs := by
  refine ⟨h.1, ?_⟩
  rcases h.2 with e | ⟨g, cap, cur, e, h1, h2⟩
  · exact .inl e
  · exact .inr ⟨g, cap, cur, e, Nat.le_trans hb h1, h2⟩
theorem OwnI.row {w : World} {base : Nat} {v : Value} {xs : List Int} (h : OwnI w base v xs) : RowI w v xs := by
  rcases h.2 with ⟨rfl, h0⟩ | ⟨g, cap, cur, rfl, h1, h2, h3, -⟩
  · have : xs = [] := List.length_eq_zero_iff.1 h0
    subst this
    exact ⟨none, 0, rfl, Nat.le_refl _, fun i x hx => by simp at hx⟩
  · refine ⟨_, cap, rfl, h3, fun i x hx => ⟨g, 0, rfl, ?_⟩⟩
    have hc := h.cells (g := g) rfl i (.int .i64 x) (by unfold vI; rw [List.getElem?_map, hx]; rfl)
    have e : (⟨g, 0, none⟩ : Addr).add i = ⟨g, 0 + i, none⟩ := by
      by_cases hz : i = 0
      · simp [Addr.add, hz]
      · simp [Addr.add, hz]
    rw [e] at hc
    exact hc
theorem OwnI.calm {A B : World} {base : Nat} {v : Value} {xs : List Int} (h : OwnI A base v xs) (hb : ∀ (k : Nat) (o : Obj), A.heap[k]? = some o → o.isCells = true → B.heap[k]? = some o) : OwnI B base v xs := by
  refine ⟨h.1, ?_⟩
  rcases h.2 with e | ⟨g, cap, cur, e, h1, h2, h3⟩
  · exact .inl e
  · exact .inr ⟨g, cap, cur, e, h1, hb g _ h2 rfl, h3⟩
theorem append_int (w : World) (base : Nat) (v : Value) (xs : List Int) (hown : OwnI w base v xs) (g : Nat) (z : Int) (c : w.cell? ⟨g, 0, none⟩ = some (.int .i64 z)) (hk : xs.length < 1000000) (hb : base ≤ w.heap.size) :
    ∃ v' w', (Builtin.append_ #[53, 53] 53 #[v, .slice (some ⟨g, 0, none⟩) 1 1]).run Tryz.prog w = .ok v' w' ∧ OwnI w' base v' (xs ++ [z]) ∧ w.grownBy w' v.ownBlock := by
  obtain ⟨i0, hi, hz0, hz1, hz2⟩ := info_int
  obtain ⟨v', w', hr, ho, hg, -⟩ := run_append_own (P := Tryz.prog) w base 53 53 3 i0 _ 1 8 Tryz.underlying53 hi hz0 hz1 hz2 rfl (by decide) v xs.length (vI xs) hown ⟨g, 0, none⟩ 1 1 [.int .i64 z] rfl (fun j u hj => by
      cases j with
      | zero => simp at hj; subst hj; exact c
      | succ j => simp at hj) (fun u hu => by
      simp only [List.mem_cons, List.not_mem_nil, or_false] at hu
      subst hu
      rfl) (by unfold maxLen; omega) (by omega) hb
  refine ⟨v', w', hr, ?_, hg⟩
  unfold OwnI vI at *
  rw [List.length_append, List.map_append]
  exact ho
/-- a triangle of the call's own -/
def TriG (w : World) (base : Nat) (v : Value) (rs : List (List Int)) : Prop := ∃ us : List Value, us.length = rs.length ∧ w.ownsRow base 53 1 v rs.length us ∧ ∀ (i : Nat) (r : List Int), rs[i]? = some r → ∃ u, us[i]? = some u ∧ OwnI w base u r
theorem TriG.nil (w : World) (base : Nat) : TriG w base (.slice none 0 0) [] := ⟨[], rfl, World.ownsRow_nil _ _ _ _, fun i r h => by simp at h⟩
theorem TriG.but {w w' : World} {base : Nat} {v : Value} {rs : List (List Int)} (h : TriG w base v rs) (hb : But [] w w') : TriG w' base v rs := by
  obtain ⟨us, h1, h2, h3⟩ := h
  refine ⟨us, h1, ownsRow_but h2 hb, fun i r hr => ?_⟩
  obtain ⟨u, e, ho⟩ := h3 i r hr
  exact ⟨u, e, ho.but hb⟩
theorem TriG.calm {A B : World} {base : Nat} {v : Value} {rs : List (List Int)} (h : TriG A base v rs) (hb : ∀ (k : Nat) (o : Obj), A.heap[k]? = some o → o.isCells = true → B.heap[k]? = some o) : TriG B base v rs := by
  obtain ⟨us, h1, h2, h3⟩ := h
  refine ⟨us, h1, ⟨h2.1, ?_⟩, fun i r hr => ?_⟩
  · rcases h2.2 with e | ⟨g, cap, cur, e, q1, q2, q3⟩
    · exact .inl e
    · exact .inr ⟨g, cap, cur, e, q1, hb g _ q2 rfl, q3⟩
  · obtain ⟨u, e, ho⟩ := h3 i r hr
    exact ⟨u, e, ho.calm hb⟩
theorem TriG.mono {w : World} {base b2 : Nat} {v : Value} {rs : List (List Int)} (h : TriG w base v rs) (hb : b2 ≤ base) : TriG w b2 v rs := by
  obtain ⟨us, h1, h2, h3⟩ := h
  refine ⟨us, h1, ⟨h2.1, ?_⟩, fun i r hr => ?_⟩
  · rcases h2.2 with e | ⟨g, cap, cur, e, q1, q2⟩
    · exact .inl e
    · exact .inr ⟨g, cap, cur, e, Nat.le_trans hb q1, q2⟩
  · obtain ⟨u, e, ho⟩ := h3 i r hr
    exact ⟨u, e, ho.mono hb⟩
/-- rows stay where a block of another type turns -/
theorem OwnI.apart {w w' : World} {base : Nat} {v : Value} {xs : List Int} (h : OwnI w base v xs) {g : Nat} {cur : Array Value} {T : TypeId} (hg : w.heap[g]? = some (.cells cur T (0, 0))) (hT : T ≠ 3) (hb : But [g] w w') : OwnI w' base v xs := by
  refine ⟨h.1, ?_⟩
  rcases h.2 with e | ⟨g', cap, cur', e, h1, h2, h3⟩
  · exact .inl e
  · refine .inr ⟨g', cap, cur', e, h1, ?_, h3⟩
    have hne : g' ≠ g := by
      rintro rfl
      rw [hg] at h2
      simp only [Option.some.injEq, Obj.cells.injEq] at h2
      exact hT h2.2.1
    exact (hb.block g' (Array.getElem?_eq_some_iff.1 h2).1 (by simpa using hne)).trans h2
theorem TriG.apart {w w' : World} {base : Nat} {v : Value} {rs : List (List Int)} (h : TriG w base v rs) {g : Nat} {cur : Array Value} {T : TypeId} (hg : w.heap[g]? = some (.cells cur T (0, 0))) (hT : T ≠ 3) (hT2 : T ≠ 53) (hb : But [g] w w') : TriG w' base v rs := by
  obtain ⟨us, h1, h2, h3⟩ := h
  refine ⟨us, h1, ⟨h2.1, ?_⟩, fun i r hr => ?_⟩
  · rcases h2.2 with e | ⟨g', cap, cur', e, q1, q2, q3⟩
    · exact .inl e
    · refine .inr ⟨g', cap, cur', e, q1, ?_, q3⟩
      have hne : g' ≠ g := by
        rintro rfl
        rw [hg] at q2
        simp only [Option.some.injEq, Obj.cells.injEq] at q2
        exact hT2 q2.2.1
      exact (hb.block g' (Array.getElem?_eq_some_iff.1 q2).1 (by simpa using hne)).trans q2
  · obtain ⟨u, e, ho⟩ := h3 i r hr
    exact ⟨u, e, ho.apart hg hT hb⟩
theorem TriG.tri {w : World} {base : Nat} {v : Value} {rs : List (List Int)} (h : TriG w base v rs) : TriAt w v rs := by
  obtain ⟨us, h1, h2, h3⟩ := h
  rcases id h2.2 with ⟨rfl, h0⟩ | ⟨g, cap, cur, rfl, q1, q2, q3, -⟩
  · have : rs = [] := List.length_eq_zero_iff.1 h0
    subst this
    exact ⟨none, 0, rfl, Nat.le_refl _, fun i x hx => by simp at hx⟩
  · refine ⟨_, cap, rfl, q3, fun i r hr => ?_⟩
    obtain ⟨u, e, ho⟩ := h3 i r hr
    have hc := h2.cells (g := g) rfl i u e
    have e : (⟨g, 0, none⟩ : Addr).add i = ⟨g, 0 + i, none⟩ := by
      by_cases hz : i = 0
      · simp [Addr.add, hz]
      · simp [Addr.add, hz]
    rw [e] at hc
    exact ⟨g, 0, u, rfl, hc, ho.row⟩
theorem TriG.cap {w : World} {base : Nat} {v : Value} {rs : List (List Int)} (h : TriG w base v rs) (a : Option Addr) (n c : Nat) (e : v = .slice a n c) : c ≤ 9223372036854775807 := by
  obtain ⟨us, h1, h2, h3⟩ := h
  rcases h2.2 with ⟨rfl, h0⟩ | ⟨g, cap, cur, rfl, q1, q2, q3, q4, -⟩
  · simp only [Value.slice.injEq] at e
    omega
  · simp only [Value.slice.injEq] at e
    unfold maxLen at q4
    omega
theorem append_row (w : World) (base : Nat) (v : Value) (rs : List (List Int)) (h : TriG w base v rs) (g : Nat) (u : Value) (r : List Int) (hu : OwnI w base u r) (c : w.cell? ⟨g, 0, none⟩ = some u) (hk : rs.length < 1000000) (hb : base ≤ w.heap.size) :
    ∃ v' w', (Builtin.append_ #[74, 74] 74 #[v, .slice (some ⟨g, 0, none⟩) 1 1]).run Tryz.prog w = .ok v' w' ∧ TriG w' base v' (rs ++ [r]) ∧ w.grownBy w' v.ownBlock ∧ (∀ b, v.ownBlock = some b → ∃ cur, w.heap[b]? = some (.cells cur 53 (0, 0))) := by
  obtain ⟨i0, hi, hz0, hz1, hz2⟩ := info_ints
  obtain ⟨us, h1, h2, h3⟩ := h
  have hone : u.oneCell' = true := by
    obtain ⟨a, c, rfl⟩ := ownsRow_form hu
    rfl
  obtain ⟨v', w', hr, ho, hg, -⟩ := run_append_own (P := Tryz.prog) w base 74 74 53 i0 _ 1 24 Tryz.underlying74 hi hz0 hz1 hz2 rfl (by decide) v rs.length us h2 ⟨g, 0, none⟩ 1 1 [u] rfl (fun j x hj => by
      cases j with
      | zero => simp at hj; subst hj; exact c
      | succ j => simp at hj) (fun x hx => by
      simp only [List.mem_cons, List.not_mem_nil, or_false] at hx
      subst hx
      exact hone) (by unfold maxLen; omega) (by omega) hb
  have hty : ∀ b, v.ownBlock = some b → ∃ cur, w.heap[b]? = some (.cells cur 53 (0, 0)) := fun b hb => by
    rcases h2.2 with ⟨rfl, -⟩ | ⟨g', cap, cur, rfl, q1, q2, -⟩
    · simp [Value.ownBlock] at hb
    · simp only [Value.ownBlock, Option.some.injEq] at hb
      subst hb
      exact ⟨cur, q2⟩
  have keep : ∀ {x : Value} {q : List Int}, OwnI w base x q → OwnI w' base x q := fun {x q} hx => by
    refine hx.kept hg ?_
    by_cases e0 : x.ownBlock = none
    · exact .inl e0
    · refine .inr fun e => ?_
      cases e1 : x.ownBlock with
      | none => exact e0 e1
      | some b =>
        rw [e1] at e
        obtain ⟨cur, hc⟩ := hty b e.symm
        rcases hx.2 with ⟨rfl, -⟩ | ⟨g', cap, cur', rfl, q1, q2, -⟩
        · simp [Value.ownBlock] at e1
        · simp only [Value.ownBlock, Option.some.injEq] at e1
          subst e1
          rw [q2] at hc
          simp at hc
  refine ⟨v', w', hr, ⟨us ++ [u], by simp [h1], by rw [List.length_append]; exact ho, fun i q hq => ?_⟩, hg, hty⟩
  rcases Nat.lt_or_ge i rs.length with hlt | hge
  · rw [List.getElem?_append_left hlt] at hq
    obtain ⟨x, e, hx⟩ := h3 i q hq
    exact ⟨x, by rw [List.getElem?_append_left (by omega)]; exact e, keep hx⟩
  · have hi0 : i = rs.length := by
      have := (List.getElem?_eq_some_iff.1 hq).1
      simp at this
      omega
    subst hi0
    simp only [Nat.le_refl, List.getElem?_append_right, Nat.sub_self, List.getElem?_cons_zero, Option.some.injEq] at hq
    subst hq
    exact ⟨u, by rw [List.getElem?_append_right (by omega), h1, Nat.sub_self]; rfl, keep hu⟩
/-- a place that holds one value -/
def Box1 (w : World) (b : Nat) (T : TypeId) (v : Value) : Prop := w.heap[b]? = some (.cells #[v] T (0, 0))
theorem Box1.new (w : World) (T : TypeId) (v : Value) : Box1 (w.alloc (.cells #[v] T)) w.heap.size T v := World.alloc_heap_new w _
theorem Box1.lt {w : World} {b : Nat} {T : TypeId} {v : Value} (h : Box1 w b T v) : b < w.heap.size := (Array.getElem?_eq_some_iff.1 h).1
theorem Box1.beside {w w' : World} {b : Nat} {T : TypeId} {v : Value} {l : List Nat} (h : Box1 w b T v) (hb : But l w w') (hn : b ∉ l) : Box1 w' b T v := (hb.block b h.lt hn).trans h
theorem Box1.but {w w' : World} {b : Nat} {T : TypeId} {v : Value} (h : Box1 w b T v) (hb : But [] w w') : Box1 w' b T v := h.beside hb (by simp)
theorem Box1.calm {A B : World} {b : Nat} {T : TypeId} {v : Value} (h : Box1 A b T v) (hb : ∀ (k : Nat) (o : Obj), A.heap[k]? = some o → o.isCells = true → B.heap[k]? = some o) : Box1 B b T v := hb b _ h rfl
theorem Box1.cell {w : World} {b : Nat} {T : TypeId} {v : Value} (h : Box1 w b T v) : w.cell? ⟨b, 0, none⟩ = some v := by
  unfold Box1 at h
  simp [World.cell?, h]
theorem Box1.loose {w : World} {b : Nat} {T : TypeId} {v : Value} (h : Box1 w b T v) (o : Nat) : w.frozen? ⟨b, o, none⟩ = false := by
  unfold Box1 at h
  simp [World.frozen?, h]
theorem Box1.set {w : World} {b : Nat} {T : TypeId} {v : Value} (h : Box1 w b T v) (u : Value) : Box1 (w.setCell ⟨b, 0, none⟩ u) b T u := by
  unfold Box1 at h ⊢
  simp [World.setCell, Array.getElem?_modify, h]
theorem setCell_but (w : World) (b : Nat) (u : Value) : But [b] w (w.setCell ⟨b, 0, none⟩ u) := but_setCells w b [u] 0
end Go.Proofs.YtjbboicccddhbaaGreatDoor

namespace Go.Proofs.YtjbboicccddhbaaGreatDoor
open Go.RowKit Go.Shelf
set_option linter.unusedVariables false
attribute [local go_sem] Oper.semAt_some

theorem wpListIn_app {F : Fence} {n : Nat} {P : Program} {w : World} {ops : Array Oper} {rest : List Oper} {o : Oper} {a : Act} {Q : Exit → Act → World → Prop} (hgd : o.guard = none) (s x : Operand) (t u : TypeId)
    (hop : o.op = .call { callee := .builtin .append, args := #[s, x], argTypes := #[t, u] }) (vs vx v' : Value) (w' : World) (hs : a.eval s = vs) (hx : a.eval x = vx)
    (hr : (Builtin.append_ #[t, u] o.type #[vs, vx]).run P w = .ok v' w') (h : wpListIn F n P ops Q rest (a.put o.dst v') w') : wpListIn F n P ops Q (o :: rest) a w := by
  refine wpListIn_plain hgd fun K hK' => ?_
  unfold Oper.wpIn
  refine ⟨?_, ?_⟩
  · simp [Oper.about, hop, resolve, Target.leads, Sem.run_pure]
  · rw [Oper.semAt_plain F _ _ (by rw [hop]; intro c hc'; cases hc')]
    simp [execOp, hop, resolve, invoke, builtin, hs, hx, hr, Result.andThen]
    exact hK' _ _ h
theorem but_of_grownO {w w' : World} {row : Option Nat} (hg : w.grownBy w' row) : But row.toList w w' :=
  ⟨hg.os, hg.tape, hg.output, hg.size, fun j hj hn => hg.block j hj (by
    rintro rfl
    simp at hn)⟩
theorem keeps_of_butL {W V : World} {l : List Nat} (hb : But l W V) (hc : ∀ g ∈ l, ∃ cur T, W.heap[g]? = some (.cells cur T (0, 0))) (B n₀ b : Nat) (hn : n₀ ≤ W.heap.size) (hl : ∀ g ∈ l, g = b ∨ n₀ ≤ g) : KeepsFrom B W V ∧ KeptT n₀ [b] W V :=
  ⟨⟨hb.size, fun k o _ hk ho => by
    refine (hb.block k (Array.getElem?_eq_some_iff.1 hk).1 (fun hm => ?_)).trans hk
    obtain ⟨cur, T, h⟩ := hc k hm
    rw [hk] at h
    obtain rfl := Option.some.inj h
    simp [Obj.isCells] at ho⟩, fun k hk hne => hb.block k (by omega) (fun hm => by
    rcases hl k hm with e | e
    · exact hne (by simp [e])
    · omega)⟩
theorem calm_all {A B : World} {row : Option Nat} (hg : A.grownBy B row) (hr : ∀ r, row = some r → ∃ o : Obj, A.heap[r]? = some o ∧ o.isCells = false) (k : Nat) (o : Obj) (hk : A.heap[k]? = some o) (ho : o.isCells = true) : B.heap[k]? = some o := by
  refine (hg.block k (Array.getElem?_eq_some_iff.1 hk).1 (fun e => ?_)).trans hk
  obtain ⟨o', h1, h2⟩ := hr k e.symm
  rw [hk] at h1
  obtain rfl := Option.some.inj h1
  rw [ho] at h2
  simp at h2
/-- the numbers of places -/
def valL (xs : List Int) {n : Nat} (pre : List (Fin n)) : List Int := pre.map fun i => xs[i.1]?.getD 0
theorem valL_all (xs : List Int) (n : Nat) (h : n = xs.length) : valL xs (List.finRange n) = xs := by
  subst h
  unfold valL
  refine List.ext_getElem? fun i => ?_
  by_cases hi : i < xs.length
  · rw [List.getElem?_map, List.getElem?_eq_getElem (by simpa using hi), List.getElem?_eq_getElem hi]
    simp
  · rw [List.getElem?_eq_none (by simp; omega), List.getElem?_eq_none (by omega)]
/-- what holds between two words -/
def ReadI (w W0 : World) (B4 B5 B6 : Nat) (ys : List Int) (W : World) : Prop := (∃ v, Box1 W B6 53 v ∧ OwnI W W0.heap.size v ys) ∧ Box1 W B4 53 (.slice none 0 0) ∧ Box1 W B5 30 .nilIface ∧ W0.heap.size ≤ W.heap.size ∧ But [] w W
theorem words_are (xs : List Int) (h : ∀ x ∈ xs, 0 ≤ x) : ∀ y ∈ xs.map Lib.itoa, y ≠ [] ∧ (32 : UInt8) ∉ y ∧ (10 : UInt8) ∉ y := fun y hy => by
  obtain ⟨x, hx, rfl⟩ := List.mem_map.1 hy
  rw [itoa_of x (h x hx)]
  refine ⟨digits_ne _, fun hm => ?_, fun hm => ?_⟩
  · have := digits_are _ _ hm
    simp at this
  · have := digits_are _ _ hm
    simp at this
/-- the state at a word -/
def actR (t : ByteArray) (pl : Int) (B3 B4 B5 B6 gB : Nat) (ps : Int) (word : ByteArray) : Act := { tmps := (Value.string t :: .int .i64 pl :: undef :: .pointer (some ⟨B3, 0, none⟩) :: .pointer (some ⟨B4, 0, none⟩) :: .pointer (some ⟨B5, 0, none⟩) :: .pointer (some ⟨B6, 0, none⟩) :: .int .i64 ps :: .string word :: undef :: undef :: .string t :: .func (.func 183) #[] #[.pointer (some ⟨gB, 0, none⟩)] :: .int .i64 ps :: .string word :: undef :: undef :: undef :: undef :: undef :: undef :: undef :: undef :: undef :: undef :: undef :: undef :: undef :: undef :: undef :: undef :: undef :: undef :: []).toArray, defers := [] }
set_option maxRecDepth 100000 in
set_option maxHeartbeats 16000000 in
theorem read_any (xs : List Int) (hx : ∀ x ∈ xs, 0 ≤ x ∧ x ≤ 1000000000000000) (hxl : xs.length ≤ 1000) (t : ByteArray) (ht : t.data.toList = jn 32 (xs.map Lib.itoa)) (hts : t.size ≤ 50000) (pl mx : Int) (w : World)
    (htab : Lib.TabIs Tryz.prog w "internal/strconv.uint64pow10" .u64 Lib.pow10Tab) (hm : w.cell? ⟨5, 0, none⟩ = some (.int .i64 mx)) :
    Calls Tryz.prog 88 #[.string t, .int .i64 pl] w fun e w' => ∃ v, e = .returned (.tuple #[v, .nilIface]) ∧ OwnI w' w.heap.size v xs ∧ But [] w w' := by
  obtain ⟨ws, hws⟩ : ∃ ws, ws = xs.map Lib.itoa := ⟨_, rfl⟩
  rw [← hws] at ht
  have hwl : ws.length = xs.length := by rw [hws]; simp
  have hw : ∀ y ∈ ws, y ≠ [] ∧ (32 : UInt8) ∉ y := fun y hy => by
    have := words_are xs (fun x h => (hx x h).1) y (by rw [← hws]; exact hy)
    exact ⟨this.1, this.2.1⟩
  have NB : Hid (∀ (i : Nat) (hi : i < ws.length) W, But [] w W → Calls Tryz.prog 138 #[.string ⟨(ws[i]).toArray⟩] W fun e w' => e = .returned (.tuple #[.int .i64 (xs[i]?.getD 0), .bool true]) ∧ But [] W w') := fun i hi W hW => by
    have hi' : i < xs.length := by omega
    have e : xs[i]?.getD 0 = xs[i] := by rw [List.getElem?_eq_getElem hi']; rfl
    rw [e]
    have hb := hx _ (List.getElem_mem hi')
    refine number_any xs[i] hb.1 hb.2 W (TabIs.but htab hW) _ ?_
    have : ws[i] = Lib.itoa xs[i] := by simp [hws]
    rw [this]
  have HWL := hide hwl
  have hwl1 : ws.length ≤ 1000 := by omega
  clear hws hwl
  have gm := lt_of_cell hm
  refine (callsIn_wide (n := 4)).1 ?_
  refine callsIn_of_wp_marks Tryz.func88 rfl trivial ?_ rfl
  simp only [Tryz.ntmps88, List.size_toArray, List.length_cons, List.length_nil, Nat.reduceAdd, Nat.reduceSub, Array.replicate_succ, Array.replicate_zero, List.push_toArray, List.append_toArray, List.nil_append, List.cons_append]
  gi_wp2_with (refine ⟨trivial, ?_⟩; gi_at_call 137; refine (words_in _ _ _).mono ?_; rintro e w' ⟨rfl, rfl⟩)
  obtain ⟨X1, hX1⟩ : ∃ X, X = w.alloc (.cells #[.int .i64 pl] 3) := ⟨_, rfl⟩
  obtain ⟨X2, hX2⟩ : ∃ X, X = X1.alloc (.cells #[.slice none 0 0] 53) := ⟨_, rfl⟩
  obtain ⟨X3, hX3⟩ : ∃ X, X = X2.alloc (.cells #[.nilIface] 30) := ⟨_, rfl⟩
  obtain ⟨X4, hX4⟩ : ∃ X, X = X3.alloc (.cells #[.slice none 0 0] 53) := ⟨_, rfl⟩
  obtain ⟨W0, hW0⟩ : ∃ X, X = X4.alloc (.cells #[.string t] 9) := ⟨_, rfl⟩
  have s1 : X1.heap.size = w.heap.size + 1 := by rw [hX1]; simp
  have s2 : X2.heap.size = w.heap.size + 2 := by rw [hX2]; simp [s1]
  have s3 : X3.heap.size = w.heap.size + 3 := by rw [hX3]; simp [s2]
  have s4 : X4.heap.size = w.heap.size + 4 := by rw [hX4]; simp [s3]
  have s5 : W0.heap.size = w.heap.size + 5 := by rw [hW0]; simp [s4]
  have b1 : But [] w X1 := by rw [hX1]; exact (But.refl _ _).alloc _
  have b2 : But [] X1 X2 := by rw [hX2]; exact (But.refl _ _).alloc _
  have b3 : But [] X2 X3 := by rw [hX3]; exact (But.refl _ _).alloc _
  have b4 : But [] X3 X4 := by rw [hX4]; exact (But.refl _ _).alloc _
  have b5 : But [] X4 W0 := by rw [hW0]; exact (But.refl _ _).alloc _
  have k4 : Box1 W0 X1.heap.size 53 (.slice none 0 0) := (((by rw [hX2]; exact Box1.new X1 _ _ : Box1 X2 X1.heap.size 53 (.slice none 0 0)).but b3).but b4).but b5
  have k5 : Box1 W0 X2.heap.size 30 .nilIface := ((by rw [hX3]; exact Box1.new X2 _ _ : Box1 X3 X2.heap.size 30 .nilIface).but b4).but b5
  have k6 : Box1 W0 X3.heap.size 53 (.slice none 0 0) := (by rw [hX4]; exact Box1.new X3 _ _ : Box1 X4 X3.heap.size 53 (.slice none 0 0)).but b5
  have kB : Box1 W0 X4.heap.size 9 (.string t) := by rw [hW0]; exact Box1.new X4 _ _
  have hBW : But [] w W0 := (((b1.trans' b2).trans' b3).trans' b4).trans' b5
  rw [← hX1, ← hX2, ← hX3, ← hX4, ← hW0]
  obtain ⟨gB, hgB⟩ : ∃ g, g = w.heap.size + 1 + 1 + 1 + 1 := ⟨_, rfl⟩
  obtain ⟨B6, hB6⟩ : ∃ g, g = w.heap.size + 1 + 1 + 1 := ⟨_, rfl⟩
  obtain ⟨B5, hB5⟩ : ∃ g, g = w.heap.size + 1 + 1 := ⟨_, rfl⟩
  obtain ⟨B4, hB4⟩ : ∃ g, g = w.heap.size + 1 := ⟨_, rfl⟩
  obtain ⟨B3, hB3⟩ : ∃ g, g = w.heap.size := ⟨_, rfl⟩
  rw [show X1.heap.size = B4 from by omega] at k4
  rw [show X2.heap.size = B5 from by omega] at k5
  rw [show X3.heap.size = B6 from by omega] at k6
  rw [show X4.heap.size = gB from by omega] at kB
  rw [← hgB, ← hB6, ← hB5, ← hB4, ← hB3]
  have o3 : w.heap.size ≤ B3 := by omega
  have o4 : B3 < B4 := by omega
  have o5 : B4 < B5 := by omega
  have o6 : B5 < B6 := by omega
  have oB : B6 < gB := by omega
  have oW : gB < W0.heap.size := by omega
  have hm0 := hBW.cell_some hm (by simp)
  have gm0 : 5 < B3 := by show _ < _; rw [hB3]; exact gm
  clear s1 s2 s3 s4 s5 b1 b2 b3 b4 b5 hX1 hX2 hX3 hX4 hW0 hgB hB6 hB5 hB4 hB3
  have cB := kB.cell
  refine wpIn_rangeFunc_ownH rfl (by omega) (gf := 183) (lb := #[.pointer (some ⟨gB, 0, none⟩)]) rfl trivial (enters_of Tryz.func183 (by kernel_rfl) rfl)
    (words_stops _ (by omega) gB W0.heap.size [B6] ws t ht hw hts mx W0 (Nat.le_refl _) cB (by omega) (by simp; omega) hm0 (by omega) (by simp; omega))
    (fun h k => KeptT.trans h k) (fun W l o o' hl _ _ _ => KeptT.put W l o' hl) (Below.refl _ _) (fun _ => rfl)
    (fun pre W => ReadI w W0 B4 B5 B6 (valL xs pre) W)
    (fun _ _ _ => False)
    (fun pre A B row ⟨⟨v, i1, i2⟩, i3, i4, i5, i6⟩ hg hr => by
      have hc := calm_all hg (fun r e => (hr r e).2)
      exact ⟨⟨v, i1.calm hc, i2.calm hc⟩, i3.calm hc, i4.calm hc, Nat.le_trans i5 hg.size, i6.grown hg (fun r e => by have := (hr r e).1; omega)⟩)
    (fun _ _ _ _ _ h _ _ => h)
    ⟨⟨_, k6, OwnI.nil _ _⟩, k4, k5, Nat.le_refl _, hBW⟩
    (fun x a' _ => a' = actR t pl B3 B4 B5 B6 gB ((posW 32 ws x.1 : Nat) : Int) ⟨(ws[x.1]).toArray⟩)
    (fun x a' _ A B row e hg hr => e) ?assign ?body ?done ?stop
  case assign =>
    rintro l pre x W K hi hK
    gi_wp2
    exact hK _ _ ((KeepsOthers.refl _).from _) (KeptT.refl _ _ _) hi rfl
  case body =>
    rintro l pre ⟨i, hi⟩ a' W hl' ⟨rec, hrec⟩ hI rfl hlt
    obtain ⟨⟨v, i1, i2⟩, i3, i4, i5, i6⟩ := id hI
    have NBi := hide (unhide NB i hi W i6)
    have hsn : Hid (valL xs (pre ++ [(⟨i, hi⟩ : Fin ws.length)]) = valL xs pre ++ [xs[i]?.getD 0]) := by
      show _ = _
      unfold valL
      rw [List.map_append]
      rfl
    have hpl : (valL xs pre).length < 1000000 := by unfold valL; rw [List.length_map]; omega
    obtain ⟨z, hz⟩ : ∃ z, z = xs[i]?.getD 0 := ⟨_, rfl⟩
    rw [← hz] at NBi hsn
    obtain ⟨word, hword⟩ : ∃ word : ByteArray, word = ⟨(ws[i]).toArray⟩ := ⟨_, rfl⟩
    rw [← hword] at NBi ⊢
    obtain ⟨ps, hps⟩ : ∃ ps : Int, ps = ((posW 32 ws i : Nat) : Int) := ⟨_, rfl⟩
    rw [← hps]
    unfold actR
    obtain ⟨ys, hys⟩ : ∃ ys, ys = valL xs pre := ⟨_, rfl⟩
    rw [← hys] at i2 hpl hsn hI
    have HI := hide hI
    have I1 := hide i1
    have I2 := hide i2
    have HB := hide i6
    clear hz hword hps hys hI i2 i3 i4 hlt NB hrec ht hw hx cB kB k4 k5 k6 i6
    gi_wp2_with fail
    refine ⟨trivial, ?_⟩
    refine (CallsIn.inRound l (callsIn_wide.2 (unhide NBi))).mono ?_
    rintro e w1 ⟨rfl, hb1⟩
    have B1 := hide hb1
    have j1 := (unhide I1).but hb1
    have jc := j1.cell
    obtain ⟨V, hV⟩ : ∃ V, V = w1.alloc (.cells #[.int .i64 z] 3) := ⟨_, rfl⟩
    have bV : But [] w1 V := by rw [hV]; exact (But.refl _ _).alloc _
    have cV : V.cell? ⟨w1.heap.size, 0, none⟩ = some (.int .i64 z) := by rw [hV]; simp
    have oV : OwnI V W0.heap.size v ys := ((unhide I2).but hb1).but bV
    have sV : W0.heap.size ≤ V.heap.size := Nat.le_trans i5 (Nat.le_trans hb1.size bV.size)
    obtain ⟨v', w', hr, ho, hg⟩ := append_int V W0.heap.size v ys oV w1.heap.size z cV hpl sV
    have bG := but_of_grownO hg
    have hown : ∀ g ∈ v.ownBlock.toList, W0.heap.size ≤ g ∧ (∃ cur, V.heap[g]? = some (.cells cur 3 (0, 0))) := fun g hgm => by
      rcases oV.2 with ⟨rfl, -⟩ | ⟨g', cap, cur, rfl, q1, q2, -⟩
      · simp [Value.ownBlock] at hgm
      · simp only [Value.ownBlock, Option.toList_some, List.mem_cons, List.not_mem_nil, or_false] at hgm
        subst hgm
        exact ⟨q1, cur, q2⟩
    have jV := j1.but bV
    have j6 : Box1 w' B6 53 v := jV.beside bG (fun hm => by have := (hown _ hm).1; omega)
    have cl6 := j6.cell
    have fz6 := j6.loose
    have FIN : Hid (KeepsFrom W0.heap.size W (w'.setCell ⟨B6, 0, none⟩ v') ∧ KeptT W0.heap.size [B6] W (w'.setCell ⟨B6, 0, none⟩ v') ∧ ReadI w W0 B4 B5 B6 (ys ++ [z]) (w'.setCell ⟨B6, 0, none⟩ v')) := by
      have hS := setCell_but w' B6 v'
      have b13 : But [] W V := hb1.trans' bV
      have hBB : But (v.ownBlock.toList ++ [B6]) W (w'.setCell ⟨B6, 0, none⟩ v') := ((But.of_nil b13 : But (v.ownBlock.toList ++ [B6]) W V).trans bG (fun x hx => .inl (List.mem_append_left _ hx))).trans hS (fun x hx => .inl (List.mem_append_right _ hx))
      have hcl : ∀ g ∈ v.ownBlock.toList ++ [B6], (g = B6 ∨ W0.heap.size ≤ g) ∧ ∃ cur T, W.heap[g]? = some (.cells cur T (0, 0)) := fun g hgm => by
        rcases List.mem_append.1 hgm with h | h
        · rcases (unhide I2).2 with ⟨rfl, -⟩ | ⟨g', cap, cur, rfl, q1, q2, -⟩
          · simp [Value.ownBlock] at h
          · simp only [Value.ownBlock, Option.toList_some, List.mem_cons, List.not_mem_nil, or_false] at h
            subst h
            exact ⟨.inr q1, cur, _, q2⟩
        · simp only [List.mem_cons, List.not_mem_nil, or_false] at h
          subst h
          exact ⟨.inl rfl, _, _, unhide I1⟩
      obtain ⟨h1, h2⟩ := keeps_of_butL hBB (fun g hgm => (hcl g hgm).2) W0.heap.size W0.heap.size B6 i5 (fun g hgm => (hcl g hgm).1)
      obtain ⟨-, i3, i4, -, -⟩ := unhide HI
      have hno : ∀ b, b < W0.heap.size → b ∉ v.ownBlock.toList := fun b hb hm => by have := (hown b hm).1; omega
      refine ⟨h1, h2, ⟨v', j6.set v', ho.apart j6 (by decide) hS⟩, ((i3.but b13).beside bG (hno _ (by omega))).beside hS (by simp; omega), ((i4.but b13).beside bG (hno _ (by omega))).beside hS (by simp; omega), Nat.le_trans i5 hBB.size, (unhide HB).trans hBB (fun x hx => .inr ?_)⟩
      rcases (hcl x hx).1 with e | e
      · omega
      · omega
    have HR : Hid ((Builtin.append_ #[53, 53] 53 #[v, .slice (some ⟨w1.heap.size, 0, none⟩) 1 1]).run Tryz.prog (w1.alloc (.cells #[.int .i64 z] 3)) = .ok v' w') := by rw [← hV]; exact hr
    obtain ⟨a', c', hv'⟩ := ownsRow_form ho
    obtain ⟨m', hm'⟩ : ∃ m', m' = (ys ++ [z]).length := ⟨_, rfl⟩
    rw [← hm'] at hv'
    subst hv'
    clear hr ho hg bG hown jV j6 hV bV cV oV sV j1 hb1 hm'
    gi_wp2_with (gi_at_builtin; refine wpListIn_app rfl _ _ 53 53 rfl _ _ (.slice a' m' c') w' rfl rfl (unhide HR) ?_)
    obtain ⟨f1, f2, f3⟩ := unhide FIN
    show KeepsFrom _ _ _ ∧ KeptT _ _ _ _ ∧ ReadI w W0 B4 B5 B6 _ _
    rw [unhide hsn]
    exact ⟨f1, f2, f3⟩
  case done =>
    rintro D zs W hD rfl hI hK
    obtain ⟨⟨v, i1, i2⟩, i3, i4, i5, i6⟩ := hI
    rw [valL_all xs ws.length (unhide HWL)] at i2
    obtain ⟨a', c', rfl⟩ := ownsRow_form i2
    obtain ⟨m', hm'⟩ : ∃ m', m' = xs.length := ⟨_, rfl⟩
    rw [← hm'] at i1 i2
    have I2 := hide i2
    have HM := hide hm'
    have HB := hide i6
    have I4 := hide i3
    have I5 := hide i4
    have c6 := i1.cell
    have c4 := i3.cell
    have c5 := i4.cell
    have z4 := i3.loose
    have z5 := i4.loose
    have l6 := i1.lt
    have l4 := i3.lt
    have l5 := i4.lt
    clear i1 i2 i3 i4 i6 hm' NB ht hw hx cB kB k4 k5 k6
    gi_wp2
    have y4 : Box1 (W.setCell ⟨B4, 0, none⟩ (.slice a' m' c')) B4 53 (.slice a' m' c') := (unhide I4).set _
    have hS4 := setCell_but W B4 (.slice a' m' c')
    have y5 : Box1 (W.setCell ⟨B4, 0, none⟩ (.slice a' m' c')) B5 30 .nilIface := (unhide I5).beside hS4 (by simp; omega)
    have hS5 := setCell_but (W.setCell ⟨B4, 0, none⟩ (.slice a' m' c')) B5 .nilIface
    obtain ⟨Z, hZ⟩ : ∃ Z, Z = (W.setCell ⟨B4, 0, none⟩ (.slice a' m' c')).setCell ⟨B5, 0, none⟩ .nilIface := ⟨_, rfl⟩
    rw [← hZ]
    rw [← hZ] at hS5
    have x4 : Box1 Z B4 53 (.slice a' m' c') := y4.beside hS5 (by simp; omega)
    have x5 : Box1 Z B5 30 .nilIface := by rw [hZ]; exact y5.set _
    have hBZ : But [B4, B5] W Z := (But.trans (l := [B4, B5]) ((But.refl _ _).trans hS4 (fun x hx => .inl (by simp at hx; simp [hx]))) hS5 (fun x hx => .inl (by simp at hx; simp [hx])))
    have oZ : OwnI Z W0.heap.size (.slice a' m' c') xs := by
      have h1 := OwnI.apart (xs := xs) (unhide I2) (unhide I4) (by decide) hS4
      exact h1.apart y5 (by decide) hS5
    have kD : Z.heap[D]? = some (.deferred (some [])) := (hBZ.block D (Array.getElem?_eq_some_iff.1 hK).1 (by simp; omega)).trans hK
    have bZ : But [] w Z := (unhide HB).trans hBZ (fun x hx => .inr (by simp at hx; omega))
    have bD : But [D] Z (Z.putObj D (.deferred none)) := ⟨rfl, rfl, rfl, by simp, fun k _ hk => World.putObj_heap_other (by simpa using hk)⟩
    have q4 : (Z.putObj D (.deferred none)).cell? ⟨B4, 0, none⟩ = some (.slice a' m' c') := (x4.beside bD (by simp; omega)).cell
    have q5 : (Z.putObj D (.deferred none)).cell? ⟨B5, 0, none⟩ = some .nilIface := (x5.beside bD (by simp; omega)).cell
    have oD : OwnI (Z.putObj D (.deferred none)) w.heap.size (.slice a' m' c') xs := by
      refine (oZ.calm (fun k o hk ho => ?_)).mono (by omega)
      refine (World.putObj_heap_other (fun e => ?_)).trans hk
      rw [e, kD] at hk
      obtain rfl := Option.some.inj hk
      simp [Obj.isCells] at ho
    have bF : But [] w (Z.putObj D (.deferred none)) := bZ.trans bD (fun x hx => by simp at hx; subst hx; exact .inr (by omega))
    clear hZ y4 y5 hS4 hS5 x4 x5 hBZ oZ bZ bD
    refine ⟨by simp, .inl ⟨_, _, rfl, run_takeDeferred kD, ?_⟩⟩
    exact ⟨.tuple #[.slice a' m' c', .nilIface], (by simp [results, Tryz.results88, go_sem, q4, q5]), _, rfl, oD, bF⟩
  case stop =>
    rintro D c pre W _ _ h
    exact h.elim
end Go.Proofs.YtjbboicccddhbaaGreatDoor
