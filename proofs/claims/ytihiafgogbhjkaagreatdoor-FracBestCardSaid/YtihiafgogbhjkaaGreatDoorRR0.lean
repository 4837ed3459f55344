/- Regions that draw their order: what holds ahead of each operation, whatever has come, holds of the region; two values made, two places made, each stored. -/
import Derived.Deep.RegionHeld
import Derived.Test.YtihiafgogbhjkaaGreatDoorRF1
namespace Go.Proofs.YtihiafgogbhjkaaGreatDoor
open Go.RowKit

/-- what has come, and one more -/
def came (d : Nat → Bool) (i : Nat) : Nat → Bool := fun j => if j = i then true else d j
theorem region_inv {P : Program} {id : Nat} {ops : Array Oper} {Q : Exit → Act → World → Prop} {base : Act} {W0 : World} (hm : P.follows .mixedOrders = true)
    (hlow : ∀ i o, ops[i]? = some o → ∀ e ∈ o.after, Region.binds .any e = true → e.on < i)
    (J : (Nat → Bool) → Act → World → Prop) (h0 : J (fun _ => false) base W0.drew)
    (hend : ∀ d a w, (∀ i, i < ops.size → d i = true) → J d a w → Q .normal a w)
    (hstep : ∀ d i o a w, ops[i]? = some o → d i = false → (∀ e ∈ o.after, Region.binds .any e = true → d e.on = true) → J d a w → wpOp P ops Q i (J (came d i)) a w) :
    (Code.region id ops true).wp P Q base W0 := by
  refine wp_region_any hm ?_
  show wpAny P .any ops Q ops.size (Array.replicate ops.size false) base W0.drew
  have none_ready : ∀ (l : Array Bool), l.toList.count false = 0 → Region.ready .any ops l = [] := fun l hc => by
    refine List.eq_nil_iff_forall_not_mem.2 fun i hi => ?_
    obtain ⟨hf, o, ho, hd⟩ := mem_ready.1 hi
    rw [List.count_eq_zero] at hc
    rcases Nat.lt_or_ge i l.size with h1 | h1
    · simp only [Array.getD_eq_getD_getElem?, Array.getElem?_eq_getElem h1, Option.getD_some] at hf
      exact hc (by rw [← hf]; exact Array.getElem_mem_toList h1)
    · simp [Array.getElem?_eq_none h1] at hf
  have end_ : ∀ (l : Array Bool) a w, l.size = ops.size → J (fun i => l.getD i false) a w → Region.ready .any ops l = [] → Q .normal a w := fun l a w hs hJ hr => by
    refine hend _ a w (fun i => ?_) hJ
    induction i using Nat.strongRecOn with
    | _ i ih =>
      intro hi
      cases e : l.getD i false with
      | true => rfl
      | false =>
        exfalso
        have hmem : i ∈ Region.ready .any ops l := mem_ready.2 ⟨by
          simp only [Array.getD_eq_getD_getElem?, Array.getElem?_eq_getElem (show i < l.size by omega), Option.getD_some] at e ⊢
          exact e, ops[i], Array.getElem?_eq_getElem hi, fun e he hb => by
            have hl := hlow i ops[i] (Array.getElem?_eq_getElem hi) e he hb
            exact ih e.on hl (by omega)⟩
        rw [hr] at hmem
        simp at hmem
  have key : ∀ n (l : Array Bool) a w, l.size = ops.size ∧ l.toList.count false = n ∧ J (fun i => l.getD i false) a w → wpAny P .any ops Q n l a w := by
    intro n
    induction n with
    | zero => rintro l a w ⟨hs, hc, hJ⟩; exact ⟨none_ready l hc, end_ l a w hs hJ (none_ready l hc)⟩
    | succ n ih =>
      rintro l a w ⟨hs, hc, hJ⟩
      refine ⟨end_ l a w hs hJ, fun i hi => ?_⟩
      obtain ⟨hf, o, ho, hd⟩ := mem_ready.1 hi
      have hlt : i < l.size := by rw [hs]; exact (Array.getElem?_eq_some_iff.1 ho).1
      have hg : l[i] = false := by simpa [hlt] using hf
      have hf' : l.getD i false = false := by simp [hlt, hg]
      refine wpOp_mono (fun a' w' h' => ih _ a' w' ⟨by simp [hs], ?_, ?_⟩) (hstep _ i o a w ho hf' hd hJ)
      · rw [Array.toList_setIfInBounds, List.count_set (by simpa using hlt)]
        simp [hg, hc]
      · have e : (fun j => (l.setIfInBounds i true).getD j false) = came (fun j => l.getD j false) i := funext fun j => by
          by_cases hj : j = i
          · subst hj; simp [came, hlt]
          · simp [came, hj, Array.getElem?_setIfInBounds_ne (Ne.symm hj)]
        rw [e]; exact h'
  exact key _ _ _ _ ⟨by simp, by simp, by
    have e : (fun i => (Array.replicate ops.size false).getD i false) = fun _ => false := funext fun i => by
      simp only [Array.getD_eq_getD_getElem?, Array.getElem?_replicate]
      split <;> rfl
    rw [e]; exact h0⟩

theorem op_value {P : Program} {ops : Array Oper} {Q : Exit → Act → World → Prop} {i : Nat} {K : Act → World → Prop} {a : Act} {w w' : World} {o : Oper} {v : Value} (ho : ops[i]? = some o) (hg : o.guard = none) (hr : (execOp a.eval o).run P w = .ok (.value v) w') (h : K (a.put o.dst v) w') : wpOp P ops Q i K a w := by
  unfold wpOp
  simp only [ho, Region.wanted, hg, if_true, Oper.wp, hr, Oper.upon_value]
  exact .inl h
theorem op_skip {P : Program} {ops : Array Oper} {Q : Exit → Act → World → Prop} {i : Nat} {K : Act → World → Prop} {a : Act} {w w' : World} {o : Oper} (ho : ops[i]? = some o) (hg : o.guard = none) (hr : (execOp a.eval o).run P w = .ok .skip w') (h : K (a.put o.dst undef) w') : wpOp P ops Q i K a w := by
  unfold wpOp
  simp only [ho, Region.wanted, hg, if_true, Oper.wp, hr, Oper.upon_skip]
  exact .inl h
theorem op_enter {P : Program} {ops : Array Oper} {Q : Exit → Act → World → Prop} {i : Nat} {K : Act → World → Prop} {a : Act} {w : World} {o : Oper} {f : FuncId} {args : Array Value} (ho : ops[i]? = some o) (hg : o.guard = none) (hr : (execOp a.eval o).run P w = .ok (.enter f args) w) {R : World → Value → Prop} (hc : Calls P f args w fun e w' => ∃ v, e = .returned v ∧ R w' v) (h : ∀ v w', R w' v → K (a.put o.dst v) w') : wpOp P ops Q i K a w := by
  unfold wpOp
  simp only [ho, Region.wanted, hg, if_true, Oper.wp, hr, Oper.upon_enter]
  refine .inl (hc.mono ?_)
  rintro e w' ⟨v, rfl, hv⟩
  exact h v w' hv

theorem at_ne (a : Act) (d t : Nat) (v : Value) (h : t ≠ d) : (a.put (some d) v).eval (.tmp t) = a.eval (.tmp t) := by
  show (a.tmps.setIfInBounds d v).getD t undef = a.tmps.getD t undef
  simp only [Array.getD_eq_getD_getElem?, Array.getElem?_setIfInBounds_ne (Ne.symm h)]
theorem at_eq (a : Act) (d : Nat) (v : Value) (h : d < a.tmps.size) : (a.put (some d) v).eval (.tmp d) = v := by
  show (a.tmps.setIfInBounds d v).getD d undef = v
  simp [h]
theorem slot_is {a : Act} {t : Nat} {v : Value} (h : a.eval (.tmp t) = v) (hs : t < a.tmps.size) : a.tmps[t]? = some v := by
  have e : a.tmps.getD t undef = v := h
  rw [Array.getD_eq_getD_getElem?, Array.getElem?_eq_getElem hs] at e
  rw [Array.getElem?_eq_getElem hs]
  exact congrArg some e
theorem slot_put (a : Act) (d t : Nat) (v : Value) : (a.put (some d) v).tmps[t]? = if d = t then (if d < a.tmps.size then some v else none) else a.tmps[t]? := by
  show (a.tmps.setIfInBounds d v)[t]? = _
  rw [Array.getElem?_setIfInBounds]
theorem size_putted (a : Act) (d : Nat) (v : Value) : (a.put (some d) v).tmps.size = a.tmps.size := by
  show (a.tmps.setIfInBounds d v).size = a.tmps.size
  simp
/-- values put into slots, one after the other -/
def putted (base : Act) (ps : List (Nat × Value)) : Act := ps.foldl (fun b p => b.put (some p.1) p.2) base
theorem putted_eq : ∀ (ps : List (Nat × Value)) (base a : Act), a.defers = base.defers → a.tmps.size = base.tmps.size → (∀ p ∈ ps, a.tmps[p.1]? = some p.2) → (∀ t, (∀ p ∈ ps, t ≠ p.1) → a.tmps[t]? = base.tmps[t]?) → a = putted base ps
  | [], base, a, h1, _, _, h4 => by
    cases a
    cases base
    simp only at h1 h4
    show Act.mk _ _ = Act.mk _ _
    rw [Array.ext_getElem? (fun t => h4 t (fun p hp => by simp at hp)), h1]
  | (d, v) :: ps, base, a, h1, h2, h3, h4 => by
    have hd := h3 (d, v) (by simp)
    simp only at hd
    have hlt : d < base.tmps.size := by
      rw [← h2]
      exact (Array.getElem?_eq_some_iff.1 hd).1
    refine putted_eq ps (base.put (some d) v) a h1 (by rw [size_putted]; exact h2) (fun p hp => h3 p (by simp [hp])) (fun t ht => ?_)
    rw [slot_put]
    by_cases e : d = t
    · subst e
      rw [if_pos rfl, if_pos hlt]
      exact hd
    · rw [if_neg e]
      refine h4 t (fun p hp => ?_)
      rcases List.mem_cons.1 hp with rfl | hp
      · exact Ne.symm e
      · exact ht p hp

/-- block b holds the parts of v -/
def Full (w : World) (b : Nat) (v : Value) : Prop := ∃ vs : Array Value, v = .agg vs ∧ ∀ j, w.cell? ⟨b, j, none⟩ = vs[j]?
theorem Full.but {w w' : World} {b : Nat} {v : Value} {l : List Nat} (h : Full w b v) (hb : But l w w') (hl : b < w.heap.size) (hn : b ∉ l) : Full w' b v := by
  obtain ⟨vs, e, h⟩ := h
  exact ⟨vs, e, fun j => (hb.cell (p := ⟨b, j, none⟩) hl hn).trans (h j)⟩
/-- a value made, a place made, the value stored there, as far as that has come -/
structure Limb (W w : World) (a : Act) (cd pd : Nat) (R : World → Value → Prop) (Z : Array Value) (lc lp ls : Bool) (v : Value) (b : Nat) : Prop where
  val : lc = true → a.eval (.tmp cd) = v ∧ R w v
  place : lp = true → a.eval (.tmp pd) = .pointer (some ⟨b, 0, none⟩) ∧ W.heap.size ≤ b ∧ b < w.heap.size ∧ ∀ j, w.frozen? ⟨b, j, none⟩ = false
  full : ls = true → lp = true ∧ lc = true ∧ Full w b v
  void : lp = true → ls = false → ∀ j, w.cell? ⟨b, j, none⟩ = Z[j]?
theorem Limb.put {W w : World} {a : Act} {cd pd : Nat} {R : World → Value → Prop} {Z : Array Value} {lc lp ls : Bool} {v : Value} {b : Nat} (h : Limb W w a cd pd R Z lc lp ls v b) (d : Nat) (u : Value) (h1 : cd ≠ d) (h2 : pd ≠ d) : Limb W w (a.put (some d) u) cd pd R Z lc lp ls v b :=
  ⟨fun e => ⟨(at_ne a d cd u h1).trans (h.val e).1, (h.val e).2⟩, fun e => ⟨(at_ne a d pd u h2).trans (h.place e).1, (h.place e).2⟩, h.full, h.void⟩
theorem Limb.world {W w w' : World} {a : Act} {cd pd : Nat} {R : World → Value → Prop} {Z : Array Value} {lc lp ls : Bool} {v : Value} {b : Nat} {l : List Nat} (h : Limb W w a cd pd R Z lc lp ls v b) (hb : But l w w') (hn : lp = true → b ∉ l) (hR : R w v → R w' v) : Limb W w' a cd pd R Z lc lp ls v b :=
  ⟨fun e => ⟨(h.val e).1, hR (h.val e).2⟩, fun e => by
    obtain ⟨h1, h2, h3, h4⟩ := h.place e
    exact ⟨h1, h2, Nat.lt_of_lt_of_le h3 hb.size, fun j => (hb.frozen (p := ⟨b, j, none⟩) h3 (hn e)).trans (h4 j)⟩, fun e => by
    obtain ⟨h1, h2, h3⟩ := h.full e
    exact ⟨h1, h2, h3.but hb (h.place h1).2.2.1 (hn h1)⟩, fun e f j => (hb.cell (p := ⟨b, j, none⟩) (h.place e).2.2.1 (hn e)).trans (h.void e f j)⟩

/-- two values and two places -/
structure Two (W : World) (base : Act) (t0 c1 t2 c3 p4 p5 : Nat) (A0 A2 : Value) (Rx Ry : World → Value → Prop) (Zx Zy : Array Value) (d : Nat → Bool) (a : Act) (w : World) (vx vy : Value) (bx bY : Nat) : Prop where
  but : But [] W w
  size : a.tmps.size = base.tmps.size
  defers : a.defers = base.defers
  rest : ∀ t, t ≠ t0 → t ≠ c1 → t ≠ t2 → t ≠ c3 → t ≠ p4 → t ≠ p5 → a.tmps[t]? = base.tmps[t]?
  a0 : d 0 = true → a.eval (.tmp t0) = A0
  a2 : d 2 = true → a.eval (.tmp t2) = A2
  x : Limb W w a c1 p4 Rx Zx (d 1) (d 4) (d 6) vx bx
  y : Limb W w a c3 p5 Ry Zy (d 3) (d 5) (d 7) vy bY
  ne : d 4 = true → d 5 = true → bx ≠ bY
theorem rest_eval {base a : Act} {t : Nat} (h : a.tmps[t]? = base.tmps[t]?) : a.eval (.tmp t) = base.eval (.tmp t) := by
  show a.tmps.getD t undef = base.tmps.getD t undef
  simp only [Array.getD_eq_getD_getElem?, h]
end Go.Proofs.YtihiafgogbhjkaaGreatDoor

namespace Go.Proofs.YtihiafgogbhjkaaGreatDoor
open Go.RowKit

theorem Limb.make {W w w' : World} {a : Act} {cd pd : Nat} {R : World → Value → Prop} {Z : Array Value} {lp ls : Bool} {v0 : Value} {b : Nat} (h : Limb W w a cd pd R Z false lp ls v0 b) (hb : But [] w w') (v : Value) (hv : R w' v) (hs : cd < a.tmps.size) (hne : pd ≠ cd) : Limb W w' (a.put (some cd) v) cd pd R Z true lp ls v b :=
  ⟨fun _ => ⟨at_eq a cd v hs, hv⟩, fun e => by
    obtain ⟨h1, h2, h3, h4⟩ := h.place e
    exact ⟨(at_ne a cd pd v hne).trans h1, h2, Nat.lt_of_lt_of_le h3 hb.size, fun j => (hb.frozen (p := ⟨b, j, none⟩) h3 (by simp)).trans (h4 j)⟩, fun e => by
    have := (h.full e).2.1
    simp at this, fun e f j => (hb.cell (p := ⟨b, j, none⟩) (h.place e).2.2.1 (by simp)).trans (h.void e f j)⟩
theorem Limb.lay {W w : World} {a : Act} {cd pd : Nat} {R : World → Value → Prop} {Z : Array Value} {lc ls : Bool} {v : Value} {b : Nat} (h : Limb W w a cd pd R Z lc false ls v b) (hB : But [] W w) (t : TypeId) (hs : pd < a.tmps.size) (hne : cd ≠ pd) (hR : R w v → R (w.alloc (.cells Z t)) v) : Limb W (w.alloc (.cells Z t)) (a.put (some pd) (.pointer (some ⟨w.heap.size, 0, none⟩))) cd pd R Z lc true ls v w.heap.size :=
  ⟨fun e => ⟨(at_ne a pd cd _ hne).trans (h.val e).1, hR (h.val e).2⟩, fun _ => ⟨at_eq a pd _ hs, hB.size, by simp, fun j => by simp⟩, fun e => by
    have := (h.full e).1
    simp at this, fun _ _ j => by simp⟩
theorem Limb.store {W w w' : World} {a : Act} {cd pd : Nat} {R : World → Value → Prop} {Z : Array Value} {v : Value} {b : Nat} (h : Limb W w a cd pd R Z true true false v b) (hb : But [b] w w') (hf : Full w' b v) (hz : ∀ j, w'.frozen? ⟨b, j, none⟩ = false) (hR : R w v → R w' v) : Limb W w' a cd pd R Z true true true v b :=
  ⟨fun e => ⟨(h.val e).1, hR (h.val e).2⟩, fun e => ⟨(h.place e).1, (h.place e).2.1, Nat.lt_of_lt_of_le (h.place e).2.2.1 hb.size, hz⟩, fun _ => ⟨rfl, rfl, hf⟩, fun _ f => by simp at f⟩
theorem rest_put' {base a : Act} {d t : Nat} {v : Value} (hr : a.tmps[t]? = base.tmps[t]?) (hd : t ≠ d) : (a.put (some d) v).tmps[t]? = base.tmps[t]? := by
  rw [← hr]
  show (a.tmps.setIfInBounds d v)[t]? = a.tmps[t]?
  exact Array.getElem?_setIfInBounds_ne (Ne.symm hd)
theorem size_put' {base a : Act} {d : Nat} {v : Value} (h : a.tmps.size = base.tmps.size) : (a.put (some d) v).tmps.size = base.tmps.size := by rw [size_putted, h]

/-- what the four stages of a place are told of its type: made, stored -/
def Makes (P : Program) (ops : Array Oper) (Q : Exit → Act → World → Prop) (i pd : Nat) (Z : Array Value) (t : TypeId) : Prop := ∀ (a : Act) (w : World) (K : Act → World → Prop), K (a.put (some pd) (.pointer (some ⟨w.heap.size, 0, none⟩))) (w.alloc (.cells Z t)) → wpOp P ops Q i K a w
def Stores (P : Program) (ops : Array Oper) (Q : Exit → Act → World → Prop) (i cd pd : Nat) (R : World → Value → Prop) (Z : Array Value) : Prop := ∀ (a : Act) (w : World) (K : Act → World → Prop) (b : Nat) (v : Value), a.eval (.tmp pd) = .pointer (some ⟨b, 0, none⟩) → a.eval (.tmp cd) = v → R w v → (∀ j, w.cell? ⟨b, j, none⟩ = Z[j]?) → (∀ j, w.frozen? ⟨b, j, none⟩ = false) → (∀ w', But [b] w w' → Full w' b v → (∀ j, w'.frozen? ⟨b, j, none⟩ = false) → K a w') → wpOp P ops Q i K a w
/-- a relation that new blocks leave, and writing into places with a Boolean first -/
structure Stays (R : World → Value → Prop) : Prop where
  but : ∀ w w' v, R w v → But [] w w' → R w' v
  over : ∀ w w' v g s, R w v → w.cell? ⟨g, 0, none⟩ = some (.bool s) → But [g] w w' → R w' v

theorem region_two {P : Program} {id : Nat} {ops : Array Oper} {Q : Exit → Act → World → Prop} {base : Act} {W0 : World} (hm : P.follows .mixedOrders = true)
    (hlow : ∀ i o, ops[i]? = some o → ∀ e ∈ o.after, Region.binds .any e = true → e.on < i) (hsz : ops.size = 8)
    (hb : ∀ i j, (i, j) ∈ [(1, 0), (3, 2), (6, 1), (6, 4), (7, 3), (7, 5)] → ∃ o, ops[i]? = some o ∧ ∃ e ∈ o.after, Region.binds .any e = true ∧ e.on = j)
    (t0 c1 t2 c3 p4 p5 : Nat) (hnd : [t0, c1, t2, c3, p4, p5].Nodup) (hs : ∀ t ∈ [t0, c1, t2, c3, p4, p5], t < base.tmps.size)
    (A0 A2 : Value) (Rx Ry : World → Value → Prop) (Zx Zy : Array Value) (tx ty : TypeId) (sx : Stays Rx) (sy : Stays Ry) (zx : ∃ s, Zx[0]? = some (.bool s)) (zy : ∃ s, Zy[0]? = some (.bool s))
    (h0 : ∀ (a : Act) (w : World) (K : Act → World → Prop), But [] W0.drew w → (∀ t, t ∉ [t0, c1, t2, c3, p4, p5] → a.eval (.tmp t) = base.eval (.tmp t)) → (∀ w', But [] w w' → K (a.put (some t0) A0) w') → wpOp P ops Q 0 K a w)
    (h1 : ∀ (a : Act) (w : World) (K : Act → World → Prop), But [] W0.drew w → a.eval (.tmp t0) = A0 → (∀ v w', But [] w w' → Rx w' v → K (a.put (some c1) v) w') → wpOp P ops Q 1 K a w)
    (h2 : ∀ (a : Act) (w : World) (K : Act → World → Prop), But [] W0.drew w → (∀ t, t ∉ [t0, c1, t2, c3, p4, p5] → a.eval (.tmp t) = base.eval (.tmp t)) → (∀ w', But [] w w' → K (a.put (some t2) A2) w') → wpOp P ops Q 2 K a w)
    (h3 : ∀ (a : Act) (w : World) (K : Act → World → Prop), But [] W0.drew w → a.eval (.tmp t2) = A2 → (∀ v w', But [] w w' → Ry w' v → K (a.put (some c3) v) w') → wpOp P ops Q 3 K a w)
    (h4 : Makes P ops Q 4 p4 Zx tx) (h5 : Makes P ops Q 5 p5 Zy ty) (h6 : Stores P ops Q 6 c1 p4 Rx Zx) (h7 : Stores P ops Q 7 c3 p5 Ry Zy)
    (hQ : ∀ w vx vy bx bY, But [] W0.drew w → Rx w vx → Ry w vy → W0.heap.size ≤ bx → W0.heap.size ≤ bY → bx ≠ bY → (∀ j, w.frozen? ⟨bx, j, none⟩ = false) → (∀ j, w.frozen? ⟨bY, j, none⟩ = false) → Full w bx vx → Full w bY vy → Q .normal (putted base [(t0, A0), (c1, vx), (t2, A2), (c3, vy), (p4, .pointer (some ⟨bx, 0, none⟩)), (p5, .pointer (some ⟨bY, 0, none⟩))]) w) :
    (Code.region id ops true).wp P Q base W0 := by
  obtain ⟨W, hW⟩ : ∃ W, W = W0.drew := ⟨_, rfl⟩
  have hWs : W.heap.size = W0.heap.size := by rw [hW]; rfl
  rw [← hW] at h0 h1 h2 h3 hQ
  rw [← hWs] at hQ
  simp only [List.nodup_cons, List.mem_cons, List.not_mem_nil, or_false, not_or, List.nodup_nil, and_true, not_false_eq_true] at hnd
  obtain ⟨⟨n01, n02, n03, n04, n05⟩, ⟨n12, n13, n14, n15⟩, ⟨n23, n24, n25⟩, ⟨n34, n35⟩, n45⟩ := hnd
  have z0 := hs t0 (by simp)
  have z1 := hs c1 (by simp)
  have z2 := hs t2 (by simp)
  have z3 := hs c3 (by simp)
  have z4 := hs p4 (by simp)
  have z5 := hs p5 (by simp)
  have dep : ∀ (d : Nat → Bool) i j o, (i, j) ∈ [(1, 0), (3, 2), (6, 1), (6, 4), (7, 3), (7, 5)] → ops[i]? = some o → (∀ e ∈ o.after, Region.binds .any e = true → d e.on = true) → d j = true := fun d i j o hij ho hd => by
    obtain ⟨o', ho', e, he, hbi, rfl⟩ := hb i j hij
    rw [ho'] at ho
    obtain rfl := Option.some.inj ho
    exact hd e he hbi
  refine region_inv hm hlow (fun d a w => ∃ vx vy bx bY, Two W base t0 c1 t2 c3 p4 p5 A0 A2 Rx Ry Zx Zy d a w vx vy bx bY) ?_ ?_ ?_
  · rw [← hW]
    exact ⟨undef, undef, 0, 0, But.refl _ _, rfl, rfl, fun _ _ _ _ _ _ _ => rfl, by simp, by simp, ⟨by simp, by simp, by simp, by simp⟩, ⟨by simp, by simp, by simp, by simp⟩, by simp⟩
  · rintro d a w hd ⟨vx, vy, bx, bY, h⟩
    rw [hsz] at hd
    have e0 := hd 0 (by omega)
    have e1 := hd 1 (by omega)
    have e2 := hd 2 (by omega)
    have e3 := hd 3 (by omega)
    have e4 := hd 4 (by omega)
    have e5 := hd 5 (by omega)
    have e6 := hd 6 (by omega)
    have e7 := hd 7 (by omega)
    obtain ⟨x1, x2, x3, x4⟩ := h.x.place e4
    obtain ⟨y1, y2, y3, y4⟩ := h.y.place e5
    have ea : a = putted base [(t0, A0), (c1, vx), (t2, A2), (c3, vy), (p4, .pointer (some ⟨bx, 0, none⟩)), (p5, .pointer (some ⟨bY, 0, none⟩))] := by
      have hz := h.size
      refine putted_eq _ base a h.defers h.size (fun p hp => ?_) (fun t ht => ?_)
      · simp only [List.mem_cons, List.not_mem_nil, or_false] at hp
        rcases hp with rfl | rfl | rfl | rfl | rfl | rfl
        · exact slot_is (h.a0 e0) (by rw [hz]; exact z0)
        · exact slot_is (h.x.val e1).1 (by rw [hz]; exact z1)
        · exact slot_is (h.a2 e2) (by rw [hz]; exact z2)
        · exact slot_is (h.y.val e3).1 (by rw [hz]; exact z3)
        · exact slot_is x1 (by rw [hz]; exact z4)
        · exact slot_is y1 (by rw [hz]; exact z5)
      · exact h.rest t (ht (t0, A0) (by simp)) (ht (c1, vx) (by simp)) (ht (t2, A2) (by simp)) (ht (c3, vy) (by simp)) (ht (p4, .pointer (some ⟨bx, 0, none⟩)) (by simp)) (ht (p5, .pointer (some ⟨bY, 0, none⟩)) (by simp))
    rw [ea]
    exact hQ w vx vy bx bY h.but (h.x.val e1).2 (h.y.val e3).2 x2 y2 (h.ne e4 e5) x4 y4 (h.x.full e6).2.2 (h.y.full e7).2.2
  · rintro d i o a w ho hf hd ⟨vx, vy, bx, bY, h⟩
    have hi : i < 8 := by rw [← hsz]; exact (Array.getElem?_eq_some_iff.1 ho).1
    have hsa := h.size
    have hx := h.x
    have hy := h.y
    have hev : ∀ t, t ∉ [t0, c1, t2, c3, p4, p5] → a.eval (.tmp t) = base.eval (.tmp t) := fun t ht => by
      simp only [List.mem_cons, List.not_mem_nil, or_false, not_or] at ht
      exact rest_eval (h.rest t ht.1 ht.2.1 ht.2.2.1 ht.2.2.2.1 ht.2.2.2.2.1 ht.2.2.2.2.2)
    have hc : i = 0 ∨ i = 1 ∨ i = 2 ∨ i = 3 ∨ i = 4 ∨ i = 5 ∨ i = 6 ∨ i = 7 := by omega
    rcases hc with rfl | rfl | rfl | rfl | rfl | rfl | rfl | rfl
    · refine h0 a w _ h.but hev (fun w' hw => ?_)
      exact ⟨vx, vy, bx, bY, h.but.trans' hw, size_put' h.size, h.defers, fun t k0 k1 k2 k3 k4 k5 => rest_put' (h.rest t k0 k1 k2 k3 k4 k5) k0, fun _ => at_eq a t0 A0 (by rw [hsa]; exact z0), fun e => (at_ne a t0 t2 A0 (Ne.symm n02)).trans (h.a2 e),
        (hx.world hw (by simp) (fun r => sx.but _ _ _ r hw)).put t0 A0 (Ne.symm n01) (Ne.symm n04), (hy.world hw (by simp) (fun r => sy.but _ _ _ r hw)).put t0 A0 (Ne.symm n03) (Ne.symm n05), h.ne⟩
    · have d0 := dep d 1 0 o (by simp) ho hd
      rw [hf] at hx
      refine h1 a w _ h.but (h.a0 d0) (fun v w' hw hv => ?_)
      exact ⟨v, vy, bx, bY, h.but.trans' hw, size_put' h.size, h.defers, fun t k0 k1 k2 k3 k4 k5 => rest_put' (h.rest t k0 k1 k2 k3 k4 k5) k1, fun e => (at_ne a c1 t0 v n01).trans (h.a0 e), fun e => (at_ne a c1 t2 v (Ne.symm n12)).trans (h.a2 e),
        hx.make hw v hv (by rw [hsa]; exact z1) (Ne.symm n14), (hy.world hw (by simp) (fun r => sy.but _ _ _ r hw)).put c1 v (Ne.symm n13) (Ne.symm n15), h.ne⟩
    · refine h2 a w _ h.but hev (fun w' hw => ?_)
      exact ⟨vx, vy, bx, bY, h.but.trans' hw, size_put' h.size, h.defers, fun t k0 k1 k2 k3 k4 k5 => rest_put' (h.rest t k0 k1 k2 k3 k4 k5) k2, fun e => (at_ne a t2 t0 A2 n02).trans (h.a0 e), fun _ => at_eq a t2 A2 (by rw [hsa]; exact z2),
        (hx.world hw (by simp) (fun r => sx.but _ _ _ r hw)).put t2 A2 n12 (Ne.symm n24), (hy.world hw (by simp) (fun r => sy.but _ _ _ r hw)).put t2 A2 (Ne.symm n23) (Ne.symm n25), h.ne⟩
    · have d2 := dep d 3 2 o (by simp) ho hd
      rw [hf] at hy
      refine h3 a w _ h.but (h.a2 d2) (fun v w' hw hv => ?_)
      exact ⟨vx, v, bx, bY, h.but.trans' hw, size_put' h.size, h.defers, fun t k0 k1 k2 k3 k4 k5 => rest_put' (h.rest t k0 k1 k2 k3 k4 k5) k3, fun e => (at_ne a c3 t0 v n03).trans (h.a0 e), fun e => (at_ne a c3 t2 v n23).trans (h.a2 e),
        (hx.world hw (by simp) (fun r => sx.but _ _ _ r hw)).put c3 v n13 (Ne.symm n34), hy.make hw v hv (by rw [hsa]; exact z3) (Ne.symm n35), h.ne⟩
    · rw [hf] at hx
      refine h4 a w _ ?_
      have hw : But [] w (w.alloc (.cells Zx tx)) := (But.refl _ _).alloc _
      exact ⟨vx, vy, w.heap.size, bY, h.but.trans' hw, size_put' h.size, h.defers, fun t k0 k1 k2 k3 k4 k5 => rest_put' (h.rest t k0 k1 k2 k3 k4 k5) k4, fun e => (at_ne a p4 t0 _ n04).trans (h.a0 e), fun e => (at_ne a p4 t2 _ n24).trans (h.a2 e),
        hx.lay h.but tx (by rw [hsa]; exact z4) n14 (fun r => sx.but _ _ _ r hw), (hy.world hw (by simp) (fun r => sy.but _ _ _ r hw)).put p4 _ n34 (Ne.symm n45), fun _ e => Ne.symm (Nat.ne_of_lt (hy.place e).2.2.1)⟩
    · rw [hf] at hy
      refine h5 a w _ ?_
      have hw : But [] w (w.alloc (.cells Zy ty)) := (But.refl _ _).alloc _
      exact ⟨vx, vy, bx, w.heap.size, h.but.trans' hw, size_put' h.size, h.defers, fun t k0 k1 k2 k3 k4 k5 => rest_put' (h.rest t k0 k1 k2 k3 k4 k5) k5, fun e => (at_ne a p5 t0 _ n05).trans (h.a0 e), fun e => (at_ne a p5 t2 _ n25).trans (h.a2 e),
        (hx.world hw (by simp) (fun r => sx.but _ _ _ r hw)).put p5 _ n15 n45, hy.lay h.but ty (by rw [hsa]; exact z5) n35 (fun r => sy.but _ _ _ r hw), fun e _ => Nat.ne_of_lt (hx.place e).2.2.1⟩
    · have d1 := dep d 6 1 o (by simp) ho hd
      have d4 := dep d 6 4 o (by simp) ho hd
      rw [hf, d1, d4] at hx
      obtain ⟨x1, x2, x3, x4⟩ := hx.place rfl
      obtain ⟨s, hz⟩ := zx
      have hv := hx.void rfl rfl
      have hc0 := (hv 0).trans hz
      refine h6 a w _ bx vx x1 (hx.val rfl).1 (hx.val rfl).2 hv x4 (fun w' hw hfl hfz => ?_)
      have hxn := hx.store hw hfl hfz (fun r => sx.over _ _ _ _ _ r hc0 hw)
      exact ⟨vx, vy, bx, bY, h.but.trans hw (fun x hx => by simp at hx; subst hx; exact .inr x2), h.size, h.defers, h.rest, h.a0, h.a2, (show Limb W w' a c1 p4 Rx Zx (d 1) (d 4) true vx bx from by rw [d1, d4]; exact hxn),
        hy.world hw (fun e => by simpa using Ne.symm (h.ne d4 e)) (fun r => sy.over _ _ _ _ _ r hc0 hw), h.ne⟩
    · have d3 := dep d 7 3 o (by simp) ho hd
      have d5 := dep d 7 5 o (by simp) ho hd
      rw [hf, d3, d5] at hy
      obtain ⟨y1, y2, y3, y4⟩ := hy.place rfl
      obtain ⟨s, hz⟩ := zy
      have hv := hy.void rfl rfl
      have hc0 := (hv 0).trans hz
      refine h7 a w _ bY vy y1 (hy.val rfl).1 (hy.val rfl).2 hv y4 (fun w' hw hfl hfz => ?_)
      have hyn := hy.store hw hfl hfz (fun r => sy.over _ _ _ _ _ r hc0 hw)
      exact ⟨vx, vy, bx, bY, h.but.trans hw (fun x hx => by simp at hx; subst hx; exact .inr y2), h.size, h.defers, h.rest, h.a0, h.a2, hx.world hw (fun e => by simpa using h.ne e d5) (fun r => sx.over _ _ _ _ _ r hc0 hw), (show Limb W w' a c3 p5 Ry Zy (d 3) (d 5) true vy bY from by rw [d3, d5]; exact hyn), h.ne⟩
end Go.Proofs.YtihiafgogbhjkaaGreatDoor

namespace Go.Proofs.YtihiafgogbhjkaaGreatDoor
open Go.RowKit

/-- each operation that binds another stands behind it -/
def lowOps (ops : Array Oper) : Bool := (List.range ops.size).all fun i => match ops[i]? with
  | some o => o.after.all fun e => !(Region.binds .any e) || decide (e.on < i)
  | none => true
theorem low_of {ops : Array Oper} (h : lowOps ops = true) : ∀ i o, ops[i]? = some o → ∀ e ∈ o.after, Region.binds .any e = true → e.on < i := fun i o ho e he hb => by
  have hi : i < ops.size := (Array.getElem?_eq_some_iff.1 ho).1
  unfold lowOps at h
  rw [List.all_eq_true] at h
  have h1 := h i (List.mem_range.2 hi)
  simp only [ho] at h1
  rw [Array.all_eq_true_iff_forall_mem] at h1
  have h2 := h1 e he
  simpa [hb] using h2
def depOps (ops : Array Oper) (ps : List (Nat × Nat)) : Bool := ps.all fun p => match ops[p.1]? with
  | some o => o.after.any fun e => Region.binds .any e && e.on == p.2
  | none => false
theorem dep_of {ops : Array Oper} {ps : List (Nat × Nat)} (h : depOps ops ps = true) : ∀ i j, (i, j) ∈ ps → ∃ o, ops[i]? = some o ∧ ∃ e ∈ o.after, Region.binds .any e = true ∧ e.on = j := fun i j hij => by
  unfold depOps at h
  rw [List.all_eq_true] at h
  have h1 := h (i, j) hij
  cases ho : ops[i]? with
  | none => simp [ho] at h1
  | some o =>
    simp only [ho] at h1
    rw [Array.any_eq_true] at h1
    obtain ⟨k, hk, h2⟩ := h1
    simp only [Bool.and_eq_true, beq_iff_eq] at h2
    exact ⟨o, rfl, o.after[k], Array.getElem_mem hk, h2.1, h2.2⟩

/-- a fraction's four parts lie at a block -/
def P4 (w : World) (g : Nat) (s : Bool) (x y : Int) (p : Option Addr) : Prop := w.cell? ⟨g, 0, none⟩ = some (.bool s) ∧ w.cell? ⟨g, 1, none⟩ = some (.int .u64 x) ∧ w.cell? ⟨g, 2, none⟩ = some (.int .u64 y) ∧ w.cell? ⟨g, 3, none⟩ = some (.pointer p)
/-- a mark's five -/
def P5 (w : World) (g : Nat) (s : Bool) (x y : Int) (p : Option Addr) (u : Int) : Prop := w.cell? ⟨g, 0, none⟩ = some (.bool s) ∧ w.cell? ⟨g, 1, none⟩ = some (.int .u64 x) ∧ w.cell? ⟨g, 2, none⟩ = some (.int .u64 y) ∧ w.cell? ⟨g, 3, none⟩ = some (.pointer p) ∧ w.cell? ⟨g, 4, none⟩ = some (.int .i64 u)
theorem P4.but {w w' : World} {g : Nat} {s : Bool} {x y : Int} {p : Option Addr} {l : List Nat} (h : P4 w g s x y p) (hb : But l w w') (hn : g ∉ l) : P4 w' g s x y p := ⟨hb.cell_some h.1 hn, hb.cell_some h.2.1 hn, hb.cell_some h.2.2.1 hn, hb.cell_some h.2.2.2 hn⟩
theorem P5.but {w w' : World} {g : Nat} {s : Bool} {x y : Int} {p : Option Addr} {u : Int} {l : List Nat} (h : P5 w g s x y p u) (hb : But l w w') (hn : g ∉ l) : P5 w' g s x y p u := ⟨hb.cell_some h.1 hn, hb.cell_some h.2.1 hn, hb.cell_some h.2.2.1 hn, hb.cell_some h.2.2.2.1 hn, hb.cell_some h.2.2.2.2 hn⟩
theorem Full.p4 {w : World} {b : Nat} {s : Bool} {x y : Int} {p : Option Addr} (h : Full w b (.agg #[.bool s, .int .u64 x, .int .u64 y, .pointer p])) : P4 w b s x y p := by
  obtain ⟨vs, e, h⟩ := h
  obtain rfl := Value.agg.inj e
  exact ⟨h 0, h 1, h 2, h 3⟩
theorem Full.p5 {w : World} {b : Nat} {s : Bool} {x y u : Int} {p : Option Addr} (h : Full w b (.agg #[.bool s, .int .u64 x, .int .u64 y, .pointer p, .int .i64 u])) : P5 w b s x y p u := by
  obtain ⟨vs, e, h⟩ := h
  obtain rfl := Value.agg.inj e
  exact ⟨h 0, h 1, h 2, h 3, h 4⟩
theorem set_off (w : World) (b i j : Nat) (v : Value) (hij : i ≠ j) : (w.setCell ⟨b, i, none⟩ v).cell? ⟨b, j, none⟩ = w.cell? ⟨b, j, none⟩ := World.cell?_setCell_other w ⟨b, i, none⟩ ⟨b, j, none⟩ v (fun e => hij (Addr.mk.inj e).2.1)
/-- four cells written: the block is what was written, and what it was beyond -/
theorem set4_all (w : World) (b : Nat) (v0 v1 v2 v3 : Value) (c0 : (w.cell? ⟨b, 0, none⟩).isSome = true) (c1 : (w.cell? ⟨b, 1, none⟩).isSome = true) (c2 : (w.cell? ⟨b, 2, none⟩).isSome = true) (c3 : (w.cell? ⟨b, 3, none⟩).isSome = true) :
    (∀ j, j < 4 → ((((w.setCell ⟨b, 0, none⟩ v0).setCell ⟨b, 1, none⟩ v1).setCell ⟨b, 2, none⟩ v2).setCell ⟨b, 3, none⟩ v3).cell? ⟨b, j, none⟩ = #[v0, v1, v2, v3][j]?) ∧ ∀ j, 4 ≤ j → ((((w.setCell ⟨b, 0, none⟩ v0).setCell ⟨b, 1, none⟩ v1).setCell ⟨b, 2, none⟩ v2).setCell ⟨b, 3, none⟩ v3).cell? ⟨b, j, none⟩ = w.cell? ⟨b, j, none⟩ := by
  constructor
  · intro j hj
    have : j = 0 ∨ j = 1 ∨ j = 2 ∨ j = 3 := by omega
    rcases this with rfl | rfl | rfl | rfl
    · rw [set_off _ _ 3 0 _ (by omega), set_off _ _ 2 0 _ (by omega), set_off _ _ 1 0 _ (by omega)]
      exact World.cell?_setCell_same' _ _ _ c0
    · rw [set_off _ _ 3 1 _ (by omega), set_off _ _ 2 1 _ (by omega)]
      exact World.cell?_setCell_same' _ _ _ (by rw [set_off _ _ 0 1 _ (by omega)]; exact c1)
    · rw [set_off _ _ 3 2 _ (by omega)]
      exact World.cell?_setCell_same' _ _ _ (by rw [set_off _ _ 1 2 _ (by omega), set_off _ _ 0 2 _ (by omega)]; exact c2)
    · exact World.cell?_setCell_same' _ _ _ (by rw [set_off _ _ 2 3 _ (by omega), set_off _ _ 1 3 _ (by omega), set_off _ _ 0 3 _ (by omega)]; exact c3)
  · intro j hj
    rw [set_off _ _ 3 j _ (by omega), set_off _ _ 2 j _ (by omega), set_off _ _ 1 j _ (by omega), set_off _ _ 0 j _ (by omega)]
theorem set4_full (w : World) (b : Nat) (v0 v1 v2 v3 : Value) (Z : Array Value) (hz : Z.size = 4) (hv : ∀ j, w.cell? ⟨b, j, none⟩ = Z[j]?) : Full ((((w.setCell ⟨b, 0, none⟩ v0).setCell ⟨b, 1, none⟩ v1).setCell ⟨b, 2, none⟩ v2).setCell ⟨b, 3, none⟩ v3) b (.agg #[v0, v1, v2, v3]) := by
  have hs : ∀ j, j < 4 → (w.cell? ⟨b, j, none⟩).isSome = true := fun j hj => by rw [hv j, Array.getElem?_eq_getElem (by omega)]; rfl
  obtain ⟨h1, h2⟩ := set4_all w b v0 v1 v2 v3 (hs 0 (by omega)) (hs 1 (by omega)) (hs 2 (by omega)) (hs 3 (by omega))
  refine ⟨_, rfl, fun j => ?_⟩
  rcases Nat.lt_or_ge j 4 with hj | hj
  · exact h1 j hj
  · rw [h2 j hj, hv j, Array.getElem?_eq_none (by omega), Array.getElem?_eq_none (by simpa using hj)]
theorem set5_full (w : World) (b : Nat) (v0 v1 v2 v3 v4 : Value) (Z : Array Value) (hz : Z.size = 5) (hv : ∀ j, w.cell? ⟨b, j, none⟩ = Z[j]?) : Full (((((w.setCell ⟨b, 0, none⟩ v0).setCell ⟨b, 1, none⟩ v1).setCell ⟨b, 2, none⟩ v2).setCell ⟨b, 3, none⟩ v3).setCell ⟨b, 4, none⟩ v4) b (.agg #[v0, v1, v2, v3, v4]) := by
  have hs : ∀ j, j < 5 → (w.cell? ⟨b, j, none⟩).isSome = true := fun j hj => by rw [hv j, Array.getElem?_eq_getElem (by omega)]; rfl
  obtain ⟨h1, h2⟩ := set4_all w b v0 v1 v2 v3 (hs 0 (by omega)) (hs 1 (by omega)) (hs 2 (by omega)) (hs 3 (by omega))
  refine ⟨_, rfl, fun j => ?_⟩
  by_cases e : j = 4
  · subst e
    exact World.cell?_setCell_same' _ _ _ (by rw [h2 4 (by omega)]; exact hs 4 (by omega))
  · rw [set_off _ _ 4 j _ (Ne.symm e)]
    rcases Nat.lt_or_ge j 4 with hj | hj
    · rw [h1 j hj]
      have : j = 0 ∨ j = 1 ∨ j = 2 ∨ j = 3 := by omega
      rcases this with rfl | rfl | rfl | rfl <;> rfl
    · rw [h2 j hj, hv j, Array.getElem?_eq_none (by omega), Array.getElem?_eq_none (show 5 ≤ j by omega)]
end Go.Proofs.YtihiafgogbhjkaaGreatDoor

namespace Go.Proofs.YtihiafgogbhjkaaGreatDoor
open Go.RowKit

theorem run_load4 (a : Act) (w : World) (d t : Nat) (u : TypeId) (ps : String) (ed : Array Edge) (g : Nat) (s : Bool) (x y : Int) (p : Option Addr) (ht : a.eval (.tmp t) = .pointer (some ⟨g, 0, none⟩)) (hc : P4 w g s x y p) :
    (execOp a.eval { dst := some d, op := Op.load 27 (.tmp t), type := u, pos := ps, after := ed, guard := none }).run Tryz.prog w = .ok (.value (.agg #[.bool s, .int .u64 x, .int .u64 y, .pointer p])) w := by
  obtain ⟨c0, c1, c2, c3⟩ := hc
  unfold execOp
  simp only [ht]
  go_simp
theorem run_load5 (a : Act) (w : World) (d t : Nat) (u : TypeId) (ps : String) (ed : Array Edge) (g : Nat) (s : Bool) (x y k : Int) (p : Option Addr) (ht : a.eval (.tmp t) = .pointer (some ⟨g, 0, none⟩)) (hc : P5 w g s x y p k) :
    (execOp a.eval { dst := some d, op := Op.load 129 (.tmp t), type := u, pos := ps, after := ed, guard := none }).run Tryz.prog w = .ok (.value (.agg #[.bool s, .int .u64 x, .int .u64 y, .pointer p, .int .i64 k])) w := by
  obtain ⟨c0, c1, c2, c3, c4⟩ := hc
  unfold execOp
  simp only [ht]
  go_simp
theorem run_alloc4 (a : Act) (w : World) (d : Nat) (u : TypeId) (ps : String) (ed : Array Edge) :
    (execOp a.eval { dst := some d, op := Op.alloc 27, type := u, pos := ps, after := ed, guard := none }).run Tryz.prog w = .ok (.value (.pointer (some ⟨w.heap.size, 0, none⟩))) (w.alloc (.cells #[.bool false, .int .u64 0, .int .u64 0, .pointer none] 27)) := by
  unfold execOp
  go_simp
theorem run_alloc5 (a : Act) (w : World) (d : Nat) (u : TypeId) (ps : String) (ed : Array Edge) :
    (execOp a.eval { dst := some d, op := Op.alloc 129, type := u, pos := ps, after := ed, guard := none }).run Tryz.prog w = .ok (.value (.pointer (some ⟨w.heap.size, 0, none⟩))) (w.alloc (.cells #[.bool false, .int .u64 0, .int .u64 0, .pointer none, .int .i64 0] 129)) := by
  unfold execOp
  go_simp
theorem run_store4 (a : Act) (w : World) (t1 t2 : Nat) (u : TypeId) (ps : String) (ed : Array Edge) (g : Nat) (s : Bool) (x y : Int) (p : Option Addr) (h1 : a.eval (.tmp t1) = .pointer (some ⟨g, 0, none⟩)) (h2 : a.eval (.tmp t2) = .agg #[.bool s, .int .u64 x, .int .u64 y, .pointer p]) (hc : P4 w g false 0 0 none) (fz : ∀ j, w.frozen? ⟨g, j, none⟩ = false) :
    (execOp a.eval { dst := none, op := Op.store 27 (.tmp t1) (.tmp t2), type := u, pos := ps, after := ed, guard := none }).run Tryz.prog w = .ok .skip ((((w.setCell ⟨g, 0, none⟩ (.bool s)).setCell ⟨g, 1, none⟩ (.int .u64 x)).setCell ⟨g, 2, none⟩ (.int .u64 y)).setCell ⟨g, 3, none⟩ (.pointer p)) := by
  obtain ⟨c0, c1, c2, c3⟩ := hc
  unfold execOp
  simp only [h1, h2]
  go_simp
theorem run_store5 (a : Act) (w : World) (t1 t2 : Nat) (u : TypeId) (ps : String) (ed : Array Edge) (g : Nat) (s : Bool) (x y k : Int) (p : Option Addr) (h1 : a.eval (.tmp t1) = .pointer (some ⟨g, 0, none⟩)) (h2 : a.eval (.tmp t2) = .agg #[.bool s, .int .u64 x, .int .u64 y, .pointer p, .int .i64 k]) (hc : P5 w g false 0 0 none 0) (fz : ∀ j, w.frozen? ⟨g, j, none⟩ = false) :
    (execOp a.eval { dst := none, op := Op.store 129 (.tmp t1) (.tmp t2), type := u, pos := ps, after := ed, guard := none }).run Tryz.prog w = .ok .skip (((((w.setCell ⟨g, 0, none⟩ (.bool s)).setCell ⟨g, 1, none⟩ (.int .u64 x)).setCell ⟨g, 2, none⟩ (.int .u64 y)).setCell ⟨g, 3, none⟩ (.pointer p)).setCell ⟨g, 4, none⟩ (.int .i64 k)) := by
  obtain ⟨c0, c1, c2, c3, c4⟩ := hc
  unfold execOp
  simp only [h1, h2]
  go_simp
theorem run_build5 (a : Act) (w : World) (d t : Nat) (u : TypeId) (ps : String) (ed : Array Edge) (s : Bool) (x y k : Int) (p : Option Addr) (ht : a.eval (.tmp t) = .agg #[.bool s, .int .u64 x, .int .u64 y, .pointer p]) :
    (execOp a.eval { dst := some d, op := Op.build 129 #[(0, .tmp t), (1, .const (.int .i64 k))], type := u, pos := ps, after := ed, guard := none }).run Tryz.prog w = .ok (.value (.agg #[.bool s, .int .u64 x, .int .u64 y, .pointer p, .int .i64 k])) w := by
  have ht2 : (a.tmps[t]?).getD undef = .agg #[.bool s, .int .u64 x, .int .u64 y, .pointer p] := by rw [← Array.getD_eq_getD_getElem?]; exact ht
  unfold execOp
  go_simp
theorem run_callOne (a : Act) (w : World) (d : Nat) (u : TypeId) (ps : String) (ed : Array Edge) :
    (execOp a.eval { dst := some d, op := Op.call { callee := Callee.value (Operand.func 51), args := #[Operand.const (Value.int IntKind.i64 1)], argTypes := #[3] }, type := u, pos := ps, after := ed, guard := none }).run Tryz.prog w = .ok (.enter 51 #[.int .i64 1]) w := by
  have hk : a.eval (.const (.int .i64 1)) = .int .i64 1 := rfl
  unfold execOp
  go_simp
  try (rw [← hk]; rfl)
theorem run_callValue (a : Act) (w : World) (d t : Nat) (u : TypeId) (ps : String) (ed : Array Edge) (x : Value) (ht : a.eval (.tmp t) = x) :
    (execOp a.eval { dst := some d, op := Op.call { callee := Callee.value (Operand.func 109), args := #[Operand.tmp t], argTypes := #[129] }, type := u, pos := ps, after := ed, guard := none }).run Tryz.prog w = .ok (.enter 109 #[x]) w := by
  unfold execOp
  go_simp
  rw [← ht]
  simp [Act.eval]
theorem void4 {w : World} {b : Nat} (h : ∀ j, w.cell? ⟨b, j, none⟩ = #[Value.bool false, .int .u64 0, .int .u64 0, .pointer none][j]?) : P4 w b false 0 0 none := ⟨h 0, h 1, h 2, h 3⟩
theorem void5 {w : World} {b : Nat} (h : ∀ j, w.cell? ⟨b, j, none⟩ = #[Value.bool false, .int .u64 0, .int .u64 0, .pointer none, .int .i64 0][j]?) : P5 w b false 0 0 none 0 := ⟨h 0, h 1, h 2, h 3, h 4⟩
theorem frz4 {w : World} {g : Nat} {v0 v1 v2 v3 : Value} (fz : ∀ j, w.frozen? ⟨g, j, none⟩ = false) (j : Nat) : ((((w.setCell ⟨g, 0, none⟩ v0).setCell ⟨g, 1, none⟩ v1).setCell ⟨g, 2, none⟩ v2).setCell ⟨g, 3, none⟩ v3).frozen? ⟨g, j, none⟩ = false := by
  rw [World.frozen?_setCell, World.frozen?_setCell, World.frozen?_setCell, World.frozen?_setCell]; exact fz j
theorem but4 (w : World) (g : Nat) (v0 v1 v2 v3 : Value) : But [g] w ((((w.setCell ⟨g, 0, none⟩ v0).setCell ⟨g, 1, none⟩ v1).setCell ⟨g, 2, none⟩ v2).setCell ⟨g, 3, none⟩ v3) :=
  (((((But.refl [g] w).setCell (.inl (by simp)) _).setCell (.inl (by simp)) _).setCell (.inl (by simp)) _).setCell (.inl (by simp)) _)
theorem but5 (w : World) (g : Nat) (v0 v1 v2 v3 v4 : Value) : But [g] w (((((w.setCell ⟨g, 0, none⟩ v0).setCell ⟨g, 1, none⟩ v1).setCell ⟨g, 2, none⟩ v2).setCell ⟨g, 3, none⟩ v3).setCell ⟨g, 4, none⟩ v4) :=
  (but4 w g v0 v1 v2 v3).setCell (.inl (by simp)) _

/-- the statement that makes the first two marks -/
def opsN : Array Oper := #[
  { dst := some 16, op := Op.call { callee := Callee.value (Operand.func 51), args := #[Operand.const (Value.int IntKind.i64 1)], argTypes := #[3] }, type := 27, pos := "near.go:51", after := #[], guard := none },
  { dst := some 17, op := Op.build 129 #[(0, Operand.tmp 16), (1, Operand.const (Value.int IntKind.i64 0))], type := 129, pos := "near.go:51", after := #[{ on := 0, ground := Ground.data }], guard := none },
  { dst := some 18, op := Op.load 27 (Operand.tmp 6), type := 27, pos := "near.go:51", after := #[{ on := 6, ground := Ground.gcOnly Departure.lateStores }], guard := none },
  { dst := some 19, op := Op.build 129 #[(0, Operand.tmp 18), (1, Operand.const (Value.int IntKind.i64 1))], type := 129, pos := "near.go:51", after := #[{ on := 2, ground := Ground.data }, { on := 6, ground := Ground.gcOnly Departure.lateStores }], guard := none },
  { dst := some 7, op := Op.alloc 129, type := 0, pos := "near.go:51", after := #[], guard := none },
  { dst := some 8, op := Op.alloc 129, type := 0, pos := "near.go:51", after := #[], guard := none },
  { dst := none, op := Op.store 129 (Operand.tmp 7) (Operand.tmp 17), type := 0, pos := "near.go:51", after := #[{ on := 4, ground := Ground.data }, { on := 1, ground := Ground.data }, { on := 0, ground := Ground.chain }, { on := 0, ground := Ground.phase }, { on := 1, ground := Ground.phase }, { on := 2, ground := Ground.textOnly Departure.lateStores }, { on := 3, ground := Ground.textOnly Departure.lateStores }, { on := 4, ground := Ground.phase }, { on := 5, ground := Ground.phase }], guard := none },
  { dst := none, op := Op.store 129 (Operand.tmp 8) (Operand.tmp 19), type := 0, pos := "near.go:51", after := #[{ on := 5, ground := Ground.data }, { on := 3, ground := Ground.data }, { on := 6, ground := Ground.chain }, { on := 0, ground := Ground.phase }, { on := 1, ground := Ground.phase }, { on := 2, ground := Ground.phase }, { on := 3, ground := Ground.phase }, { on := 4, ground := Ground.phase }, { on := 5, ground := Ground.phase }, { on := 6, ground := Ground.phase }], guard := none }]
theorem stays_eq (u : Value) : Stays (fun _ v => v = u) := ⟨fun _ _ _ h _ => h, fun _ _ _ _ _ h _ _ => h⟩
theorem neigh_region (id : Nat) (base : Act) (W0 : World) (Q : Exit → Act → World → Prop) (g6 : Nat) (s6 : Bool) (x6 y6 : Int) (p6 : Option Addr) (ob : Bool) (op oq : Int) (oo : Option Addr) (hs : 19 < base.tmps.size)
    (e6 : base.eval (.tmp 6) = .pointer (some ⟨g6, 0, none⟩)) (c6 : P4 W0 g6 s6 x6 y6 p6)
    (hw : ∀ w, Calls Tryz.prog 51 #[.int .i64 1] w fun e w' => e = .returned (.agg #[.bool ob, .int .u64 op, .int .u64 oq, .pointer oo]) ∧ But [] w w')
    (hQ : ∀ w b7 b8, But [] W0.drew w → W0.heap.size ≤ b7 → W0.heap.size ≤ b8 → b7 ≠ b8 → (∀ j, w.frozen? ⟨b7, j, none⟩ = false) → (∀ j, w.frozen? ⟨b8, j, none⟩ = false) → P5 w b7 ob op oq oo 0 → P5 w b8 s6 x6 y6 p6 1 → Q .normal (putted base [(16, .agg #[.bool ob, .int .u64 op, .int .u64 oq, .pointer oo]), (17, .agg #[.bool ob, .int .u64 op, .int .u64 oq, .pointer oo, .int .i64 0]), (18, .agg #[.bool s6, .int .u64 x6, .int .u64 y6, .pointer p6]), (19, .agg #[.bool s6, .int .u64 x6, .int .u64 y6, .pointer p6, .int .i64 1]), (7, .pointer (some ⟨b7, 0, none⟩)), (8, .pointer (some ⟨b8, 0, none⟩))]) w) :
    (Code.region id opsN true).wp Tryz.prog Q base W0 := by
  refine region_two (by kernel_rfl) (low_of (by kernel_rfl)) rfl (dep_of (by kernel_rfl)) 16 17 18 19 7 8 (by decide) (fun t ht => by simp at ht; omega)
    (.agg #[.bool ob, .int .u64 op, .int .u64 oq, .pointer oo]) (.agg #[.bool s6, .int .u64 x6, .int .u64 y6, .pointer p6])
    (fun _ v => v = .agg #[.bool ob, .int .u64 op, .int .u64 oq, .pointer oo, .int .i64 0]) (fun _ v => v = .agg #[.bool s6, .int .u64 x6, .int .u64 y6, .pointer p6, .int .i64 1])
    #[.bool false, .int .u64 0, .int .u64 0, .pointer none, .int .i64 0] #[.bool false, .int .u64 0, .int .u64 0, .pointer none, .int .i64 0] 129 129 (stays_eq _) (stays_eq _) ⟨false, rfl⟩ ⟨false, rfl⟩ ?_ ?_ ?_ ?_ ?_ ?_ ?_ ?_ ?_
  · intro a w K _ _ hK
    refine op_enter (R := fun w' v => v = .agg #[.bool ob, .int .u64 op, .int .u64 oq, .pointer oo] ∧ But [] w w') rfl rfl (run_callOne a w _ _ _ _) ((hw w).mono fun e w' hh => ⟨_, hh.1, rfl, hh.2⟩) ?_
    rintro v w' ⟨rfl, hb⟩
    exact hK w' hb
  · intro a w K _ ha hK
    exact op_value rfl rfl (run_build5 a w _ _ _ _ _ _ _ _ _ _ ha) (hK _ w (But.refl _ _) rfl)
  · intro a w K hb he hK
    exact op_value rfl rfl (run_load4 a w _ _ _ _ _ g6 _ _ _ _ ((he 6 (by decide)).trans e6) (c6.but ((But.refl [] W0).drew.trans' hb) (by simp))) (hK w (But.refl _ _))
  · intro a w K _ ha hK
    exact op_value rfl rfl (run_build5 a w _ _ _ _ _ _ _ _ _ _ ha) (hK _ w (But.refl _ _) rfl)
  · intro a w K hK
    exact op_value rfl rfl (run_alloc5 a w _ _ _ _) hK
  · intro a w K hK
    exact op_value rfl rfl (run_alloc5 a w _ _ _ _) hK
  · intro a w K b v h1 h2 hv hz hf hK
    subst hv
    exact op_skip rfl rfl (run_store5 a w _ _ _ _ _ b _ _ _ _ _ h1 h2 (void5 hz) hf) (hK _ (but5 _ _ _ _ _ _ _) (set5_full w b _ _ _ _ _ _ rfl hz) (fun j => by rw [World.frozen?_setCell]; exact frz4 hf j))
  · intro a w K b v h1 h2 hv hz hf hK
    subst hv
    exact op_skip rfl rfl (run_store5 a w _ _ _ _ _ b _ _ _ _ _ h1 h2 (void5 hz) hf) (hK _ (but5 _ _ _ _ _ _ _) (set5_full w b _ _ _ _ _ _ rfl hz) (fun j => by rw [World.frozen?_setCell]; exact frz4 hf j))
  · rintro w vx vy bx bY hb rfl rfl h1 h2 h3 h4 h5 h6 h7
    exact hQ w bx bY hb h1 h2 h3 h4 h5 h6.p5 h7.p5

/-- the statement that takes two marks' values -/
def opsV : Array Oper := #[
  { dst := some 9, op := Op.load 129 (Operand.tmp 3), type := 129, pos := "near.go:31", after := #[], guard := none },
  { dst := some 10, op := Op.call { callee := Callee.value (Operand.func 109), args := #[Operand.tmp 9], argTypes := #[129] }, type := 27, pos := "near.go:31", after := #[{ on := 0, ground := Ground.data }], guard := none },
  { dst := some 11, op := Op.load 129 (Operand.tmp 4), type := 129, pos := "near.go:31", after := #[], guard := none },
  { dst := some 12, op := Op.call { callee := Callee.value (Operand.func 109), args := #[Operand.tmp 11], argTypes := #[129] }, type := 27, pos := "near.go:31", after := #[{ on := 2, ground := Ground.data }, { on := 1, ground := Ground.chain }], guard := none },
  { dst := some 6, op := Op.alloc 27, type := 0, pos := "near.go:31", after := #[], guard := none },
  { dst := some 7, op := Op.alloc 27, type := 0, pos := "near.go:31", after := #[], guard := none },
  { dst := none, op := Op.store 27 (Operand.tmp 6) (Operand.tmp 10), type := 0, pos := "near.go:31", after := #[{ on := 4, ground := Ground.data }, { on := 1, ground := Ground.data }, { on := 3, ground := Ground.chain }, { on := 0, ground := Ground.phase }, { on := 1, ground := Ground.phase }, { on := 2, ground := Ground.textOnly Departure.lateStores }, { on := 3, ground := Ground.textOnly Departure.lateStoresUnsure }, { on := 4, ground := Ground.phase }, { on := 5, ground := Ground.phase }], guard := none },
  { dst := none, op := Op.store 27 (Operand.tmp 7) (Operand.tmp 12), type := 0, pos := "near.go:31", after := #[{ on := 5, ground := Ground.data }, { on := 3, ground := Ground.data }, { on := 6, ground := Ground.chain }, { on := 0, ground := Ground.phase }, { on := 1, ground := Ground.phase }, { on := 2, ground := Ground.phase }, { on := 3, ground := Ground.phase }, { on := 4, ground := Ground.phase }, { on := 5, ground := Ground.phase }, { on := 6, ground := Ground.phase }], guard := none }]
/-- a fraction's value with its four parts -/
def FracOf (d : Rat) (w : World) (v : Value) : Prop := (∃ s x y p, v = .agg #[.bool s, .int .u64 x, .int .u64 y, .pointer p]) ∧ FracAt w v d
theorem stays_frac (d : Rat) : Stays (FracOf d) := ⟨fun _ _ _ h hb => ⟨h.1, h.2.but hb⟩, fun _ _ _ _ _ h hc hb => ⟨h.1, h.2.over hc hb⟩⟩
theorem values_region (id : Nat) (base : Act) (W0 : World) (Q : Exit → Act → World → Prop) (ga gb : Nat) (s1 : Bool) (x1 y1 k1 : Int) (p1 : Option Addr) (s2 : Bool) (x2 y2 k2 : Int) (p2 : Option Addr) (d1 d2 : Rat) (hs : 12 < base.tmps.size)
    (e3 : base.eval (.tmp 3) = .pointer (some ⟨ga, 0, none⟩)) (e4 : base.eval (.tmp 4) = .pointer (some ⟨gb, 0, none⟩)) (c3 : P5 W0 ga s1 x1 y1 p1 k1) (c4 : P5 W0 gb s2 x2 y2 p2 k2)
    (hx : ∀ w, But [] W0 w → Calls Tryz.prog 109 #[.agg #[.bool s1, .int .u64 x1, .int .u64 y1, .pointer p1, .int .i64 k1]] w fun e w' => ∃ v, e = .returned v ∧ FracOf d1 w' v ∧ But [] w w')
    (hy : ∀ w, But [] W0 w → Calls Tryz.prog 109 #[.agg #[.bool s2, .int .u64 x2, .int .u64 y2, .pointer p2, .int .i64 k2]] w fun e w' => ∃ v, e = .returned v ∧ FracOf d2 w' v ∧ But [] w w')
    (hQ : ∀ w vx vy b6 b7, But [] W0.drew w → FracOf d1 w vx → FracOf d2 w vy → W0.heap.size ≤ b6 → W0.heap.size ≤ b7 → Full w b6 vx → Full w b7 vy → Q .normal (putted base [(9, .agg #[.bool s1, .int .u64 x1, .int .u64 y1, .pointer p1, .int .i64 k1]), (10, vx), (11, .agg #[.bool s2, .int .u64 x2, .int .u64 y2, .pointer p2, .int .i64 k2]), (12, vy), (6, .pointer (some ⟨b6, 0, none⟩)), (7, .pointer (some ⟨b7, 0, none⟩))]) w) :
    (Code.region id opsV true).wp Tryz.prog Q base W0 := by
  have dd : ∀ w, But [] W0.drew w → But [] W0 w := fun w hb => (But.refl [] W0).drew.trans' hb
  refine region_two (by kernel_rfl) (low_of (by kernel_rfl)) rfl (dep_of (by kernel_rfl)) 9 10 11 12 6 7 (by decide) (fun t ht => by simp at ht; omega)
    (.agg #[.bool s1, .int .u64 x1, .int .u64 y1, .pointer p1, .int .i64 k1]) (.agg #[.bool s2, .int .u64 x2, .int .u64 y2, .pointer p2, .int .i64 k2]) (FracOf d1) (FracOf d2)
    #[.bool false, .int .u64 0, .int .u64 0, .pointer none] #[.bool false, .int .u64 0, .int .u64 0, .pointer none] 27 27 (stays_frac _) (stays_frac _) ⟨false, rfl⟩ ⟨false, rfl⟩ ?_ ?_ ?_ ?_ ?_ ?_ ?_ ?_ ?_
  · intro a w K hb he hK
    exact op_value rfl rfl (run_load5 a w _ _ _ _ _ ga _ _ _ _ _ ((he 3 (by decide)).trans e3) (c3.but (dd w hb) (by simp))) (hK w (But.refl _ _))
  · intro a w K hb ha hK
    refine op_enter (R := fun w' v => FracOf d1 w' v ∧ But [] w w') rfl rfl (run_callValue a w _ _ _ _ _ _ ha) (hx w (dd w hb)) ?_
    rintro v w' ⟨hv, hb'⟩
    exact hK v w' hb' hv
  · intro a w K hb he hK
    exact op_value rfl rfl (run_load5 a w _ _ _ _ _ gb _ _ _ _ _ ((he 4 (by decide)).trans e4) (c4.but (dd w hb) (by simp))) (hK w (But.refl _ _))
  · intro a w K hb ha hK
    refine op_enter (R := fun w' v => FracOf d2 w' v ∧ But [] w w') rfl rfl (run_callValue a w _ _ _ _ _ _ ha) (hy w (dd w hb)) ?_
    rintro v w' ⟨hv, hb'⟩
    exact hK v w' hb' hv
  · intro a w K hK
    exact op_value rfl rfl (run_alloc4 a w _ _ _ _) hK
  · intro a w K hK
    exact op_value rfl rfl (run_alloc4 a w _ _ _ _) hK
  · intro a w K b v h1 h2 hv hz hf hK
    obtain ⟨⟨s, x, y, p, rfl⟩, -⟩ := hv
    exact op_skip rfl rfl (run_store4 a w _ _ _ _ _ b _ _ _ _ h1 h2 (void4 hz) hf) (hK _ (but4 _ _ _ _ _ _) (set4_full w b _ _ _ _ _ rfl hz) (fun j => frz4 hf j))
  · intro a w K b v h1 h2 hv hz hf hK
    obtain ⟨⟨s, x, y, p, rfl⟩, -⟩ := hv
    exact op_skip rfl rfl (run_store4 a w _ _ _ _ _ b _ _ _ _ h1 h2 (void4 hz) hf) (hK _ (but4 _ _ _ _ _ _) (set4_full w b _ _ _ _ _ rfl hz) (fun j => frz4 hf j))
  · rintro w vx vy bx bY hb hx hy h1 h2 - - - h6 h7
    exact hQ w vx vy bx bY hb hx hy h1 h2 h6 h7
end Go.Proofs.YtihiafgogbhjkaaGreatDoor

namespace Go.Proofs.YtihiafgogbhjkaaGreatDoor
open Go.RowKit

/-- as far as that has come -/
structure Moves (W : World) (base : Act) (t0 t1 t2 t3 t4 : Nat) (A0 A1 A2 A3 : Value) (R : World → Value → Prop) (bA bB : Nat) (FA : World → Prop) (FB : World → Value → Prop) (d : Nat → Bool) (a : Act) (w : World) (v : Value) : Prop where
  size : a.tmps.size = base.tmps.size
  defers : a.defers = base.defers
  rest : ∀ t, t ≠ t0 → t ≠ t1 → t ≠ t2 → t ≠ t3 → t ≠ t4 → a.tmps[t]? = base.tmps[t]?
  a0 : d 0 = true → a.eval (.tmp t0) = A0
  a1 : d 1 = true → a.eval (.tmp t1) = A1
  a2 : d 2 = true → a.eval (.tmp t2) = A2
  a3 : d 3 = true → a.eval (.tmp t3) = A3
  a4 : d 4 = true → a.eval (.tmp t4) = v ∧ R w v
  ahead : d 5 = false → But [] W w
  mid : d 5 = true → d 6 = false → ∃ w1, But [] W w1 ∧ But [bA] w1 w ∧ FA w
  fin : d 6 = true → ∃ w1 w2, But [] W w1 ∧ But [bA] w1 w2 ∧ FA w2 ∧ But [bB] w2 w ∧ FB w v
  d4 : d 4 = true → d 1 = true ∧ d 2 = true ∧ d 3 = true
  d5 : d 5 = true → d 0 = true ∧ d 4 = true
  d6 : d 6 = true → d 5 = true

theorem region_moves {P : Program} {id : Nat} {ops : Array Oper} {Q : Exit → Act → World → Prop} {base : Act} {W0 : World} (hm : P.follows .mixedOrders = true)
    (hlow : ∀ i o, ops[i]? = some o → ∀ e ∈ o.after, Region.binds .any e = true → e.on < i) (hsz : ops.size = 7)
    (hb : ∀ i j, (i, j) ∈ [(4, 1), (4, 2), (4, 3), (5, 0), (5, 4), (6, 4), (6, 5)] → ∃ o, ops[i]? = some o ∧ ∃ e ∈ o.after, Region.binds .any e = true ∧ e.on = j)
    (t0 t1 t2 t3 t4 : Nat) (hnd : [t0, t1, t2, t3, t4].Nodup) (hs : ∀ t ∈ [t0, t1, t2, t3, t4], t < base.tmps.size)
    (A0 A1 A2 A3 : Value) (R : World → Value → Prop) (sR : Stays R) (bA bB : Nat) (FA : World → Prop) (FB : World → Value → Prop) (cA : ∃ s, W0.cell? ⟨bA, 0, none⟩ = some (.bool s)) (cB : ∃ s, W0.cell? ⟨bB, 0, none⟩ = some (.bool s)) (hAB : bA ≠ bB)
    (h0 : ∀ (a : Act) (w : World) (K : Act → World → Prop), But [] W0 w → (∀ t, t ∉ [t0, t1, t2, t3, t4] → a.eval (.tmp t) = base.eval (.tmp t)) → K (a.put (some t0) A0) w → wpOp P ops Q 0 K a w)
    (h1 : ∀ (a : Act) (w : World) (K : Act → World → Prop), But [] W0 w → (∀ t, t ∉ [t0, t1, t2, t3, t4] → a.eval (.tmp t) = base.eval (.tmp t)) → K (a.put (some t1) A1) w → wpOp P ops Q 1 K a w)
    (h2 : ∀ (a : Act) (w : World) (K : Act → World → Prop), (∀ t, t ∉ [t0, t1, t2, t3, t4] → a.eval (.tmp t) = base.eval (.tmp t)) → K (a.put (some t2) A2) w → wpOp P ops Q 2 K a w)
    (h3 : ∀ (a : Act) (w : World) (K : Act → World → Prop), But [] W0 w → (∀ t, t ∉ [t0, t1, t2, t3, t4] → a.eval (.tmp t) = base.eval (.tmp t)) → K (a.put (some t3) A3) w → wpOp P ops Q 3 K a w)
    (h4 : ∀ (a : Act) (w : World) (K : Act → World → Prop), But [] W0 w → a.eval (.tmp t1) = A1 → a.eval (.tmp t2) = A2 → a.eval (.tmp t3) = A3 → (∀ v w', But [] w w' → R w' v → K (a.put (some t4) v) w') → wpOp P ops Q 4 K a w)
    (h5 : ∀ (a : Act) (w : World) (K : Act → World → Prop), But [] W0 w → (∀ t, t ∉ [t0, t1, t2, t3, t4] → a.eval (.tmp t) = base.eval (.tmp t)) → a.eval (.tmp t0) = A0 → (∀ w', But [bA] w w' → FA w' → K a w') → wpOp P ops Q 5 K a w)
    (h6 : ∀ (a : Act) (w1 w : World) (K : Act → World → Prop) (v : Value), But [] W0 w1 → But [bA] w1 w → (∀ t, t ∉ [t0, t1, t2, t3, t4] → a.eval (.tmp t) = base.eval (.tmp t)) → a.eval (.tmp t4) = v → R w v → (∀ w', But [bB] w w' → FB w' v → K a w') → wpOp P ops Q 6 K a w)
    (hQ : ∀ w1 w2 w v, But [] W0 w1 → But [bA] w1 w2 → FA w2 → But [bB] w2 w → FB w v → R w v → Q .normal (putted base [(t0, A0), (t1, A1), (t2, A2), (t3, A3), (t4, v)]) w) :
    (Code.region id ops true).wp P Q base W0 := by
  obtain ⟨W, hW⟩ : ∃ W, W = W0.drew := ⟨_, rfl⟩
  have hWb : But [] W0 W := by rw [hW]; exact (But.refl _ _).drew
  simp only [List.nodup_cons, List.mem_cons, List.not_mem_nil, or_false, not_or, List.nodup_nil, and_true, not_false_eq_true] at hnd
  obtain ⟨⟨n01, n02, n03, n04⟩, ⟨n12, n13, n14⟩, ⟨n23, n24⟩, n34⟩ := hnd
  have z0 := hs t0 (by simp)
  have z1 := hs t1 (by simp)
  have z2 := hs t2 (by simp)
  have z3 := hs t3 (by simp)
  have z4 := hs t4 (by simp)
  have dep : ∀ (d : Nat → Bool) i j o, (i, j) ∈ [(4, 1), (4, 2), (4, 3), (5, 0), (5, 4), (6, 4), (6, 5)] → ops[i]? = some o → (∀ e ∈ o.after, Region.binds .any e = true → d e.on = true) → d j = true := fun d i j o hij ho hd => by
    obtain ⟨o', ho', e, he, hbi, rfl⟩ := hb i j hij
    rw [ho'] at ho
    obtain rfl := Option.some.inj ho
    exact hd e he hbi
  refine region_inv hm hlow (fun d a w => ∃ v, Moves W base t0 t1 t2 t3 t4 A0 A1 A2 A3 R bA bB FA FB d a w v) ?_ ?_ ?_
  · rw [← hW]
    exact ⟨undef, rfl, rfl, fun _ _ _ _ _ _ => rfl, by simp, by simp, by simp, by simp, by simp, fun _ => But.refl _ _, by simp, by simp, by simp, by simp, by simp⟩
  · rintro d a w hd ⟨v, h⟩
    rw [hsz] at hd
    obtain ⟨w1, w2, f1, f2, f3, f4, f5⟩ := h.fin (hd 6 (by omega))
    obtain ⟨v4, r4⟩ := h.a4 (hd 4 (by omega))
    have ea : a = putted base [(t0, A0), (t1, A1), (t2, A2), (t3, A3), (t4, v)] := by
      have hz := h.size
      refine putted_eq _ base a h.defers h.size (fun p hp => ?_) (fun t ht => ?_)
      · simp only [List.mem_cons, List.not_mem_nil, or_false] at hp
        rcases hp with rfl | rfl | rfl | rfl | rfl
        · exact slot_is (h.a0 (hd 0 (by omega))) (by rw [hz]; exact z0)
        · exact slot_is (h.a1 (hd 1 (by omega))) (by rw [hz]; exact z1)
        · exact slot_is (h.a2 (hd 2 (by omega))) (by rw [hz]; exact z2)
        · exact slot_is (h.a3 (hd 3 (by omega))) (by rw [hz]; exact z3)
        · exact slot_is v4 (by rw [hz]; exact z4)
      · exact h.rest t (ht (t0, A0) (by simp)) (ht (t1, A1) (by simp)) (ht (t2, A2) (by simp)) (ht (t3, A3) (by simp)) (ht (t4, v) (by simp))
    rw [ea]
    exact hQ w1 w2 w v (hWb.trans' f1) f2 f3 f4 f5 r4
  · rintro d i o a w ho hf hd ⟨v, h⟩
    have hi : i < 7 := by rw [← hsz]; exact (Array.getElem?_eq_some_iff.1 ho).1
    have hsa := h.size
    have hev : ∀ t, t ∉ [t0, t1, t2, t3, t4] → a.eval (.tmp t) = base.eval (.tmp t) := fun t ht => by
      simp only [List.mem_cons, List.not_mem_nil, or_false, not_or] at ht
      exact rest_eval (h.rest t ht.1 ht.2.1 ht.2.2.1 ht.2.2.2.1 ht.2.2.2.2)
    have hc : i = 0 ∨ i = 1 ∨ i = 2 ∨ i = 3 ∨ i = 4 ∨ i = 5 ∨ i = 6 := by omega
    rcases hc with rfl | rfl | rfl | rfl | rfl | rfl | rfl
    · have e5 : d 5 = false := by
        cases e : d 5 with
        | false => rfl
        | true => exact absurd (h.d5 e).1 (by rw [hf]; simp)
      have hw := h.ahead e5
      refine h0 a w _ (hWb.trans' hw) hev ?_
      exact ⟨v, size_put' h.size, h.defers, fun t k0 k1 k2 k3 k4 => rest_put' (h.rest t k0 k1 k2 k3 k4) k0, fun _ => at_eq a t0 A0 (by rw [hsa]; exact z0), fun e => (at_ne a t0 t1 A0 (Ne.symm n01)).trans (h.a1 e), fun e => (at_ne a t0 t2 A0 (Ne.symm n02)).trans (h.a2 e), fun e => (at_ne a t0 t3 A0 (Ne.symm n03)).trans (h.a3 e), fun e => ⟨(at_ne a t0 t4 A0 (Ne.symm n04)).trans (h.a4 e).1, (h.a4 e).2⟩, fun _ => hw, fun e => absurd (show d 5 = true from e) (by rw [e5]; simp), fun e => absurd (h.d6 e) (by rw [e5]; simp), h.d4, fun e => ⟨rfl, (h.d5 e).2⟩, h.d6⟩
    · have e5 : d 5 = false := by
        cases e : d 5 with
        | false => rfl
        | true => exact absurd (h.d4 (h.d5 e).2).1 (by rw [hf]; simp)
      have hw := h.ahead e5
      refine h1 a w _ (hWb.trans' hw) hev ?_
      exact ⟨v, size_put' h.size, h.defers, fun t k0 k1 k2 k3 k4 => rest_put' (h.rest t k0 k1 k2 k3 k4) k1, fun e => (at_ne a t1 t0 A1 n01).trans (h.a0 e), fun _ => at_eq a t1 A1 (by rw [hsa]; exact z1), fun e => (at_ne a t1 t2 A1 (Ne.symm n12)).trans (h.a2 e), fun e => (at_ne a t1 t3 A1 (Ne.symm n13)).trans (h.a3 e), fun e => ⟨(at_ne a t1 t4 A1 (Ne.symm n14)).trans (h.a4 e).1, (h.a4 e).2⟩, fun _ => hw, fun e => absurd (show d 5 = true from e) (by rw [e5]; simp), fun e => absurd (h.d6 e) (by rw [e5]; simp), fun e => ⟨rfl, (h.d4 e).2.1, (h.d4 e).2.2⟩, h.d5, h.d6⟩
    · have e5 : d 5 = false := by
        cases e : d 5 with
        | false => rfl
        | true => exact absurd (h.d4 (h.d5 e).2).2.1 (by rw [hf]; simp)
      have hw := h.ahead e5
      refine h2 a w _ hev ?_
      exact ⟨v, size_put' h.size, h.defers, fun t k0 k1 k2 k3 k4 => rest_put' (h.rest t k0 k1 k2 k3 k4) k2, fun e => (at_ne a t2 t0 A2 n02).trans (h.a0 e), fun e => (at_ne a t2 t1 A2 n12).trans (h.a1 e), fun _ => at_eq a t2 A2 (by rw [hsa]; exact z2), fun e => (at_ne a t2 t3 A2 (Ne.symm n23)).trans (h.a3 e), fun e => ⟨(at_ne a t2 t4 A2 (Ne.symm n24)).trans (h.a4 e).1, (h.a4 e).2⟩, fun _ => hw, fun e => absurd (show d 5 = true from e) (by rw [e5]; simp), fun e => absurd (h.d6 e) (by rw [e5]; simp), fun e => ⟨(h.d4 e).1, rfl, (h.d4 e).2.2⟩, h.d5, h.d6⟩
    · have e5 : d 5 = false := by
        cases e : d 5 with
        | false => rfl
        | true => exact absurd (h.d4 (h.d5 e).2).2.2 (by rw [hf]; simp)
      have hw := h.ahead e5
      refine h3 a w _ (hWb.trans' hw) hev ?_
      exact ⟨v, size_put' h.size, h.defers, fun t k0 k1 k2 k3 k4 => rest_put' (h.rest t k0 k1 k2 k3 k4) k3, fun e => (at_ne a t3 t0 A3 n03).trans (h.a0 e), fun e => (at_ne a t3 t1 A3 n13).trans (h.a1 e), fun e => (at_ne a t3 t2 A3 n23).trans (h.a2 e), fun _ => at_eq a t3 A3 (by rw [hsa]; exact z3), fun e => ⟨(at_ne a t3 t4 A3 (Ne.symm n34)).trans (h.a4 e).1, (h.a4 e).2⟩, fun _ => hw, fun e => absurd (show d 5 = true from e) (by rw [e5]; simp), fun e => absurd (h.d6 e) (by rw [e5]; simp), fun e => ⟨(h.d4 e).1, (h.d4 e).2.1, rfl⟩, h.d5, h.d6⟩
    · have e5 : d 5 = false := by
        cases e : d 5 with
        | false => rfl
        | true => exact absurd (h.d5 e).2 (by rw [hf]; simp)
      have hw := h.ahead e5
      have e1 := dep d 4 1 o (by simp) ho hd
      have e2 := dep d 4 2 o (by simp) ho hd
      have e3 := dep d 4 3 o (by simp) ho hd
      refine h4 a w _ (hWb.trans' hw) (h.a1 e1) (h.a2 e2) (h.a3 e3) (fun v' w' hw' hv => ?_)
      exact ⟨v', size_put' h.size, h.defers, fun t k0 k1 k2 k3 k4 => rest_put' (h.rest t k0 k1 k2 k3 k4) k4, fun e => (at_ne a t4 t0 v' n04).trans (h.a0 e), fun e => (at_ne a t4 t1 v' n14).trans (h.a1 e), fun e => (at_ne a t4 t2 v' n24).trans (h.a2 e), fun e => (at_ne a t4 t3 v' n34).trans (h.a3 e), fun _ => ⟨at_eq a t4 v' (by rw [hsa]; exact z4), hv⟩, fun _ => hw.trans' hw', fun e => absurd (show d 5 = true from e) (by rw [e5]; simp), fun e => absurd (h.d6 e) (by rw [e5]; simp), fun _ => ⟨e1, e2, e3⟩, fun e => ⟨(h.d5 e).1, rfl⟩, h.d6⟩
    · have e0 := dep d 5 0 o (by simp) ho hd
      have e4 := dep d 5 4 o (by simp) ho hd
      have hw := h.ahead hf
      obtain ⟨s, hs0⟩ := cA
      have hs1 := (hWb.trans' hw).cell_some hs0 (by simp)
      refine h5 a w _ (hWb.trans' hw) hev (h.a0 e0) (fun w' hw' fa => ?_)
      exact ⟨v, h.size, h.defers, h.rest, h.a0, h.a1, h.a2, h.a3, fun e => ⟨(h.a4 e).1, sR.over _ _ _ _ _ (h.a4 e).2 hs1 hw'⟩, fun e => absurd (show true = false from e) (by simp), fun _ _ => ⟨w, hw, hw', fa⟩, fun e => absurd (h.d6 e) (by rw [hf]; simp), h.d4, fun _ => ⟨e0, e4⟩, fun _ => rfl⟩
    · have e4 := dep d 6 4 o (by simp) ho hd
      have e5 := dep d 6 5 o (by simp) ho hd
      obtain ⟨w1, m1, m2, m3⟩ := h.mid e5 hf
      obtain ⟨s, hs0⟩ := cB
      have hs1 := m2.cell_some ((hWb.trans' m1).cell_some hs0 (by simp)) (by simpa using Ne.symm hAB)
      refine h6 a w1 w _ v (hWb.trans' m1) m2 hev (h.a4 e4).1 (h.a4 e4).2 (fun w' hw' fb => ?_)
      exact ⟨v, h.size, h.defers, h.rest, h.a0, h.a1, h.a2, h.a3, fun e => ⟨(h.a4 e).1, sR.over _ _ _ _ _ (h.a4 e).2 hs1 hw'⟩, fun e => absurd (show d 5 = false from e) (by rw [e5]; simp), fun _ e => absurd (show true = false from e) (by simp), fun _ => ⟨w1, w, m1, m2, m3, hw', fb⟩, h.d4, h.d5, fun _ => e5⟩
end Go.Proofs.YtihiafgogbhjkaaGreatDoor

namespace Go.Proofs.YtihiafgogbhjkaaGreatDoor
open Go.RowKit

theorem run_store5g (a : Act) (w : World) (t1 t2 : Nat) (u : TypeId) (ps : String) (ed : Array Edge) (g : Nat) (s : Bool) (x y k : Int) (p : Option Addr) {s' : Bool} {x' y' k' : Int} {p' : Option Addr} (h1 : a.eval (.tmp t1) = .pointer (some ⟨g, 0, none⟩)) (h2 : a.eval (.tmp t2) = .agg #[.bool s, .int .u64 x, .int .u64 y, .pointer p, .int .i64 k]) (hc : P5 w g s' x' y' p' k') (fz : ∀ j, w.frozen? ⟨g, j, none⟩ = false) :
    (execOp a.eval { dst := none, op := Op.store 129 (.tmp t1) (.tmp t2), type := u, pos := ps, after := ed, guard := none }).run Tryz.prog w = .ok .skip (((((w.setCell ⟨g, 0, none⟩ (.bool s)).setCell ⟨g, 1, none⟩ (.int .u64 x)).setCell ⟨g, 2, none⟩ (.int .u64 y)).setCell ⟨g, 3, none⟩ (.pointer p)).setCell ⟨g, 4, none⟩ (.int .i64 k)) := by
  obtain ⟨c0, c1, c2, c3, c4⟩ := hc
  unfold execOp
  simp only [h1, h2]
  go_simp
theorem run_move (a : Act) (w : World) (d t : Nat) (u : TypeId) (ps : String) (ed : Array Edge) (N : Value) (h : a.eval (.tmp t) = N) :
    (execOp a.eval { dst := some d, op := Op.move (.tmp t), type := u, pos := ps, after := ed, guard := none }).run Tryz.prog w = .ok (.value N) w := by
  unfold execOp
  simp only [h]
  go_simp
theorem run_callPlus (a : Act) (w : World) (d t1 t2 t3 : Nat) (u : TypeId) (ps : String) (ed : Array Edge) (x1 x2 x3 : Value) (h1 : a.eval (.tmp t1) = x1) (h2 : a.eval (.tmp t2) = x2) (h3 : a.eval (.tmp t3) = x3) :
    (execOp a.eval { dst := some d, op := Op.call { callee := Callee.value (Operand.func 167), args := #[Operand.tmp t1, Operand.tmp t2, Operand.tmp t3], argTypes := #[129, 3, 129] }, type := u, pos := ps, after := ed, guard := none }).run Tryz.prog w = .ok (.enter 167 #[x1, x2, x3]) w := by
  unfold execOp
  go_simp
  rw [← h1, ← h2, ← h3]
  simp [Act.eval]
theorem set5_p5 (w : World) (b : Nat) (s : Bool) (x y : Int) (p : Option Addr) (k : Int) {s' : Bool} {x' y' k' : Int} {p' : Option Addr} (hc : P5 w b s' x' y' p' k') : P5 (((((w.setCell ⟨b, 0, none⟩ (.bool s)).setCell ⟨b, 1, none⟩ (.int .u64 x)).setCell ⟨b, 2, none⟩ (.int .u64 y)).setCell ⟨b, 3, none⟩ (.pointer p)).setCell ⟨b, 4, none⟩ (.int .i64 k)) b s x y p k := by
  obtain ⟨h1, h2⟩ := set4_all w b (.bool s) (.int .u64 x) (.int .u64 y) (.pointer p) (by rw [hc.1]; rfl) (by rw [hc.2.1]; rfl) (by rw [hc.2.2.1]; rfl) (by rw [hc.2.2.2.1]; rfl)
  refine ⟨?_, ?_, ?_, ?_, ?_⟩
  · rw [set_off _ _ 4 0 _ (by omega)]; exact h1 0 (by omega)
  · rw [set_off _ _ 4 1 _ (by omega)]; exact h1 1 (by omega)
  · rw [set_off _ _ 4 2 _ (by omega)]; exact h1 2 (by omega)
  · rw [set_off _ _ 4 3 _ (by omega)]; exact h1 3 (by omega)
  · exact World.cell?_setCell_same' _ _ _ (by rw [h2 4 (by omega), hc.2.2.2.2]; rfl)

def opsA : Array Oper := #[
  { dst := some 49, op := Op.load 129 (Operand.tmp 8), type := 129, pos := "near.go:59", after := #[], guard := none },
  { dst := some 50, op := Op.load 129 (Operand.tmp 7), type := 129, pos := "near.go:59", after := #[], guard := none },
  { dst := some 51, op := Op.move (Operand.tmp 11), type := 3, pos := "near.go:59", after := #[], guard := none },
  { dst := some 52, op := Op.load 129 (Operand.tmp 8), type := 129, pos := "near.go:59", after := #[], guard := none },
  { dst := some 53, op := Op.call { callee := Callee.value (Operand.func 167), args := #[Operand.tmp 50, Operand.tmp 51, Operand.tmp 52], argTypes := #[129, 3, 129] }, type := 129, pos := "near.go:59", after := #[{ on := 1, ground := Ground.data }, { on := 2, ground := Ground.data }, { on := 3, ground := Ground.data }], guard := none },
  { dst := none, op := Op.store 129 (Operand.tmp 4) (Operand.tmp 49), type := 0, pos := "near.go:59", after := #[{ on := 0, ground := Ground.data }, { on := 4, ground := Ground.chain }, { on := 0, ground := Ground.phase }, { on := 1, ground := Ground.textOnly Departure.lateStores }, { on := 2, ground := Ground.textOnly Departure.lateStores }, { on := 3, ground := Ground.textOnly Departure.lateStores }, { on := 4, ground := Ground.textOnly Departure.lateStoresUnsure }], guard := none },
  { dst := none, op := Op.store 129 (Operand.tmp 5) (Operand.tmp 53), type := 0, pos := "near.go:59", after := #[{ on := 4, ground := Ground.data }, { on := 5, ground := Ground.chain }, { on := 0, ground := Ground.phase }, { on := 1, ground := Ground.phase }, { on := 2, ground := Ground.phase }, { on := 3, ground := Ground.phase }, { on := 4, ground := Ground.phase }, { on := 5, ground := Ground.phase }], guard := none }]
theorem opsA_region (id : Nat) (base : Act) (W0 : World) (Q : Exit → Act → World → Prop) (g7 g8 bA bB : Nat) (s7 : Bool) (x7 y7 k7 : Int) (p7 : Option Addr) (s8 : Bool) (x8 y8 k8 : Int) (p8 : Option Addr) (N : Value) (R : World → Value → Prop) (sR : Stays R) (hR : ∀ w v, R w v → ∃ s x y p k, v = .agg #[.bool s, .int .u64 x, .int .u64 y, .pointer p, .int .i64 k]) (hs : 53 < base.tmps.size)
    (e7 : base.eval (.tmp 7) = .pointer (some ⟨g7, 0, none⟩)) (e8 : base.eval (.tmp 8) = .pointer (some ⟨g8, 0, none⟩)) (en : base.eval (.tmp 11) = N) (eA : base.eval (.tmp 4) = .pointer (some ⟨bA, 0, none⟩)) (eB : base.eval (.tmp 5) = .pointer (some ⟨bB, 0, none⟩)) (hAB : bA ≠ bB)
    (c7 : P5 W0 g7 s7 x7 y7 p7 k7) (c8 : P5 W0 g8 s8 x8 y8 p8 k8) (cA : ∃ s x y p k, P5 W0 bA s x y p k) (cB : ∃ s x y p k, P5 W0 bB s x y p k) (oA : ∀ j, W0.frozen? ⟨bA, j, none⟩ = false) (oB : ∀ j, W0.frozen? ⟨bB, j, none⟩ = false)
    (hc : ∀ w, But [] W0 w → Calls Tryz.prog 167 #[.agg #[.bool s7, .int .u64 x7, .int .u64 y7, .pointer p7, .int .i64 k7], N, .agg #[.bool s8, .int .u64 x8, .int .u64 y8, .pointer p8, .int .i64 k8]] w fun e w' => ∃ v, e = .returned v ∧ R w' v ∧ But [] w w')
    (hQ : ∀ w1 w2 w s x y p k, But [] W0 w1 → But [bA] w1 w2 → P5 w2 bA s8 x8 y8 p8 k8 → But [bB] w2 w → P5 w bB s x y p k → R w (.agg #[.bool s, .int .u64 x, .int .u64 y, .pointer p, .int .i64 k]) → (∀ j, w2.frozen? ⟨bA, j, none⟩ = false) → (∀ j, w.frozen? ⟨bB, j, none⟩ = false) → Q .normal (putted base [(49, .agg #[.bool s8, .int .u64 x8, .int .u64 y8, .pointer p8, .int .i64 k8]), (50, .agg #[.bool s7, .int .u64 x7, .int .u64 y7, .pointer p7, .int .i64 k7]), (51, N), (52, .agg #[.bool s8, .int .u64 x8, .int .u64 y8, .pointer p8, .int .i64 k8]), (53, .agg #[.bool s, .int .u64 x, .int .u64 y, .pointer p, .int .i64 k])]) w) :
    (Code.region id opsA true).wp Tryz.prog Q base W0 := by
  obtain ⟨sA, xA, yA, pA, kA, cA⟩ := cA
  obtain ⟨sB, xB, yB, pB, kB, cB⟩ := cB
  have lA : bA < W0.heap.size := lt_of_cell cA.1
  have lB : bB < W0.heap.size := lt_of_cell cB.1
  refine region_moves (by kernel_rfl) (low_of (by kernel_rfl)) rfl (dep_of (by kernel_rfl)) 49 50 51 52 53 (by decide) (fun t ht => by simp at ht; omega)
    (.agg #[.bool s8, .int .u64 x8, .int .u64 y8, .pointer p8, .int .i64 k8]) (.agg #[.bool s7, .int .u64 x7, .int .u64 y7, .pointer p7, .int .i64 k7]) N (.agg #[.bool s8, .int .u64 x8, .int .u64 y8, .pointer p8, .int .i64 k8]) R sR bA bB
    (fun w => P5 w bA s8 x8 y8 p8 k8 ∧ ∀ j, w.frozen? ⟨bA, j, none⟩ = false) (fun w v => (∃ s x y p k, v = .agg #[.bool s, .int .u64 x, .int .u64 y, .pointer p, .int .i64 k] ∧ P5 w bB s x y p k) ∧ ∀ j, w.frozen? ⟨bB, j, none⟩ = false) ⟨_, cA.1⟩ ⟨_, cB.1⟩ hAB ?_ ?_ ?_ ?_ ?_ ?_ ?_ ?_
  · intro a w K hb he hK
    exact op_value rfl rfl (run_load5 a w _ _ _ _ _ g8 _ _ _ _ _ ((he 8 (by decide)).trans e8) (c8.but hb (by simp))) hK
  · intro a w K hb he hK
    exact op_value rfl rfl (run_load5 a w _ _ _ _ _ g7 _ _ _ _ _ ((he 7 (by decide)).trans e7) (c7.but hb (by simp))) hK
  · intro a w K he hK
    exact op_value rfl rfl (run_move a w _ _ _ _ _ _ ((he 11 (by decide)).trans en)) hK
  · intro a w K hb he hK
    exact op_value rfl rfl (run_load5 a w _ _ _ _ _ g8 _ _ _ _ _ ((he 8 (by decide)).trans e8) (c8.but hb (by simp))) hK
  · intro a w K hb h1 h2 h3 hK
    refine op_enter (R := fun w' v => R w' v ∧ But [] w w') rfl rfl (run_callPlus a w _ _ _ _ _ _ _ _ _ _ h1 h2 h3) (hc w hb) ?_
    rintro v w' ⟨hv, hb'⟩
    exact hK v w' hb' hv
  · intro a w K hb he h0 hK
    exact op_skip rfl rfl (run_store5g a w _ _ _ _ _ bA _ _ _ _ _ ((he 4 (by decide)).trans eA) h0 (cA.but hb (by simp)) (fun j => (hb.frozen (p := ⟨bA, j, none⟩) lA (by simp)).trans (oA j))) (hK _ (but5 _ _ _ _ _ _ _) ⟨set5_p5 w bA _ _ _ _ _ (cA.but hb (by simp)), fun j => by rw [World.frozen?_setCell]; exact frz4 (fun j => (hb.frozen (p := ⟨bA, j, none⟩) lA (by simp)).trans (oA j)) j⟩)
  · intro a w1 w K v hb hb2 he h4 hv hK
    obtain ⟨s, x, y, p, k, rfl⟩ := hR w v hv
    have cB2 := (cB.but hb (by simp)).but hb2 (by simpa using Ne.symm hAB)
    exact op_skip rfl rfl (run_store5g a w _ _ _ _ _ bB _ _ _ _ _ ((he 5 (by decide)).trans eB) h4 cB2 (fun j => (hb2.frozen (p := ⟨bB, j, none⟩) (Nat.lt_of_lt_of_le lB hb.size) (by simpa using Ne.symm hAB)).trans ((hb.frozen (p := ⟨bB, j, none⟩) lB (by simp)).trans (oB j)))) (hK _ (but5 _ _ _ _ _ _ _) ⟨⟨_, _, _, _, _, rfl, set5_p5 w bB _ _ _ _ _ cB2⟩, fun j => by rw [World.frozen?_setCell]; exact frz4 (fun j => (hb2.frozen (p := ⟨bB, j, none⟩) (Nat.lt_of_lt_of_le lB hb.size) (by simpa using Ne.symm hAB)).trans ((hb.frozen (p := ⟨bB, j, none⟩) lB (by simp)).trans (oB j))) j⟩)
  · rintro w1 w2 w v f1 f2 ⟨f3, f3o⟩ f4 ⟨⟨s, x, y, p, k, rfl, f5⟩, f5o⟩ r
    exact hQ w1 w2 w s x y p k f1 f2 f3 f4 f5 r f3o f5o

def opsB : Array Oper := #[
  { dst := some 54, op := Op.load 129 (Operand.tmp 8), type := 129, pos := "near.go:61", after := #[], guard := none },
  { dst := some 55, op := Op.load 129 (Operand.tmp 7), type := 129, pos := "near.go:61", after := #[], guard := none },
  { dst := some 56, op := Op.move (Operand.tmp 12), type := 3, pos := "near.go:61", after := #[], guard := none },
  { dst := some 57, op := Op.load 129 (Operand.tmp 8), type := 129, pos := "near.go:61", after := #[], guard := none },
  { dst := some 58, op := Op.call { callee := Callee.value (Operand.func 167), args := #[Operand.tmp 55, Operand.tmp 56, Operand.tmp 57], argTypes := #[129, 3, 129] }, type := 129, pos := "near.go:61", after := #[{ on := 1, ground := Ground.data }, { on := 2, ground := Ground.data }, { on := 3, ground := Ground.data }], guard := none },
  { dst := none, op := Op.store 129 (Operand.tmp 7) (Operand.tmp 54), type := 0, pos := "near.go:61", after := #[{ on := 0, ground := Ground.data }, { on := 4, ground := Ground.chain }, { on := 0, ground := Ground.phase }, { on := 1, ground := Ground.phase }, { on := 2, ground := Ground.textOnly Departure.lateStores }, { on := 3, ground := Ground.textOnly Departure.lateStores }, { on := 4, ground := Ground.textOnly Departure.lateStoresUnsure }], guard := none },
  { dst := none, op := Op.store 129 (Operand.tmp 8) (Operand.tmp 58), type := 0, pos := "near.go:61", after := #[{ on := 4, ground := Ground.data }, { on := 5, ground := Ground.chain }, { on := 0, ground := Ground.phase }, { on := 1, ground := Ground.phase }, { on := 2, ground := Ground.phase }, { on := 3, ground := Ground.phase }, { on := 4, ground := Ground.phase }, { on := 5, ground := Ground.phase }], guard := none }]
theorem opsB_region (id : Nat) (base : Act) (W0 : World) (Q : Exit → Act → World → Prop) (g7 g8 bA bB : Nat) (s7 : Bool) (x7 y7 k7 : Int) (p7 : Option Addr) (s8 : Bool) (x8 y8 k8 : Int) (p8 : Option Addr) (N : Value) (R : World → Value → Prop) (sR : Stays R) (hR : ∀ w v, R w v → ∃ s x y p k, v = .agg #[.bool s, .int .u64 x, .int .u64 y, .pointer p, .int .i64 k]) (hs : 58 < base.tmps.size)
    (e7 : base.eval (.tmp 7) = .pointer (some ⟨g7, 0, none⟩)) (e8 : base.eval (.tmp 8) = .pointer (some ⟨g8, 0, none⟩)) (en : base.eval (.tmp 12) = N) (eA : base.eval (.tmp 7) = .pointer (some ⟨bA, 0, none⟩)) (eB : base.eval (.tmp 8) = .pointer (some ⟨bB, 0, none⟩)) (hAB : bA ≠ bB)
    (c7 : P5 W0 g7 s7 x7 y7 p7 k7) (c8 : P5 W0 g8 s8 x8 y8 p8 k8) (cA : ∃ s x y p k, P5 W0 bA s x y p k) (cB : ∃ s x y p k, P5 W0 bB s x y p k) (oA : ∀ j, W0.frozen? ⟨bA, j, none⟩ = false) (oB : ∀ j, W0.frozen? ⟨bB, j, none⟩ = false)
    (hc : ∀ w, But [] W0 w → Calls Tryz.prog 167 #[.agg #[.bool s7, .int .u64 x7, .int .u64 y7, .pointer p7, .int .i64 k7], N, .agg #[.bool s8, .int .u64 x8, .int .u64 y8, .pointer p8, .int .i64 k8]] w fun e w' => ∃ v, e = .returned v ∧ R w' v ∧ But [] w w')
    (hQ : ∀ w1 w2 w s x y p k, But [] W0 w1 → But [bA] w1 w2 → P5 w2 bA s8 x8 y8 p8 k8 → But [bB] w2 w → P5 w bB s x y p k → R w (.agg #[.bool s, .int .u64 x, .int .u64 y, .pointer p, .int .i64 k]) → (∀ j, w2.frozen? ⟨bA, j, none⟩ = false) → (∀ j, w.frozen? ⟨bB, j, none⟩ = false) → Q .normal (putted base [(54, .agg #[.bool s8, .int .u64 x8, .int .u64 y8, .pointer p8, .int .i64 k8]), (55, .agg #[.bool s7, .int .u64 x7, .int .u64 y7, .pointer p7, .int .i64 k7]), (56, N), (57, .agg #[.bool s8, .int .u64 x8, .int .u64 y8, .pointer p8, .int .i64 k8]), (58, .agg #[.bool s, .int .u64 x, .int .u64 y, .pointer p, .int .i64 k])]) w) :
    (Code.region id opsB true).wp Tryz.prog Q base W0 := by
  obtain ⟨sA, xA, yA, pA, kA, cA⟩ := cA
  obtain ⟨sB, xB, yB, pB, kB, cB⟩ := cB
  have lA : bA < W0.heap.size := lt_of_cell cA.1
  have lB : bB < W0.heap.size := lt_of_cell cB.1
  refine region_moves (by kernel_rfl) (low_of (by kernel_rfl)) rfl (dep_of (by kernel_rfl)) 54 55 56 57 58 (by decide) (fun t ht => by simp at ht; omega)
    (.agg #[.bool s8, .int .u64 x8, .int .u64 y8, .pointer p8, .int .i64 k8]) (.agg #[.bool s7, .int .u64 x7, .int .u64 y7, .pointer p7, .int .i64 k7]) N (.agg #[.bool s8, .int .u64 x8, .int .u64 y8, .pointer p8, .int .i64 k8]) R sR bA bB
    (fun w => P5 w bA s8 x8 y8 p8 k8 ∧ ∀ j, w.frozen? ⟨bA, j, none⟩ = false) (fun w v => (∃ s x y p k, v = .agg #[.bool s, .int .u64 x, .int .u64 y, .pointer p, .int .i64 k] ∧ P5 w bB s x y p k) ∧ ∀ j, w.frozen? ⟨bB, j, none⟩ = false) ⟨_, cA.1⟩ ⟨_, cB.1⟩ hAB ?_ ?_ ?_ ?_ ?_ ?_ ?_ ?_
  · intro a w K hb he hK
    exact op_value rfl rfl (run_load5 a w _ _ _ _ _ g8 _ _ _ _ _ ((he 8 (by decide)).trans e8) (c8.but hb (by simp))) hK
  · intro a w K hb he hK
    exact op_value rfl rfl (run_load5 a w _ _ _ _ _ g7 _ _ _ _ _ ((he 7 (by decide)).trans e7) (c7.but hb (by simp))) hK
  · intro a w K he hK
    exact op_value rfl rfl (run_move a w _ _ _ _ _ _ ((he 12 (by decide)).trans en)) hK
  · intro a w K hb he hK
    exact op_value rfl rfl (run_load5 a w _ _ _ _ _ g8 _ _ _ _ _ ((he 8 (by decide)).trans e8) (c8.but hb (by simp))) hK
  · intro a w K hb h1 h2 h3 hK
    refine op_enter (R := fun w' v => R w' v ∧ But [] w w') rfl rfl (run_callPlus a w _ _ _ _ _ _ _ _ _ _ h1 h2 h3) (hc w hb) ?_
    rintro v w' ⟨hv, hb'⟩
    exact hK v w' hb' hv
  · intro a w K hb he h0 hK
    exact op_skip rfl rfl (run_store5g a w _ _ _ _ _ bA _ _ _ _ _ ((he 7 (by decide)).trans eA) h0 (cA.but hb (by simp)) (fun j => (hb.frozen (p := ⟨bA, j, none⟩) lA (by simp)).trans (oA j))) (hK _ (but5 _ _ _ _ _ _ _) ⟨set5_p5 w bA _ _ _ _ _ (cA.but hb (by simp)), fun j => by rw [World.frozen?_setCell]; exact frz4 (fun j => (hb.frozen (p := ⟨bA, j, none⟩) lA (by simp)).trans (oA j)) j⟩)
  · intro a w1 w K v hb hb2 he h4 hv hK
    obtain ⟨s, x, y, p, k, rfl⟩ := hR w v hv
    have cB2 := (cB.but hb (by simp)).but hb2 (by simpa using Ne.symm hAB)
    exact op_skip rfl rfl (run_store5g a w _ _ _ _ _ bB _ _ _ _ _ ((he 8 (by decide)).trans eB) h4 cB2 (fun j => (hb2.frozen (p := ⟨bB, j, none⟩) (Nat.lt_of_lt_of_le lB hb.size) (by simpa using Ne.symm hAB)).trans ((hb.frozen (p := ⟨bB, j, none⟩) lB (by simp)).trans (oB j)))) (hK _ (but5 _ _ _ _ _ _ _) ⟨⟨_, _, _, _, _, rfl, set5_p5 w bB _ _ _ _ _ cB2⟩, fun j => by rw [World.frozen?_setCell]; exact frz4 (fun j => (hb2.frozen (p := ⟨bB, j, none⟩) (Nat.lt_of_lt_of_le lB hb.size) (by simpa using Ne.symm hAB)).trans ((hb.frozen (p := ⟨bB, j, none⟩) lB (by simp)).trans (oB j))) j⟩)
  · rintro w1 w2 w v f1 f2 ⟨f3, f3o⟩ f4 ⟨⟨s, x, y, p, k, rfl, f5⟩, f5o⟩ r
    exact hQ w1 w2 w s x y p k f1 f2 f3 f4 f5 r f3o f5o

def opsC : Array Oper := #[
  { dst := some 62, op := Op.load 129 (Operand.tmp 8), type := 129, pos := "near.go:64", after := #[], guard := none },
  { dst := some 63, op := Op.load 129 (Operand.tmp 8), type := 129, pos := "near.go:64", after := #[{ on := 2, ground := Ground.gcOnly Departure.lateStores }], guard := none },
  { dst := none, op := Op.store 129 (Operand.tmp 4) (Operand.tmp 62), type := 0, pos := "near.go:64", after := #[{ on := 0, ground := Ground.data }, { on := 0, ground := Ground.phase }, { on := 1, ground := Ground.textOnly Departure.lateStores }], guard := none },
  { dst := none, op := Op.store 129 (Operand.tmp 5) (Operand.tmp 63), type := 0, pos := "near.go:64", after := #[{ on := 1, ground := Ground.data }, { on := 2, ground := Ground.chain }, { on := 0, ground := Ground.phase }, { on := 1, ground := Ground.phase }, { on := 2, ground := Ground.phase }], guard := none }]
/-- as far as that has come -/
structure Copies (W : World) (base : Act) (M : Value) (b4 b5 : Nat) (FA FB : World → Prop) (d : Nat → Bool) (a : Act) (w : World) : Prop where
  size : a.tmps.size = base.tmps.size
  defers : a.defers = base.defers
  rest : ∀ t, t ≠ 62 → t ≠ 63 → a.tmps[t]? = base.tmps[t]?
  a0 : d 0 = true → a.eval (.tmp 62) = M
  a1 : d 1 = true → a.eval (.tmp 63) = M
  ahead : d 2 = false → But [] W w
  mid : d 2 = true → d 3 = false → But [b4] W w ∧ FA w
  fin : d 3 = true → ∃ w1, But [b4] W w1 ∧ FA w1 ∧ But [b5] w1 w ∧ FB w
  d2 : d 2 = true → d 0 = true
  d3 : d 3 = true → d 2 = true ∧ d 1 = true
theorem opsC_region (id : Nat) (base : Act) (W0 : World) (Q : Exit → Act → World → Prop) (g8 b4 b5 : Nat) (s8 : Bool) (x8 y8 k8 : Int) (p8 : Option Addr) (hs : 63 < base.tmps.size)
    (e8 : base.eval (.tmp 8) = .pointer (some ⟨g8, 0, none⟩)) (e4 : base.eval (.tmp 4) = .pointer (some ⟨b4, 0, none⟩)) (e5 : base.eval (.tmp 5) = .pointer (some ⟨b5, 0, none⟩)) (n84 : g8 ≠ b4) (n45 : b4 ≠ b5)
    (c8 : P5 W0 g8 s8 x8 y8 p8 k8) (c4 : ∃ s x y p k, P5 W0 b4 s x y p k) (c5 : ∃ s x y p k, P5 W0 b5 s x y p k) (o4 : ∀ j, W0.frozen? ⟨b4, j, none⟩ = false) (o5 : ∀ j, W0.frozen? ⟨b5, j, none⟩ = false)
    (hQ : ∀ w1 w, But [b4] W0 w1 → P5 w1 b4 s8 x8 y8 p8 k8 → But [b5] w1 w → P5 w b5 s8 x8 y8 p8 k8 → Q .normal (putted base [(62, .agg #[.bool s8, .int .u64 x8, .int .u64 y8, .pointer p8, .int .i64 k8]), (63, .agg #[.bool s8, .int .u64 x8, .int .u64 y8, .pointer p8, .int .i64 k8])]) w) :
    (Code.region id opsC true).wp Tryz.prog Q base W0 := by
  obtain ⟨s4, x4, y4, p4, k4, c4⟩ := c4
  obtain ⟨s5, x5, y5, p5, k5, c5⟩ := c5
  have l4 : b4 < W0.heap.size := lt_of_cell c4.1
  have l5 : b5 < W0.heap.size := lt_of_cell c5.1
  obtain ⟨W, hW⟩ : ∃ W, W = W0.drew := ⟨_, rfl⟩
  have hWb : But [] W0 W := by rw [hW]; exact (But.refl _ _).drew
  have hWl : ∀ l w, But l W w → But l W0 w := fun l w h => ((hWb.of_nil (l := l)).trans h (fun _ hx => .inl hx))
  have dep : ∀ (d : Nat → Bool) i j o, (i, j) ∈ [(2, 0), (3, 1), (3, 2)] → opsC[i]? = some o → (∀ e ∈ o.after, Region.binds .any e = true → d e.on = true) → d j = true := fun d i j o hij ho hd => by
    obtain ⟨o', ho', e, he, hbi, rfl⟩ := dep_of (ops := opsC) (ps := [(2, 0), (3, 1), (3, 2)]) (by kernel_rfl) i j hij
    rw [ho'] at ho
    obtain rfl := Option.some.inj ho
    exact hd e he hbi
  refine region_inv (by kernel_rfl) (low_of (by kernel_rfl)) (fun d a w => Copies W base (.agg #[.bool s8, .int .u64 x8, .int .u64 y8, .pointer p8, .int .i64 k8]) b4 b5 (fun w => P5 w b4 s8 x8 y8 p8 k8) (fun w => P5 w b5 s8 x8 y8 p8 k8) d a w) ?_ ?_ ?_
  · rw [← hW]
    exact ⟨rfl, rfl, fun _ _ _ => rfl, by simp, by simp, fun _ => But.refl _ _, by simp, by simp, by simp, by simp⟩
  · intro d a w hd h
    have hd := fun i (hi : i < 4) => hd i hi
    obtain ⟨w1, f1, f2, f3, f4⟩ := h.fin (hd 3 (by omega))
    have ea : a = putted base [(62, .agg #[.bool s8, .int .u64 x8, .int .u64 y8, .pointer p8, .int .i64 k8]), (63, .agg #[.bool s8, .int .u64 x8, .int .u64 y8, .pointer p8, .int .i64 k8])] := by
      have hz := h.size
      refine putted_eq _ base a h.defers h.size (fun p hp => ?_) (fun t ht => ?_)
      · simp only [List.mem_cons, List.not_mem_nil, or_false] at hp
        rcases hp with rfl | rfl
        · exact slot_is (h.a0 (hd 0 (by omega))) (by rw [hz]; omega)
        · exact slot_is (h.a1 (hd 1 (by omega))) (by rw [hz]; omega)
      · exact h.rest t (ht _ (List.mem_cons_self ..)) (ht _ (List.mem_cons_of_mem _ (List.mem_cons_self ..)))
    rw [ea]
    exact hQ w1 w (hWl _ _ f1) f2 f3 f4
  · intro d i o a w ho hf hd h
    have hi : i < 4 := (Array.getElem?_eq_some_iff.1 ho).1
    have hsa := h.size
    have hev : ∀ t, t ≠ 62 → t ≠ 63 → a.eval (.tmp t) = base.eval (.tmp t) := fun t h1 h2 => rest_eval (h.rest t h1 h2)
    have hc : i = 0 ∨ i = 1 ∨ i = 2 ∨ i = 3 := by omega
    rcases hc with rfl | rfl | rfl | rfl
    · have q2 : d 2 = false := by
        cases e : d 2 with
        | false => rfl
        | true => exact absurd (h.d2 e) (by rw [hf]; simp)
      have hw := h.ahead q2
      refine op_value rfl rfl (run_load5 a w _ _ _ _ _ g8 _ _ _ _ _ ((hev 8 (by decide) (by decide)).trans e8) (c8.but (hWb.trans' hw) (by simp))) ?_
      exact ⟨size_put' h.size, h.defers, fun t k0 k1 => rest_put' (h.rest t k0 k1) k0, fun _ => at_eq a 62 _ (by rw [hsa]; omega), fun e => (at_ne a 62 63 _ (by omega)).trans (h.a1 e), fun _ => hw, fun e => absurd (show d 2 = true from e) (by rw [q2]; simp), fun e => absurd (h.d3 e).1 (by rw [q2]; simp), fun _ => rfl, h.d3⟩
    · have q3 : d 3 = false := by
        cases e : d 3 with
        | false => rfl
        | true => exact absurd (h.d3 e).2 (by rw [hf]; simp)
      have hw : But [b4] W w := by
        cases e : d 2 with
        | false => exact (h.ahead e).of_nil
        | true => exact (h.mid e q3).1
      refine op_value rfl rfl (run_load5 a w _ _ _ _ _ g8 _ _ _ _ _ ((hev 8 (by decide) (by decide)).trans e8) (c8.but (hWl _ _ hw) (by simpa using n84))) ?_
      exact ⟨size_put' h.size, h.defers, fun t k0 k1 => rest_put' (h.rest t k0 k1) k1, fun e => (at_ne a 63 62 _ (by omega)).trans (h.a0 e), fun _ => at_eq a 63 _ (by rw [hsa]; omega), h.ahead, h.mid, fun e => absurd (show d 3 = true from e) (by rw [q3]; simp), h.d2, fun e => ⟨(h.d3 e).1, rfl⟩⟩
    · have q0 := dep d 2 0 o (by simp) ho hd
      have hw := h.ahead hf
      have hb := hWb.trans' hw
      refine op_skip rfl rfl (run_store5g a w _ _ _ _ _ b4 _ _ _ _ _ ((hev 4 (by decide) (by decide)).trans e4) (h.a0 q0) (c4.but hb (by simp)) (fun j => (hb.frozen (p := ⟨b4, j, none⟩) l4 (by simp)).trans (o4 j))) ?_
      exact ⟨h.size, h.defers, h.rest, h.a0, h.a1, fun e => absurd (show true = false from e) (by simp), fun _ _ => ⟨(hw.of_nil (l := [b4])).trans (but5 _ _ _ _ _ _ _) (fun _ hx => .inl hx), set5_p5 w b4 _ _ _ _ _ (c4.but hb (by simp))⟩, fun e => absurd (h.d3 e).1 (by rw [hf]; simp), fun _ => q0, fun e => ⟨rfl, (h.d3 e).2⟩⟩
    · have q1 := dep d 3 1 o (by simp) ho hd
      have q2 := dep d 3 2 o (by simp) ho hd
      obtain ⟨hw, fa⟩ := h.mid q2 hf
      have hb := hWl _ _ hw
      have c52 := c5.but hb (by simpa using Ne.symm n45)
      refine op_skip rfl rfl (run_store5g a w _ _ _ _ _ b5 _ _ _ _ _ ((hev 5 (by decide) (by decide)).trans e5) (h.a1 q1) c52 (fun j => (hb.frozen (p := ⟨b5, j, none⟩) l5 (by simpa using Ne.symm n45)).trans (o5 j))) ?_
      exact ⟨h.size, h.defers, h.rest, h.a0, h.a1, fun e => absurd (show d 2 = false from e) (by rw [q2]; simp), fun _ e => absurd (show true = false from e) (by simp), fun _ => ⟨w, hw, fa, but5 _ _ _ _ _ _ _, set5_p5 w b5 _ _ _ _ _ c52⟩, h.d2, fun _ => ⟨q2, q1⟩⟩
end Go.Proofs.YtihiafgogbhjkaaGreatDoor
