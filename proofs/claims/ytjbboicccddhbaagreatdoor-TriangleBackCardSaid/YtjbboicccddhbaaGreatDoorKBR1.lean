/- Two values made, two places made, each value stored in its place, whatever order the operations come in. -/
import Derived.Laws.AppendOwn
import Derived.Test.YtjbboicccddhbaaGreatDoorKBPf
import Derived.Test.YtjbboicccddhbaaGreatDoorKBR0
namespace Go.Proofs.YtjbboicccddhbaaGreatDoor
open Go.RowKit

theorem Limb.make {W w w' : World} {a : Act} {cd pd : Nat} {R : World → Value → Prop} {Z : Array Value} {lp ls : Bool} {v0 : Value} {b : Nat} (h : Limb W w a cd pd R Z false lp ls v0 b) (hb : But [] w w') (v : Value) (hv : R w' v) (hs : cd < a.tmps.size) (hne : pd ≠ cd) : Limb W w' (a.put (some cd) v) cd pd R Z true lp ls v b :=
  ⟨fun _ => ⟨at_eq a cd v hs, hv⟩, fun e => by
    obtain ⟨h1, h2, h3, h4⟩ := h.place e
    exact ⟨(at_ne a cd pd v hne).trans h1, h2, Nat.lt_of_lt_of_le h3 hb.size, fun j => (hb.frozen (p := ⟨b, j, none⟩) h3 (by simp)).trans (h4 j)⟩, fun e => by
    have := (h.full e).2.1
    simp at this, fun e f j => (hb.cell (p := ⟨b, j, none⟩) (h.place e).2.2.1 (by simp)).trans (h.void e f j)⟩
theorem Limb.lay {W w : World} {a : Act} {cd pd : Nat} {R : World → Value → Prop} {Z : Array Value} {lc ls : Bool} {v : Value} {b : Nat} (h : Limb W w a cd pd R Z lc false ls v b) (hB : But [] W w) (t : TypeId) (hs : pd < a.tmps.size) (hne : cd ≠ pd) (hR : R w v → R (w.alloc (.cells Z t)) v) : Limb W (w.alloc (.cells Z t)) (a.put (some pd) (.pointer (some ⟨w.heap.size, 0, none⟩))) cd pd R Z lc true ls v w.heap.size :=
  ⟨fun e => ⟨(at_ne a pd cd _ hne).trans (h.val e).1, hR (h.val e).2⟩, fun _ => ⟨at_eq a pd _ hs, hB.size, by simp, fun j => by simp⟩, fun e => by
    have := (h.full e).1
    simp at this, fun _ _ j => by simp⟩
theorem Limb.store {W w w' : World} {a : Act} {cd pd : Nat} {R : World → Value → Prop} {Z : Array Value} {v : Value} {b : Nat} (h : Limb W w a cd pd R Z true true false v b) (hb : But [b] w w') (hf : Full w' b v) (hz : ∀ j, w'.frozen? ⟨b, j, none⟩ = false) (hR : R w v → R w' v) : Limb W w' a cd pd R Z true true true v b :=
  ⟨fun e => ⟨(h.val e).1, hR (h.val e).2⟩, fun e => ⟨(h.place e).1, (h.place e).2.1, Nat.lt_of_lt_of_le (h.place e).2.2.1 hb.size, hz⟩, fun _ => ⟨rfl, rfl, hf⟩, fun _ f => by simp at f⟩
theorem rest_put' {base a : Act} {d t : Nat} {v : Value} (hr : a.tmps[t]? = base.tmps[t]?) (hd : t ≠ d) : (a.put (some d) v).tmps[t]? = base.tmps[t]? := by
  rw [← hr]
  show (a.tmps.setIfInBounds d v)[t]? = a.tmps[t]?
  exact Array.getElem?_setIfInBounds_ne (Ne.symm hd)
theorem size_put' {base a : Act} {d : Nat} {v : Value} (h : a.tmps.size = base.tmps.size) : (a.put (some d) v).tmps.size = base.tmps.size := by rw [size_putted, h]

/-- what the four stages of a place are told of its type: made, stored -/
def Makes (P : Program) (ops : Array Oper) (Q : Exit → Act → World → Prop) (i pd : Nat) (Z : Array Value) (t : TypeId) : Prop := ∀ (a : Act) (w : World) (K : Act → World → Prop), K (a.put (some pd) (.pointer (some ⟨w.heap.size, 0, none⟩))) (w.alloc (.cells Z t)) → wpOp P ops Q i K a w
def Stores (P : Program) (ops : Array Oper) (Q : Exit → Act → World → Prop) (i cd pd : Nat) (R : World → Value → Prop) (Z : Array Value) : Prop := ∀ (a : Act) (w : World) (K : Act → World → Prop) (b : Nat) (v : Value), a.eval (.tmp pd) = .pointer (some ⟨b, 0, none⟩) → a.eval (.tmp cd) = v → R w v → (∀ j, w.cell? ⟨b, j, none⟩ = Z[j]?) → (∀ j, w.frozen? ⟨b, j, none⟩ = false) → (∀ w', But [b] w w' → Full w' b v → (∀ j, w'.frozen? ⟨b, j, none⟩ = false) → K a w') → wpOp P ops Q i K a w
/-- a relation that new blocks leave, and writing into places with a Boolean first -/
structure Stays (R : World → Value → Prop) : Prop where
  but : ∀ w w' v, R w v → But [] w w' → R w' v
  over : ∀ w w' v g s, R w v → w.cell? ⟨g, 0, none⟩ = some (.bool s) → But [g] w w' → R w' v

theorem region_two {P : Program} {id : Nat} {ops : Array Oper} {Q : Exit → Act → World → Prop} {base : Act} {W0 : World} (hm : P.follows .mixedOrders = true)
    (hlow : ∀ i o, ops[i]? = some o → ∀ e ∈ o.after, Region.binds .any e = true → e.on < i) (hsz : ops.size = 8)
    (hb : ∀ i j, (i, j) ∈ [(1, 0), (3, 2), (6, 1), (6, 4), (7, 3), (7, 5)] → ∃ o, ops[i]? = some o ∧ ∃ e ∈ o.after, Region.binds .any e = true ∧ e.on = j)
    (t0 c1 t2 c3 p4 p5 : Nat) (hnd : [t0, c1, t2, c3, p4, p5].Nodup) (hs : ∀ t ∈ [t0, c1, t2, c3, p4, p5], t < base.tmps.size)
    (A0 A2 : Value) (Rx Ry : World → Value → Prop) (Zx Zy : Array Value) (tx ty : TypeId) (sx : Stays Rx) (sy : Stays Ry) (zx : ∃ s, Zx[0]? = some (.bool s)) (zy : ∃ s, Zy[0]? = some (.bool s))
    (h0 : ∀ (a : Act) (w : World) (K : Act → World → Prop), But [] W0.drew w → (∀ t, t ∉ [t0, c1, t2, c3, p4, p5] → a.eval (.tmp t) = base.eval (.tmp t)) → (∀ w', But [] w w' → K (a.put (some t0) A0) w') → wpOp P ops Q 0 K a w)
    (h1 : ∀ (a : Act) (w : World) (K : Act → World → Prop), But [] W0.drew w → a.eval (.tmp t0) = A0 → (∀ v w', But [] w w' → Rx w' v → K (a.put (some c1) v) w') → wpOp P ops Q 1 K a w)
    (h2 : ∀ (a : Act) (w : World) (K : Act → World → Prop), But [] W0.drew w → (∀ t, t ∉ [t0, c1, t2, c3, p4, p5] → a.eval (.tmp t) = base.eval (.tmp t)) → (∀ w', But [] w w' → K (a.put (some t2) A2) w') → wpOp P ops Q 2 K a w)
    (h3 : ∀ (a : Act) (w : World) (K : Act → World → Prop), But [] W0.drew w → a.eval (.tmp t2) = A2 → (∀ v w', But [] w w' → Ry w' v → K (a.put (some c3) v) w') → wpOp P ops Q 3 K a w)
    (h4 : Makes P ops Q 4 p4 Zx tx) (h5 : Makes P ops Q 5 p5 Zy ty) (h6 : Stores P ops Q 6 c1 p4 Rx Zx) (h7 : Stores P ops Q 7 c3 p5 Ry Zy)
    (hQ : ∀ w vx vy bx bY, But [] W0.drew w → Rx w vx → Ry w vy → W0.heap.size ≤ bx → W0.heap.size ≤ bY → bx ≠ bY → (∀ j, w.frozen? ⟨bx, j, none⟩ = false) → (∀ j, w.frozen? ⟨bY, j, none⟩ = false) → Full w bx vx → Full w bY vy → Q .normal (putted base [(t0, A0), (c1, vx), (t2, A2), (c3, vy), (p4, .pointer (some ⟨bx, 0, none⟩)), (p5, .pointer (some ⟨bY, 0, none⟩))]) w) :
    (Code.region id ops true).wp P Q base W0 := by
  obtain ⟨W, hW⟩ : ∃ W, W = W0.drew := ⟨_, rfl⟩
  have hWs : W.heap.size = W0.heap.size := by rw [hW]; rfl
  rw [← hW] at h0 h1 h2 h3 hQ
  rw [← hWs] at hQ
  simp only [List.nodup_cons, List.mem_cons, List.not_mem_nil, or_false, not_or, List.nodup_nil, and_true, not_false_eq_true] at hnd
  obtain ⟨⟨n01, n02, n03, n04, n05⟩, ⟨n12, n13, n14, n15⟩, ⟨n23, n24, n25⟩, ⟨n34, n35⟩, n45⟩ := hnd
  have z0 := hs t0 (by simp)
  have z1 := hs c1 (by simp)
  have z2 := hs t2 (by simp)
  have z3 := hs c3 (by simp)
  have z4 := hs p4 (by simp)
  have z5 := hs p5 (by simp)
  have dep : ∀ (d : Nat → Bool) i j o, (i, j) ∈ [(1, 0), (3, 2), (6, 1), (6, 4), (7, 3), (7, 5)] → ops[i]? = some o → (∀ e ∈ o.after, Region.binds .any e = true → d e.on = true) → d j = true := fun d i j o hij ho hd => by
    obtain ⟨o', ho', e, he, hbi, rfl⟩ := hb i j hij
    rw [ho'] at ho
    obtain rfl := Option.some.inj ho
    exact hd e he hbi
  refine region_inv hm hlow (fun d a w => ∃ vx vy bx bY, Two W base t0 c1 t2 c3 p4 p5 A0 A2 Rx Ry Zx Zy d a w vx vy bx bY) ?_ ?_ ?_
  · rw [← hW]
    exact ⟨undef, undef, 0, 0, But.refl _ _, rfl, rfl, fun _ _ _ _ _ _ _ => rfl, by simp, by simp, ⟨by simp, by simp, by simp, by simp⟩, ⟨by simp, by simp, by simp, by simp⟩, by simp⟩
  · rintro d a w hd ⟨vx, vy, bx, bY, h⟩
    rw [hsz] at hd
    have e0 := hd 0 (by omega)
    have e1 := hd 1 (by omega)
    have e2 := hd 2 (by omega)
    have e3 := hd 3 (by omega)
    have e4 := hd 4 (by omega)
    have e5 := hd 5 (by omega)
    have e6 := hd 6 (by omega)
    have e7 := hd 7 (by omega)
    obtain ⟨x1, x2, x3, x4⟩ := h.x.place e4
    obtain ⟨y1, y2, y3, y4⟩ := h.y.place e5
    have ea : a = putted base [(t0, A0), (c1, vx), (t2, A2), (c3, vy), (p4, .pointer (some ⟨bx, 0, none⟩)), (p5, .pointer (some ⟨bY, 0, none⟩))] := by
      have hz := h.size
      refine putted_eq _ base a h.defers h.size (fun p hp => ?_) (fun t ht => ?_)
      · simp only [List.mem_cons, List.not_mem_nil, or_false] at hp
        rcases hp with rfl | rfl | rfl | rfl | rfl | rfl
        · exact slot_is (h.a0 e0) (by rw [hz]; exact z0)
        · exact slot_is (h.x.val e1).1 (by rw [hz]; exact z1)
        · exact slot_is (h.a2 e2) (by rw [hz]; exact z2)
        · exact slot_is (h.y.val e3).1 (by rw [hz]; exact z3)
        · exact slot_is x1 (by rw [hz]; exact z4)
        · exact slot_is y1 (by rw [hz]; exact z5)
      · exact h.rest t (ht (t0, A0) (by simp)) (ht (c1, vx) (by simp)) (ht (t2, A2) (by simp)) (ht (c3, vy) (by simp)) (ht (p4, .pointer (some ⟨bx, 0, none⟩)) (by simp)) (ht (p5, .pointer (some ⟨bY, 0, none⟩)) (by simp))
    rw [ea]
    exact hQ w vx vy bx bY h.but (h.x.val e1).2 (h.y.val e3).2 x2 y2 (h.ne e4 e5) x4 y4 (h.x.full e6).2.2 (h.y.full e7).2.2
  · rintro d i o a w ho hf hd ⟨vx, vy, bx, bY, h⟩
    have hi : i < 8 := by rw [← hsz]; exact (Array.getElem?_eq_some_iff.1 ho).1
    have hsa := h.size
    have hx := h.x
    have hy := h.y
    have hev : ∀ t, t ∉ [t0, c1, t2, c3, p4, p5] → a.eval (.tmp t) = base.eval (.tmp t) := fun t ht => by
      simp only [List.mem_cons, List.not_mem_nil, or_false, not_or] at ht
      exact rest_eval (h.rest t ht.1 ht.2.1 ht.2.2.1 ht.2.2.2.1 ht.2.2.2.2.1 ht.2.2.2.2.2)
    have hc : i = 0 ∨ i = 1 ∨ i = 2 ∨ i = 3 ∨ i = 4 ∨ i = 5 ∨ i = 6 ∨ i = 7 := by omega
    rcases hc with rfl | rfl | rfl | rfl | rfl | rfl | rfl | rfl
    · refine h0 a w _ h.but hev (fun w' hw => ?_)
      exact ⟨vx, vy, bx, bY, h.but.trans' hw, size_put' h.size, h.defers, fun t k0 k1 k2 k3 k4 k5 => rest_put' (h.rest t k0 k1 k2 k3 k4 k5) k0, fun _ => at_eq a t0 A0 (by rw [hsa]; exact z0), fun e => (at_ne a t0 t2 A0 (Ne.symm n02)).trans (h.a2 e),
        (hx.world hw (by simp) (fun r => sx.but _ _ _ r hw)).put t0 A0 (Ne.symm n01) (Ne.symm n04), (hy.world hw (by simp) (fun r => sy.but _ _ _ r hw)).put t0 A0 (Ne.symm n03) (Ne.symm n05), h.ne⟩
    · have d0 := dep d 1 0 o (by simp) ho hd
      rw [hf] at hx
      refine h1 a w _ h.but (h.a0 d0) (fun v w' hw hv => ?_)
      exact ⟨v, vy, bx, bY, h.but.trans' hw, size_put' h.size, h.defers, fun t k0 k1 k2 k3 k4 k5 => rest_put' (h.rest t k0 k1 k2 k3 k4 k5) k1, fun e => (at_ne a c1 t0 v n01).trans (h.a0 e), fun e => (at_ne a c1 t2 v (Ne.symm n12)).trans (h.a2 e),
        hx.make hw v hv (by rw [hsa]; exact z1) (Ne.symm n14), (hy.world hw (by simp) (fun r => sy.but _ _ _ r hw)).put c1 v (Ne.symm n13) (Ne.symm n15), h.ne⟩
    · refine h2 a w _ h.but hev (fun w' hw => ?_)
      exact ⟨vx, vy, bx, bY, h.but.trans' hw, size_put' h.size, h.defers, fun t k0 k1 k2 k3 k4 k5 => rest_put' (h.rest t k0 k1 k2 k3 k4 k5) k2, fun e => (at_ne a t2 t0 A2 n02).trans (h.a0 e), fun _ => at_eq a t2 A2 (by rw [hsa]; exact z2),
        (hx.world hw (by simp) (fun r => sx.but _ _ _ r hw)).put t2 A2 n12 (Ne.symm n24), (hy.world hw (by simp) (fun r => sy.but _ _ _ r hw)).put t2 A2 (Ne.symm n23) (Ne.symm n25), h.ne⟩
    · have d2 := dep d 3 2 o (by simp) ho hd
      rw [hf] at hy
      refine h3 a w _ h.but (h.a2 d2) (fun v w' hw hv => ?_)
      exact ⟨vx, v, bx, bY, h.but.trans' hw, size_put' h.size, h.defers, fun t k0 k1 k2 k3 k4 k5 => rest_put' (h.rest t k0 k1 k2 k3 k4 k5) k3, fun e => (at_ne a c3 t0 v n03).trans (h.a0 e), fun e => (at_ne a c3 t2 v n23).trans (h.a2 e),
        (hx.world hw (by simp) (fun r => sx.but _ _ _ r hw)).put c3 v n13 (Ne.symm n34), hy.make hw v hv (by rw [hsa]; exact z3) (Ne.symm n35), h.ne⟩
    · rw [hf] at hx
      refine h4 a w _ ?_
      have hw : But [] w (w.alloc (.cells Zx tx)) := (But.refl _ _).alloc _
      exact ⟨vx, vy, w.heap.size, bY, h.but.trans' hw, size_put' h.size, h.defers, fun t k0 k1 k2 k3 k4 k5 => rest_put' (h.rest t k0 k1 k2 k3 k4 k5) k4, fun e => (at_ne a p4 t0 _ n04).trans (h.a0 e), fun e => (at_ne a p4 t2 _ n24).trans (h.a2 e),
        hx.lay h.but tx (by rw [hsa]; exact z4) n14 (fun r => sx.but _ _ _ r hw), (hy.world hw (by simp) (fun r => sy.but _ _ _ r hw)).put p4 _ n34 (Ne.symm n45), fun _ e => Ne.symm (Nat.ne_of_lt (hy.place e).2.2.1)⟩
    · rw [hf] at hy
      refine h5 a w _ ?_
      have hw : But [] w (w.alloc (.cells Zy ty)) := (But.refl _ _).alloc _
      exact ⟨vx, vy, bx, w.heap.size, h.but.trans' hw, size_put' h.size, h.defers, fun t k0 k1 k2 k3 k4 k5 => rest_put' (h.rest t k0 k1 k2 k3 k4 k5) k5, fun e => (at_ne a p5 t0 _ n05).trans (h.a0 e), fun e => (at_ne a p5 t2 _ n25).trans (h.a2 e),
        (hx.world hw (by simp) (fun r => sx.but _ _ _ r hw)).put p5 _ n15 n45, hy.lay h.but ty (by rw [hsa]; exact z5) n35 (fun r => sy.but _ _ _ r hw), fun e _ => Nat.ne_of_lt (hx.place e).2.2.1⟩
    · have d1 := dep d 6 1 o (by simp) ho hd
      have d4 := dep d 6 4 o (by simp) ho hd
      rw [hf, d1, d4] at hx
      obtain ⟨x1, x2, x3, x4⟩ := hx.place rfl
      obtain ⟨s, hz⟩ := zx
      have hv := hx.void rfl rfl
      have hc0 := (hv 0).trans hz
      refine h6 a w _ bx vx x1 (hx.val rfl).1 (hx.val rfl).2 hv x4 (fun w' hw hfl hfz => ?_)
      have hxn := hx.store hw hfl hfz (fun r => sx.over _ _ _ _ _ r hc0 hw)
      exact ⟨vx, vy, bx, bY, h.but.trans hw (fun x hx => by simp at hx; subst hx; exact .inr x2), h.size, h.defers, h.rest, h.a0, h.a2, (show Limb W w' a c1 p4 Rx Zx (d 1) (d 4) true vx bx from by rw [d1, d4]; exact hxn),
        hy.world hw (fun e => by simpa using Ne.symm (h.ne d4 e)) (fun r => sy.over _ _ _ _ _ r hc0 hw), h.ne⟩
    · have d3 := dep d 7 3 o (by simp) ho hd
      have d5 := dep d 7 5 o (by simp) ho hd
      rw [hf, d3, d5] at hy
      obtain ⟨y1, y2, y3, y4⟩ := hy.place rfl
      obtain ⟨s, hz⟩ := zy
      have hv := hy.void rfl rfl
      have hc0 := (hv 0).trans hz
      refine h7 a w _ bY vy y1 (hy.val rfl).1 (hy.val rfl).2 hv y4 (fun w' hw hfl hfz => ?_)
      have hyn := hy.store hw hfl hfz (fun r => sy.over _ _ _ _ _ r hc0 hw)
      exact ⟨vx, vy, bx, bY, h.but.trans hw (fun x hx => by simp at hx; subst hx; exact .inr y2), h.size, h.defers, h.rest, h.a0, h.a2, hx.world hw (fun e => by simpa using h.ne e d5) (fun r => sx.over _ _ _ _ _ r hc0 hw), (show Limb W w' a c3 p5 Ry Zy (d 3) (d 5) true vy bY from by rw [d3, d5]; exact hyn), h.ne⟩
end Go.Proofs.YtjbboicccddhbaaGreatDoor

namespace Go.Proofs.YtjbboicccddhbaaGreatDoor
open Go.RowKit

/-- each operation that binds another stands behind it -/
def lowOps (ops : Array Oper) : Bool := (List.range ops.size).all fun i => match ops[i]? with
  | some o => o.after.all fun e => !(Region.binds .any e) || decide (e.on < i)
  | none => true
theorem low_of {ops : Array Oper} (h : lowOps ops = true) : ∀ i o, ops[i]? = some o → ∀ e ∈ o.after, Region.binds .any e = true → e.on < i := fun i o ho e he hb => by
  have hi : i < ops.size := (Array.getElem?_eq_some_iff.1 ho).1
  unfold lowOps at h
  rw [List.all_eq_true] at h
  have h1 := h i (List.mem_range.2 hi)
  simp only [ho] at h1
  rw [Array.all_eq_true_iff_forall_mem] at h1
  have h2 := h1 e he
  simpa [hb] using h2
def depOps (ops : Array Oper) (ps : List (Nat × Nat)) : Bool := ps.all fun p => match ops[p.1]? with
  | some o => o.after.any fun e => Region.binds .any e && e.on == p.2
  | none => false
theorem dep_of {ops : Array Oper} {ps : List (Nat × Nat)} (h : depOps ops ps = true) : ∀ i j, (i, j) ∈ ps → ∃ o, ops[i]? = some o ∧ ∃ e ∈ o.after, Region.binds .any e = true ∧ e.on = j := fun i j hij => by
  unfold depOps at h
  rw [List.all_eq_true] at h
  have h1 := h (i, j) hij
  cases ho : ops[i]? with
  | none => simp [ho] at h1
  | some o =>
    simp only [ho] at h1
    rw [Array.any_eq_true] at h1
    obtain ⟨k, hk, h2⟩ := h1
    simp only [Bool.and_eq_true, beq_iff_eq] at h2
    exact ⟨o, rfl, o.after[k], Array.getElem_mem hk, h2.1, h2.2⟩

/-- a fraction's four parts lie at a block -/
def P4 (w : World) (g : Nat) (s : Bool) (x y : Int) (p : Option Addr) : Prop := w.cell? ⟨g, 0, none⟩ = some (.bool s) ∧ w.cell? ⟨g, 1, none⟩ = some (.int .u64 x) ∧ w.cell? ⟨g, 2, none⟩ = some (.int .u64 y) ∧ w.cell? ⟨g, 3, none⟩ = some (.pointer p)
/-- a mark's five -/
def P5 (w : World) (g : Nat) (s : Bool) (x y : Int) (p : Option Addr) (u : Int) : Prop := w.cell? ⟨g, 0, none⟩ = some (.bool s) ∧ w.cell? ⟨g, 1, none⟩ = some (.int .u64 x) ∧ w.cell? ⟨g, 2, none⟩ = some (.int .u64 y) ∧ w.cell? ⟨g, 3, none⟩ = some (.pointer p) ∧ w.cell? ⟨g, 4, none⟩ = some (.int .i64 u)
theorem P4.but {w w' : World} {g : Nat} {s : Bool} {x y : Int} {p : Option Addr} {l : List Nat} (h : P4 w g s x y p) (hb : But l w w') (hn : g ∉ l) : P4 w' g s x y p := ⟨hb.cell_some h.1 hn, hb.cell_some h.2.1 hn, hb.cell_some h.2.2.1 hn, hb.cell_some h.2.2.2 hn⟩
theorem P5.but {w w' : World} {g : Nat} {s : Bool} {x y : Int} {p : Option Addr} {u : Int} {l : List Nat} (h : P5 w g s x y p u) (hb : But l w w') (hn : g ∉ l) : P5 w' g s x y p u := ⟨hb.cell_some h.1 hn, hb.cell_some h.2.1 hn, hb.cell_some h.2.2.1 hn, hb.cell_some h.2.2.2.1 hn, hb.cell_some h.2.2.2.2 hn⟩
theorem Full.p4 {w : World} {b : Nat} {s : Bool} {x y : Int} {p : Option Addr} (h : Full w b (.agg #[.bool s, .int .u64 x, .int .u64 y, .pointer p])) : P4 w b s x y p := by
  obtain ⟨vs, e, h⟩ := h
  obtain rfl := Value.agg.inj e
  exact ⟨h 0, h 1, h 2, h 3⟩
theorem Full.p5 {w : World} {b : Nat} {s : Bool} {x y u : Int} {p : Option Addr} (h : Full w b (.agg #[.bool s, .int .u64 x, .int .u64 y, .pointer p, .int .i64 u])) : P5 w b s x y p u := by
  obtain ⟨vs, e, h⟩ := h
  obtain rfl := Value.agg.inj e
  exact ⟨h 0, h 1, h 2, h 3, h 4⟩
theorem set_off (w : World) (b i j : Nat) (v : Value) (hij : i ≠ j) : (w.setCell ⟨b, i, none⟩ v).cell? ⟨b, j, none⟩ = w.cell? ⟨b, j, none⟩ := World.cell?_setCell_other w ⟨b, i, none⟩ ⟨b, j, none⟩ v (fun e => hij (Addr.mk.inj e).2.1)
/-- four cells written: the block is what was written, and what it was beyond -/
theorem set4_all (w : World) (b : Nat) (v0 v1 v2 v3 : Value) (c0 : (w.cell? ⟨b, 0, none⟩).isSome = true) (c1 : (w.cell? ⟨b, 1, none⟩).isSome = true) (c2 : (w.cell? ⟨b, 2, none⟩).isSome = true) (c3 : (w.cell? ⟨b, 3, none⟩).isSome = true) :
    (∀ j, j < 4 → ((((w.setCell ⟨b, 0, none⟩ v0).setCell ⟨b, 1, none⟩ v1).setCell ⟨b, 2, none⟩ v2).setCell ⟨b, 3, none⟩ v3).cell? ⟨b, j, none⟩ = #[v0, v1, v2, v3][j]?) ∧ ∀ j, 4 ≤ j → ((((w.setCell ⟨b, 0, none⟩ v0).setCell ⟨b, 1, none⟩ v1).setCell ⟨b, 2, none⟩ v2).setCell ⟨b, 3, none⟩ v3).cell? ⟨b, j, none⟩ = w.cell? ⟨b, j, none⟩ := by
  constructor
  · intro j hj
    have : j = 0 ∨ j = 1 ∨ j = 2 ∨ j = 3 := by omega
    rcases this with rfl | rfl | rfl | rfl
    · rw [set_off _ _ 3 0 _ (by omega), set_off _ _ 2 0 _ (by omega), set_off _ _ 1 0 _ (by omega)]
      exact World.cell?_setCell_same' _ _ _ c0
    · rw [set_off _ _ 3 1 _ (by omega), set_off _ _ 2 1 _ (by omega)]
      exact World.cell?_setCell_same' _ _ _ (by rw [set_off _ _ 0 1 _ (by omega)]; exact c1)
    · rw [set_off _ _ 3 2 _ (by omega)]
      exact World.cell?_setCell_same' _ _ _ (by rw [set_off _ _ 1 2 _ (by omega), set_off _ _ 0 2 _ (by omega)]; exact c2)
    · exact World.cell?_setCell_same' _ _ _ (by rw [set_off _ _ 2 3 _ (by omega), set_off _ _ 1 3 _ (by omega), set_off _ _ 0 3 _ (by omega)]; exact c3)
  · intro j hj
    rw [set_off _ _ 3 j _ (by omega), set_off _ _ 2 j _ (by omega), set_off _ _ 1 j _ (by omega), set_off _ _ 0 j _ (by omega)]
theorem set4_full (w : World) (b : Nat) (v0 v1 v2 v3 : Value) (Z : Array Value) (hz : Z.size = 4) (hv : ∀ j, w.cell? ⟨b, j, none⟩ = Z[j]?) : Full ((((w.setCell ⟨b, 0, none⟩ v0).setCell ⟨b, 1, none⟩ v1).setCell ⟨b, 2, none⟩ v2).setCell ⟨b, 3, none⟩ v3) b (.agg #[v0, v1, v2, v3]) := by
  have hs : ∀ j, j < 4 → (w.cell? ⟨b, j, none⟩).isSome = true := fun j hj => by rw [hv j, Array.getElem?_eq_getElem (by omega)]; rfl
  obtain ⟨h1, h2⟩ := set4_all w b v0 v1 v2 v3 (hs 0 (by omega)) (hs 1 (by omega)) (hs 2 (by omega)) (hs 3 (by omega))
  refine ⟨_, rfl, fun j => ?_⟩
  rcases Nat.lt_or_ge j 4 with hj | hj
  · exact h1 j hj
  · rw [h2 j hj, hv j, Array.getElem?_eq_none (by omega), Array.getElem?_eq_none (by simpa using hj)]
theorem set5_full (w : World) (b : Nat) (v0 v1 v2 v3 v4 : Value) (Z : Array Value) (hz : Z.size = 5) (hv : ∀ j, w.cell? ⟨b, j, none⟩ = Z[j]?) : Full (((((w.setCell ⟨b, 0, none⟩ v0).setCell ⟨b, 1, none⟩ v1).setCell ⟨b, 2, none⟩ v2).setCell ⟨b, 3, none⟩ v3).setCell ⟨b, 4, none⟩ v4) b (.agg #[v0, v1, v2, v3, v4]) := by
  have hs : ∀ j, j < 5 → (w.cell? ⟨b, j, none⟩).isSome = true := fun j hj => by rw [hv j, Array.getElem?_eq_getElem (by omega)]; rfl
  obtain ⟨h1, h2⟩ := set4_all w b v0 v1 v2 v3 (hs 0 (by omega)) (hs 1 (by omega)) (hs 2 (by omega)) (hs 3 (by omega))
  refine ⟨_, rfl, fun j => ?_⟩
  by_cases e : j = 4
  · subst e
    exact World.cell?_setCell_same' _ _ _ (by rw [h2 4 (by omega)]; exact hs 4 (by omega))
  · rw [set_off _ _ 4 j _ (Ne.symm e)]
    rcases Nat.lt_or_ge j 4 with hj | hj
    · rw [h1 j hj]
      have : j = 0 ∨ j = 1 ∨ j = 2 ∨ j = 3 := by omega
      rcases this with rfl | rfl | rfl | rfl <;> rfl
    · rw [h2 j hj, hv j, Array.getElem?_eq_none (by omega), Array.getElem?_eq_none (show 5 ≤ j by omega)]
end Go.Proofs.YtjbboicccddhbaaGreatDoor

namespace Go.Proofs.YtjbboicccddhbaaGreatDoor
open Go.RowKit

/-- a fraction's four parts lie at a block, from an offset on -/
def P4o (w : World) (b o : Nat) (s : Bool) (x y : Int) (p : Option Addr) : Prop := w.cell? ⟨b, o, none⟩ = some (.bool s) ∧ w.cell? ⟨b, o + 1, none⟩ = some (.int .u64 x) ∧ w.cell? ⟨b, o + 2, none⟩ = some (.int .u64 y) ∧ w.cell? ⟨b, o + 3, none⟩ = some (.pointer p)
theorem P4o.but {w w' : World} {b o : Nat} {s : Bool} {x y : Int} {p : Option Addr} {l : List Nat} (h : P4o w b o s x y p) (hb : But l w w') (hn : b ∉ l) : P4o w' b o s x y p := ⟨hb.cell_some h.1 hn, hb.cell_some h.2.1 hn, hb.cell_some h.2.2.1 hn, hb.cell_some h.2.2.2 hn⟩
theorem P4o.lt {w : World} {b o : Nat} {s : Bool} {x y : Int} {p : Option Addr} (h : P4o w b o s x y p) : b < w.heap.size := lt_of_cell h.1
/-- the fraction f lies at a block, from an offset on -/
def LiesAt (w : World) (b o : Nat) (f : Rat) : Prop := ∃ s x y p, P4o w b o s x y p ∧ FracAt w (.agg #[.bool s, .int .u64 x, .int .u64 y, .pointer p]) f
theorem LiesAt.but {w w' : World} {b o : Nat} {f : Rat} (h : LiesAt w b o f) (hb : But [] w w') : LiesAt w' b o f := by
  obtain ⟨s, x, y, p, h1, h2⟩ := h
  exact ⟨s, x, y, p, h1.but hb (by simp), h2.but hb⟩
/-- words stay where blocks turn that hold something else at some place -/
theorem Sl.beside {k : IntKind} {w w' : World} {v : Value} {xs : List Nat} {l : List Nat} (h : Sl k w v xs) (hb : But l w w') (hc : ∀ g ∈ l, ∃ i s, w.cell? ⟨g, i, none⟩ = some (.bool s)) : Sl k w' v xs := by
  obtain ⟨a, cap, rfl, hcp, h, hi⟩ := h
  rcases Nat.eq_zero_or_pos xs.length with h0 | h0
  · exact ⟨a, cap, rfl, hcp, fun i hi => by omega, fun b off e h1 => by omega⟩
  · refine Sl.but (xs := xs) ⟨a, cap, rfl, hcp, h, hi⟩ hb (fun b off cap' n e hm => ?_)
    simp only [Value.slice.injEq] at e
    obtain ⟨rfl, -, -⟩ := e
    obtain ⟨i, s, hs⟩ := hc b hm
    exact (hi _ _ rfl h0).ne hs (by simp) rfl
/-- a fraction stays where places turn that have a Boolean first -/
theorem FracAt.beside {w W : World} {v : Value} {f : Rat} {l : List Nat} (h : FracAt w v f) (hb : But l w W) (hc : ∀ g ∈ l, ∃ s, w.cell? ⟨g, 0, none⟩ = some (.bool s)) : FracAt W v f := by
  rcases h with h1 | ⟨h1, b, v1, v2, h2, h3, h4, h5, h6⟩
  · exact .inl h1
  · have hbg : b ∉ l := fun hm => by
      obtain ⟨s, hs⟩ := hc b hm
      obtain ⟨a, cap, rfl, -⟩ := h5
      rw [hs] at h3
      simp at h3
    exact .inr ⟨h1, b, v1, v2, h2, hb.cell_some h3 hbg, hb.cell_some h4 hbg, h5.beside hb (fun g hg => ⟨0, hc g hg⟩), h6.beside hb (fun g hg => ⟨0, hc g hg⟩)⟩
theorem LiesAt.beside {w w' : World} {b o : Nat} {f : Rat} {l : List Nat} (h : LiesAt w b o f) (hb : But l w w') (hn : b ∉ l) (hc : ∀ g ∈ l, ∃ s, w.cell? ⟨g, 0, none⟩ = some (.bool s)) : LiesAt w' b o f := by
  obtain ⟨s, x, y, p, h1, h2⟩ := h
  exact ⟨s, x, y, p, h1.but hb hn, h2.beside hb hc⟩

/-- the slice v holds the fractions fs -/
def FracsAt (w : World) (v : Value) (fs : List Rat) : Prop := ∃ a cap, v = .slice a fs.length cap ∧ fs.length ≤ cap ∧ ∀ i f, fs[i]? = some f → ∃ b off, a = some ⟨b, off, none⟩ ∧ LiesAt w b (off + i * 4) f
theorem FracsAt.nil (w : World) : FracsAt w (.slice none 0 0) [] := ⟨none, 0, rfl, Nat.le_refl _, fun i f h => by simp at h⟩
theorem FracsAt.but {w w' : World} {v : Value} {fs : List Rat} (h : FracsAt w v fs) (hb : But [] w w') : FracsAt w' v fs := by
  obtain ⟨a, cap, e, hc, h⟩ := h
  refine ⟨a, cap, e, hc, fun i f hf => ?_⟩
  obtain ⟨b, off, e1, h1⟩ := h i f hf
  exact ⟨b, off, e1, h1.but hb⟩
theorem FracsAt.beside {w w' : World} {v : Value} {fs : List Rat} {l : List Nat} (h : FracsAt w v fs) (hb : But l w w') (hn : ∀ b off n c, v = .slice (some ⟨b, off, none⟩) n c → b ∉ l) (hc : ∀ g ∈ l, ∃ s, w.cell? ⟨g, 0, none⟩ = some (.bool s)) : FracsAt w' v fs := by
  obtain ⟨a, cap, rfl, hcp, h⟩ := h
  refine ⟨a, cap, rfl, hcp, fun i f hf => ?_⟩
  obtain ⟨b, off, rfl, h1⟩ := h i f hf
  exact ⟨b, off, rfl, h1.beside hb (hn b off _ _ rfl) hc⟩
/-- empty, or at an address -/
theorem FracsAt.open {w : World} {v : Value} {fs : List Rat} (h : FracsAt w v fs) :
    (fs = [] ∧ ∃ a cap, v = .slice a 0 cap) ∨ (0 < fs.length ∧ ∃ b off cap, v = .slice (some ⟨b, off, none⟩) fs.length cap ∧ fs.length ≤ cap ∧ ∀ i f, fs[i]? = some f → LiesAt w b (off + i * 4) f) := by
  obtain ⟨a, cap, rfl, hc, h⟩ := h
  rcases Nat.eq_zero_or_pos fs.length with h0 | h0
  · exact .inl ⟨List.length_eq_zero_iff.1 h0, a, cap, by rw [h0]⟩
  · obtain ⟨b, off, rfl, -⟩ := h 0 fs[0] (List.getElem?_eq_getElem h0)
    refine .inr ⟨h0, b, off, cap, rfl, hc, fun i f hf => ?_⟩
    obtain ⟨b', off', e, h2⟩ := h i f hf
    simp only [Option.some.injEq, Addr.mk.injEq] at e
    obtain ⟨rfl, rfl, _⟩ := e
    exact h2
/-- the first of them, and those behind -/
theorem FracsAt.take {w : World} {b off cap : Nat} {fs : List Rat} (h : FracsAt w (.slice (some ⟨b, off, none⟩) fs.length cap) fs) (n c : Nat) (hn : n ≤ fs.length) (hc : n ≤ c) : FracsAt w (.slice (some ⟨b, off, none⟩) n c) (fs.take n) := by
  obtain ⟨a, cap', e, -, h⟩ := h
  simp only [Value.slice.injEq] at e
  obtain ⟨rfl, -, -⟩ := e
  have hl : (fs.take n).length = n := by rw [List.length_take]; omega
  refine ⟨_, c, by rw [hl], by rw [hl]; exact hc, fun i f hf => ?_⟩
  have hi : i < n := by
    have := (List.getElem?_eq_some_iff.1 hf).1
    omega
  exact h i f (by rw [List.getElem?_take_of_lt hi] at hf; exact hf)
theorem FracsAt.drop {w : World} {b off cap : Nat} {fs : List Rat} (h : FracsAt w (.slice (some ⟨b, off, none⟩) fs.length cap) fs) (n m c : Nat) (hm : m = fs.length - n) (hc : m ≤ c) : FracsAt w (.slice (some ⟨b, off + n * 4, none⟩) m c) (fs.drop n) := by
  obtain ⟨a, cap', e, -, h⟩ := h
  simp only [Value.slice.injEq] at e
  obtain ⟨rfl, -, -⟩ := e
  have hl : (fs.drop n).length = m := by rw [List.length_drop]; omega
  refine ⟨_, c, by rw [hl], by rw [hl]; exact hc, fun i f hf => ?_⟩
  rw [List.getElem?_drop] at hf
  obtain ⟨b', off', e2, h2⟩ := h (n + i) f hf
  simp only [Option.some.injEq, Addr.mk.injEq] at e2
  obtain ⟨rfl, rfl, -⟩ := e2
  exact ⟨_, _, rfl, by rw [show off + n * 4 + i * 4 = off + (n + i) * 4 from by omega]; exact h2⟩

/-- the parts of values, one behind the other -/
def parts4 (vs : List Value) : List Value := vs.flatMap fun v => v.cells.toList
/-- a row of the call's own that holds fractions' values holds the fractions -/
structure Holds4 (w : World) (base : Nat) (e : TypeId) (v : Value) (fs : List Rat) (vs : List Value) : Prop where
  own : w.ownsRow base e 4 v fs.length (parts4 vs)
  len : vs.length = fs.length
  val : ∀ (i : Nat) (f : Rat), fs[i]? = some f → ∃ s x y p, vs[i]? = some (Value.agg #[.bool s, .int .u64 x, .int .u64 y, .pointer p]) ∧ FracAt w (.agg #[.bool s, .int .u64 x, .int .u64 y, .pointer p]) f
theorem parts4_get : ∀ (vs : List Value), (∀ v ∈ vs, v.cells.size = 4) → ∀ (i k : Nat) (v : Value), vs[i]? = some v → k < 4 → (parts4 vs)[4 * i + k]? = v.cells[k]?
  | [], _, i, k, v, e, _ => by simp at e
  | u :: vs, h, 0, k, v, e, hk => by
    have hu := h u (by simp)
    simp only [List.getElem?_cons_zero, Option.some.injEq] at e
    subst e
    unfold parts4
    rw [List.flatMap_cons, Nat.mul_zero, Nat.zero_add, List.getElem?_append_left (by rw [Array.length_toList, hu]; exact hk)]
    simp
  | u :: vs, h, i + 1, k, v, e, hk => by
    have hu := h u (by simp)
    have ih := parts4_get vs (fun x hx => h x (by simp [hx])) i k v (by simpa using e) hk
    unfold parts4 at ih ⊢
    rw [List.flatMap_cons, List.getElem?_append_right (by rw [Array.length_toList, hu]; omega), Array.length_toList, hu, show 4 * (i + 1) + k - 4 = 4 * i + k from by omega]
    exact ih
theorem parts4_append (vs us : List Value) : parts4 (vs ++ us) = parts4 vs ++ parts4 us := by unfold parts4; rw [List.flatMap_append]
theorem Holds4.fracs {w : World} {base : Nat} {e : TypeId} {v : Value} {fs : List Rat} {vs : List Value} (h : Holds4 w base e v fs vs) : FracsAt w v fs := by
  have h4 : ∀ u ∈ vs, u.cells.size = 4 := fun u hu => by
    obtain ⟨i, hi, rfl⟩ := List.mem_iff_getElem.1 hu
    obtain ⟨s, x, y, p, e, -⟩ := h.val i (fs[i]'(by rw [← h.len]; exact hi)) (List.getElem?_eq_getElem (by rw [← h.len]; exact hi))
    rw [List.getElem?_eq_getElem hi] at e
    rw [Option.some.inj e]
    rfl
  obtain ⟨hl, ⟨rfl, h0⟩ | ⟨g, cap, cur, rfl, hg, hb, hn, hm, hs, ht⟩⟩ := id h.own
  · have : fs = [] := List.length_eq_zero_iff.1 h0
    subst this
    exact FracsAt.nil w
  · refine ⟨_, cap, rfl, hn, fun i f hf => ⟨g, 0, rfl, ?_⟩⟩
    obtain ⟨s, x, y, p, e1, e2⟩ := h.val i f hf
    have cell : ∀ k, k < 4 → w.cell? ⟨g, 0 + i * 4 + k, none⟩ = (#[Value.bool s, .int .u64 x, .int .u64 y, .pointer p] : Array Value)[k]? := fun k hk => by
      have h1 := parts4_get vs h4 i k _ e1 hk
      have h2 := h.own.cells (g := g) rfl
      have hlt : k < (#[Value.bool s, .int .u64 x, .int .u64 y, .pointer p] : Array Value).size := hk
      have h3 := h2 (4 * i + k) _ (h1.trans (Array.getElem?_eq_getElem hlt))
      have h5 : (⟨g, 0, none⟩ : Addr).add (4 * i + k) = ⟨g, 0 + i * 4 + k, none⟩ := by
        by_cases hz : 4 * i + k = 0
        · simp only [Addr.add, hz, if_true, Addr.mk.injEq, true_and, and_true]; omega
        · simp only [Addr.add, hz, if_false, Addr.mk.injEq, true_and, and_true]; omega
      rw [h5] at h3
      rw [h3]
      exact (Array.getElem?_eq_getElem hlt).symm
    exact ⟨s, x, y, p, ⟨cell 0 (by omega), cell 1 (by omega), cell 2 (by omega), cell 3 (by omega)⟩, e2⟩
end Go.Proofs.YtjbboicccddhbaaGreatDoor
