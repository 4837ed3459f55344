/- Two values made, two places made, each value stored in its place, whatever order the operations come in. -/
import Derived.Test.YtlkpkgajfakdpaaGreatKN1
import Derived.Test.YtlkpkgajfakdpaaGreatKR0
namespace Go.Proofs.YtlkpkgajfakdpaaGreat
open Go.RowKit

theorem Limb.make {W w w' : World} {a : Act} {cd pd : Nat} {R : World → Value → Prop} {Z : Array Value} {lp ls : Bool} {v0 : Value} {b : Nat} (h : Limb W w a cd pd R Z false lp ls v0 b) (hb : But [] w w') (v : Value) (hv : R w' v) (hs : cd < a.tmps.size) (hne : pd ≠ cd) : Limb W w' (a.put (some cd) v) cd pd R Z true lp ls v b :=
  ⟨fun _ => ⟨at_eq a cd v hs, hv⟩, fun e => by
    obtain ⟨h1, h2, h3, h4⟩ := h.place e
    exact ⟨(at_ne a cd pd v hne).trans h1, h2, Nat.lt_of_lt_of_le h3 hb.size, fun j => (hb.frozen (p := ⟨b, j, none⟩) h3 (by simp)).trans (h4 j)⟩, fun e => by
    have := (h.full e).2.1
    simp at this, fun e f j => (hb.cell (p := ⟨b, j, none⟩) (h.place e).2.2.1 (by simp)).trans (h.void e f j)⟩
theorem Limb.lay {W w : World} {a : Act} {cd pd : Nat} {R : World → Value → Prop} {Z : Array Value} {lc ls : Bool} {v : Value} {b : Nat} (h : Limb W w a cd pd R Z lc false ls v b) (hB : But [] W w) (t : TypeId) (hs : pd < a.tmps.size) (hne : cd ≠ pd) (hR : R w v → R (w.alloc (.cells Z t)) v) : Limb W (w.alloc (.cells Z t)) (a.put (some pd) (.pointer (some ⟨w.heap.size, 0, none⟩))) cd pd R Z lc true ls v w.heap.size :=
  ⟨fun e => ⟨(at_ne a pd cd _ hne).trans (h.val e).1, hR (h.val e).2⟩, fun _ => ⟨at_eq a pd _ hs, hB.size, by simp, fun j => by simp⟩, fun e => by
    have := (h.full e).1
    simp at this, fun _ _ j => by simp⟩
theorem Limb.store {W w w' : World} {a : Act} {cd pd : Nat} {R : World → Value → Prop} {Z : Array Value} {v : Value} {b : Nat} (h : Limb W w a cd pd R Z true true false v b) (hb : But [b] w w') (hf : Full w' b v) (hz : ∀ j, w'.frozen? ⟨b, j, none⟩ = false) (hR : R w v → R w' v) : Limb W w' a cd pd R Z true true true v b :=
  ⟨fun e => ⟨(h.val e).1, hR (h.val e).2⟩, fun e => ⟨(h.place e).1, (h.place e).2.1, Nat.lt_of_lt_of_le (h.place e).2.2.1 hb.size, hz⟩, fun _ => ⟨rfl, rfl, hf⟩, fun _ f => by simp at f⟩
theorem rest_put' {base a : Act} {d t : Nat} {v : Value} (hr : a.tmps[t]? = base.tmps[t]?) (hd : t ≠ d) : (a.put (some d) v).tmps[t]? = base.tmps[t]? := by
  rw [← hr]
  show (a.tmps.setIfInBounds d v)[t]? = a.tmps[t]?
  exact Array.getElem?_setIfInBounds_ne (Ne.symm hd)
theorem size_put' {base a : Act} {d : Nat} {v : Value} (h : a.tmps.size = base.tmps.size) : (a.put (some d) v).tmps.size = base.tmps.size := by rw [size_putted, h]

/-- what the four stages of a place are told of its type: made, stored -/
def Makes (P : Program) (ops : Array Oper) (Q : Exit → Act → World → Prop) (i pd : Nat) (Z : Array Value) (t : TypeId) : Prop := ∀ (a : Act) (w : World) (K : Act → World → Prop), K (a.put (some pd) (.pointer (some ⟨w.heap.size, 0, none⟩))) (w.alloc (.cells Z t)) → wpOp P ops Q i K a w
def Stores (P : Program) (ops : Array Oper) (Q : Exit → Act → World → Prop) (i cd pd : Nat) (R : World → Value → Prop) (Z : Array Value) : Prop := ∀ (a : Act) (w : World) (K : Act → World → Prop) (b : Nat) (v : Value), a.eval (.tmp pd) = .pointer (some ⟨b, 0, none⟩) → a.eval (.tmp cd) = v → R w v → (∀ j, w.cell? ⟨b, j, none⟩ = Z[j]?) → (∀ j, w.frozen? ⟨b, j, none⟩ = false) → (∀ w', But [b] w w' → Full w' b v → (∀ j, w'.frozen? ⟨b, j, none⟩ = false) → K a w') → wpOp P ops Q i K a w
/-- a relation that new blocks leave, and writing into places with a Boolean first -/
structure Stays (R : World → Value → Prop) : Prop where
  but : ∀ w w' v, R w v → But [] w w' → R w' v
  over : ∀ w w' v g s, R w v → w.cell? ⟨g, 0, none⟩ = some (.bool s) → But [g] w w' → R w' v

theorem region_two {P : Program} {id : Nat} {ops : Array Oper} {Q : Exit → Act → World → Prop} {base : Act} {W0 : World} (hm : P.follows .mixedOrders = true)
    (hlow : ∀ i o, ops[i]? = some o → ∀ e ∈ o.after, Region.binds .any e = true → e.on < i) (hsz : ops.size = 8)
    (hb : ∀ i j, (i, j) ∈ [(1, 0), (3, 2), (6, 1), (6, 4), (7, 3), (7, 5)] → ∃ o, ops[i]? = some o ∧ ∃ e ∈ o.after, Region.binds .any e = true ∧ e.on = j)
    (t0 c1 t2 c3 p4 p5 : Nat) (hnd : [t0, c1, t2, c3, p4, p5].Nodup) (hs : ∀ t ∈ [t0, c1, t2, c3, p4, p5], t < base.tmps.size)
    (A0 A2 : Value) (Rx Ry : World → Value → Prop) (Zx Zy : Array Value) (tx ty : TypeId) (sx : Stays Rx) (sy : Stays Ry) (zx : ∃ s, Zx[0]? = some (.bool s)) (zy : ∃ s, Zy[0]? = some (.bool s))
    (h0 : ∀ (a : Act) (w : World) (K : Act → World → Prop), But [] W0.drew w → (∀ t, t ∉ [t0, c1, t2, c3, p4, p5] → a.eval (.tmp t) = base.eval (.tmp t)) → (∀ w', But [] w w' → K (a.put (some t0) A0) w') → wpOp P ops Q 0 K a w)
    (h1 : ∀ (a : Act) (w : World) (K : Act → World → Prop), But [] W0.drew w → a.eval (.tmp t0) = A0 → (∀ v w', But [] w w' → Rx w' v → K (a.put (some c1) v) w') → wpOp P ops Q 1 K a w)
    (h2 : ∀ (a : Act) (w : World) (K : Act → World → Prop), But [] W0.drew w → (∀ t, t ∉ [t0, c1, t2, c3, p4, p5] → a.eval (.tmp t) = base.eval (.tmp t)) → (∀ w', But [] w w' → K (a.put (some t2) A2) w') → wpOp P ops Q 2 K a w)
    (h3 : ∀ (a : Act) (w : World) (K : Act → World → Prop), But [] W0.drew w → a.eval (.tmp t2) = A2 → (∀ v w', But [] w w' → Ry w' v → K (a.put (some c3) v) w') → wpOp P ops Q 3 K a w)
    (h4 : Makes P ops Q 4 p4 Zx tx) (h5 : Makes P ops Q 5 p5 Zy ty) (h6 : Stores P ops Q 6 c1 p4 Rx Zx) (h7 : Stores P ops Q 7 c3 p5 Ry Zy)
    (hQ : ∀ w vx vy bx bY, But [] W0.drew w → Rx w vx → Ry w vy → W0.heap.size ≤ bx → W0.heap.size ≤ bY → bx ≠ bY → (∀ j, w.frozen? ⟨bx, j, none⟩ = false) → (∀ j, w.frozen? ⟨bY, j, none⟩ = false) → Full w bx vx → Full w bY vy → Q .normal (putted base [(t0, A0), (c1, vx), (t2, A2), (c3, vy), (p4, .pointer (some ⟨bx, 0, none⟩)), (p5, .pointer (some ⟨bY, 0, none⟩))]) w) :
    (Code.region id ops true).wp P Q base W0 := by
  obtain ⟨W, hW⟩ : ∃ W, W = W0.drew := ⟨_, rfl⟩
  have hWs : W.heap.size = W0.heap.size := by rw [hW]; rfl
  rw [← hW] at h0 h1 h2 h3 hQ
  rw [← hWs] at hQ
  simp only [List.nodup_cons, List.mem_cons, List.not_mem_nil, or_false, not_or, List.nodup_nil, and_true, not_false_eq_true] at hnd
  obtain ⟨⟨n01, n02, n03, n04, n05⟩, ⟨n12, n13, n14, n15⟩, ⟨n23, n24, n25⟩, ⟨n34, n35⟩, n45⟩ := hnd
  have z0 := hs t0 (by simp)
  have z1 := hs c1 (by simp)
  have z2 := hs t2 (by simp)
  have z3 := hs c3 (by simp)
  have z4 := hs p4 (by simp)
  have z5 := hs p5 (by simp)
  have dep : ∀ (d : Nat → Bool) i j o, (i, j) ∈ [(1, 0), (3, 2), (6, 1), (6, 4), (7, 3), (7, 5)] → ops[i]? = some o → (∀ e ∈ o.after, Region.binds .any e = true → d e.on = true) → d j = true := fun d i j o hij ho hd => by
    obtain ⟨o', ho', e, he, hbi, rfl⟩ := hb i j hij
    rw [ho'] at ho
    obtain rfl := Option.some.inj ho
    exact hd e he hbi
  refine region_inv hm hlow (fun d a w => ∃ vx vy bx bY, Two W base t0 c1 t2 c3 p4 p5 A0 A2 Rx Ry Zx Zy d a w vx vy bx bY) ?_ ?_ ?_
  · rw [← hW]
    exact ⟨undef, undef, 0, 0, But.refl _ _, rfl, rfl, fun _ _ _ _ _ _ _ => rfl, by simp, by simp, ⟨by simp, by simp, by simp, by simp⟩, ⟨by simp, by simp, by simp, by simp⟩, by simp⟩
  · rintro d a w hd ⟨vx, vy, bx, bY, h⟩
    rw [hsz] at hd
    have e0 := hd 0 (by omega)
    have e1 := hd 1 (by omega)
    have e2 := hd 2 (by omega)
    have e3 := hd 3 (by omega)
    have e4 := hd 4 (by omega)
    have e5 := hd 5 (by omega)
    have e6 := hd 6 (by omega)
    have e7 := hd 7 (by omega)
    obtain ⟨x1, x2, x3, x4⟩ := h.x.place e4
    obtain ⟨y1, y2, y3, y4⟩ := h.y.place e5
    have ea : a = putted base [(t0, A0), (c1, vx), (t2, A2), (c3, vy), (p4, .pointer (some ⟨bx, 0, none⟩)), (p5, .pointer (some ⟨bY, 0, none⟩))] := by
      have hz := h.size
      refine putted_eq _ base a h.defers h.size (fun p hp => ?_) (fun t ht => ?_)
      · simp only [List.mem_cons, List.not_mem_nil, or_false] at hp
        rcases hp with rfl | rfl | rfl | rfl | rfl | rfl
        · exact slot_is (h.a0 e0) (by rw [hz]; exact z0)
        · exact slot_is (h.x.val e1).1 (by rw [hz]; exact z1)
        · exact slot_is (h.a2 e2) (by rw [hz]; exact z2)
        · exact slot_is (h.y.val e3).1 (by rw [hz]; exact z3)
        · exact slot_is x1 (by rw [hz]; exact z4)
        · exact slot_is y1 (by rw [hz]; exact z5)
      · exact h.rest t (ht (t0, A0) (by simp)) (ht (c1, vx) (by simp)) (ht (t2, A2) (by simp)) (ht (c3, vy) (by simp)) (ht (p4, .pointer (some ⟨bx, 0, none⟩)) (by simp)) (ht (p5, .pointer (some ⟨bY, 0, none⟩)) (by simp))
    rw [ea]
    exact hQ w vx vy bx bY h.but (h.x.val e1).2 (h.y.val e3).2 x2 y2 (h.ne e4 e5) x4 y4 (h.x.full e6).2.2 (h.y.full e7).2.2
  · rintro d i o a w ho hf hd ⟨vx, vy, bx, bY, h⟩
    have hi : i < 8 := by rw [← hsz]; exact (Array.getElem?_eq_some_iff.1 ho).1
    have hsa := h.size
    have hx := h.x
    have hy := h.y
    have hev : ∀ t, t ∉ [t0, c1, t2, c3, p4, p5] → a.eval (.tmp t) = base.eval (.tmp t) := fun t ht => by
      simp only [List.mem_cons, List.not_mem_nil, or_false, not_or] at ht
      exact rest_eval (h.rest t ht.1 ht.2.1 ht.2.2.1 ht.2.2.2.1 ht.2.2.2.2.1 ht.2.2.2.2.2)
    have hc : i = 0 ∨ i = 1 ∨ i = 2 ∨ i = 3 ∨ i = 4 ∨ i = 5 ∨ i = 6 ∨ i = 7 := by omega
    rcases hc with rfl | rfl | rfl | rfl | rfl | rfl | rfl | rfl
    · refine h0 a w _ h.but hev (fun w' hw => ?_)
      exact ⟨vx, vy, bx, bY, h.but.trans' hw, size_put' h.size, h.defers, fun t k0 k1 k2 k3 k4 k5 => rest_put' (h.rest t k0 k1 k2 k3 k4 k5) k0, fun _ => at_eq a t0 A0 (by rw [hsa]; exact z0), fun e => (at_ne a t0 t2 A0 (Ne.symm n02)).trans (h.a2 e),
        (hx.world hw (by simp) (fun r => sx.but _ _ _ r hw)).put t0 A0 (Ne.symm n01) (Ne.symm n04), (hy.world hw (by simp) (fun r => sy.but _ _ _ r hw)).put t0 A0 (Ne.symm n03) (Ne.symm n05), h.ne⟩
    · have d0 := dep d 1 0 o (by simp) ho hd
      rw [hf] at hx
      refine h1 a w _ h.but (h.a0 d0) (fun v w' hw hv => ?_)
      exact ⟨v, vy, bx, bY, h.but.trans' hw, size_put' h.size, h.defers, fun t k0 k1 k2 k3 k4 k5 => rest_put' (h.rest t k0 k1 k2 k3 k4 k5) k1, fun e => (at_ne a c1 t0 v n01).trans (h.a0 e), fun e => (at_ne a c1 t2 v (Ne.symm n12)).trans (h.a2 e),
        hx.make hw v hv (by rw [hsa]; exact z1) (Ne.symm n14), (hy.world hw (by simp) (fun r => sy.but _ _ _ r hw)).put c1 v (Ne.symm n13) (Ne.symm n15), h.ne⟩
    · refine h2 a w _ h.but hev (fun w' hw => ?_)
      exact ⟨vx, vy, bx, bY, h.but.trans' hw, size_put' h.size, h.defers, fun t k0 k1 k2 k3 k4 k5 => rest_put' (h.rest t k0 k1 k2 k3 k4 k5) k2, fun e => (at_ne a t2 t0 A2 n02).trans (h.a0 e), fun _ => at_eq a t2 A2 (by rw [hsa]; exact z2),
        (hx.world hw (by simp) (fun r => sx.but _ _ _ r hw)).put t2 A2 n12 (Ne.symm n24), (hy.world hw (by simp) (fun r => sy.but _ _ _ r hw)).put t2 A2 (Ne.symm n23) (Ne.symm n25), h.ne⟩
    · have d2 := dep d 3 2 o (by simp) ho hd
      rw [hf] at hy
      refine h3 a w _ h.but (h.a2 d2) (fun v w' hw hv => ?_)
      exact ⟨vx, v, bx, bY, h.but.trans' hw, size_put' h.size, h.defers, fun t k0 k1 k2 k3 k4 k5 => rest_put' (h.rest t k0 k1 k2 k3 k4 k5) k3, fun e => (at_ne a c3 t0 v n03).trans (h.a0 e), fun e => (at_ne a c3 t2 v n23).trans (h.a2 e),
        (hx.world hw (by simp) (fun r => sx.but _ _ _ r hw)).put c3 v n13 (Ne.symm n34), hy.make hw v hv (by rw [hsa]; exact z3) (Ne.symm n35), h.ne⟩
    · rw [hf] at hx
      refine h4 a w _ ?_
      have hw : But [] w (w.alloc (.cells Zx tx)) := (But.refl _ _).alloc _
      exact ⟨vx, vy, w.heap.size, bY, h.but.trans' hw, size_put' h.size, h.defers, fun t k0 k1 k2 k3 k4 k5 => rest_put' (h.rest t k0 k1 k2 k3 k4 k5) k4, fun e => (at_ne a p4 t0 _ n04).trans (h.a0 e), fun e => (at_ne a p4 t2 _ n24).trans (h.a2 e),
        hx.lay h.but tx (by rw [hsa]; exact z4) n14 (fun r => sx.but _ _ _ r hw), (hy.world hw (by simp) (fun r => sy.but _ _ _ r hw)).put p4 _ n34 (Ne.symm n45), fun _ e => Ne.symm (Nat.ne_of_lt (hy.place e).2.2.1)⟩
    · rw [hf] at hy
      refine h5 a w _ ?_
      have hw : But [] w (w.alloc (.cells Zy ty)) := (But.refl _ _).alloc _
      exact ⟨vx, vy, bx, w.heap.size, h.but.trans' hw, size_put' h.size, h.defers, fun t k0 k1 k2 k3 k4 k5 => rest_put' (h.rest t k0 k1 k2 k3 k4 k5) k5, fun e => (at_ne a p5 t0 _ n05).trans (h.a0 e), fun e => (at_ne a p5 t2 _ n25).trans (h.a2 e),
        (hx.world hw (by simp) (fun r => sx.but _ _ _ r hw)).put p5 _ n15 n45, hy.lay h.but ty (by rw [hsa]; exact z5) n35 (fun r => sy.but _ _ _ r hw), fun e _ => Nat.ne_of_lt (hx.place e).2.2.1⟩
    · have d1 := dep d 6 1 o (by simp) ho hd
      have d4 := dep d 6 4 o (by simp) ho hd
      rw [hf, d1, d4] at hx
      obtain ⟨x1, x2, x3, x4⟩ := hx.place rfl
      obtain ⟨s, hz⟩ := zx
      have hv := hx.void rfl rfl
      have hc0 := (hv 0).trans hz
      refine h6 a w _ bx vx x1 (hx.val rfl).1 (hx.val rfl).2 hv x4 (fun w' hw hfl hfz => ?_)
      have hxn := hx.store hw hfl hfz (fun r => sx.over _ _ _ _ _ r hc0 hw)
      exact ⟨vx, vy, bx, bY, h.but.trans hw (fun x hx => by simp at hx; subst hx; exact .inr x2), h.size, h.defers, h.rest, h.a0, h.a2, (show Limb W w' a c1 p4 Rx Zx (d 1) (d 4) true vx bx from by rw [d1, d4]; exact hxn),
        hy.world hw (fun e => by simpa using Ne.symm (h.ne d4 e)) (fun r => sy.over _ _ _ _ _ r hc0 hw), h.ne⟩
    · have d3 := dep d 7 3 o (by simp) ho hd
      have d5 := dep d 7 5 o (by simp) ho hd
      rw [hf, d3, d5] at hy
      obtain ⟨y1, y2, y3, y4⟩ := hy.place rfl
      obtain ⟨s, hz⟩ := zy
      have hv := hy.void rfl rfl
      have hc0 := (hv 0).trans hz
      refine h7 a w _ bY vy y1 (hy.val rfl).1 (hy.val rfl).2 hv y4 (fun w' hw hfl hfz => ?_)
      have hyn := hy.store hw hfl hfz (fun r => sy.over _ _ _ _ _ r hc0 hw)
      exact ⟨vx, vy, bx, bY, h.but.trans hw (fun x hx => by simp at hx; subst hx; exact .inr y2), h.size, h.defers, h.rest, h.a0, h.a2, hx.world hw (fun e => by simpa using h.ne e d5) (fun r => sx.over _ _ _ _ _ r hc0 hw), (show Limb W w' a c3 p5 Ry Zy (d 3) (d 5) true vy bY from by rw [d3, d5]; exact hyn), h.ne⟩
end Go.Proofs.YtlkpkgajfakdpaaGreat

namespace Go.Proofs.YtlkpkgajfakdpaaGreat
open Go.RowKit

/-- each operation that binds another stands behind it -/
def lowOps (ops : Array Oper) : Bool := (List.range ops.size).all fun i => match ops[i]? with
  | some o => o.after.all fun e => !(Region.binds .any e) || decide (e.on < i)
  | none => true
theorem low_of {ops : Array Oper} (h : lowOps ops = true) : ∀ i o, ops[i]? = some o → ∀ e ∈ o.after, Region.binds .any e = true → e.on < i := fun i o ho e he hb => by
  have hi : i < ops.size := (Array.getElem?_eq_some_iff.1 ho).1
  unfold lowOps at h
  rw [List.all_eq_true] at h
  have h1 := h i (List.mem_range.2 hi)
  simp only [ho] at h1
  rw [Array.all_eq_true_iff_forall_mem] at h1
  have h2 := h1 e he
  simpa [hb] using h2
def depOps (ops : Array Oper) (ps : List (Nat × Nat)) : Bool := ps.all fun p => match ops[p.1]? with
  | some o => o.after.any fun e => Region.binds .any e && e.on == p.2
  | none => false
theorem dep_of {ops : Array Oper} {ps : List (Nat × Nat)} (h : depOps ops ps = true) : ∀ i j, (i, j) ∈ ps → ∃ o, ops[i]? = some o ∧ ∃ e ∈ o.after, Region.binds .any e = true ∧ e.on = j := fun i j hij => by
  unfold depOps at h
  rw [List.all_eq_true] at h
  have h1 := h (i, j) hij
  cases ho : ops[i]? with
  | none => simp [ho] at h1
  | some o =>
    simp only [ho] at h1
    rw [Array.any_eq_true] at h1
    obtain ⟨k, hk, h2⟩ := h1
    simp only [Bool.and_eq_true, beq_iff_eq] at h2
    exact ⟨o, rfl, o.after[k], Array.getElem_mem hk, h2.1, h2.2⟩

/-- a fraction's four parts lie at a block -/
def P4 (w : World) (g : Nat) (s : Bool) (x y : Int) (p : Option Addr) : Prop := w.cell? ⟨g, 0, none⟩ = some (.bool s) ∧ w.cell? ⟨g, 1, none⟩ = some (.int .u64 x) ∧ w.cell? ⟨g, 2, none⟩ = some (.int .u64 y) ∧ w.cell? ⟨g, 3, none⟩ = some (.pointer p)
/-- a mark's five -/
def P5 (w : World) (g : Nat) (s : Bool) (x y : Int) (p : Option Addr) (u : Int) : Prop := w.cell? ⟨g, 0, none⟩ = some (.bool s) ∧ w.cell? ⟨g, 1, none⟩ = some (.int .u64 x) ∧ w.cell? ⟨g, 2, none⟩ = some (.int .u64 y) ∧ w.cell? ⟨g, 3, none⟩ = some (.pointer p) ∧ w.cell? ⟨g, 4, none⟩ = some (.int .i64 u)
theorem P4.but {w w' : World} {g : Nat} {s : Bool} {x y : Int} {p : Option Addr} {l : List Nat} (h : P4 w g s x y p) (hb : But l w w') (hn : g ∉ l) : P4 w' g s x y p := ⟨hb.cell_some h.1 hn, hb.cell_some h.2.1 hn, hb.cell_some h.2.2.1 hn, hb.cell_some h.2.2.2 hn⟩
theorem P5.but {w w' : World} {g : Nat} {s : Bool} {x y : Int} {p : Option Addr} {u : Int} {l : List Nat} (h : P5 w g s x y p u) (hb : But l w w') (hn : g ∉ l) : P5 w' g s x y p u := ⟨hb.cell_some h.1 hn, hb.cell_some h.2.1 hn, hb.cell_some h.2.2.1 hn, hb.cell_some h.2.2.2.1 hn, hb.cell_some h.2.2.2.2 hn⟩
theorem Full.p4 {w : World} {b : Nat} {s : Bool} {x y : Int} {p : Option Addr} (h : Full w b (.agg #[.bool s, .int .u64 x, .int .u64 y, .pointer p])) : P4 w b s x y p := by
  obtain ⟨vs, e, h⟩ := h
  obtain rfl := Value.agg.inj e
  exact ⟨h 0, h 1, h 2, h 3⟩
theorem Full.p5 {w : World} {b : Nat} {s : Bool} {x y u : Int} {p : Option Addr} (h : Full w b (.agg #[.bool s, .int .u64 x, .int .u64 y, .pointer p, .int .i64 u])) : P5 w b s x y p u := by
  obtain ⟨vs, e, h⟩ := h
  obtain rfl := Value.agg.inj e
  exact ⟨h 0, h 1, h 2, h 3, h 4⟩
theorem set_off (w : World) (b i j : Nat) (v : Value) (hij : i ≠ j) : (w.setCell ⟨b, i, none⟩ v).cell? ⟨b, j, none⟩ = w.cell? ⟨b, j, none⟩ := World.cell?_setCell_other w ⟨b, i, none⟩ ⟨b, j, none⟩ v (fun e => hij (Addr.mk.inj e).2.1)
/-- four cells written: the block is what was written, and what it was beyond -/
theorem set4_all (w : World) (b : Nat) (v0 v1 v2 v3 : Value) (c0 : (w.cell? ⟨b, 0, none⟩).isSome = true) (c1 : (w.cell? ⟨b, 1, none⟩).isSome = true) (c2 : (w.cell? ⟨b, 2, none⟩).isSome = true) (c3 : (w.cell? ⟨b, 3, none⟩).isSome = true) :
    (∀ j, j < 4 → ((((w.setCell ⟨b, 0, none⟩ v0).setCell ⟨b, 1, none⟩ v1).setCell ⟨b, 2, none⟩ v2).setCell ⟨b, 3, none⟩ v3).cell? ⟨b, j, none⟩ = #[v0, v1, v2, v3][j]?) ∧ ∀ j, 4 ≤ j → ((((w.setCell ⟨b, 0, none⟩ v0).setCell ⟨b, 1, none⟩ v1).setCell ⟨b, 2, none⟩ v2).setCell ⟨b, 3, none⟩ v3).cell? ⟨b, j, none⟩ = w.cell? ⟨b, j, none⟩ := by
  constructor
  · intro j hj
    have : j = 0 ∨ j = 1 ∨ j = 2 ∨ j = 3 := by omega
    rcases this with rfl | rfl | rfl | rfl
    · rw [set_off _ _ 3 0 _ (by omega), set_off _ _ 2 0 _ (by omega), set_off _ _ 1 0 _ (by omega)]
      exact World.cell?_setCell_same' _ _ _ c0
    · rw [set_off _ _ 3 1 _ (by omega), set_off _ _ 2 1 _ (by omega)]
      exact World.cell?_setCell_same' _ _ _ (by rw [set_off _ _ 0 1 _ (by omega)]; exact c1)
    · rw [set_off _ _ 3 2 _ (by omega)]
      exact World.cell?_setCell_same' _ _ _ (by rw [set_off _ _ 1 2 _ (by omega), set_off _ _ 0 2 _ (by omega)]; exact c2)
    · exact World.cell?_setCell_same' _ _ _ (by rw [set_off _ _ 2 3 _ (by omega), set_off _ _ 1 3 _ (by omega), set_off _ _ 0 3 _ (by omega)]; exact c3)
  · intro j hj
    rw [set_off _ _ 3 j _ (by omega), set_off _ _ 2 j _ (by omega), set_off _ _ 1 j _ (by omega), set_off _ _ 0 j _ (by omega)]
theorem set4_full (w : World) (b : Nat) (v0 v1 v2 v3 : Value) (Z : Array Value) (hz : Z.size = 4) (hv : ∀ j, w.cell? ⟨b, j, none⟩ = Z[j]?) : Full ((((w.setCell ⟨b, 0, none⟩ v0).setCell ⟨b, 1, none⟩ v1).setCell ⟨b, 2, none⟩ v2).setCell ⟨b, 3, none⟩ v3) b (.agg #[v0, v1, v2, v3]) := by
  have hs : ∀ j, j < 4 → (w.cell? ⟨b, j, none⟩).isSome = true := fun j hj => by rw [hv j, Array.getElem?_eq_getElem (by omega)]; rfl
  obtain ⟨h1, h2⟩ := set4_all w b v0 v1 v2 v3 (hs 0 (by omega)) (hs 1 (by omega)) (hs 2 (by omega)) (hs 3 (by omega))
  refine ⟨_, rfl, fun j => ?_⟩
  rcases Nat.lt_or_ge j 4 with hj | hj
  · exact h1 j hj
  · rw [h2 j hj, hv j, Array.getElem?_eq_none (by omega), Array.getElem?_eq_none (by simpa using hj)]
theorem set5_full (w : World) (b : Nat) (v0 v1 v2 v3 v4 : Value) (Z : Array Value) (hz : Z.size = 5) (hv : ∀ j, w.cell? ⟨b, j, none⟩ = Z[j]?) : Full (((((w.setCell ⟨b, 0, none⟩ v0).setCell ⟨b, 1, none⟩ v1).setCell ⟨b, 2, none⟩ v2).setCell ⟨b, 3, none⟩ v3).setCell ⟨b, 4, none⟩ v4) b (.agg #[v0, v1, v2, v3, v4]) := by
  have hs : ∀ j, j < 5 → (w.cell? ⟨b, j, none⟩).isSome = true := fun j hj => by rw [hv j, Array.getElem?_eq_getElem (by omega)]; rfl
  obtain ⟨h1, h2⟩ := set4_all w b v0 v1 v2 v3 (hs 0 (by omega)) (hs 1 (by omega)) (hs 2 (by omega)) (hs 3 (by omega))
  refine ⟨_, rfl, fun j => ?_⟩
  by_cases e : j = 4
  · subst e
    exact World.cell?_setCell_same' _ _ _ (by rw [h2 4 (by omega)]; exact hs 4 (by omega))
  · rw [set_off _ _ 4 j _ (Ne.symm e)]
    rcases Nat.lt_or_ge j 4 with hj | hj
    · rw [h1 j hj]
      have : j = 0 ∨ j = 1 ∨ j = 2 ∨ j = 3 := by omega
      rcases this with rfl | rfl | rfl | rfl <;> rfl
    · rw [h2 j hj, hv j, Array.getElem?_eq_none (by omega), Array.getElem?_eq_none (show 5 ≤ j by omega)]
end Go.Proofs.YtlkpkgajfakdpaaGreat

namespace Go.Proofs.YtlkpkgajfakdpaaGreat
open Go.RowKit

def Down (ops : Array Oper) (d : Nat → Bool) : Prop := ∀ i o, ops[i]? = some o → d i = true → ∀ e ∈ o.after, Region.binds .any e = true → d e.on = true
structure Run (W : World) (ops : Array Oper) (base : Act) (C : Nat → World → Value → Prop) (T : Nat → Nat) (d : Nat → Bool) (a : Act) (w : World) : Prop where
  down : Down ops d
  but : But [] W w
  size : a.tmps.size = base.tmps.size
  defers : a.defers = base.defers
  rest : ∀ t, (∀ j, j < ops.size → d j = true → t ≠ T j) → a.tmps[t]? = base.tmps[t]?
  has : ∀ i, i < ops.size → d i = true → C i w (a.eval (.tmp (T i)))
theorem Run.eval {W : World} {ops : Array Oper} {base : Act} {C : Nat → World → Value → Prop} {T : Nat → Nat} {d : Nat → Bool} {a : Act} {w : World} (h : Run W ops base C T d a w) (t : Nat) (ht : ∀ j, j < ops.size → d j = true → t ≠ T j) : a.eval (.tmp t) = base.eval (.tmp t) := by
  show a.tmps.getD t undef = base.tmps.getD t undef
  simp only [Array.getD_eq_getD_getElem?, h.rest t ht]
theorem Run.next {W : World} {ops : Array Oper} {base : Act} {C : Nat → World → Value → Prop} {T : Nat → Nat} {d : Nat → Bool} {a : Act} {w : World} (h : Run W ops base C T d a w)
    (hinj : ∀ i j, i < ops.size → j < ops.size → T i = T j → i = j) (hT : ∀ i, i < ops.size → T i < base.tmps.size) (hC : ∀ i w w' v, i < ops.size → C i w v → But [] w w' → C i w' v)
    (i : Nat) (o : Oper) (ho : ops[i]? = some o) (hdep : ∀ e ∈ o.after, Region.binds .any e = true → d e.on = true) (v : Value) (w' : World) (hb : But [] w w') (hv : C i w' v) : Run W ops base C T (came d i) (a.put (some (T i)) v) w' := by
  have hi : i < ops.size := (Array.getElem?_eq_some_iff.1 ho).1
  refine ⟨fun j oj hj hd e he hbi => ?_, h.but.trans' hb, by rw [size_putted]; exact h.size, h.defers, fun t ht => ?_, fun j hj hd => ?_⟩
  · by_cases e1 : e.on = i
    · rw [e1]; exact came_self d i
    · rw [came_ne d e1]
      by_cases e2 : j = i
      · subst e2
        rw [ho] at hj
        obtain rfl := Option.some.inj hj
        exact hdep e he hbi
      · rw [came_ne d e2] at hd
        exact h.down j oj hj hd e he hbi
  · rw [slot_put, if_neg (fun e => ht i hi (came_self d i) e.symm)]
    exact h.rest t (fun j hj hd => by
      by_cases e : j = i
      · subst e; exact ht j hj (came_self d j)
      · exact ht j hj (by rw [came_ne d e]; exact hd))
  · by_cases e : j = i
    · subst e
      rw [at_eq a (T j) v (by rw [h.size]; exact hT j hj)]
      exact hv
    · rw [came_ne d e] at hd
      rw [at_ne a (T i) (T j) v (fun e2 => e (hinj j i hj hi e2))]
      exact hC j w w' _ hj (h.has j hj hd) hb

/-- every operation writes the slot T says; one with a test stands behind it -/
def plainOps (ops : Array Oper) (T : Nat → Nat) : Bool := (List.range ops.size).all fun i => match ops[i]? with
  | some o => (o.dst == some (T i)) && (match o.guard with | none => true | some (j, _) => decide (j < ops.size) && o.after.any fun e => Region.binds .any e && e.on == j)
  | none => true
theorem plain_of {ops : Array Oper} {T : Nat → Nat} (h : plainOps ops T = true) : ∀ (i : Nat) (o : Oper), ops[i]? = some o → o.dst = some (T i) ∧ ∀ j want, o.guard = some (j, want) → j < ops.size ∧ ∃ e ∈ o.after, Region.binds .any e = true ∧ e.on = j := fun i o ho => by
  have hi : i < ops.size := (Array.getElem?_eq_some_iff.1 ho).1
  unfold plainOps at h
  rw [List.all_eq_true] at h
  have h1 := h i (List.mem_range.2 hi)
  simp only [ho, Bool.and_eq_true, beq_iff_eq] at h1
  refine ⟨h1.1, fun j want hg => ?_⟩
  have h2 := h1.2
  rw [hg] at h2
  simp only [Bool.and_eq_true, decide_eq_true_eq] at h2
  refine ⟨h2.1, ?_⟩
  have h3 := h2.2
  rw [Array.any_eq_true] at h3
  obtain ⟨k, hk, h4⟩ := h3
  simp only [Bool.and_eq_true, beq_iff_eq] at h4
  exact ⟨o.after[k], Array.getElem_mem hk, h4.1, h4.2⟩
/-- which operations stand behind which -/
def behindOps (ops : Array Oper) (ps : List (Nat × Nat)) : Bool := depOps ops ps

theorem region_go {P : Program} {id : Nat} {ops : Array Oper} {Q : Exit → Act → World → Prop} {base : Act} {W0 : World} (hm : P.follows .mixedOrders = true)
    (hlow : ∀ i o, ops[i]? = some o → ∀ e ∈ o.after, Region.binds .any e = true → e.on < i)
    (C : Nat → World → Value → Prop) (T : Nat → Nat) (hpl : plainOps ops T = true)
    (hgd : ∀ (i : Nat) (o : Oper) (j : Nat) (want : Bool), ops[i]? = some o → o.guard = some (j, want) → ∀ w v, C j w v → v = .bool want)
    (hinj : ∀ i j, i < ops.size → j < ops.size → T i = T j → i = j) (hT : ∀ i, i < ops.size → T i < base.tmps.size) (hC : ∀ i w w' v, i < ops.size → C i w v → But [] w w' → C i w' v)
    (hstep : ∀ (i : Nat) (o : Oper) (a : Act) (w : World) (K : Act → World → Prop), ops[i]? = some o → But [] W0.drew w → (∀ t, (∀ j, j < ops.size → t = T j → ∃ oj, ops[j]? = some oj ∧ ∃ e ∈ oj.after, Region.binds .any e = true ∧ e.on = i) → a.eval (.tmp t) = base.eval (.tmp t)) → (∀ e ∈ o.after, Region.binds .any e = true → C e.on w (a.eval (.tmp (T e.on)))) → (∀ v w', But [] w w' → C i w' v → K (a.put o.dst v) w') → o.wp P a w K Q)
    (hend : ∀ a w, Run W0.drew ops base C T (fun _ => true) a w → Q .normal a w) :
    (Code.region id ops true).wp P Q base W0 := by
  have hp := plain_of hpl
  refine region_inv hm hlow (fun d a w => Run W0.drew ops base C T d a w) ?_ ?_ ?_
  · exact ⟨fun _ _ _ h => by simp at h, But.refl _ _, rfl, rfl, fun _ _ => rfl, fun _ _ h => by simp at h⟩
  · intro d a w hd h
    refine hend a w ⟨fun _ _ _ _ _ _ _ => rfl, h.but, h.size, h.defers, fun t ht => h.rest t (fun j hj _ => ht j hj rfl), fun i hi _ => h.has i hi (hd i hi)⟩
  · intro d i o a w ho hdi hdep h
    have hi : i < ops.size := (Array.getElem?_eq_some_iff.1 ho).1
    obtain ⟨hdst, hg⟩ := hp i o ho
    have hw : Region.wanted o (yielded ops a.tmps) = true := by
      unfold Region.wanted
      cases hgo : o.guard with
      | none => rfl
      | some jw =>
        obtain ⟨j, want⟩ := jw
        obtain ⟨hj, e, he, hbi, hon⟩ := hg j want hgo
        have hdj : d j = true := by rw [← hon]; exact hdep e he hbi
        have hv := hgd i o j want ho hgo w _ (h.has j hj hdj)
        have hoj := Array.getElem?_eq_getElem hj
        have hdj2 := (hp j _ hoj).1
        have hsl := slot_is hv (by rw [h.size]; exact hT j hj)
        show (yielded ops a.tmps j == some want) = true
        unfold yielded
        rw [hoj, Option.bind_some, hdj2, Option.bind_some, hsl]
        simp
    unfold wpOp
    simp only [ho, hw, if_true]
    refine .inl (hstep i o a w _ ho h.but (fun t ht => h.eval t (fun j hj hd e => ?_)) (fun e he hb => h.has _ (by have := hlow i o ho e he hb; omega) (hdep e he hb)) (fun v w' hb hv => ?_))
    · obtain ⟨oj, hoj, ed, hed, hbi, hon⟩ := ht j hj e
      have := h.down j oj hoj hd ed hed hbi
      rw [hon, hdi] at this
      simp at this
    · rw [hdst]
      exact h.next hinj hT hC i o ho hdep v w' hb hv
theorem Run.puts {W : World} {ops : Array Oper} {base : Act} {C : Nat → World → Value → Prop} {T : Nat → Nat} {a : Act} {w : World} (h : Run W ops base C T (fun _ => true) a w) (hT : ∀ i, i < ops.size → T i < base.tmps.size) (V : Nat → Value) (hV : ∀ i, i < ops.size → a.eval (.tmp (T i)) = V i) : a = putted base ((List.range ops.size).map fun i => (T i, V i)) := by
  refine putted_eq _ base a h.defers h.size (fun p hp => ?_) (fun t ht => ?_)
  · obtain ⟨i, hi, rfl⟩ := List.mem_map.1 hp
    have hi' := List.mem_range.1 hi
    exact slot_is (hV i hi') (by rw [h.size]; exact hT i hi')
  · refine h.rest t (fun j hj _ e => ?_)
    exact ht (T j, V j) (List.mem_map.2 ⟨j, List.mem_range.2 hj, rfl⟩) e
end Go.Proofs.YtlkpkgajfakdpaaGreat

namespace Go.Proofs.YtlkpkgajfakdpaaGreat
open Go.RowKit

theorem region_skip {P : Program} {id : Nat} {ops : Array Oper} {Q : Exit → Act → World → Prop} {base : Act} {W0 : World} (hm : P.follows .mixedOrders = true)
    (hlow : ∀ i o, ops[i]? = some o → ∀ e ∈ o.after, Region.binds .any e = true → e.on < i)
    (C : Nat → World → Value → Prop) (T : Nat → Nat) (hpl : plainOps ops T = true) (sk : Nat → Bool)
    (hgd : ∀ (i : Nat) (o : Oper) (j : Nat) (want : Bool), ops[i]? = some o → o.guard = some (j, want) → ∀ w v, C j w v → v = .bool (if sk i then !want else want))
    (hsk : ∀ (i : Nat) (o : Oper), ops[i]? = some o → sk i = true → o.guard ≠ none) (hCs : ∀ i w, sk i = true → C i w undef)
    (hinj : ∀ i j, i < ops.size → j < ops.size → T i = T j → i = j) (hT : ∀ i, i < ops.size → T i < base.tmps.size) (hC : ∀ i w w' v, i < ops.size → C i w v → But [] w w' → C i w' v)
    (hstep : ∀ (i : Nat) (o : Oper) (a : Act) (w : World) (K : Act → World → Prop), sk i = false → ops[i]? = some o → But [] W0.drew w → (∀ t, (∀ j, j < ops.size → t = T j → ∃ oj, ops[j]? = some oj ∧ ∃ e ∈ oj.after, Region.binds .any e = true ∧ e.on = i) → a.eval (.tmp t) = base.eval (.tmp t)) → (∀ e ∈ o.after, Region.binds .any e = true → C e.on w (a.eval (.tmp (T e.on)))) → (∀ v w', But [] w w' → C i w' v → K (a.put o.dst v) w') → o.wp P a w K Q)
    (hend : ∀ a w, Run W0.drew ops base C T (fun _ => true) a w → Q .normal a w) :
    (Code.region id ops true).wp P Q base W0 := by
  have hp := plain_of hpl
  refine region_inv hm hlow (fun d a w => Run W0.drew ops base C T d a w) ?_ ?_ ?_
  · exact ⟨fun _ _ _ h => by simp at h, But.refl _ _, rfl, rfl, fun _ _ => rfl, fun _ _ h => by simp at h⟩
  · intro d a w hd h
    refine hend a w ⟨fun _ _ _ _ _ _ _ => rfl, h.but, h.size, h.defers, fun t ht => h.rest t (fun j hj _ => ht j hj rfl), fun i hi _ => h.has i hi (hd i hi)⟩
  · intro d i o a w ho hdi hdep h
    have hi : i < ops.size := (Array.getElem?_eq_some_iff.1 ho).1
    obtain ⟨hdst, hg⟩ := hp i o ho
    have hw : Region.wanted o (yielded ops a.tmps) = !sk i := by
      unfold Region.wanted
      cases hgo : o.guard with
      | none =>
        have : sk i = false := by
          cases e : sk i with
          | false => rfl
          | true => exact absurd hgo (hsk i o ho e)
        rw [this]; rfl
      | some jw =>
        obtain ⟨j, want⟩ := jw
        obtain ⟨hj, e, he, hbi, hon⟩ := hg j want hgo
        have hdj : d j = true := by rw [← hon]; exact hdep e he hbi
        have hv := hgd i o j want ho hgo w _ (h.has j hj hdj)
        have hoj := Array.getElem?_eq_getElem hj
        have hdj2 := (hp j _ hoj).1
        have hsl := slot_is hv (by rw [h.size]; exact hT j hj)
        show (yielded ops a.tmps j == some want) = !sk i
        unfold yielded
        rw [hoj, Option.bind_some, hdj2, Option.bind_some, hsl]
        cases sk i <;> cases want <;> rfl
    unfold wpOp
    by_cases es : sk i = true
    · rw [es] at hw
      simp only [ho, hw, Bool.not_true, Bool.false_eq_true, if_false]
      rw [hdst]
      exact h.next hinj hT hC i o ho hdep undef w (But.refl _ _) (hCs i w es)
    · have es' : sk i = false := by simpa using es
      rw [es'] at hw
      simp only [ho, hw, Bool.not_false, if_true]
      refine .inl (hstep i o a w _ es' ho h.but (fun t ht => h.eval t (fun j hj hd e => ?_)) (fun e he hb => h.has _ (by have := hlow i o ho e he hb; omega) (hdep e he hb)) (fun v w' hb hv => ?_))
      · obtain ⟨oj, hoj, ed, hed, hbi, hon⟩ := ht j hj e
        have := h.down j oj hoj hd ed hed hbi
        rw [hon, hdi] at this
        simp at this
      · rw [hdst]
        exact h.next hinj hT hC i o ho hdep v w' hb hv
end Go.Proofs.YtlkpkgajfakdpaaGreat
