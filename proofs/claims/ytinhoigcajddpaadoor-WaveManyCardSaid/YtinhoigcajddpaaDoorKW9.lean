/- A number appended to the row of even places and one to that of odd ones, in whatever order, as the Go text of tontineref's Turned does it. -/
import Derived.Test.YtinhoigcajddpaaDoorKWR
namespace Go.Proofs.YtinhoigcajddpaaDoor
open Go.RowKit

/-- what has come has come behind all that it waits for -/
def ClosedW (ops : Array Oper) (d : Nat → Bool) : Prop := ∀ i o, ops[i]? = some o → d i = true → ∀ e ∈ o.after, Region.binds .any e = true → d e.on = true
theorem ClosedW.not {ops : Array Oper} {d : Nat → Bool} (h : ClosedW ops d) {ps : List (Nat × Nat)} (hp : depOpsW ops ps = true) {i j : Nat} (hij : (i, j) ∈ ps) (hd : d j = false) : d i = false := by
  cases e : d i with
  | false => rfl
  | true =>
    obtain ⟨o, ho, ed, he, hb, rfl⟩ := dep_ofW hp i j hij
    rw [h i o ho e ed he hb] at hd
    simp at hd
theorem ClosedW.next {ops : Array Oper} {d : Nat → Bool} (h : ClosedW ops d) {i : Nat} {o : Oper} (ho : ops[i]? = some o) (hdep : ∀ e ∈ o.after, Region.binds .any e = true → d e.on = true) : ClosedW ops (came d i) := fun j oj hj hd e he hbi => by
  by_cases e1 : e.on = i
  · rw [e1]; exact came_self d i
  · rw [came_ne d e1]
    by_cases e2 : j = i
    · subst e2
      rw [ho] at hj
      obtain rfl := Option.some.inj hj
      exact hdep e he hbi
    · rw [came_ne d e2] at hd
      exact h j oj hj hd e he hbi
structure NamedW {α : Type} (ops : Array Oper) (base : Act) (H : α → (Nat → Bool) → World → Prop) (V : α → Nat → Value) (T : Nat → Nat) (m : Nat) (d : Nat → Bool) (a : Act) (w : World) (N : α) : Prop where
  down : ClosedW ops d
  mem : H N d w
  size : a.tmps.size = base.tmps.size
  defers : a.defers = base.defers
  rest : ∀ t, (∀ j, j < m → d j = true → t ≠ T j) → a.tmps[t]? = base.tmps[t]?
  has : ∀ i, i < m → d i = true → a.eval (.tmp (T i)) = V N i
/-- operations that write their own slots, in whatever order; slots that are written later are as they were -/
theorem region_namesW {P : Program} {id : Nat} {ops : Array Oper} {Q : Exit → Act → World → Prop} {base : Act} {W0 : World} (hm : P.follows .mixedOrders = true)
    (hlow : ∀ i o, ops[i]? = some o → ∀ e ∈ o.after, Region.binds .any e = true → e.on < i)
    (hg : ∀ (i : Nat) (o : Oper), ops[i]? = some o → o.guard = none)
    {α : Type} (H : α → (Nat → Bool) → World → Prop) (V : α → Nat → Value) (T : Nat → Nat) (m : Nat) (hsz : ops.size = m)
    (hinj : ∀ i j, i < m → j < m → T i = T j → i = j) (hT : ∀ i, i < m → T i < base.tmps.size) (N0 : α) (h0 : H N0 (fun _ => false) W0.drew)
    (hstep : ∀ (N : α) (d : Nat → Bool) (i : Nat) (o : Oper) (a : Act) (w : World) (K : Act → World → Prop), i < m → ops[i]? = some o → d i = false → ClosedW ops d → H N d w → (∀ t, (∀ j, j < m → t = T j → d j = false) → a.eval (.tmp t) = base.eval (.tmp t)) → (∀ e ∈ o.after, Region.binds .any e = true → d e.on = true ∧ a.eval (.tmp (T e.on)) = V N e.on) → (∀ N' v w', v = V N' i → (∀ j, j < m → d j = true → V N' j = V N j) → H N' (came d i) w' → K (a.put (some (T i)) v) w') → o.wp P a w K Q)
    (hend : ∀ N d w, (∀ i, i < m → d i = true) → H N d w → Q .normal (putted base ((List.range m).map fun i => (T i, V N i))) w) :
    (Code.region id ops true).wp P Q base W0 := by
  have wpo : ∀ i o a w (K : Act → World → Prop), ops[i]? = some o → o.wp P a w K Q → wpOp P ops Q i K a w := fun i o a w K ho h => by
    unfold wpOp
    simp only [ho, Region.wanted, hg i o ho, if_true]
    exact .inl h
  refine region_inv hm hlow (fun d a w => ∃ N, NamedW ops base H V T m d a w N) ?_ ?_ ?_
  · exact ⟨N0, fun _ _ _ h => by simp at h, h0, rfl, rfl, fun _ _ => rfl, fun _ _ h => by simp at h⟩
  · rintro d a w hd ⟨N, h⟩
    have ea : a = putted base ((List.range m).map fun i => (T i, V N i)) := by
      refine putted_eq _ base a h.defers h.size (fun p hp => ?_) (fun t ht => ?_)
      · obtain ⟨i, hi, rfl⟩ := List.mem_map.1 hp
        have hi' := List.mem_range.1 hi
        exact slot_is (h.has i hi' (hd i (by omega))) (by rw [h.size]; exact hT i hi')
      · refine h.rest t (fun j hj _ e => ?_)
        exact ht (T j, V N j) (List.mem_map.2 ⟨j, List.mem_range.2 hj, rfl⟩) e
    rw [ea]
    exact hend N d w (fun i hi => hd i (by omega)) h.mem
  · rintro d i o a w ho hdi hdep ⟨N, h⟩
    refine wpo i o a w _ ho ?_
    have hi : i < m := by rw [← hsz]; exact (Array.getElem?_eq_some_iff.1 ho).1
    refine hstep N d i o a w _ hi ho hdi h.down h.mem (fun t ht => rest_eval (h.rest t (fun j hj hd e => by rw [ht j hj e] at hd; simp at hd))) (fun ed he hb => ⟨hdep ed he hb, h.has _ (by have := hlow i o ho ed he hb; omega) (hdep ed he hb)⟩) ?_
    rintro N' v w' rfl hV hH
    refine ⟨N', h.down.next ho hdep, hH, by rw [size_putted]; exact h.size, h.defers, fun t ht => ?_, fun j hj hd => ?_⟩
    · rw [slot_put, if_neg (fun e => ht i hi (came_self d i) e.symm)]
      refine h.rest t (fun j hj hd => ht j hj ?_)
      by_cases e : j = i
      · subst e; exact came_self d j
      · rw [came_ne d e]; exact hd
    · by_cases e : j = i
      · subst e
        exact at_eq a (T j) _ (by rw [h.size]; exact hT j hj)
      · rw [came_ne d e] at hd
        rw [at_ne a (T i) (T j) _ (fun e2 => e (hinj j i hj hi e2)), h.has j hj hd]
        exact (hV j hj hd).symm

/-- a number of its own lies in a place of its own, apart from both rows -/
def Lone (w : World) (b x y : Nat) (v u : Value) : Prop := w.cell? ⟨b, 0, none⟩ = some (.complex .f64 x y) ∧ v.ownBlock ≠ some b ∧ u.ownBlock ≠ some b
theorem Lone.but {w w' : World} {b x y : Nat} {v u : Value} (h : Lone w b x y v u) (hb : But [] w w') : Lone w' b x y v u := ⟨hb.cell_some h.1 (by simp), h.2⟩
theorem Lone.grow {w w' : World} {b x y : Nat} {v v' u : Value} (h : Lone w b x y v u) (hg : w.grownBy w' v.ownBlock) (hn : v'.ownBlock = v.ownBlock ∨ ∃ b, v'.ownBlock = some b ∧ w.heap.size ≤ b) : Lone w' b x y v' u := by
  refine ⟨hg.cell h.1 (fun e => h.2.1 e.symm), ?_, h.2.2⟩
  rcases hn with e | ⟨b', e, hb⟩
  · rw [e]; exact h.2.1
  · rw [e]
    intro e2
    have := lt_of_cell h.1
    obtain rfl := Option.some.inj e2
    simp only at this
    omega
theorem Lone.swap {w : World} {b x y : Nat} {v u : Value} (h : Lone w b x y v u) : Lone w b x y u v := ⟨h.1, h.2.2, h.2.1⟩
/-- the two rows: as far as things have come -/
structure Pushes (w0 : World) (k x y x1 y1 : Nat) (fE fO : Nat → CV) (vE vO : Value) (b1 b2 : Nat) (d5 d6 d13 d14 : Bool) (w : World) : Prop where
  but : But [] w0 w
  e : Ev w0.heap.size w vE (if d6 then k + 1 else k) fE
  o : Ev w0.heap.size w vO (if d14 then k + 1 else k) fO
  two : Two2 vE vO
  l1 : d5 = true → d6 = false → Lone w b1 x y vE vO
  l2 : d13 = true → d14 = false → Lone w b2 x1 y1 vE vO
theorem lone_new {w0 w : World} {kE kO : Nat} {fE fO : Nat → CV} {vE vO : Value} (x y : Nat) (hE : Ev w0.heap.size w vE kE fE) (hO : Ev w0.heap.size w vO kO fO) : Lone (w.alloc (.cells #[.complex .f64 x y] 36)) w.heap.size x y vE vO :=
  ⟨by rw [World.cell?_alloc_new]; rfl, fun e => by have := (hE.lt _ e).2; omega, fun e => by have := (hO.lt _ e).2; omega⟩

def wd0 : Oper := { dst := some 29, op := Op.move (Operand.tmp 6), type := 35, pos := "wave.go:39", after := #[], guard := none }
def wd1 : Oper := { dst := some 30, op := Op.move (Operand.tmp 0), type := 35, pos := "wave.go:39", after := #[], guard := none }
def wd2 : Oper := { dst := some 31, op := Op.move (Operand.tmp 8), type := 3, pos := "wave.go:39", after := #[], guard := none }
def wd3 : Oper := { dst := some 32, op := Op.indexAddr 35 (Operand.tmp 30) (Operand.tmp 31), type := 0, pos := "wave.go:39", after := #[{ on := 1, ground := Ground.data }, { on := 2, ground := Ground.data }], guard := none }
def wd4 : Oper := { dst := some 33, op := Op.load 36 (Operand.tmp 32), type := 36, pos := "wave.go:39", after := #[{ on := 3, ground := Ground.data }], guard := none }
def wd5 : Oper := { dst := some 34, op := Op.buildSlice 35 1 #[(0, Operand.tmp 33)], type := 35, pos := "wave.go:39", after := #[{ on := 4, ground := Ground.data }], guard := none }
def wd6 : Oper := { dst := some 35, op := Op.call { callee := Callee.builtin Builtin.append, args := #[Operand.tmp 29, Operand.tmp 34], argTypes := #[35, 35] }, type := 35, pos := "wave.go:39", after := #[{ on := 0, ground := Ground.data }, { on := 5, ground := Ground.data }], guard := none }
def wd7 : Oper := { dst := some 36, op := Op.move (Operand.tmp 7), type := 35, pos := "wave.go:39", after := #[], guard := none }
def wd8 : Oper := { dst := some 37, op := Op.move (Operand.tmp 0), type := 35, pos := "wave.go:39", after := #[], guard := none }
def wd9 : Oper := { dst := some 38, op := Op.move (Operand.tmp 8), type := 3, pos := "wave.go:39", after := #[], guard := none }
def wd10 : Oper := { dst := some 39, op := Op.binOp BinOp.add 3 (Operand.tmp 38) (Operand.const (Value.int IntKind.i64 1)) 3, type := 3, pos := "wave.go:39", after := #[{ on := 9, ground := Ground.data }], guard := none }
def wd11 : Oper := { dst := some 40, op := Op.indexAddr 35 (Operand.tmp 37) (Operand.tmp 39), type := 0, pos := "wave.go:39", after := #[{ on := 8, ground := Ground.data }, { on := 10, ground := Ground.data }], guard := none }
def wd12 : Oper := { dst := some 41, op := Op.load 36 (Operand.tmp 40), type := 36, pos := "wave.go:39", after := #[{ on := 11, ground := Ground.data }], guard := none }
def wd13 : Oper := { dst := some 42, op := Op.buildSlice 35 1 #[(0, Operand.tmp 41)], type := 35, pos := "wave.go:39", after := #[{ on := 12, ground := Ground.data }], guard := none }
def wd14 : Oper := { dst := some 43, op := Op.call { callee := Callee.builtin Builtin.append, args := #[Operand.tmp 36, Operand.tmp 42], argTypes := #[35, 35] }, type := 35, pos := "wave.go:39", after := #[{ on := 7, ground := Ground.data }, { on := 13, ground := Ground.data }, { on := 6, ground := Ground.chain }], guard := none }
def wd15 : Oper := { dst := some 6, op := Op.assign (Operand.tmp 35), type := 35, pos := "wave.go:39", after := #[{ on := 6, ground := Ground.data }, { on := 14, ground := Ground.chain }, { on := 0, ground := Ground.phase }, { on := 1, ground := Ground.phase }, { on := 2, ground := Ground.phase }, { on := 3, ground := Ground.phase }, { on := 4, ground := Ground.phase }, { on := 5, ground := Ground.phase }, { on := 6, ground := Ground.phase }, { on := 7, ground := Ground.textOnly Departure.lateStores }, { on := 8, ground := Ground.textOnly Departure.lateStores }, { on := 9, ground := Ground.textOnly Departure.lateStores }, { on := 10, ground := Ground.textOnly Departure.lateStores }, { on := 11, ground := Ground.textOnly Departure.lateStores }, { on := 12, ground := Ground.textOnly Departure.lateStores }, { on := 13, ground := Ground.textOnly Departure.lateStores }, { on := 14, ground := Ground.textOnly Departure.lateStoresUnsure }], guard := none }
def wd16 : Oper := { dst := some 7, op := Op.assign (Operand.tmp 43), type := 35, pos := "wave.go:39", after := #[{ on := 14, ground := Ground.data }, { on := 15, ground := Ground.chain }, { on := 0, ground := Ground.phase }, { on := 1, ground := Ground.phase }, { on := 2, ground := Ground.phase }, { on := 3, ground := Ground.phase }, { on := 4, ground := Ground.phase }, { on := 5, ground := Ground.phase }, { on := 6, ground := Ground.phase }, { on := 7, ground := Ground.phase }, { on := 8, ground := Ground.phase }, { on := 9, ground := Ground.phase }, { on := 10, ground := Ground.phase }, { on := 11, ground := Ground.phase }, { on := 12, ground := Ground.phase }, { on := 13, ground := Ground.phase }, { on := 14, ground := Ground.phase }, { on := 15, ground := Ground.phase }], guard := none }
def wds : Array Oper := #[wd0, wd1, wd2, wd3, wd4, wd5, wd6, wd7, wd8, wd9, wd10, wd11, wd12, wd13, wd14, wd15, wd16]
def wdT (i : Nat) : Nat := match i with
  | 0 => 29
  | 1 => 30
  | 2 => 31
  | 3 => 32
  | 4 => 33
  | 5 => 34
  | 6 => 35
  | 7 => 36
  | 8 => 37
  | 9 => 38
  | 10 => 39
  | 11 => 40
  | 12 => 41
  | 13 => 42
  | 14 => 43
  | 15 => 6
  | _ => 7
theorem wdT_inj : ∀ i j, i < 17 → j < 17 → wdT i = wdT j → i = j := fun i j hi hj => (by decide : ∀ i, i < 17 → ∀ j, j < 17 → wdT i = wdT j → i = j) i hi j hj
def wdV (b off n c p x y x1 y1 : Nat) (vE0 vO0 : Value) (N : Nat × Nat × Value × Value) (i : Nat) : Value := match i with
  | 0 => vE0
  | 1 => .slice (some ⟨b, off, none⟩) n c
  | 2 => .int .i64 (p : Int)
  | 3 => .pointer (some ⟨b, off + p, none⟩)
  | 4 => .complex .f64 x y
  | 5 => .slice (some ⟨N.1, 0, none⟩) 1 1
  | 6 => N.2.2.1
  | 7 => vO0
  | 8 => .slice (some ⟨b, off, none⟩) n c
  | 9 => .int .i64 (p : Int)
  | 10 => .int .i64 ((p + 1 : Nat) : Int)
  | 11 => .pointer (some ⟨b, off + (p + 1), none⟩)
  | 12 => .complex .f64 x1 y1
  | 13 => .slice (some ⟨N.2.1, 0, none⟩) 1 1
  | 14 => N.2.2.2
  | 15 => N.2.2.1
  | _ => N.2.2.2
set_option maxHeartbeats 4000000 in
set_option maxRecDepth 100000 in
theorem turned_r8 (id : Nat) (Q : Exit → Act → World → Prop) (base : Act) (w0 W0 : World) (b off n c p x y x1 y1 : Nat) (vE0 vO0 : Value) (k : Nat) (fE fO : Nat → CV) (hs : 43 < base.tmps.size) (e6 : base.eval (.tmp 6) = vE0) (e7 : base.eval (.tmp 7) = vO0) (e0 : base.eval (.tmp 0) = .slice (some ⟨b, off, none⟩) n c) (e8 : base.eval (.tmp 8) = .int .i64 (p : Int))
    (hp : p + 1 < n) (hnb : n ≤ 1000) (hk : k ≤ 1000) (c0 : w0.cell? ⟨b, off + p, none⟩ = some (.complex .f64 x y)) (c1 : w0.cell? ⟨b, off + (p + 1), none⟩ = some (.complex .f64 x1 y1)) (hE : cx x y = fE k) (hO : cx x1 y1 = fO k)
    (h0 : But [] w0 W0) (h1 : Ev w0.heap.size W0 vE0 k fE) (h2 : Ev w0.heap.size W0 vO0 k fO) (h3 : Two2 vE0 vO0)
    (hQ : ∀ (b1 b2 : Nat) (vE vO : Value) (w' : World), But [] w0 w' → Ev w0.heap.size w' vE (k + 1) fE → Ev w0.heap.size w' vO (k + 1) fO → Two2 vE vO → Q .normal (putted base [(29, vE0), (30, .slice (some ⟨b, off, none⟩) n c), (31, .int .i64 (p : Int)), (32, .pointer (some ⟨b, off + p, none⟩)), (33, .complex .f64 x y), (34, .slice (some ⟨b1, 0, none⟩) 1 1), (35, vE), (36, vO0), (37, .slice (some ⟨b, off, none⟩) n c), (38, .int .i64 (p : Int)), (39, .int .i64 ((p + 1 : Nat) : Int)), (40, .pointer (some ⟨b, off + (p + 1), none⟩)), (41, .complex .f64 x1 y1), (42, .slice (some ⟨b2, 0, none⟩) 1 1), (43, vO), (6, vE), (7, vO)]) w') :
    (Code.region id wds true).wp Tryd.prog Q base W0 := by
  have hT : ∀ i, i < 17 → wdT i < base.tmps.size := fun i hi => by
    have h : wdT i ≤ 43 := by revert i; decide
    omega
  refine region_namesW (by kernel_rfl) (low_ofW (by kernel_rfl)) (bare_ofW (by kernel_rfl)) (fun (N : Nat × Nat × Value × Value) d w => Pushes w0 k x y x1 y1 fE fO (if d 6 then N.2.2.1 else vE0) (if d 14 then N.2.2.2 else vO0) N.1 N.2.1 (d 5) (d 6) (d 13) (d 14) w) (wdV b off n c p x y x1 y1 vE0 vO0) wdT 17 rfl wdT_inj hT (0, 0, vE0, vO0)
    ⟨h0.drew, h1.but (But.refl _ _).drew, h2.but (But.refl _ _).drew, h3, fun h => by simp at h, fun h => by simp at h⟩ ?_ ?_
  · intro N dn i o a w K hi ho hdi hcl hH he hdep hK
    have hD := dep_isW (ps := [(3, 1), (3, 2), (4, 3), (5, 4), (6, 0), (6, 5), (10, 9), (11, 8), (11, 10), (12, 11), (13, 12), (14, 6), (14, 7), (14, 13), (15, 0), (15, 1), (15, 2), (15, 3), (15, 4), (15, 5), (15, 6), (15, 14), (16, 0), (16, 1), (16, 2), (16, 3), (16, 4), (16, 5), (16, 6), (16, 7), (16, 8), (16, 9), (16, 10), (16, 11), (16, 12), (16, 13), (16, 14), (16, 15)]) (by kernel_rfl) ho (fun j => dn j = true ∧ a.eval (.tmp (wdT j)) = wdV b off n c p x y x1 y1 vE0 vO0 N j) hdep
    have hnot := fun i j hij => hcl.not (ps := [(3, 1), (3, 2), (4, 3), (5, 4), (6, 0), (6, 5), (10, 9), (11, 8), (11, 10), (12, 11), (13, 12), (14, 6), (14, 7), (14, 13), (15, 0), (15, 1), (15, 2), (15, 3), (15, 4), (15, 5), (15, 6), (15, 14), (16, 0), (16, 1), (16, 2), (16, 3), (16, 4), (16, 5), (16, 6), (16, 7), (16, 8), (16, 9), (16, 10), (16, 11), (16, 12), (16, 13), (16, 14), (16, 15)]) (by kernel_rfl) (i := i) (j := j) hij
    have e0' := (he 0 (fun j hj e => absurd e.symm (by revert j; decide))).trans e0
    have e8' := (he 8 (fun j hj e => absurd e.symm (by revert j; decide))).trans e8
    have keep : i ≠ 5 → i ≠ 6 → i ≠ 13 → i ≠ 14 → Pushes w0 k x y x1 y1 fE fO (if came dn i 6 then N.2.2.1 else vE0) (if came dn i 14 then N.2.2.2 else vO0) N.1 N.2.1 (came dn i 5) (came dn i 6) (came dn i 13) (came dn i 14) w := fun n5 n6 n13 n14 => by
      rw [came_ne dn (Ne.symm n5), came_ne dn (Ne.symm n6), came_ne dn (Ne.symm n13), came_ne dn (Ne.symm n14)]
      exact hH
    have hk' : ∀ v, v = wdV b off n c p x y x1 y1 vE0 vO0 N i → i ≠ 5 → i ≠ 6 → i ≠ 13 → i ≠ 14 → K (a.put (some (wdT i)) v) w := fun v hv n5 n6 n13 n14 => hK N v w hv (fun _ _ _ => rfl) (keep n5 n6 n13 n14)
    have : i = 0 ∨ i = 1 ∨ i = 2 ∨ i = 3 ∨ i = 4 ∨ i = 5 ∨ i = 6 ∨ i = 7 ∨ i = 8 ∨ i = 9 ∨ i = 10 ∨ i = 11 ∨ i = 12 ∨ i = 13 ∨ i = 14 ∨ i = 15 ∨ i = 16 := by omega
    rcases this with rfl | rfl | rfl | rfl | rfl | rfl | rfl | rfl | rfl | rfl | rfl | rfl | rfl | rfl | rfl | rfl | rfl
    · obtain rfl := Option.some.inj ((show wds[0]? = some wd0 from rfl).symm.trans ho)
      have e6' : a.eval (.tmp 6) = vE0 := (he 6 (fun j hj e => by
        have hj15 : j = 15 := wdT_inj j 15 hj (by omega) e.symm
        subst hj15
        exact hnot 15 0 (by simp) hdi)).trans e6
      exact does_valueW (run_mvW _ _ _ _ _ _ _ _ e6') (hk' _ rfl (by decide) (by decide) (by decide) (by decide))
    · obtain rfl := Option.some.inj ((show wds[1]? = some wd1 from rfl).symm.trans ho)
      exact does_valueW (run_mvW _ _ _ _ _ _ _ _ e0') (hk' _ rfl (by decide) (by decide) (by decide) (by decide))
    · obtain rfl := Option.some.inj ((show wds[2]? = some wd2 from rfl).symm.trans ho)
      exact does_valueW (run_mvW _ _ _ _ _ _ _ _ e8') (hk' _ rfl (by decide) (by decide) (by decide) (by decide))
    · obtain rfl := Option.some.inj ((show wds[3]? = some wd3 from rfl).symm.trans ho)
      have d1 := (hD 1 (by simp)).2
      have d2 := (hD 2 (by simp)).2
      exact does_valueW (run_ixCo _ _ _ _ _ _ _ _ b off n c p d1 d2 (by omega) hnb) (hk' _ rfl (by decide) (by decide) (by decide) (by decide))
    · obtain rfl := Option.some.inj ((show wds[4]? = some wd4 from rfl).symm.trans ho)
      have d3 := (hD 3 (by simp)).2
      exact does_valueW (run_ldC _ _ _ _ _ _ _ b (off + p) x y d3 (hH.but.cell_some c0 (by simp))) (hk' _ rfl (by decide) (by decide) (by decide) (by decide))
    · obtain rfl := Option.some.inj ((show wds[5]? = some wd5 from rfl).symm.trans ho)
      have d4 := (hD 4 (by simp)).2
      have hal : But [] w (w.alloc (.cells #[.complex .f64 x y] 36)) := (But.refl _ _).alloc _
      refine does_valueW (run_bsC _ _ _ _ _ _ _ x y d4) (hK (w.heap.size, N.2.1, N.2.2.1, N.2.2.2) _ _ rfl (fun j hj hd => ?_) ?_)
      · have : j = 0 ∨ j = 1 ∨ j = 2 ∨ j = 3 ∨ j = 4 ∨ j = 5 ∨ j = 6 ∨ j = 7 ∨ j = 8 ∨ j = 9 ∨ j = 10 ∨ j = 11 ∨ j = 12 ∨ j = 13 ∨ j = 14 ∨ j = 15 ∨ j = 16 := by omega
        rcases this with rfl | rfl | rfl | rfl | rfl | rfl | rfl | rfl | rfl | rfl | rfl | rfl | rfl | rfl | rfl | rfl | rfl
        all_goals first | rfl | (rw [hdi] at hd; simp at hd)
      · rw [came_ne dn (show (6 : Nat) ≠ 5 by decide), came_ne dn (show (14 : Nat) ≠ 5 by decide), came_ne dn (show (13 : Nat) ≠ 5 by decide)]
        exact ⟨hH.but.trans' hal, hH.e.but hal, hH.o.but hal, hH.two, fun _ _ => lone_new x y hH.e hH.o, fun h h' => (hH.l2 h h').but hal⟩
    · obtain rfl := Option.some.inj ((show wds[6]? = some wd6 from rfl).symm.trans ho)
      have d0 := (hD 0 (by simp)).2
      have d5 := (hD 5 (by simp)).2
      have h5 := (hD 5 (by simp)).1
      have h14 : dn 14 = false := hnot 14 6 (by simp) hdi
      obtain ⟨hb, hE1, hO1, hTw, hl1, hl2⟩ := hH
      rw [hdi] at hE1 hTw hl1 hl2
      rw [h14] at hO1 hTw hl1 hl2
      simp only [Bool.false_eq_true, if_false] at hE1 hO1 hTw hl1 hl2
      have hl := hl1 h5 trivial
      obtain ⟨v', w', hr, hE2, hg, hn⟩ := push_at _ w vE0 k fE hE1 N.1 x y hl.1 hE (by omega) hb.size
      refine does_valueW (run_apC _ _ _ _ _ _ _ vE0 v' _ w' d0 d5 hr) (hK (N.1, N.2.1, v', N.2.2.2) _ _ rfl (fun j hj hd => ?_) ?_)
      · have : j = 0 ∨ j = 1 ∨ j = 2 ∨ j = 3 ∨ j = 4 ∨ j = 5 ∨ j = 6 ∨ j = 7 ∨ j = 8 ∨ j = 9 ∨ j = 10 ∨ j = 11 ∨ j = 12 ∨ j = 13 ∨ j = 14 ∨ j = 15 ∨ j = 16 := by omega
        rcases this with rfl | rfl | rfl | rfl | rfl | rfl | rfl | rfl | rfl | rfl | rfl | rfl | rfl | rfl | rfl | rfl | rfl
        all_goals first | rfl | (rw [hdi] at hd; simp at hd) | (rw [hnot 15 6 (by simp) hdi] at hd; simp at hd)
      · rw [came_self, came_ne dn (show (14 : Nat) ≠ 6 by decide), came_ne dn (show (5 : Nat) ≠ 6 by decide), came_ne dn (show (13 : Nat) ≠ 6 by decide), h14]
        exact ⟨hb.grown_own hE1 (Nat.le_refl _) hg, hE2, hO1.kept hg hTw.keep, hTw.push hO1 hn, fun _ h => by simp at h, fun h _ => (hl2 h trivial).grow hg hn⟩
    · obtain rfl := Option.some.inj ((show wds[7]? = some wd7 from rfl).symm.trans ho)
      have e7' : a.eval (.tmp 7) = vO0 := (he 7 (fun j hj e => by
        have hj16 : j = 16 := wdT_inj j 16 hj (by omega) e.symm
        subst hj16
        exact hnot 16 7 (by simp) hdi)).trans e7
      exact does_valueW (run_mvW _ _ _ _ _ _ _ _ e7') (hk' _ rfl (by decide) (by decide) (by decide) (by decide))
    · obtain rfl := Option.some.inj ((show wds[8]? = some wd8 from rfl).symm.trans ho)
      exact does_valueW (run_mvW _ _ _ _ _ _ _ _ e0') (hk' _ rfl (by decide) (by decide) (by decide) (by decide))
    · obtain rfl := Option.some.inj ((show wds[9]? = some wd9 from rfl).symm.trans ho)
      exact does_valueW (run_mvW _ _ _ _ _ _ _ _ e8') (hk' _ rfl (by decide) (by decide) (by decide) (by decide))
    · obtain rfl := Option.some.inj ((show wds[10]? = some wd10 from rfl).symm.trans ho)
      have d9 := (hD 9 (by simp)).2
      exact does_valueW (run_sucW _ _ _ _ _ _ _ p d9 (by omega)) (hk' _ rfl (by decide) (by decide) (by decide) (by decide))
    · obtain rfl := Option.some.inj ((show wds[11]? = some wd11 from rfl).symm.trans ho)
      have d8 := (hD 8 (by simp)).2
      have d10 := (hD 10 (by simp)).2
      exact does_valueW (run_ixCo _ _ _ _ _ _ _ _ b off n c (p + 1) d8 d10 (by omega) hnb) (hk' _ rfl (by decide) (by decide) (by decide) (by decide))
    · obtain rfl := Option.some.inj ((show wds[12]? = some wd12 from rfl).symm.trans ho)
      have d11 := (hD 11 (by simp)).2
      exact does_valueW (run_ldC _ _ _ _ _ _ _ b (off + (p + 1)) x1 y1 d11 (hH.but.cell_some c1 (by simp))) (hk' _ rfl (by decide) (by decide) (by decide) (by decide))
    · obtain rfl := Option.some.inj ((show wds[13]? = some wd13 from rfl).symm.trans ho)
      have d12 := (hD 12 (by simp)).2
      have hal : But [] w (w.alloc (.cells #[.complex .f64 x1 y1] 36)) := (But.refl _ _).alloc _
      refine does_valueW (run_bsC _ _ _ _ _ _ _ x1 y1 d12) (hK (N.1, w.heap.size, N.2.2.1, N.2.2.2) _ _ rfl (fun j hj hd => ?_) ?_)
      · have : j = 0 ∨ j = 1 ∨ j = 2 ∨ j = 3 ∨ j = 4 ∨ j = 5 ∨ j = 6 ∨ j = 7 ∨ j = 8 ∨ j = 9 ∨ j = 10 ∨ j = 11 ∨ j = 12 ∨ j = 13 ∨ j = 14 ∨ j = 15 ∨ j = 16 := by omega
        rcases this with rfl | rfl | rfl | rfl | rfl | rfl | rfl | rfl | rfl | rfl | rfl | rfl | rfl | rfl | rfl | rfl | rfl
        all_goals first | rfl | (rw [hdi] at hd; simp at hd)
      · rw [came_ne dn (show (6 : Nat) ≠ 13 by decide), came_ne dn (show (14 : Nat) ≠ 13 by decide), came_ne dn (show (5 : Nat) ≠ 13 by decide)]
        exact ⟨hH.but.trans' hal, hH.e.but hal, hH.o.but hal, hH.two, fun h h' => (hH.l1 h h').but hal, fun _ _ => lone_new x1 y1 hH.e hH.o⟩
    · obtain rfl := Option.some.inj ((show wds[14]? = some wd14 from rfl).symm.trans ho)
      have d7 := (hD 7 (by simp)).2
      have d13 := (hD 13 (by simp)).2
      have h13 := (hD 13 (by simp)).1
      have h6 := (hD 6 (by simp)).1
      obtain ⟨hb, hE1, hO1, hTw, hl1, hl2⟩ := hH
      rw [hdi] at hO1 hTw hl1 hl2
      rw [h6] at hE1 hTw hl1 hl2
      simp only [Bool.false_eq_true, if_false, if_true] at hE1 hO1 hTw hl1 hl2
      have hl := hl2 h13 trivial
      obtain ⟨v', w', hr, hO2, hg, hn⟩ := push_at _ w vO0 k fO hO1 N.2.1 x1 y1 hl.1 hO (by omega) hb.size
      refine does_valueW (run_apC _ _ _ _ _ _ _ vO0 v' _ w' d7 d13 hr) (hK (N.1, N.2.1, N.2.2.1, v') _ _ rfl (fun j hj hd => ?_) ?_)
      · have : j = 0 ∨ j = 1 ∨ j = 2 ∨ j = 3 ∨ j = 4 ∨ j = 5 ∨ j = 6 ∨ j = 7 ∨ j = 8 ∨ j = 9 ∨ j = 10 ∨ j = 11 ∨ j = 12 ∨ j = 13 ∨ j = 14 ∨ j = 15 ∨ j = 16 := by omega
        rcases this with rfl | rfl | rfl | rfl | rfl | rfl | rfl | rfl | rfl | rfl | rfl | rfl | rfl | rfl | rfl | rfl | rfl
        all_goals first | rfl | (rw [hdi] at hd; simp at hd) | (rw [hnot 16 14 (by simp) hdi] at hd; simp at hd)
      · rw [came_self, came_ne dn (show (6 : Nat) ≠ 14 by decide), came_ne dn (show (5 : Nat) ≠ 14 by decide), came_ne dn (show (13 : Nat) ≠ 14 by decide), h6]
        exact ⟨hb.grown_own hO1 (Nat.le_refl _) hg, hE1.kept hg hTw.symm.keep, hO2, (hTw.symm.push hE1 hn).symm, fun _ h => by simp at h, fun _ h => by simp at h⟩
    · obtain rfl := Option.some.inj ((show wds[15]? = some wd15 from rfl).symm.trans ho)
      have d6 := (hD 6 (by simp)).2
      exact does_valueW (run_asW _ _ _ _ _ _ _ _ d6) (hk' _ rfl (by decide) (by decide) (by decide) (by decide))
    · obtain rfl := Option.some.inj ((show wds[16]? = some wd16 from rfl).symm.trans ho)
      have d14 := (hD 14 (by simp)).2
      exact does_valueW (run_asW _ _ _ _ _ _ _ _ d14) (hk' _ rfl (by decide) (by decide) (by decide) (by decide))
  · intro N d w hd hH
    rw [hd 5 (by omega), hd 6 (by omega), hd 13 (by omega), hd 14 (by omega)] at hH
    exact hQ N.1 N.2.1 N.2.2.1 N.2.2.2 w hH.but hH.e hH.o hH.two
end Go.Proofs.YtinhoigcajddpaaDoor
