/- Plain facts for the walks: a frame that lets some blocks turn, rows of words, and numbers written in words of base 2^32 or 2^64. -/
import Derived.WalkKit
import Derived.Deep.Draws
namespace Go.Proofs.YtinhoigcajddpaaDoor
open Go.RowKit

theorem hide {p : Prop} (h : p) : Hid p := h
theorem unhide {p : Prop} (h : Hid p) : p := h

/-! ### the frame -/
structure But (l : List Nat) (w w' : World) : Prop where
  os : w'.os = w.os
  tape : w'.tape = w.tape
  output : w'.output = w.output
  size : w.heap.size ≤ w'.heap.size
  block : ∀ k, k < w.heap.size → k ∉ l → w'.heap[k]? = w.heap[k]?

theorem But.refl (l : List Nat) (w : World) : But l w w := ⟨rfl, rfl, rfl, Nat.le_refl _, fun _ _ _ => rfl⟩
theorem But.trans {l l' : List Nat} {a b c : World} (h : But l a b) (k : But l' b c) (hl : ∀ x ∈ l', x ∈ l ∨ a.heap.size ≤ x) : But l a c :=
  ⟨k.os.trans h.os, k.tape.trans h.tape, k.output.trans h.output, Nat.le_trans h.size k.size, fun i hi hn => by
    rw [k.block i (Nat.lt_of_lt_of_le hi h.size) (fun hm => by rcases hl i hm with h1 | h1; exact hn h1; omega)]
    exact h.block i hi hn⟩
theorem But.trans' {l : List Nat} {a b c : World} (h : But l a b) (k : But [] b c) : But l a c := h.trans k (fun x hx => by simp at hx)
theorem But.drew {l : List Nat} {a w : World} (h : But l a w) : But l a w.drew := ⟨h.os, h.tape, h.output, h.size, h.block⟩
theorem But.drewN {l : List Nat} {a w : World} (h : But l a w) (n : Nat) : But l a (w.drewN n) := ⟨h.os, h.tape, h.output, h.size, h.block⟩
theorem But.alloc {l : List Nat} {a w : World} (h : But l a w) (o : Obj) : But l a (w.alloc o) :=
  h.trans' ⟨rfl, rfl, rfl, by simp, fun k hk _ => Below.heap_alloc _ _ _ (by omega)⟩
theorem But.setCell {l : List Nat} {a w : World} (h : But l a w) {p : Addr} (hp : p.block ∈ l ∨ a.heap.size ≤ p.block) (u : Value) : But l a (w.setCell p u) :=
  h.trans (l' := [p.block]) ⟨rfl, rfl, rfl, by simp [World.setCell], fun k _ hk2 => Below.heap_setCell _ _ _ _ (by simpa using hk2)⟩ (fun x hx => by simp at hx; subst hx; exact hp)
theorem But.mono {l l' : List Nat} {a w : World} (h : But l a w) (hl : ∀ x ∈ l, x ∈ l' ∨ a.heap.size ≤ x) : But l' a w :=
  ⟨h.os, h.tape, h.output, h.size, fun k hk hn => h.block k hk (fun hm => by rcases hl k hm with h1 | h1; exact hn h1; omega)⟩
theorem But.nil {l : List Nat} {a w : World} (h : But l a w) (hl : ∀ x ∈ l, a.heap.size ≤ x) : But [] a w := h.mono fun x hx => .inr (hl x hx)
theorem But.of_nil {l : List Nat} {a w : World} (h : But [] a w) : But l a w := h.mono (by simp)
theorem But.cell {l : List Nat} {w w' : World} (h : But l w w') {p : Addr} (hp : p.block < w.heap.size) (hn : p.block ∉ l) : w'.cell? p = w.cell? p := World.cell?_of_block (w := w) (h.block p.block hp hn)
theorem But.frozen {l : List Nat} {w w' : World} (h : But l w w') {p : Addr} (hp : p.block < w.heap.size) (hn : p.block ∉ l) : w'.frozen? p = w.frozen? p := World.frozen?_of_block (w := w) (h.block p.block hp hn)
theorem But.below {w w' : World} (h : But [] w w') : Below w.heap.size w w' := ⟨h.os, h.tape, h.output, h.size, fun k hk => h.block k hk (by simp)⟩
theorem But.of_below {w w' : World} (h : Below w.heap.size w w') : But [] w w' := ⟨h.os, h.tape, h.output, h.size, fun k hk _ => h.block k hk⟩
theorem lt_of_cell {w : World} {a : Addr} {v : Value} (h : w.cell? a = some v) : a.block < w.heap.size := by
  rcases Nat.lt_or_ge a.block w.heap.size with h1 | h1
  · exact h1
  · simp [World.cell?, Array.getElem?_eq_none h1] at h
theorem But.cell_some {l : List Nat} {w w' : World} (h : But l w w') {p : Addr} {v : Value} (hc : w.cell? p = some v) (hn : p.block ∉ l) : w'.cell? p = some v := (h.cell (lt_of_cell hc) hn).trans hc

theorem dr1 (w : World) (q a : Nat) : ∃ n, (w.drewN q).drewN a = w.drewN n := ⟨q + a, World.drewN_drewN _ _ _⟩
theorem dr2 (w : World) (q a b : Nat) : ∃ n, ((w.drewN q).drewN a).drewN b = w.drewN n := ⟨q + (a + b), by rw [World.drewN_drewN, World.drewN_drewN]⟩
theorem dr3 (w : World) (q a b c : Nat) : ∃ n, (((w.drewN q).drewN a).drewN b).drewN c = w.drewN n := ⟨q + (a + (b + c)), by rw [World.drewN_drewN, World.drewN_drewN, World.drewN_drewN]⟩

/-! ### numbers in words -/
/-- the number of words of base B, the least first -/
def vl (B : Nat) : List Nat → Nat
  | [] => 0
  | x :: xs => x + B * vl B xs
theorem vl_append (B : Nat) : ∀ xs ys, vl B (xs ++ ys) = vl B xs + B ^ xs.length * vl B ys
  | [], ys => by simp [vl]
  | x :: xs, ys => by
    simp only [List.cons_append, vl, vl_append B xs ys, List.length_cons, Nat.pow_succ, Nat.mul_add]
    rw [Nat.mul_comm (B ^ xs.length) B, Nat.mul_assoc, Nat.add_assoc]
theorem vl_lt {B : Nat} (hB : 0 < B) : ∀ xs : List Nat, (∀ x ∈ xs, x < B) → vl B xs < B ^ xs.length
  | [], _ => by simp [vl]
  | x :: xs, h => by
    have h1 := vl_lt hB xs (fun y hy => h y (by simp [hy]))
    have h2 := h x (by simp)
    simp only [vl, List.length_cons, Nat.pow_succ]
    have h3 : B * (vl B xs + 1) ≤ B * B ^ xs.length := Nat.mul_le_mul_left _ h1
    rw [Nat.mul_add] at h3
    rw [Nat.mul_comm (B ^ xs.length) B]
    omega
/-- the words of a number, without a nought at the end -/
def wd (B : Nat) (n : Nat) : List Nat := if _h : 1 < B ∧ 0 < n then n % B :: wd B (n / B) else []
  termination_by n
  decreasing_by exact Nat.div_lt_self _h.2 _h.1
theorem wd_zero (B : Nat) : wd B 0 = [] := by rw [wd]; simp
theorem wd_pos {B n : Nat} (hB : 1 < B) (hn : 0 < n) : wd B n = n % B :: wd B (n / B) := by rw [wd, dif_pos ⟨hB, hn⟩]
theorem vl_wd {B : Nat} (hB : 1 < B) (n : Nat) : vl B (wd B n) = n := by
  induction n using Nat.strongRecOn with
  | _ n ih =>
    by_cases hn : 0 < n
    · rw [wd_pos hB hn, vl, ih (n / B) (Nat.div_lt_self hn hB)]
      exact Nat.mod_add_div n B
    · have : n = 0 := by omega
      subst this; rw [wd_zero]; rfl
theorem wd_mem {B : Nat} (hB : 1 < B) (n : Nat) : ∀ x ∈ wd B n, x < B := by
  induction n using Nat.strongRecOn with
  | _ n ih =>
    by_cases hn : 0 < n
    · rw [wd_pos hB hn]
      intro x hx
      simp only [List.mem_cons] at hx
      rcases hx with rfl | hx
      · exact Nat.mod_lt _ (by omega)
      · exact ih (n / B) (Nat.div_lt_self hn hB) x hx
    · have : n = 0 := by omega
      subst this; rw [wd_zero]; simp
theorem wd_nil_iff {B : Nat} (hB : 1 < B) (n : Nat) : wd B n = [] ↔ n = 0 := by
  constructor
  · intro h
    rcases Nat.eq_zero_or_pos n with h0 | h0
    · exact h0
    · rw [wd_pos hB h0] at h; simp at h
  · rintro rfl; exact wd_zero B
theorem wd_len_zero {B : Nat} (hB : 1 < B) (n : Nat) : (wd B n).length = 0 ↔ n = 0 := by rw [List.length_eq_zero_iff, wd_nil_iff hB]
/-- the words of words: noughts at the end cut off -/
theorem wd_cons {B : Nat} (hB : 1 < B) (x m : Nat) (hx : x < B) (h : 0 < x + B * m) : wd B (x + B * m) = x :: wd B m := by
  rw [wd_pos hB h, Nat.add_mul_mod_self_left, Nat.mod_eq_of_lt hx, Nat.add_mul_div_left _ _ (by omega), Nat.div_eq_of_lt hx, Nat.zero_add]
theorem wd_vl_last {B : Nat} (hB : 1 < B) : ∀ (xs : List Nat) (y : Nat), (∀ x ∈ xs, x < B) → y < B → 0 < y → wd B (vl B (xs ++ [y])) = xs ++ [y]
  | [], y, _, hy, h0 => by
    have h := wd_cons hB y 0 hy (by omega)
    simp only [Nat.mul_zero, Nat.add_zero, wd_zero] at h
    simpa [vl] using h
  | x :: xs, y, hx, hy, h0 => by
    have ih := wd_vl_last hB xs y (fun z hz => hx z (by simp [hz])) hy h0
    have hp : 0 < vl B (xs ++ [y]) := by
      rw [Nat.pos_iff_ne_zero]; intro h; rw [h, wd_zero] at ih; simp at ih
    have hm : 0 < B * vl B (xs ++ [y]) := Nat.mul_pos (by omega) hp
    show wd B (x + B * vl B (xs ++ [y])) = x :: (xs ++ [y])
    rw [wd_cons hB x _ (hx x (by simp)) (by omega), ih]
theorem vl_zero_last (B : Nat) (xs : List Nat) : vl B (xs ++ [0]) = vl B xs := by rw [vl_append]; simp [vl]
theorem wd_length_le {B : Nat} (hB : 1 < B) (n k : Nat) (h : n < B ^ k) : (wd B n).length ≤ k := by
  induction k generalizing n with
  | zero =>
    have : n = 0 := by simp at h; omega
    subst this; simp [wd_zero]
  | succ k ih =>
    by_cases hn : 0 < n
    · rw [wd_pos hB hn, List.length_cons]
      have := ih (n / B) (by rw [Nat.div_lt_iff_lt_mul (by omega)]; rw [Nat.pow_succ] at h; exact h)
      omega
    · have : n = 0 := by omega
      subst this; simp [wd_zero]
theorem lt_of_wd_length {B : Nat} (hB : 1 < B) (n k : Nat) (h : (wd B n).length ≤ k) : n < B ^ k := by
  have h1 := vl_lt (by omega : 0 < B) (wd B n) (wd_mem hB n)
  rw [vl_wd hB] at h1
  exact Nat.lt_of_lt_of_le h1 (Nat.pow_le_pow_right (by omega) h)

/-! ### rows of words in memory -/
/-- all that block b holds are words of one kind -/
def Ints (k : IntKind) (w : World) (b : Nat) : Prop := ∀ i v, w.cell? ⟨b, i, none⟩ = some v → ∃ n : Int, v = .int k n
theorem Ints.but {k : IntKind} {w w' : World} {b : Nat} {l : List Nat} (h : Ints k w b) (hb : But l w w') (hl : b < w.heap.size) (hn : b ∉ l) : Ints k w' b := fun i v hv => h i v (by rw [← hb.cell (p := ⟨b, i, none⟩) hl hn]; exact hv)
theorem setCell_none (w : World) (a : Addr) (v : Value) (h : w.cell? a = none) : (w.setCell a v).cell? a = none := by
  unfold World.cell? at h ⊢
  simp only [World.setCell, Array.getElem?_modify, ↓reduceIte]
  cases hb : w.heap[a.block]? with
  | none => simp
  | some x =>
    rw [hb] at h
    cases x <;> simp at h ⊢
    rename_i c e f
    cases hs : a.spot with
    | some _ => simp
    | none => simpa [hs] using h
theorem Ints.set {k : IntKind} {w : World} {b : Nat} (h : Ints k w b) (o : Nat) (t : Int) : Ints k (w.setCell ⟨b, o, none⟩ (.int k t)) b := fun i v hv => by
  by_cases e : o = i
  · subst e
    cases hc : w.cell? ⟨b, o, none⟩ with
    | none => rw [setCell_none _ _ _ hc] at hv; simp at hv
    | some u => rw [World.cell?_setCell_same _ _ _ hc] at hv; exact ⟨t, (Option.some.inj hv).symm⟩
  · rw [World.cell?_setCell_other _ _ _ _ (fun h => e (Addr.mk.inj h).2.1)] at hv
    exact h i v hv
/-- such a block is not one that holds something else -/
theorem Ints.ne {k : IntKind} {w : World} {b g i : Nat} {v : Value} (h : Ints k w b) (hv : w.cell? ⟨g, i, none⟩ = some v) (hn : ∀ n : Int, v ≠ .int k n) : b ≠ g := fun e => by
  subst e
  obtain ⟨n, e⟩ := h i v hv
  exact hn n e
/-- the slice v holds the words xs, in a block that holds words alone -/
def Sl (k : IntKind) (w : World) (v : Value) (xs : List Nat) : Prop :=
  ∃ a cap, v = .slice a xs.length cap ∧ xs.length ≤ cap ∧ (∀ i, i < xs.length → ∃ b off, a = some ⟨b, off, none⟩ ∧ w.cell? ⟨b, off + i, none⟩ = some (.int k (xs[i]?.getD 0 : Nat))) ∧ (∀ b off, a = some ⟨b, off, none⟩ → 0 < xs.length → Ints k w b)
theorem Sl.but {k : IntKind} {w w' : World} {v : Value} {xs : List Nat} {l : List Nat} (h : Sl k w v xs) (hb : But l w w') (hl : ∀ b off cap n, v = .slice (some ⟨b, off, none⟩) n cap → b ∉ l) : Sl k w' v xs := by
  obtain ⟨a, cap, rfl, hc, h, hi⟩ := h
  refine ⟨a, cap, rfl, hc, fun i hi => ?_, fun b off e h0 => ?_⟩
  · obtain ⟨b, off, rfl, h2⟩ := h i hi
    exact ⟨b, off, rfl, hb.cell_some h2 (hl b off cap _ rfl)⟩
  · subst e
    obtain ⟨b2, off2, e2, h2⟩ := h 0 h0
    simp only [Option.some.injEq, Addr.mk.injEq] at e2
    obtain ⟨rfl, rfl, -⟩ := e2
    exact (hi _ _ rfl h0).but hb (lt_of_cell h2) (hl _ _ cap _ rfl)
theorem Sl.but_nil {k : IntKind} {w w' : World} {v : Value} {xs : List Nat} (h : Sl k w v xs) (hb : But [] w w') : Sl k w' v xs := h.but hb (by simp)
theorem Sl.nil (k : IntKind) (w : World) : Sl k w (.slice none 0 0) [] := ⟨none, 0, rfl, Nat.le_refl _, fun i hi => by simp at hi, fun b off e => by simp at e⟩
/-- open a slice: empty, or at an address -/
theorem Sl.open {k : IntKind} {w : World} {v : Value} {xs : List Nat} (h : Sl k w v xs) :
    (xs = [] ∧ ∃ a cap, v = .slice a 0 cap) ∨ (0 < xs.length ∧ ∃ b off cap, v = .slice (some ⟨b, off, none⟩) xs.length cap ∧ xs.length ≤ cap ∧ b < w.heap.size ∧ ∀ i, i < xs.length → w.cell? ⟨b, off + i, none⟩ = some (.int k (xs[i]?.getD 0 : Nat))) := by
  obtain ⟨a, cap, rfl, hc, h, -⟩ := h
  rcases Nat.eq_zero_or_pos xs.length with h0 | h0
  · exact .inl ⟨List.length_eq_zero_iff.1 h0, a, cap, by rw [h0]⟩
  · obtain ⟨b, off, rfl, h1⟩ := h 0 h0
    refine .inr ⟨h0, b, off, cap, rfl, hc, lt_of_cell h1, fun i hi => ?_⟩
    obtain ⟨b', off', e, h2⟩ := h i hi
    simp only [Option.some.injEq, Addr.mk.injEq] at e
    obtain ⟨rfl, rfl, _⟩ := e
    exact h2
theorem Sl.mk {k : IntKind} {w : World} {xs : List Nat} (b off cap : Nat) (hc : xs.length ≤ cap) (h : ∀ i, i < xs.length → w.cell? ⟨b, off + i, none⟩ = some (.int k (xs[i]?.getD 0 : Nat))) (hi : 0 < xs.length → Ints k w b) : Sl k w (.slice (some ⟨b, off, none⟩) xs.length cap) xs :=
  ⟨_, cap, rfl, hc, fun i hi => ⟨b, off, rfl, h i hi⟩, fun b' off' e h0 => by
    simp only [Option.some.injEq, Addr.mk.injEq] at e
    obtain ⟨rfl, -⟩ := e
    exact hi h0⟩
theorem Sl.ints {k : IntKind} {w : World} {xs : List Nat} {b off n c : Nat} (h : Sl k w (.slice (some ⟨b, off, none⟩) n c) xs) (h0 : 0 < n) : Ints k w b := by
  obtain ⟨a, cap, e, -, -, hi⟩ := h
  simp only [Value.slice.injEq] at e
  obtain ⟨rfl, rfl, -⟩ := e
  exact hi _ _ rfl h0
/-- words stay where a block turns that holds something else beside -/
theorem Sl.over {k : IntKind} {w w' : World} {v u : Value} {xs : List Nat} {g i : Nat} (h : Sl k w v xs) (hb : But [g] w w') (hv : w.cell? ⟨g, i, none⟩ = some u) (hn : ∀ n : Int, u ≠ .int k n) : Sl k w' v xs := by
  obtain ⟨a, cap, rfl, hc, h, hi⟩ := h
  rcases Nat.eq_zero_or_pos xs.length with h0 | h0
  · exact ⟨a, cap, rfl, hc, fun i hi => by omega, fun b off e h1 => by omega⟩
  · refine Sl.but (xs := xs) ⟨a, cap, rfl, hc, h, hi⟩ hb (fun b off cap' n e => ?_)
    simp only [Value.slice.injEq] at e
    obtain ⟨rfl, -, -⟩ := e
    simp only [List.mem_singleton]
    exact (hi _ _ rfl h0).ne hv hn
end Go.Proofs.YtinhoigcajddpaaDoor
