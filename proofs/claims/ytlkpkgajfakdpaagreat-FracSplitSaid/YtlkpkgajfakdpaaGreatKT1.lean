/- Lists of fractions in memory. -/
import Derived.Laws.AppendOwn
import Derived.Test.YtlkpkgajfakdpaaGreatKFA
import Derived.Test.YtlkpkgajfakdpaaGreatKR1
namespace Go.Proofs.YtlkpkgajfakdpaaGreat
open Go.RowKit

/-- a fraction's four parts lie at a block, from an offset on -/
def P4o (w : World) (b o : Nat) (s : Bool) (x y : Int) (p : Option Addr) : Prop := w.cell? ⟨b, o, none⟩ = some (.bool s) ∧ w.cell? ⟨b, o + 1, none⟩ = some (.int .u64 x) ∧ w.cell? ⟨b, o + 2, none⟩ = some (.int .u64 y) ∧ w.cell? ⟨b, o + 3, none⟩ = some (.pointer p)
theorem P4o.but {w w' : World} {b o : Nat} {s : Bool} {x y : Int} {p : Option Addr} {l : List Nat} (h : P4o w b o s x y p) (hb : But l w w') (hn : b ∉ l) : P4o w' b o s x y p := ⟨hb.cell_some h.1 hn, hb.cell_some h.2.1 hn, hb.cell_some h.2.2.1 hn, hb.cell_some h.2.2.2 hn⟩
theorem P4o.lt {w : World} {b o : Nat} {s : Bool} {x y : Int} {p : Option Addr} (h : P4o w b o s x y p) : b < w.heap.size := lt_of_cell h.1
/-- the fraction f lies at a block, from an offset on -/
def LiesAt (w : World) (b o : Nat) (f : Rat) : Prop := ∃ s x y p, P4o w b o s x y p ∧ FracAt w (.agg #[.bool s, .int .u64 x, .int .u64 y, .pointer p]) f
theorem LiesAt.but {w w' : World} {b o : Nat} {f : Rat} (h : LiesAt w b o f) (hb : But [] w w') : LiesAt w' b o f := by
  obtain ⟨s, x, y, p, h1, h2⟩ := h
  exact ⟨s, x, y, p, h1.but hb (by simp), h2.but hb⟩
/-- words stay where blocks turn that hold something else at some place -/
theorem Sl.beside {k : IntKind} {w w' : World} {v : Value} {xs : List Nat} {l : List Nat} (h : Sl k w v xs) (hb : But l w w') (hc : ∀ g ∈ l, ∃ i s, w.cell? ⟨g, i, none⟩ = some (.bool s)) : Sl k w' v xs := by
  obtain ⟨a, cap, rfl, hcp, h, hi⟩ := h
  rcases Nat.eq_zero_or_pos xs.length with h0 | h0
  · exact ⟨a, cap, rfl, hcp, fun i hi => by omega, fun b off e h1 => by omega⟩
  · refine Sl.but (xs := xs) ⟨a, cap, rfl, hcp, h, hi⟩ hb (fun b off cap' n e hm => ?_)
    simp only [Value.slice.injEq] at e
    obtain ⟨rfl, -, -⟩ := e
    obtain ⟨i, s, hs⟩ := hc b hm
    exact (hi _ _ rfl h0).ne hs (by simp) rfl
/-- a fraction stays where places turn that have a Boolean first -/
theorem FracAt.beside {w W : World} {v : Value} {f : Rat} {l : List Nat} (h : FracAt w v f) (hb : But l w W) (hc : ∀ g ∈ l, ∃ s, w.cell? ⟨g, 0, none⟩ = some (.bool s)) : FracAt W v f := by
  rcases h with h1 | ⟨h1, b, v1, v2, h2, h3, h4, h5, h6⟩
  · exact .inl h1
  · have hbg : b ∉ l := fun hm => by
      obtain ⟨s, hs⟩ := hc b hm
      obtain ⟨a, cap, rfl, -⟩ := h5
      rw [hs] at h3
      simp at h3
    exact .inr ⟨h1, b, v1, v2, h2, hb.cell_some h3 hbg, hb.cell_some h4 hbg, h5.beside hb (fun g hg => ⟨0, hc g hg⟩), h6.beside hb (fun g hg => ⟨0, hc g hg⟩)⟩
theorem LiesAt.beside {w w' : World} {b o : Nat} {f : Rat} {l : List Nat} (h : LiesAt w b o f) (hb : But l w w') (hn : b ∉ l) (hc : ∀ g ∈ l, ∃ s, w.cell? ⟨g, 0, none⟩ = some (.bool s)) : LiesAt w' b o f := by
  obtain ⟨s, x, y, p, h1, h2⟩ := h
  exact ⟨s, x, y, p, h1.but hb hn, h2.beside hb hc⟩

/-- the slice v holds the fractions fs -/
def FracsAt (w : World) (v : Value) (fs : List Rat) : Prop := ∃ a cap, v = .slice a fs.length cap ∧ fs.length ≤ cap ∧ ∀ i f, fs[i]? = some f → ∃ b off, a = some ⟨b, off, none⟩ ∧ LiesAt w b (off + i * 4) f
theorem FracsAt.nil (w : World) : FracsAt w (.slice none 0 0) [] := ⟨none, 0, rfl, Nat.le_refl _, fun i f h => by simp at h⟩
theorem FracsAt.but {w w' : World} {v : Value} {fs : List Rat} (h : FracsAt w v fs) (hb : But [] w w') : FracsAt w' v fs := by
  obtain ⟨a, cap, e, hc, h⟩ := h
  refine ⟨a, cap, e, hc, fun i f hf => ?_⟩
  obtain ⟨b, off, e1, h1⟩ := h i f hf
  exact ⟨b, off, e1, h1.but hb⟩
theorem FracsAt.beside {w w' : World} {v : Value} {fs : List Rat} {l : List Nat} (h : FracsAt w v fs) (hb : But l w w') (hn : ∀ b off n c, v = .slice (some ⟨b, off, none⟩) n c → b ∉ l) (hc : ∀ g ∈ l, ∃ s, w.cell? ⟨g, 0, none⟩ = some (.bool s)) : FracsAt w' v fs := by
  obtain ⟨a, cap, rfl, hcp, h⟩ := h
  refine ⟨a, cap, rfl, hcp, fun i f hf => ?_⟩
  obtain ⟨b, off, rfl, h1⟩ := h i f hf
  exact ⟨b, off, rfl, h1.beside hb (hn b off _ _ rfl) hc⟩
/-- empty, or at an address -/
theorem FracsAt.open {w : World} {v : Value} {fs : List Rat} (h : FracsAt w v fs) :
    (fs = [] ∧ ∃ a cap, v = .slice a 0 cap) ∨ (0 < fs.length ∧ ∃ b off cap, v = .slice (some ⟨b, off, none⟩) fs.length cap ∧ fs.length ≤ cap ∧ ∀ i f, fs[i]? = some f → LiesAt w b (off + i * 4) f) := by
  obtain ⟨a, cap, rfl, hc, h⟩ := h
  rcases Nat.eq_zero_or_pos fs.length with h0 | h0
  · exact .inl ⟨List.length_eq_zero_iff.1 h0, a, cap, by rw [h0]⟩
  · obtain ⟨b, off, rfl, -⟩ := h 0 fs[0] (List.getElem?_eq_getElem h0)
    refine .inr ⟨h0, b, off, cap, rfl, hc, fun i f hf => ?_⟩
    obtain ⟨b', off', e, h2⟩ := h i f hf
    simp only [Option.some.injEq, Addr.mk.injEq] at e
    obtain ⟨rfl, rfl, _⟩ := e
    exact h2
/-- the first of them, and those behind -/
theorem FracsAt.take {w : World} {b off cap : Nat} {fs : List Rat} (h : FracsAt w (.slice (some ⟨b, off, none⟩) fs.length cap) fs) (n c : Nat) (hn : n ≤ fs.length) (hc : n ≤ c) : FracsAt w (.slice (some ⟨b, off, none⟩) n c) (fs.take n) := by
  obtain ⟨a, cap', e, -, h⟩ := h
  simp only [Value.slice.injEq] at e
  obtain ⟨rfl, -, -⟩ := e
  have hl : (fs.take n).length = n := by rw [List.length_take]; omega
  refine ⟨_, c, by rw [hl], by rw [hl]; exact hc, fun i f hf => ?_⟩
  have hi : i < n := by
    have := (List.getElem?_eq_some_iff.1 hf).1
    omega
  exact h i f (by rw [List.getElem?_take_of_lt hi] at hf; exact hf)
theorem FracsAt.drop {w : World} {b off cap : Nat} {fs : List Rat} (h : FracsAt w (.slice (some ⟨b, off, none⟩) fs.length cap) fs) (n m c : Nat) (hm : m = fs.length - n) (hc : m ≤ c) : FracsAt w (.slice (some ⟨b, off + n * 4, none⟩) m c) (fs.drop n) := by
  obtain ⟨a, cap', e, -, h⟩ := h
  simp only [Value.slice.injEq] at e
  obtain ⟨rfl, -, -⟩ := e
  have hl : (fs.drop n).length = m := by rw [List.length_drop]; omega
  refine ⟨_, c, by rw [hl], by rw [hl]; exact hc, fun i f hf => ?_⟩
  rw [List.getElem?_drop] at hf
  obtain ⟨b', off', e2, h2⟩ := h (n + i) f hf
  simp only [Option.some.injEq, Addr.mk.injEq] at e2
  obtain ⟨rfl, rfl, -⟩ := e2
  exact ⟨_, _, rfl, by rw [show off + n * 4 + i * 4 = off + (n + i) * 4 from by omega]; exact h2⟩

/-- the parts of values, one behind the other -/
def parts4 (vs : List Value) : List Value := vs.flatMap fun v => v.cells.toList
/-- a row of the call's own that holds fractions' values holds the fractions -/
structure Holds4 (w : World) (base : Nat) (e : TypeId) (v : Value) (fs : List Rat) (vs : List Value) : Prop where
  own : w.ownsRow base e 4 v fs.length (parts4 vs)
  len : vs.length = fs.length
  val : ∀ (i : Nat) (f : Rat), fs[i]? = some f → ∃ s x y p, vs[i]? = some (Value.agg #[.bool s, .int .u64 x, .int .u64 y, .pointer p]) ∧ FracAt w (.agg #[.bool s, .int .u64 x, .int .u64 y, .pointer p]) f
theorem parts4_get : ∀ (vs : List Value), (∀ v ∈ vs, v.cells.size = 4) → ∀ (i k : Nat) (v : Value), vs[i]? = some v → k < 4 → (parts4 vs)[4 * i + k]? = v.cells[k]?
  | [], _, i, k, v, e, _ => by simp at e
  | u :: vs, h, 0, k, v, e, hk => by
    have hu := h u (by simp)
    simp only [List.getElem?_cons_zero, Option.some.injEq] at e
    subst e
    unfold parts4
    rw [List.flatMap_cons, Nat.mul_zero, Nat.zero_add, List.getElem?_append_left (by rw [Array.length_toList, hu]; exact hk)]
    simp
  | u :: vs, h, i + 1, k, v, e, hk => by
    have hu := h u (by simp)
    have ih := parts4_get vs (fun x hx => h x (by simp [hx])) i k v (by simpa using e) hk
    unfold parts4 at ih ⊢
    rw [List.flatMap_cons, List.getElem?_append_right (by rw [Array.length_toList, hu]; omega), Array.length_toList, hu, show 4 * (i + 1) + k - 4 = 4 * i + k from by omega]
    exact ih
theorem parts4_append (vs us : List Value) : parts4 (vs ++ us) = parts4 vs ++ parts4 us := by unfold parts4; rw [List.flatMap_append]
theorem Holds4.fracs {w : World} {base : Nat} {e : TypeId} {v : Value} {fs : List Rat} {vs : List Value} (h : Holds4 w base e v fs vs) : FracsAt w v fs := by
  have h4 : ∀ u ∈ vs, u.cells.size = 4 := fun u hu => by
    obtain ⟨i, hi, rfl⟩ := List.mem_iff_getElem.1 hu
    obtain ⟨s, x, y, p, e, -⟩ := h.val i (fs[i]'(by rw [← h.len]; exact hi)) (List.getElem?_eq_getElem (by rw [← h.len]; exact hi))
    rw [List.getElem?_eq_getElem hi] at e
    rw [Option.some.inj e]
    rfl
  obtain ⟨hl, ⟨rfl, h0⟩ | ⟨g, cap, cur, rfl, hg, hb, hn, hm, hs, ht⟩⟩ := id h.own
  · have : fs = [] := List.length_eq_zero_iff.1 h0
    subst this
    exact FracsAt.nil w
  · refine ⟨_, cap, rfl, hn, fun i f hf => ⟨g, 0, rfl, ?_⟩⟩
    obtain ⟨s, x, y, p, e1, e2⟩ := h.val i f hf
    have cell : ∀ k, k < 4 → w.cell? ⟨g, 0 + i * 4 + k, none⟩ = (#[Value.bool s, .int .u64 x, .int .u64 y, .pointer p] : Array Value)[k]? := fun k hk => by
      have h1 := parts4_get vs h4 i k _ e1 hk
      have h2 := h.own.cells (g := g) rfl
      have hlt : k < (#[Value.bool s, .int .u64 x, .int .u64 y, .pointer p] : Array Value).size := hk
      have h3 := h2 (4 * i + k) _ (h1.trans (Array.getElem?_eq_getElem hlt))
      have h5 : (⟨g, 0, none⟩ : Addr).add (4 * i + k) = ⟨g, 0 + i * 4 + k, none⟩ := by
        by_cases hz : 4 * i + k = 0
        · simp only [Addr.add, hz, if_true, Addr.mk.injEq, true_and, and_true]; omega
        · simp only [Addr.add, hz, if_false, Addr.mk.injEq, true_and, and_true]; omega
      rw [h5] at h3
      rw [h3]
      exact (Array.getElem?_eq_getElem hlt).symm
    exact ⟨s, x, y, p, ⟨cell 0 (by omega), cell 1 (by omega), cell 2 (by omega), cell 3 (by omega)⟩, e2⟩
end Go.Proofs.YtlkpkgajfakdpaaGreat
