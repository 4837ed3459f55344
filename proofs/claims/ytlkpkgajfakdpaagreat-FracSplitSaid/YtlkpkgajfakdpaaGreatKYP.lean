/- Units are parted by the greatest rests: plain facts. -/
import Derived.Test.YtlkpkgajfakdpaaGreatKBase
namespace Go.Proofs.YtlkpkgajfakdpaaGreat
open Go.RowKit

/-- all together -/
def tot : List Rat → Rat
  | [] => 0
  | a :: l => a + tot l
theorem tot_append : ∀ l m : List Rat, tot (l ++ m) = tot l + tot m
  | [], m => by show tot m = 0 + tot m; grind
  | a :: l, m => by
    have h := tot_append l m
    show a + tot (l ++ m) = a + tot l + tot m
    rw [h]; grind
theorem tot_perm {l m : List Rat} (h : l.Perm m) : tot l = tot m := by
  induction h with
  | nil => rfl
  | cons x _ ih => show x + _ = x + _; rw [ih]
  | swap x y l => show y + (x + tot l) = x + (y + tot l); grind
  | trans _ _ h1 h2 => exact h1.trans h2
theorem tot_nonneg : ∀ l : List Rat, (∀ x ∈ l, 0 ≤ x) → 0 ≤ tot l
  | [], _ => Rat.le_refl
  | a :: l, h => by
    have h1 := tot_nonneg l (fun x hx => h x (by simp [hx]))
    have h2 := h a (by simp)
    show 0 ≤ a + tot l
    grind
theorem tot_le : ∀ l : List Rat, (∀ x ∈ l, x ≤ 1) → tot l ≤ ((l.length : Int) : Rat)
  | [], _ => by show (0 : Rat) ≤ ((0 : Int) : Rat); simp
  | a :: l, h => by
    have h1 := tot_le l (fun x hx => h x (by simp [hx]))
    have h2 := h a (by simp)
    have e : (((a :: l).length : Int) : Rat) = ((l.length : Int) : Rat) + 1 := by
      rw [List.length_cons, Int.natCast_add, Rat.intCast_add]; rfl
    show a + tot l ≤ _
    rw [e]
    grind
/-- one of them is nothing -/
theorem tot_less (l : List Rat) (h : ∀ x ∈ l, x ≤ 1) (i : Nat) (hi : i < l.length) (h0 : l[i] = 0) : tot l ≤ ((l.length : Int) : Rat) - 1 := by
  have e : l = l.take i ++ l[i] :: l.drop (i + 1) := by rw [List.getElem_cons_drop hi, List.take_append_drop]
  have h1 := tot_le (l.take i) (fun x hx => h x (List.mem_of_mem_take hx))
  have h2 := tot_le (l.drop (i + 1)) (fun x hx => h x (List.mem_of_mem_drop hx))
  have e2 : tot l = tot (l.take i) + (0 + tot (l.drop (i + 1))) := by
    conv => lhs; rw [e]
    rw [tot_append, h0]
    rfl
  rw [List.length_take, Nat.min_eq_left (Nat.le_of_lt hi)] at h1
  rw [List.length_drop] at h2
  have e3 : ((l.length : Int) : Rat) = ((i : Int) : Rat) + (((l.length - (i + 1) : Nat) : Int) : Rat) + 1 := by
    have : (l.length : Int) = (i : Int) + ((l.length - (i + 1) : Nat) : Int) + 1 := by omega
    rw [this, Rat.intCast_add, Rat.intCast_add]; rfl
  rw [e2, e3]
  grind
theorem tot_map_zero (l : List Nat) (r : Nat → Rat) (h : ∀ i ∈ l, r i = 0) : tot (l.map r) = 0 := by
  induction l with
  | nil => rfl
  | cons a l ih =>
    show r a + tot (l.map r) = 0
    rw [h a (by simp), ih (fun i hi => h i (by simp [hi]))]
    grind

/-- who comes ahead: whose rest is greater, of equal ones the first -/
def Ahead (r : Nat → Rat) (i k : Nat) : Prop := r k < r i ∨ (r k = r i ∧ i < k)
/-- a row of places, those ahead first -/
structure Rowed (r : Nat → Rat) (n : Nat) (js : List Nat) : Prop where
  perm : js.Perm (List.range n)
  sorted : ∀ (p q : Nat) (hpq : p < q) (hq : q < js.length), ¬ Ahead r js[q] (js[p]'(by omega))
theorem Rowed.len {r : Nat → Rat} {n : Nat} {js : List Nat} (h : Rowed r n js) : js.length = n := by
  rw [h.perm.length_eq, List.length_range]
theorem Rowed.mem {r : Nat → Rat} {n : Nat} {js : List Nat} (h : Rowed r n js) (i : Nat) : i ∈ js ↔ i < n := by
  rw [h.perm.mem_iff, List.mem_range]
theorem Rowed.nodup {r : Nat → Rat} {n : Nat} {js : List Nat} (h : Rowed r n js) : js.Nodup := h.perm.nodup_iff.2 List.nodup_range
/-- where one is among the first, so is who comes ahead of it -/
theorem Rowed.first {r : Nat → Rat} {n : Nat} {js : List Nat} (h : Rowed r n js) (m i k : Nat) (hk : k ∈ js.take m) (hi : i < n) (ha : Ahead r i k) : i ∈ js.take m := by
  obtain ⟨p, hp, e⟩ := List.mem_iff_getElem.1 hk
  rw [List.length_take] at hp
  rw [List.getElem_take] at e
  obtain ⟨q, hq, e'⟩ := List.mem_iff_getElem.1 ((h.mem i).2 hi)
  have hqp : ¬ p < q := fun hl => h.sorted p q hl hq (by rw [e, e']; exact ha)
  refine List.mem_iff_getElem.2 ⟨q, by rw [List.length_take]; omega, ?_⟩
  rw [List.getElem_take]; exact e'
/-- of the first that are as many as all rests together none has a rest of 0 -/
theorem Rowed.rest {r : Nat → Rat} {n : Nat} {js : List Nat} (h : Rowed r n js) (h0 : ∀ i, i < n → 0 ≤ r i) (h1 : ∀ i, i < n → r i < 1) (m : Nat) (hm : tot ((List.range n).map r) = ((m : Int) : Rat)) (k : Nat) (hk : k ∈ js.take m) : 0 < r k := by
  have hkn : k < n := (h.mem k).1 (List.mem_of_mem_take hk)
  rcases Rat.le_iff_lt_or_eq.1 (h0 k hkn) with hp | he
  · exact hp
  · exfalso
    obtain ⟨p, hp, e⟩ := List.mem_iff_getElem.1 hk
    have hp' := hp
    rw [List.length_take] at hp'
    rw [List.getElem_take] at e
    have hz : ∀ i ∈ js.drop m, r i = 0 := fun i hi => by
      obtain ⟨q, hq, e'⟩ := List.mem_iff_getElem.1 hi
      rw [List.length_drop] at hq
      rw [List.getElem_drop] at e'
      have hin : i < n := (h.mem i).1 (List.mem_of_mem_drop hi)
      have hn := h.sorted p (m + q) (by omega) (by omega)
      rw [e, e'] at hn
      have := h0 i hin
      rcases Rat.le_iff_lt_or_eq.1 this with h2 | h2
      · exact absurd (.inl (by rw [← he]; exact h2)) hn
      · exact h2.symm
    have e1 : tot ((List.range n).map r) = tot ((js.take m).map r) + tot ((js.drop m).map r) := by
      rw [← tot_append, ← List.map_append, List.take_append_drop]
      exact (tot_perm (h.perm.map r)).symm
    have e2 := tot_less ((js.take m).map r) (fun x hx => by
      obtain ⟨i, hi, rfl⟩ := List.mem_map.1 hx
      exact Rat.le_of_lt (h1 i ((h.mem i).1 (List.mem_of_mem_take hi)))) p (by rw [List.length_map]; exact hp) (by rw [List.getElem_map, List.getElem_take, e]; exact he.symm)
    rw [tot_map_zero _ r hz, hm] at e1
    rw [List.length_map, List.length_take] at e2
    have e3 : (((min m js.length : Nat) : Int) : Rat) ≤ ((m : Int) : Rat) := Rat.intCast_le_intCast.2 (by omega)
    grind

theorem snoc_rec {P : List Nat → Prop} (nil : P []) (snoc : ∀ (l : List Nat) (a : Nat), P l → P (l ++ [a])) (l : List Nat) : P l := by
  have h : ∀ m : List Nat, P m.reverse := fun m => by
    induction m with
    | nil => exact nil
    | cons a m ih => rw [List.reverse_cons]; exact snoc _ _ ih
  have := h l.reverse
  rwa [List.reverse_reverse] at this
/-- one unit more for each of a row of places -/
def bumps (xs : List Nat) (js : List Nat) : List Nat := js.foldl (fun xs j => xs.set j (xs[j]?.getD 0 + 1)) xs
theorem bumps_snoc (xs js : List Nat) (j : Nat) : bumps xs (js ++ [j]) = (bumps xs js).set j ((bumps xs js)[j]?.getD 0 + 1) := by
  unfold bumps
  rw [List.foldl_append]
  rfl
theorem bumps_len (xs js : List Nat) : (bumps xs js).length = xs.length := by
  induction js using snoc_rec with
  | nil => rfl
  | snoc js j ih => rw [bumps_snoc, List.length_set, ih]
/-- what each has behind it -/
theorem bumps_get (xs js : List Nat) (hj : ∀ j ∈ js, j < xs.length) (hn : js.Nodup) (i : Nat) : (bumps xs js)[i]?.getD 0 = xs[i]?.getD 0 + if i ∈ js then 1 else 0 := by
  induction js using snoc_rec with
  | nil => simp [bumps]
  | snoc js j ih =>
    have hn' : js.Nodup ∧ j ∉ js := by
      rw [List.nodup_append] at hn
      exact ⟨hn.1, fun hm => hn.2.2 j hm j (by simp) rfl⟩
    have ih' := ih (fun x hx => hj x (by simp [hx])) hn'.1
    rw [bumps_snoc]
    by_cases he : i = j
    · subst he
      rw [List.getElem?_set_self (by rw [bumps_len]; exact hj i (by simp)), Option.getD_some, ih']
      simp [hn'.2]
    · rw [List.getElem?_set_ne (fun e => he e.symm), ih']
      simp [he]
theorem sum_set : ∀ (xs : List Nat) (j : Nat), j < xs.length → (xs.set j (xs[j]?.getD 0 + 1)).sum = xs.sum + 1
  | [], j, h => by simp at h
  | a :: xs, 0, _ => by simp; omega
  | a :: xs, j + 1, h => by
    have ih := sum_set xs j (by simpa using h)
    simp only [List.set_cons_succ, List.sum_cons, List.getElem?_cons_succ]
    omega
theorem bumps_sum (xs js : List Nat) (hj : ∀ j ∈ js, j < xs.length) : (bumps xs js).sum = xs.sum + js.length := by
  induction js using snoc_rec with
  | nil => simp [bumps]
  | snoc js j ih =>
    rw [bumps_snoc, sum_set _ _ (by rw [bumps_len]; exact hj j (by simp)), ih (fun x hx => hj x (by simp [hx]))]
    simp
    omega

/-- shares by the greatest rests are fair -/
structure Fair (U : Nat) (w : Nat → Rat) (all : Rat) (n : Nat) (ls : List Nat) : Prop where
  len : ls.length = n
  sum : ls.sum = U
  off : ∀ i, i < n → ((U : Int) : Rat) * w i / all - (((ls[i]?.getD 0 : Nat) : Int) : Rat) < 1 ∧ -1 < ((U : Int) : Rat) * w i / all - (((ls[i]?.getD 0 : Nat) : Int) : Rat)
  more : ∀ i k, i < n → k < n → w k < w i → ls[k]?.getD 0 ≤ ls[i]?.getD 0
  same : ∀ i k, i < k → k < n → w k = w i → ls[k]?.getD 0 ≤ ls[i]?.getD 0
theorem cast_le_of_lt {a b : Nat} {x : Rat} (h1 : ((a : Int) : Rat) ≤ x) (h2 : x < ((b : Int) : Rat) + 1) : a ≤ b := by
  have e : ((b : Int) : Rat) + 1 = (((b : Int) + 1 : Int) : Rat) := by rw [Rat.intCast_add]; rfl
  rw [e] at h2
  have h : ((a : Int) : Rat) < (((b : Int) + 1 : Int) : Rat) := by grind
  have := Rat.intCast_lt_intCast.1 h
  omega
theorem fair_of (U m : Nat) (w : Nat → Rat) (all e : Rat) (n : Nat) (F js : List Nat) (he0 : 0 ≤ e) (hem : 0 < m → 0 < e) (hee : ∀ x, ((U : Int) : Rat) * x / all = x * e) (hF : F.length = n)
    (hf1 : ∀ i, i < n → (((F[i]?.getD 0 : Nat) : Int) : Rat) ≤ w i * e) (hf2 : ∀ i, i < n → w i * e < (((F[i]?.getD 0 : Nat) : Int) : Rat) + 1)
    (hm : tot ((List.range n).map fun i => w i * e - (((F[i]?.getD 0 : Nat) : Int) : Rat)) = ((m : Int) : Rat)) (hU : F.sum + m = U) (hmn : m ≤ n)
    (hR : 0 < m → Rowed (fun i => w i * e - (((F[i]?.getD 0 : Nat) : Int) : Rat)) n js) (h0 : m = 0 → js.take m = []) : Fair U w all n (bumps F (js.take m)) := by
  obtain ⟨r, hr⟩ : ∃ r : Nat → Rat, r = fun i => w i * e - (((F[i]?.getD 0 : Nat) : Int) : Rat) := ⟨_, rfl⟩
  have hri : ∀ i, r i = w i * e - (((F[i]?.getD 0 : Nat) : Int) : Rat) := fun i => by rw [hr]
  rw [← hr] at hm hR
  clear hr
  have hin : ∀ j ∈ js.take m, j < F.length := fun j hj => by
    rcases Nat.eq_zero_or_pos m with e0 | e0
    · rw [h0 e0] at hj; simp at hj
    · rw [hF]; exact ((hR e0).mem j).1 (List.mem_of_mem_take hj)
  have hnd : (js.take m).Nodup := by
    rcases Nat.eq_zero_or_pos m with e0 | e0
    · rw [h0 e0]; exact List.nodup_nil
    · exact (hR e0).nodup.sublist (List.take_sublist _ _)
  have hlen : (js.take m).length = m := by
    rcases Nat.eq_zero_or_pos m with e0 | e0
    · rw [h0 e0, e0]; rfl
    · rw [List.length_take, (hR e0).len]; omega
  have hget := bumps_get F (js.take m) hin hnd
  have hpos : ∀ k, k ∈ js.take m → 0 < m := fun k hk => by
    rcases Nat.eq_zero_or_pos m with e0 | e0
    · rw [h0 e0] at hk; simp at hk
    · exact e0
  have hr0 : ∀ i, i < n → 0 ≤ r i := fun i hi => by rw [hri]; have := hf1 i hi; grind
  have hr1 : ∀ i, i < n → r i < 1 := fun i hi => by rw [hri]; have := hf2 i hi; grind
  have step : ∀ i k, i < n → k < n → F[k]?.getD 0 ≤ F[i]?.getD 0 → (0 < m → F[k]?.getD 0 = F[i]?.getD 0 → Ahead r i k) → (bumps F (js.take m))[k]?.getD 0 ≤ (bumps F (js.take m))[i]?.getD 0 := fun i k hi hk hl ha => by
    rw [hget i, hget k]
    by_cases hm1 : k ∈ js.take m
    · have hmp := hpos k hm1
      by_cases heq : F[k]?.getD 0 = F[i]?.getD 0
      · have := (hR hmp).first m i k hm1 hi (ha hmp heq)
        rw [if_pos hm1, if_pos this]; omega
      · rw [if_pos hm1]; omega
    · rw [if_neg hm1]; omega
  refine ⟨by rw [bumps_len]; exact hF, by rw [bumps_sum _ _ hin, hlen]; exact hU, fun i hi => ?_, fun i k hi hk hw => ?_, fun i k hik hk hw => ?_⟩
  · rw [hee, hget i]
    have h1 := hf1 i hi
    have h2 := hf2 i hi
    by_cases hm1 : i ∈ js.take m
    · have h3 := (hR (hpos i hm1)).rest hr0 hr1 m hm i hm1
      rw [hri] at h3
      rw [if_pos hm1, Int.natCast_add, Rat.intCast_add]
      have e1 : (((1 : Nat) : Int) : Rat) = 1 := rfl
      rw [e1]
      constructor <;> grind
    · rw [if_neg hm1, Nat.add_zero]
      constructor <;> grind
  · have hx : w k * e ≤ w i * e := by
      have := Rat.mul_le_mul_of_nonneg_right (Rat.le_of_lt hw) he0
      exact this
    refine step i k hi hk (cast_le_of_lt (Rat.le_trans (hf1 k hk) hx) (hf2 i hi)) (fun hmp heq => .inl ?_)
    rw [hri, hri, heq]
    have := Rat.mul_lt_mul_of_pos_right hw (hem hmp)
    grind
  · have hi : i < n := by omega
    refine step i k hi hk (cast_le_of_lt (Rat.le_trans (hf1 k hk) (by rw [hw]; exact Rat.le_refl)) (hf2 i hi)) (fun _ heq => .inr ⟨?_, hik⟩)
    rw [hri, hri, heq, hw]
end Go.Proofs.YtlkpkgajfakdpaaGreat
