/- Decimal digits and rows of bytes, plain. -/
import Derived.Test.YteipfplbcbaheaaGreatDoorProg
import Derived.Deep.LoopGhost
import Derived.Lib.ItoaNum
import Derived.Laws.IdiomStrings
import Derived.OwnWalk
import Derived.WalkSpells
import Derived.Test.YteipfplbcbaheaaGreatDoorJBase
import Derived.Test.YteipfplbcbaheaaGreatDoorJN16
namespace Go.Proofs.YteipfplbcbaheaaGreatDoor
open Go.RowKit

theorem But.grown {a w w' : World} {row : Option Nat} (h : But [] a w) (hg : w.grownBy w' row) (hr : ∀ k, row = some k → a.heap.size ≤ k) : But [] a w' :=
  ⟨hg.os.trans h.os, hg.tape.trans h.tape, hg.output.trans h.output, Nat.le_trans h.size hg.size, fun k hk hn => by
    rw [hg.block k (Nat.lt_of_lt_of_le hk h.size) (fun e => by have := hr k e.symm; omega)]
    exact h.block k hk hn⟩
theorem grown_but {w w' : World} {g : Nat} (hg : w.grownBy w' (some g)) : But [g] w w' :=
  ⟨hg.os, hg.tape, hg.output, hg.size, fun k hk hn => hg.block k hk (fun e => hn (by simp only [Option.some.injEq] at e; simp [e]))⟩
theorem grown_but_none {w w' : World} (hg : w.grownBy w' none) : But [] w w' :=
  ⟨hg.os, hg.tape, hg.output, hg.size, fun k hk _ => hg.block k hk (by simp)⟩
theorem owns_but {w w' : World} {base : Nat} {e : TypeId} {size : Nat} {v : Value} {n : Nat} {xs : List Value} (h : w.ownsRow base e size v n xs) (hb : But [] w w') : w'.ownsRow base e size v n xs := by
  obtain ⟨h1, h2⟩ := h
  refine ⟨h1, ?_⟩
  rcases h2 with h2 | ⟨g, cap, cur, e1, e2, e3, e4⟩
  · exact .inl h2
  · refine .inr ⟨g, cap, cur, e1, e2, ?_, e4⟩
    have hlt : g < w.heap.size := by
      rcases Nat.lt_or_ge g w.heap.size with h | h
      · exact h
      · rw [Array.getElem?_eq_none h] at e3; cases e3
    rw [hb.block g hlt (by simp)]; exact e3

/-- a byte's value -/
def u8v (b : UInt8) : Value := .int .u8 (b.toNat : Int)
/-- the decimal digits' bytes, the last first; none for 0 -/
def rdig (n : Nat) : List UInt8 := if h : 0 < n then UInt8.ofNat (48 + n % 10) :: rdig (n / 10) else []
  termination_by n
  decreasing_by exact Nat.div_lt_self h (by omega)
theorem rdig_zero : rdig 0 = [] := by rw [rdig]; simp
theorem rdig_pos {n : Nat} (h : 0 < n) : rdig n = UInt8.ofNat (48 + n % 10) :: rdig (n / 10) := by rw [rdig, dif_pos h]
theorem rdig_rev (n : Nat) (h : 0 < n) : (rdig n).reverse = Lib.decDigits n := by
  induction n using Nat.strongRecOn with
  | _ n ih =>
    rw [rdig_pos h, List.reverse_cons, Lib.decDigits]
    by_cases h10 : n < 10
    · rw [dif_pos h10, Nat.div_eq_of_lt h10, rdig_zero, Nat.mod_eq_of_lt h10]; rfl
    · rw [dif_neg h10, ih (n / 10) (Nat.div_lt_self h (by omega)) (by omega)]
theorem rdig_length (n k : Nat) (h : n < 10 ^ k) : (rdig n).length ≤ k := by
  induction k generalizing n with
  | zero =>
    have : n = 0 := by simp at h; omega
    subst this; simp [rdig_zero]
  | succ k ih =>
    by_cases hn : 0 < n
    · rw [rdig_pos hn, List.length_cons]
      have := ih (n / 10) (by rw [Nat.div_lt_iff_lt_mul (by omega)]; rw [Nat.pow_succ] at h; exact h)
      omega
    · have : n = 0 := by omega
      subst this; simp [rdig_zero]
theorem info_u8 : ∃ i, Tryz.prog.info? 5 = some i ∧ i.zero = some (.int .u8 0) ∧ i.size = 1 ∧ i.bytes = 1 := by
  have h : (Tryz.prog.info? 5).map (fun i => (i.zero, i.size, i.bytes)) = some (some (.int .u8 0), 1, 1) := by kernel_rfl
  obtain ⟨i, hi, he⟩ := Option.map_eq_some_iff.1 h
  simp only [Prod.mk.injEq] at he
  exact ⟨i, hi, he.1, he.2.1, he.2.2⟩

/-- ahead of round i of the reversal -/
structure RevInv (bs cs : List Nat) (i : Nat) : Prop where
  len : cs.length = bs.length
  at' : ∀ k, k < bs.length → cs[k]?.getD 0 = if k < i ∨ bs.length - i ≤ k then bs[bs.length - 1 - k]?.getD 0 else bs[k]?.getD 0
theorem RevInv.start (bs : List Nat) : RevInv bs bs 0 := ⟨rfl, fun k hk => by rw [if_neg (by omega)]⟩
theorem getD_set (l : List Nat) (i k x : Nat) (hi : i < l.length) : (l.set i x)[k]?.getD 0 = if k = i then x else l[k]?.getD 0 := by
  by_cases h : k = i
  · subst h; rw [List.getElem?_set_self hi, if_pos rfl]; rfl
  · rw [List.getElem?_set_ne (Ne.symm h), if_neg h]
theorem RevInv.step {bs cs : List Nat} {i : Nat} (h : RevInv bs cs i) (hij : i < bs.length - 1 - i) : RevInv bs ((cs.set i (cs[bs.length - 1 - i]?.getD 0)).set (bs.length - 1 - i) (cs[i]?.getD 0)) (i + 1) := by
  have hl := h.len
  refine ⟨by simp [hl], fun k hk => ?_⟩
  have e1 : cs[i]?.getD 0 = bs[i]?.getD 0 := by rw [h.at' i (by omega), if_neg (by omega)]
  have e2 : cs[bs.length - 1 - i]?.getD 0 = bs[bs.length - 1 - i]?.getD 0 := by rw [h.at' (bs.length - 1 - i) (by omega), if_neg (by omega)]
  rw [getD_set _ _ _ _ (by simp [hl]; omega), getD_set _ _ _ _ (by omega), e1, e2]
  by_cases h1 : k = bs.length - 1 - i
  · subst h1
    rw [if_pos rfl, if_pos (by omega), show bs.length - 1 - (bs.length - 1 - i) = i from by omega]
  · rw [if_neg h1]
    by_cases h2 : k = i
    · subst h2
      rw [if_pos rfl, if_pos (by omega)]
    · rw [if_neg h2, h.at' k hk]
      by_cases h3 : k < i ∨ bs.length - i ≤ k
      · rw [if_pos h3, if_pos (by omega)]
      · rw [if_neg h3, if_neg (by omega)]
theorem RevInv.fin {bs cs : List Nat} {i : Nat} (h : RevInv bs cs i) (hij : bs.length ≤ 2 * i + 1) : cs = bs.reverse := by
  refine List.ext_getElem (by simp [h.len]) fun k h1 h2 => ?_
  have hk : k < bs.length := by rw [← h.len]; exact h1
  have e := h.at' k hk
  rw [List.getElem?_eq_getElem h1, Option.getD_some] at e
  rw [e, List.getElem_reverse]
  by_cases h3 : k < i ∨ bs.length - i ≤ k
  · rw [if_pos h3, List.getElem?_eq_getElem (by omega)]; rfl
  · rw [if_neg h3, List.getElem?_eq_getElem hk, Option.getD_some]
    have : bs.length - 1 - k = k := by omega
    simp only [this]
theorem owns_row {w : World} {base : Nat} {e : TypeId} {v : Value} {bs : List UInt8} (h : w.ownsRow base e 1 v bs.length (bs.map u8v)) (h0 : 0 < bs.length) :
    ∃ g cap, v = .slice (some ⟨g, 0, none⟩) bs.length cap ∧ base ≤ g ∧ bs.length ≤ cap ∧ Row .u8 w g (bs.map UInt8.toNat) := by
  obtain ⟨h1, h2⟩ := h
  rcases h2 with ⟨-, h2⟩ | ⟨g, cap, cur, e1, e2, e3, e4, e5, e6, e7⟩
  · omega
  · refine ⟨g, cap, e1, e2, e4, fun i hi => ?_⟩
    rw [List.length_map] at hi
    have hc : cur[i]? = some (u8v bs[i]) := by
      have : (cur.toList.take (bs.length * 1))[i]? = some (u8v bs[i]) := by rw [e7, List.getElem?_map, List.getElem?_eq_getElem hi]; rfl
      rw [List.getElem?_take_of_lt (by omega)] at this
      simpa using this
    refine ⟨?_, by simp [World.frozen?, e3]⟩
    simp only [World.cell?, e3, hc]
    simp [u8v, hi]

theorem sl_grown {k : IntKind} {w2 w3 : World} {v : Value} {xs : List Nat} {o : Obj} {row : Option Nat} {B : Nat} (h : Sl k w2 v xs) (hg : (w2.alloc o).grownBy w3 row) (hr : ∀ k, row = some k → k < B) (hf : Fresh B v) : Sl k w3 v xs := by
  have h1 := h.but_nil ((But.refl [] w2).alloc o)
  cases row with
  | none => exact h1.but_nil (grown_but_none hg)
  | some g => exact h1.but (grown_but hg) (fun b off cap n e => by have := hf b off n cap e; have := hr g rfl; simp; omega)
theorem u8v_digit (r : Nat) (h : r < 10) : Value.int .u8 (48 + (r : Int)) = u8v (UInt8.ofNat (48 + r)) := by
  unfold u8v
  rw [UInt8.toNat_ofNat_of_lt' (by simp [UInt8.size]; omega)]
  simp

/-- the last k digits, with noughts, the last first -/
def pdig : Nat → Nat → List UInt8
  | 0, _ => []
  | k + 1, r => UInt8.ofNat (48 + r % 10) :: pdig k (r / 10)
theorem pdig_length : ∀ k r, (pdig k r).length = k
  | 0, _ => rfl
  | k + 1, r => by rw [pdig, List.length_cons, pdig_length k]
theorem pdig_snoc : ∀ k r, pdig (k + 1) r = pdig k r ++ [UInt8.ofNat (48 + r / 10 ^ k % 10)]
  | 0, r => by simp [pdig]
  | k + 1, r => by
    rw [pdig, pdig_snoc k (r / 10), pdig, List.cons_append, Nat.div_div_eq_div_mul, Nat.pow_succ, Nat.mul_comm 10]
theorem pdig_mod : ∀ k r, pdig k (r % 10 ^ k) = pdig k r
  | 0, r => rfl
  | k + 1, r => by
    have h1 : r % 10 ^ (k + 1) % 10 = r % 10 := Nat.mod_mod_of_dvd _ ⟨10 ^ k, by rw [Nat.pow_succ, Nat.mul_comm]⟩
    have h2 : r % 10 ^ (k + 1) / 10 = r / 10 % 10 ^ k := by rw [Nat.pow_succ, Nat.mul_comm, Nat.mod_mul_right_div_self]
    rw [pdig, pdig, h1, h2, pdig_mod k]
theorem rdig_part : ∀ k n, 10 ^ k ≤ n → rdig n = pdig k n ++ rdig (n / 10 ^ k)
  | 0, n, _ => by simp [pdig]
  | k + 1, n, h => by
    have hp : 0 < 10 ^ k := Nat.pow_pos (by omega)
    have h0 : 0 < n := by have := Nat.pow_pos (n := k + 1) (show 0 < 10 from by omega); omega
    rw [rdig_pos h0, rdig_part k (n / 10) (by rw [Nat.le_div_iff_mul_le (by omega), ← Nat.pow_succ]; exact h), pdig, List.cons_append, Nat.div_div_eq_div_mul, Nat.pow_succ, Nat.mul_comm 10]
end Go.Proofs.YteipfplbcbaheaaGreatDoor

namespace Go.Proofs.YteipfplbcbaheaaGreatDoor
open Go.RowKit

theorem append_byte (w : World) (base : Nat) (v : Value) (ds : List UInt8) (hown : w.ownsRow base 5 1 v ds.length (ds.map u8v)) (a : Addr) (d : UInt8) (hc : w.cell? a = some (u8v d)) (hl : ds.length < 1073741824) (hb : base ≤ w.heap.size) :
    ∃ v' w', (Builtin.append_ #[158, 158] 158 #[v, .slice (some a) 1 1]).run Tryz.prog w = .ok v' w' ∧ w'.ownsRow base 5 1 v' (ds ++ [d]).length ((ds ++ [d]).map u8v) ∧ w.grownBy w' v.ownBlock ∧ (v'.ownBlock = v.ownBlock ∨ ∀ k, v'.ownBlock = some k → w.heap.size ≤ k) := by
  obtain ⟨i0, hi, hz0, hz1, hz2⟩ := info_u8
  have hnews : ∀ j u, [u8v d][j]? = some u → w.cell? (a.add j) = some u := fun j u hj => by
    cases j with
    | zero => simp at hj; subst hj; rw [show a.add 0 = a from by simp [Addr.add]]; exact hc
    | succ j => simp at hj
  have h1 : ∀ u ∈ [u8v d], u.oneCell' = true := fun u hu => by simp at hu; subst hu; rfl
  have hrun := fun (base : Nat) (ho : w.ownsRow base 5 1 v ds.length (ds.map u8v)) (hb : base ≤ w.heap.size) => run_append_own (P := Tryz.prog) w base 158 158 5 i0 (.int .u8 0) 1 1 Tryz.underlying158 hi hz0 hz1 hz2 rfl (by decide) v ds.length (ds.map u8v) ho a 1 1 [u8v d] rfl hnews h1 (by unfold maxLen; omega) (by omega) hb
  obtain ⟨v', w', hr, ho', hg', -⟩ := hrun base hown hb
  refine ⟨v', w', hr, by rw [List.length_append, List.map_append]; exact ho', hg', ?_⟩
  rcases hown.2 with ⟨rfl, -⟩ | ⟨g, cap, cur, rfl, -, hgc, hnc, hcm, hcs, htake⟩
  · have hd : ds = [] := by
      obtain ⟨hx, hy | ⟨g, cap, cur, e, -⟩⟩ := hown
      · exact List.eq_nil_of_length_eq_zero hy.2
      · simp at e
    subst hd
    obtain ⟨v2, w2, hr2, ho2, -, -⟩ := hrun w.heap.size (World.ownsRow_nil _ _ _ _) (Nat.le_refl _)
    rw [hr] at hr2
    simp only [Result.ok.injEq] at hr2
    obtain ⟨rfl, rfl⟩ := hr2
    exact .inr fun k hk => (ho2.lt k hk).1
  · by_cases hroom : ds.length + 1 ≤ cap
    · have h2 := run_append_room (P := Tryz.prog) w 158 158 5 i0 Tryz.underlying158 hi g ds.length cap cur hgc a 1 1 [u8v d] (by rw [hz1]; rfl) hnews h1 hroom (by rw [hz1, hcs]; simp; omega)
      rw [hr] at h2
      simp only [Result.ok.injEq] at h2
      rw [h2.1]
      exact .inl rfl
    · have h2 := run_append_grow (P := Tryz.prog) w 158 158 5 i0 (.int .u8 0) Tryz.underlying158 hi hz0 ⟨g, 0, none⟩ ds.length cap (ds.map u8v) (by rw [hz1]; simp) (hown.cells rfl) a 1 1 [u8v d] (by rw [hz1]; rfl) hnews (by omega) (by omega) (growslice_fits (by omega) (by rw [hz2]; omega))
      rw [hr] at h2
      simp only [Result.ok.injEq] at h2
      rw [h2.1]
      refine .inr fun k hk => ?_
      simp only [Value.ownBlock, Option.some.injEq] at hk
      omega
end Go.Proofs.YteipfplbcbaheaaGreatDoor

namespace Go.Proofs.YteipfplbcbaheaaGreatDoor
open Go.RowKit

/-- the digits of a number, the last first, with noughts up to a width -/
def wdig (W X : Nat) : List UInt8 := rdig X ++ List.replicate (W - (rdig X).length) 48
theorem wdig_zero (X : Nat) : wdig 0 X = rdig X := by simp [wdig]
theorem pdig_nought : ∀ k, pdig k 0 = List.replicate k 48
  | 0 => rfl
  | k + 1 => by rw [pdig, Nat.zero_div, pdig_nought k, List.replicate_succ]; rfl
theorem pdig_wdig : ∀ k n, n < 10 ^ k → pdig k n = wdig k n
  | 0, n, h => by
    have : n = 0 := by simp at h; omega
    subst this; simp [pdig, wdig, rdig_zero]
  | k + 1, n, h => by
    by_cases h0 : 0 < n
    · rw [pdig, pdig_wdig k (n / 10) (by rw [Nat.div_lt_iff_lt_mul (by omega)]; rw [Nat.pow_succ] at h; exact h), wdig, wdig, rdig_pos h0, List.cons_append, List.length_cons, Nat.add_sub_add_right]
    · have : n = 0 := by omega
      subst this; rw [pdig_nought, wdig, rdig_zero]; simp
theorem pdig_add : ∀ a b n, pdig (a + b) n = pdig a n ++ pdig b (n / 10 ^ a)
  | 0, b, n => by simp [pdig]
  | a + 1, b, n => by
    rw [Nat.succ_add, pdig, pdig_add a b, pdig, List.cons_append, Nat.div_div_eq_div_mul, Nat.pow_succ, Nat.mul_comm 10]
theorem wdig_long (D X : Nat) (h : 10 ^ D ≤ X) : wdig 0 X = wdig D (X % 10 ^ D) ++ wdig 0 (X / 10 ^ D) := by
  rw [wdig_zero, wdig_zero, rdig_part D X h, ← pdig_mod D X, pdig_wdig D _ (Nat.mod_lt _ (Nat.pow_pos (by omega)))]
theorem wdig_wide (D X : Nat) (h : X < 10 ^ (D + D)) : wdig (D + D) X = wdig D (X % 10 ^ D) ++ wdig D (X / 10 ^ D) := by
  have hp : 0 < 10 ^ D := Nat.pow_pos (by omega)
  rw [← pdig_wdig _ _ h, pdig_add, ← pdig_mod D X, pdig_wdig D _ (Nat.mod_lt _ hp), pdig_wdig D (X / 10 ^ D) (by rw [Nat.div_lt_iff_lt_mul hp, ← Nat.pow_add]; exact h)]
theorem wdig_length (W X : Nat) : (wdig W X).length = max W (rdig X).length := by
  rw [wdig, List.length_append, List.length_replicate]; omega
theorem wdig_pos (W X : Nat) (h : 0 < X ∨ 0 < W) : 0 < (wdig W X).length := by
  rw [wdig_length]
  rcases h with h | h
  · rw [rdig_pos h]; simp; omega
  · omega

/-- rows of words stay -/
def Keep64 (w w' : World) : Prop := ∀ v xs, Sl .u64 w v xs → Sl .u64 w' v xs
theorem Keep64.of_but {w w' : World} (h : But [] w w') : Keep64 w w' := fun _ _ hs => hs.but_nil h
theorem Keep64.trans {a b c : World} (h : Keep64 a b) (k : Keep64 b c) : Keep64 a c := fun v xs hs => k v xs (h v xs hs)
theorem keep_grown {w w' : World} {base : Nat} {vo : Value} {ods : List UInt8} (ho : w.ownsRow base 5 1 vo ods.length (ods.map u8v)) (hn : vo = .slice none 0 0 ∨ 0 < ods.length) (hg : w.grownBy w' vo.ownBlock) : Keep64 w w' := by
  intro v xs hs
  rcases hn with rfl | h0
  · exact hs.but_nil (grown_but_none hg)
  · obtain ⟨g, cap, rfl, -, -, hr⟩ := owns_row ho h0
    exact hs.over (grown_but hg) (hr 0 (by simpa using h0)).1 (by simp)
theorem below_grown {w w' : World} {base : Nat} {vo : Value} {n : Nat} {xs : List Value} (ho : w.ownsRow base 5 1 vo n xs) (hb : base ≤ w.heap.size) (hg : w.grownBy w' vo.ownBlock) : Below base w w' :=
  ⟨hg.os, hg.tape, hg.output, hg.size, fun k hk => hg.block k (by omega) (fun e => by have := (ho.lt k e.symm).1; omega)⟩
theorem But.below_of {w w' : World} {base : Nat} (h : But [] w w') (hb : base ≤ w.heap.size) : Below base w w' := ⟨h.os, h.tape, h.output, h.size, fun k hk => h.block k (by omega) (by simp)⟩
theorem below_trans {a b c : World} {n : Nat} (h : Below n a b) (k : Below n b c) : Below n a c :=
  ⟨k.os.trans h.os, k.tape.trans h.tape, k.output.trans h.output, Nat.le_trans h.size k.size, fun i hi => (k.block i hi).trans (h.block i hi)⟩
theorem owns_shape {w : World} {base : Nat} {e : TypeId} {v : Value} {n : Nat} {xs : List Value} (h : w.ownsRow base e 1 v n xs) : ∃ a c, v = .slice a n c := by
  obtain ⟨-, h2⟩ := h
  rcases h2 with ⟨rfl, rfl⟩ | ⟨g, cap, cur, e1, -⟩
  · exact ⟨_, _, rfl⟩
  · exact ⟨_, _, e1⟩
end Go.Proofs.YteipfplbcbaheaaGreatDoor
