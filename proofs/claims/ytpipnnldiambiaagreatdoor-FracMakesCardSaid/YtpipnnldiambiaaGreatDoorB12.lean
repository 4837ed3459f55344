/- A whole number's decimal digits, as the Go text of package tontinebig writes them. -/
import Derived.Test.YtpipnnldiambiaaGreatDoorB7
import Derived.Deep.LoopGhost
import Derived.Lib.ItoaNum
import Derived.Laws.IdiomStrings
import Derived.OwnWalk
import Derived.WalkSpells
namespace Go.Proofs.YtpipnnldiambiaaGreatDoor
open Go.RowKit

theorem But.grown {a w w' : World} {row : Option Nat} (h : But [] a w) (hg : w.grownBy w' row) (hr : ∀ k, row = some k → a.heap.size ≤ k) : But [] a w' :=
  ⟨hg.os.trans h.os, hg.tape.trans h.tape, hg.output.trans h.output, Nat.le_trans h.size hg.size, fun k hk hn => by
    rw [hg.block k (Nat.lt_of_lt_of_le hk h.size) (fun e => by have := hr k e.symm; omega)]
    exact h.block k hk hn⟩
theorem grown_but {w w' : World} {g : Nat} (hg : w.grownBy w' (some g)) : But [g] w w' :=
  ⟨hg.os, hg.tape, hg.output, hg.size, fun k hk hn => hg.block k hk (fun e => hn (by simp only [Option.some.injEq] at e; simp [e]))⟩
theorem grown_but_none {w w' : World} (hg : w.grownBy w' none) : But [] w w' :=
  ⟨hg.os, hg.tape, hg.output, hg.size, fun k hk _ => hg.block k hk (by simp)⟩
theorem owns_but {w w' : World} {base : Nat} {e : TypeId} {size : Nat} {v : Value} {n : Nat} {xs : List Value} (h : w.ownsRow base e size v n xs) (hb : But [] w w') : w'.ownsRow base e size v n xs := by
  obtain ⟨h1, h2⟩ := h
  refine ⟨h1, ?_⟩
  rcases h2 with h2 | ⟨g, cap, cur, e1, e2, e3, e4⟩
  · exact .inl h2
  · refine .inr ⟨g, cap, cur, e1, e2, ?_, e4⟩
    have hlt : g < w.heap.size := by
      rcases Nat.lt_or_ge g w.heap.size with h | h
      · exact h
      · rw [Array.getElem?_eq_none h] at e3; cases e3
    rw [hb.block g hlt (by simp)]; exact e3

/-- a byte's value -/
def u8v (b : UInt8) : Value := .int .u8 (b.toNat : Int)
/-- the decimal digits' bytes, the last first; none for 0 -/
def rdig (n : Nat) : List UInt8 := if h : 0 < n then UInt8.ofNat (48 + n % 10) :: rdig (n / 10) else []
  termination_by n
  decreasing_by exact Nat.div_lt_self h (by omega)
theorem rdig_zero : rdig 0 = [] := by rw [rdig]; simp
theorem rdig_pos {n : Nat} (h : 0 < n) : rdig n = UInt8.ofNat (48 + n % 10) :: rdig (n / 10) := by rw [rdig, dif_pos h]
theorem rdig_rev (n : Nat) (h : 0 < n) : (rdig n).reverse = Lib.decDigits n := by
  induction n using Nat.strongRecOn with
  | _ n ih =>
    rw [rdig_pos h, List.reverse_cons, Lib.decDigits]
    by_cases h10 : n < 10
    · rw [dif_pos h10, Nat.div_eq_of_lt h10, rdig_zero, Nat.mod_eq_of_lt h10]; rfl
    · rw [dif_neg h10, ih (n / 10) (Nat.div_lt_self h (by omega)) (by omega)]
theorem rdig_length (n k : Nat) (h : n < 10 ^ k) : (rdig n).length ≤ k := by
  induction k generalizing n with
  | zero => have : n = 0 := by simp at h; omega
            subst this; simp [rdig_zero]
  | succ k ih =>
    by_cases hn : 0 < n
    · rw [rdig_pos hn, List.length_cons]
      have := ih (n / 10) (by rw [Nat.div_lt_iff_lt_mul (by omega)]; rw [Nat.pow_succ] at h; exact h)
      omega
    · have : n = 0 := by omega
      subst this; simp [rdig_zero]
/-- the text of a number with its sign -/
def decI (z : Int) : List UInt8 := if z < 0 then 45 :: Lib.decDigits z.natAbs else Lib.decDigits z.natAbs

theorem info_u8 : ∃ i, Tryz.prog.info? 5 = some i ∧ i.zero = some (.int .u8 0) ∧ i.size = 1 ∧ i.bytes = 1 := by
  have h : (Tryz.prog.info? 5).map (fun i => (i.zero, i.size, i.bytes)) = some (some (.int .u8 0), 1, 1) := by kernel_rfl
  obtain ⟨i, hi, he⟩ := Option.map_eq_some_iff.1 h
  simp only [Prod.mk.injEq] at he
  exact ⟨i, hi, he.1, he.2.1, he.2.2⟩

/-- ahead of round i of the reversal -/
structure RevInv (bs cs : List Nat) (i : Nat) : Prop where
  len : cs.length = bs.length
  at' : ∀ k, k < bs.length → cs[k]?.getD 0 = if k < i ∨ bs.length - i ≤ k then bs[bs.length - 1 - k]?.getD 0 else bs[k]?.getD 0
theorem RevInv.start (bs : List Nat) : RevInv bs bs 0 := ⟨rfl, fun k hk => by rw [if_neg (by omega)]⟩
theorem getD_set (l : List Nat) (i k x : Nat) (hi : i < l.length) : (l.set i x)[k]?.getD 0 = if k = i then x else l[k]?.getD 0 := by
  by_cases h : k = i
  · subst h; rw [List.getElem?_set_self hi, if_pos rfl]; rfl
  · rw [List.getElem?_set_ne (Ne.symm h), if_neg h]
theorem RevInv.step {bs cs : List Nat} {i : Nat} (h : RevInv bs cs i) (hij : i < bs.length - 1 - i) : RevInv bs ((cs.set i (cs[bs.length - 1 - i]?.getD 0)).set (bs.length - 1 - i) (cs[i]?.getD 0)) (i + 1) := by
  have hl := h.len
  refine ⟨by simp [hl], fun k hk => ?_⟩
  have e1 : cs[i]?.getD 0 = bs[i]?.getD 0 := by rw [h.at' i (by omega), if_neg (by omega)]
  have e2 : cs[bs.length - 1 - i]?.getD 0 = bs[bs.length - 1 - i]?.getD 0 := by rw [h.at' (bs.length - 1 - i) (by omega), if_neg (by omega)]
  rw [getD_set _ _ _ _ (by simp [hl]; omega), getD_set _ _ _ _ (by omega), e1, e2]
  by_cases h1 : k = bs.length - 1 - i
  · subst h1
    rw [if_pos rfl, if_pos (by omega), show bs.length - 1 - (bs.length - 1 - i) = i from by omega]
  · rw [if_neg h1]
    by_cases h2 : k = i
    · subst h2
      rw [if_pos rfl, if_pos (by omega)]
    · rw [if_neg h2, h.at' k hk]
      by_cases h3 : k < i ∨ bs.length - i ≤ k
      · rw [if_pos h3, if_pos (by omega)]
      · rw [if_neg h3, if_neg (by omega)]
theorem RevInv.fin {bs cs : List Nat} {i : Nat} (h : RevInv bs cs i) (hij : bs.length ≤ 2 * i + 1) : cs = bs.reverse := by
  refine List.ext_getElem (by simp [h.len]) fun k h1 h2 => ?_
  have hk : k < bs.length := by rw [← h.len]; exact h1
  have e := h.at' k hk
  rw [List.getElem?_eq_getElem h1, Option.getD_some] at e
  rw [e, List.getElem_reverse]
  by_cases h3 : k < i ∨ bs.length - i ≤ k
  · rw [if_pos h3, List.getElem?_eq_getElem (by omega)]; rfl
  · rw [if_neg h3, List.getElem?_eq_getElem hk, Option.getD_some]
    have : bs.length - 1 - k = k := by omega
    simp only [this]
theorem owns_row {w : World} {base : Nat} {e : TypeId} {v : Value} {bs : List UInt8} (h : w.ownsRow base e 1 v bs.length (bs.map u8v)) (h0 : 0 < bs.length) :
    ∃ g cap, v = .slice (some ⟨g, 0, none⟩) bs.length cap ∧ base ≤ g ∧ bs.length ≤ cap ∧ Row .u8 w g (bs.map UInt8.toNat) := by
  obtain ⟨h1, h2⟩ := h
  rcases h2 with ⟨-, h2⟩ | ⟨g, cap, cur, e1, e2, e3, e4, e5, e6, e7⟩
  · omega
  · refine ⟨g, cap, e1, e2, e4, fun i hi => ?_⟩
    rw [List.length_map] at hi
    have hc : cur[i]? = some (u8v bs[i]) := by
      have : (cur.toList.take (bs.length * 1))[i]? = some (u8v bs[i]) := by rw [e7, List.getElem?_map, List.getElem?_eq_getElem hi]; rfl
      rw [List.getElem?_take_of_lt (by omega)] at this
      simpa using this
    refine ⟨?_, by simp [World.frozen?, e3]⟩
    simp only [World.cell?, e3, hc]
    simp [u8v, hi]

theorem sl_grown {k : IntKind} {w2 w3 : World} {v : Value} {xs : List Nat} {o : Obj} {row : Option Nat} {B : Nat} (h : Sl k w2 v xs) (hg : (w2.alloc o).grownBy w3 row) (hr : ∀ k, row = some k → k < B) (hf : Fresh B v) : Sl k w3 v xs := by
  have h1 := h.but_nil ((But.refl [] w2).alloc o)
  cases row with
  | none => exact h1.but_nil (grown_but_none hg)
  | some g => exact h1.but (grown_but hg) (fun b off cap n e => by have := hf b off n cap e; have := hr g rfl; simp; omega)
theorem owns_snoc {w : World} {base : Nat} {e : TypeId} {v : Value} {ds : List UInt8} (h : w.ownsRow base e 1 v (ds.length + 1) (ds.map u8v ++ [.int .u8 45])) :
    ∃ g cap, v = .slice (some ⟨g, 0, none⟩) (ds.length + 1) cap ∧ base ≤ g ∧ ds.length + 1 ≤ cap ∧ Row .u8 w g ((ds ++ [45]).map UInt8.toNat) := by
  have h' : w.ownsRow base e 1 v (ds ++ [45]).length ((ds ++ [45]).map u8v) := by rw [List.length_append, List.map_append]; exact h
  have h2 := owns_row h' (by simp)
  rw [List.length_append] at h2
  exact h2
theorem u8v_digit (r : Nat) (h : r < 10) : Value.int .u8 (48 + (r : Int)) = u8v (UInt8.ofNat (48 + r)) := by
  unfold u8v
  rw [UInt8.toNat_ofNat_of_lt' (by simp [UInt8.size]; omega)]
  simp
theorem text_fin (z : Int) (hz : z ≠ 0) (ds : List UInt8) (h : rdig z.natAbs = ds) : decI z = (if z < 0 then ds ++ [45] else ds).reverse := by
  rw [decI, ← rdig_rev _ (by omega), h]
  split <;> simp

/-- what holds ahead of a round of the loop that makes the digits -/
structure TextInv (w : World) (n m : Nat) (ds : List UInt8) (vb va : Value) (wr : World) : Prop where
  words : Sl .u32 wr va (wd 4294967296 m)
  own : wr.ownsRow w.heap.size 5 1 vb ds.length (ds.map u8v)
  but : But [] w wr
  dig : rdig n = ds ++ rdig m
  len : (wd 4294967296 m).length < 1073741824

set_option maxHeartbeats 4000000 in
set_option maxRecDepth 100000 in
theorem intText_pos (b o : Nat) (z : Int) (w : World) (h : IntAt w b o z) (hz : z ≠ 0) (hl : (wd 4294967296 z.natAbs).length < 1073741824) (hd : (rdig z.natAbs).length < 1073741824) (t : ByteArray) (ht : Hid (t = ⟨(decI z).toArray⟩)) :
    Calls Tryz.prog 50 #[.pointer (some ⟨b, o, none⟩), .int .i64 10] w fun e w' => e = .returned (.string t) ∧ But [] w w' := by
  obtain ⟨b0, vb, b1, hvb⟩ := h
  obtain ⟨i0, hi, hz0, hz1, hz2⟩ := info_u8
  have hvb' := hvb
  obtain ⟨a, cap, rfl, -, -⟩ := hvb'
  have n0 : (((wd 4294967296 z.natAbs).length : Int) == 0) = false := by
    have := wd_len_zero (B := 4294967296) (by omega) z.natAbs
    simp; intro h; simp [h] at this; omega
  have HV := hide hvb
  have HL := hide hl
  clear hvb hl
  generalize (wd 4294967296 z.natAbs).length = l at n0 b1 HV
  go_enter Tryz.func50, Tryz.ntmps50
  go_wp2_with fail
  refine (twin_any _ _ _ (unhide HV) (by have := unhide HL; omega)).mono ?_
  rintro e w1 ⟨v1, rfl, hv1, hb1⟩
  have B0 := hb1.cell_some b0 (by simp)
  go_wp2
  go_loopg [5, 6, 7] z.natAbs (fun m vb va vr wr => ∃ ds : List UInt8, TextInv w z.natAbs m ds vb va wr)
  case atStart => exact ⟨[], ⟨hv1, World.ownsRow_nil _ _ _ _, hb1, rfl, unhide HL⟩⟩
  case round =>
    obtain ⟨ds, hI⟩ := hrel
    have hlz := wd_len_zero (B := 4294967296) (by omega) gk
    obtain ⟨hsl, hown, hbut, hdig, hlen⟩ := hI
    have hsl' := hsl
    obtain ⟨aa, ca, rfl, -, -⟩ := hsl'
    have hdl : ds.length < 1073741824 := by have := congrArg List.length hdig; rw [List.length_append] at this; omega
    generalize hla : (wd 4294967296 gk).length = la at *
    by_cases hm : gk = 0
    · have : la = 0 := by omega
      subst this
      subst hm
      rw [rdig_zero, List.append_nil] at hdig
      have hn0 : 0 < ds.length := by
        rw [← hdig, rdig_pos (by omega)]; simp
      have c0 := hbut.cell_some b0 (by simp)
      have HDG := hide hdig
      clear hdig hla hlen hsl hlz
      by_cases hneg : z < 0
      · rw [decide_eq_true hneg] at c0
        have HT : Hid (t = ⟨(ds ++ [45]).reverse.toArray⟩) := by show _ = _; rw [unhide ht, text_fin z hz ds (unhide HDG), if_pos hneg]
        go_wp2_with (at_builtin; refine wpList_append_own _ rfl _ _ 75 rfl w.heap.size 5 i0 (.int .u8 0) 1 1 Tryz.underlying75 hi hz0 hz1 hz2 rfl (by decide) _ _ _ rfl (hown.alloc _) ⟨wr.heap.size, 0, none⟩ 1 1 [_] rfl rfl (cell_one_new _ _ _) (by intro u hu; simp at hu; subst hu; rfl) (by unfold maxLen; omega) (by omega) (by have := hbut.size; simp; omega) ?_; intro v3 w3 hown3 hgrow3 hnil3; have hBW : But [] w w3 := (hbut.alloc _).grown hgrow3 (fun k hk => (hown.lt k hk).1); obtain ⟨g, cg, rfl, hg, hcg, hrow⟩ := owns_snoc hown3; clear hown3 hgrow3 hnil3)
        go_loopw [8, 9, 10] (fun i j x wq => ∃ (k q : Nat) (cs : List Nat), i = .int .i64 k ∧ j = .int .i64 q ∧ k ≤ q + 1 ∧ Hid (k + q + 1 = ds.length + 1 ∧ RevInv ((ds ++ [45]).map UInt8.toNat) cs k ∧ Row .u8 wq g cs ∧ But [] w wq)) (fun i _ _ _ => ds.length + 1 - (intOf i).toNat)
        case atStart => exact ⟨0, ds.length + 1 - 1, (ds ++ [45]).map UInt8.toNat, rfl, by congr 1 <;> omega, by omega, by omega, RevInv.start _, hrow, hBW⟩
        case round =>
          obtain ⟨k, q, cs, rfl, rfl, hkq, HJ⟩ := hrel
          rename World => wq
          have hbl : ((ds ++ [45]).map UInt8.toNat).length = ds.length + 1 := by simp
          have hcl : cs.length = ds.length + 1 := by rw [(unhide HJ).2.1.len, hbl]
          have hsum := (unhide HJ).1
          by_cases hlt : k < q
          · obtain ⟨ck, fk⟩ := (unhide HJ).2.2.1 k (by omega)
            obtain ⟨cq, fq⟩ := (unhide HJ).2.2.1 q (by omega)
            have ST := hide ((unhide HJ).2.1.step (by rw [hbl]; omega))
            have hq : q = ds.length + 1 - 1 - k := by omega
            rw [hbl, ← hq] at ST
            have HC := hide hcl
            have HS := hide hsum
            have ne1 : k ≠ q := by omega
            have hk1 : k < ds.length + 1 := by omega
            have hq1 : q < ds.length + 1 := by omega
            clear hcl hbl hsum hq
            generalize hx : cs[k]?.getD 0 = x at *
            generalize hy : cs[q]?.getD 0 = y at *
            clear hx hy
            go_wp2
            refine ⟨⟨k + 1, q - 1, (cs.set k y).set q x, by go_num, by rw [Int.ofNat_sub (by omega)]; rfl, by omega, by have := unhide HS; omega, unhide ST, ((unhide HJ).2.2.1.set k (by rw [unhide HC]; have := unhide HS; omega) y).set q (by rw [List.length_set, unhide HC]; have := unhide HS; omega) x, ((unhide HJ).2.2.2.setCell (.inr hg) _).setCell (.inr hg) _⟩, ?_⟩
            have := unhide HS
            simp [intOf]; omega
          · have hfin : cs = ((ds ++ [45]).map UInt8.toNat).reverse := (unhide HJ).2.1.fin (by rw [hbl]; omega)
            have hcv := run_convert_bytes_back (P := Tryz.prog) wq 75 9 5 ⟨g, 0, none⟩ cg (ds ++ [45]).reverse Tryz.underlying75 Tryz.underlying5 Tryz.underlying9 (fun j hj => by
              have h1 := ((unhide HJ).2.2.1 j (by rw [hcl]; simpa using hj)).1
              rw [hfin, ← List.map_reverse, List.getElem?_map, List.getElem?_eq_getElem hj] at h1
              have e : (⟨g, 0, none⟩ : Addr).add j = ⟨g, j, none⟩ := by by_cases h : j = 0 <;> simp [Addr.add, h]
              rw [e]; exact h1)
            rw [← unhide HT] at hcv
            simp only [List.length_reverse, List.length_append, List.length_cons, List.length_nil, Nat.zero_add] at hcv
            have HB := hide (unhide HJ).2.2.2
            clear hcl hbl hfin hsum HJ
            go_wp2
            go_ret
            exact ⟨rfl, unhide HB⟩
      · rw [decide_eq_false hneg] at c0
        have HT : Hid (t = ⟨ds.reverse.toArray⟩) := by show _ = _; rw [unhide ht, text_fin z hz ds (unhide HDG), if_neg hneg]
        obtain ⟨g, cg, rfl, hg, hcg, hrow⟩ := owns_row hown hn0
        have hBW := hbut
        go_wp2
        go_loopw [8, 9, 10] (fun i j x wq => ∃ (k q : Nat) (cs : List Nat), i = .int .i64 k ∧ j = .int .i64 q ∧ k ≤ q + 1 ∧ Hid (k + q + 1 = ds.length ∧ RevInv ((ds).map UInt8.toNat) cs k ∧ Row .u8 wq g cs ∧ But [] w wq)) (fun i _ _ _ => ds.length - (intOf i).toNat)
        case atStart => exact ⟨0, ds.length - 1, (ds).map UInt8.toNat, rfl, by congr 1 <;> omega, by omega, by omega, RevInv.start _, hrow, hBW⟩
        case round =>
          obtain ⟨k, q, cs, rfl, rfl, hkq, HJ⟩ := hrel
          rename World => wq
          have hbl : ((ds).map UInt8.toNat).length = ds.length := by simp
          have hcl : cs.length = ds.length := by rw [(unhide HJ).2.1.len, hbl]
          have hsum := (unhide HJ).1
          by_cases hlt : k < q
          · obtain ⟨ck, fk⟩ := (unhide HJ).2.2.1 k (by omega)
            obtain ⟨cq, fq⟩ := (unhide HJ).2.2.1 q (by omega)
            have ST := hide ((unhide HJ).2.1.step (by rw [hbl]; omega))
            have hq : q = ds.length - 1 - k := by omega
            rw [hbl, ← hq] at ST
            have HC := hide hcl
            have HS := hide hsum
            have ne1 : k ≠ q := by omega
            have hk1 : k < ds.length := by omega
            have hq1 : q < ds.length := by omega
            clear hcl hbl hsum hq
            generalize hx : cs[k]?.getD 0 = x at *
            generalize hy : cs[q]?.getD 0 = y at *
            clear hx hy
            go_wp2
            refine ⟨⟨k + 1, q - 1, (cs.set k y).set q x, by go_num, by rw [Int.ofNat_sub (by omega)]; rfl, by omega, by have := unhide HS; omega, unhide ST, ((unhide HJ).2.2.1.set k (by rw [unhide HC]; have := unhide HS; omega) y).set q (by rw [List.length_set, unhide HC]; have := unhide HS; omega) x, ((unhide HJ).2.2.2.setCell (.inr hg) _).setCell (.inr hg) _⟩, ?_⟩
            have := unhide HS
            simp [intOf]; omega
          · have hfin : cs = ((ds).map UInt8.toNat).reverse := (unhide HJ).2.1.fin (by rw [hbl]; omega)
            have hcv := run_convert_bytes_back (P := Tryz.prog) wq 75 9 5 ⟨g, 0, none⟩ cg (ds).reverse Tryz.underlying75 Tryz.underlying5 Tryz.underlying9 (fun j hj => by
              have h1 := ((unhide HJ).2.2.1 j (by rw [hcl]; simpa using hj)).1
              rw [hfin, ← List.map_reverse, List.getElem?_map, List.getElem?_eq_getElem hj] at h1
              have e : (⟨g, 0, none⟩ : Addr).add j = ⟨g, j, none⟩ := by by_cases h : j = 0 <;> simp [Addr.add, h]
              rw [e]; exact h1)
            rw [← unhide HT] at hcv
            rw [List.length_reverse] at hcv
            have HB := hide (unhide HJ).2.2.2
            clear hcl hbl hfin hsum HJ
            go_wp2
            go_ret
            exact ⟨rfl, unhide HB⟩
    · have hla0 : 0 < la := by omega
      have HA := hide hla
      have HDG := hide hdig
      clear hla hdig hlz
      go_wp2_with fail
      refine (small_any2 _ gk 10 _ hsl (by omega) (by omega) (by rw [unhide HA]; exact hlen)).mono ?_
      rintro e w2 ⟨v2, rfl, hv2, hb2, hfr⟩
      have hr10 : gk % 10 < 10 := Nat.mod_lt _ (by omega)
      generalize hrr : gk % 10 = r at *
      have HR := hide hrr
      clear hrr
      have hown2 := owns_but hown hb2
      go_wp2_with (at_builtin; refine wpList_append_own _ rfl _ _ 75 rfl w.heap.size 5 i0 (.int .u8 0) 1 1 Tryz.underlying75 hi hz0 hz1 hz2 rfl (by decide) _ _ _ rfl (hown2.alloc _) ⟨w2.heap.size, 0, none⟩ 1 1 [_] rfl rfl (cell_one_new _ _ _) (by intro u hu; simp at hu; subst hu; rfl) (by unfold maxLen; omega) (by omega) (by have := hbut.size; have := hb2.size; simp; omega) ?_; intro v3 w3 hown3 hgrow3 hnil3)
      go_roundg (gk / 10)
      case measure => exact Nat.div_lt_self (by omega) (by omega)
      case rel =>
        refine ⟨ds ++ [UInt8.ofNat (48 + r)], sl_grown hv2 hgrow3 (fun k hk => (hown.lt k hk).2) hfr, ?_, ((hbut.trans' hb2).alloc _).grown hgrow3 (fun k hk => (hown.lt k hk).1), ?_, ?_⟩
        · rw [List.length_append, List.map_append]
          rw [u8v_digit r hr10] at hown3
          exact hown3
        · rw [unhide HDG, rdig_pos (by omega), unhide HR, List.append_assoc]; rfl
        · have h1 := lt_of_wd_length (B := 4294967296) (by omega) gk _ (Nat.le_refl _)
          have h2 := wd_length_le (B := 4294967296) (by omega) (gk / 10) _ (Nat.lt_of_le_of_lt (Nat.div_le_self _ _) h1)
          rw [unhide HA] at h2
          omega
end Go.Proofs.YtpipnnldiambiaaGreatDoor
