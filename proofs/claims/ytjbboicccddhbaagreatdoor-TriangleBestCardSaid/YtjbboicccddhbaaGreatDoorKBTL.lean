/- A whole number that is written as the program writes it is read, as the Go text of package lines does it. -/
import Derived.RangeFuncNested
import Derived.RangeFuncBound
import Derived.RangeFuncCalls
import Derived.RangeFuncLeaves
import Derived.Shelf.Abstract
import Derived.Shelf.RegionOpen
import Derived.WalkKit
import Derived.OwnWalkIn
import Derived.TacticsInMore
import Derived.LoopNIn
import Derived.LoopIn
import Derived.Test.YtjbboicccddhbaaGreatDoorKBBX
import Derived.Test.YtjbboicccddhbaaGreatDoorKBN39
namespace Go.Proofs.YtjbboicccddhbaaGreatDoor
open Go.RowKit Go.Shelf
set_option linter.unusedVariables false

theorem but_bytesT (w : World) (e : TypeId) (s : ByteArray) : But [] w (Lib.bytesWorld w e s) :=
  ⟨rfl, rfl, rfl, by rw [Lib.bytesWorld_size]; omega, fun k hk _ => Lib.bytesWorld_at_old w e s k hk⟩
theorem but_growT (w : World) (k : Nat) (os : Array Obj) : But [] w (Sort.grow (w.drewN k) os) :=
  ⟨rfl, rfl, rfl, by simp [Sort.grow], fun j hj _ => by simp [Sort.grow]; exact Array.getElem?_append_left hj⟩
theorem digit_val (d : Nat) (h : d < 10) : Lib.digitVal (UInt8.ofNat (48 + d)) = some d := by
  unfold Lib.digitVal
  have e : (UInt8.ofNat (48 + d)).toNat = 48 + d := by simp; omega
  rw [e, if_pos (by omega)]
  congr 1
  omega
theorem decFrom_snoc : ∀ (l : List UInt8) (acc n d : Nat), Lib.decFrom acc l = some n → d < 10 → Lib.decFrom acc (l ++ [UInt8.ofNat (48 + d)]) = some (n * 10 + d)
  | [], acc, n, d, h, hd => by
    simp only [Lib.decFrom, Option.some.injEq] at h
    subst h
    simp only [List.nil_append, Lib.decFrom, digit_val d hd]
  | b :: l, acc, n, d, h, hd => by
    simp only [List.cons_append, Lib.decFrom] at h ⊢
    cases e : Lib.digitVal b with
    | none => rw [e] at h; simp at h
    | some x =>
      rw [e] at h
      exact decFrom_snoc l _ n d h hd
theorem decFrom_digits (u : Nat) : Lib.decFrom 0 (Lib.decDigits u) = some u := by
  induction u using Nat.strongRecOn with
  | _ u ih =>
    rw [Lib.decDigits]
    by_cases h : u < 10
    · rw [dif_pos h]
      simp only [Lib.decFrom, digit_val u h]
      congr 1
      omega
    · rw [dif_neg h, decFrom_snoc _ 0 (u / 10) (u % 10) (ih _ (by omega)) (by omega)]
      congr 1
      omega
theorem digits_ne (u : Nat) : Lib.decDigits u ≠ [] := by
  rw [Lib.decDigits]
  split <;> simp
theorem digits_are (u : Nat) : ∀ b ∈ Lib.decDigits u, 48 ≤ b.toNat ∧ b.toNat ≤ 57 := by
  induction u using Nat.strongRecOn with
  | _ u ih =>
    intro b hb
    rw [Lib.decDigits] at hb
    by_cases h : u < 10
    · rw [dif_pos h] at hb
      simp only [List.mem_cons, List.not_mem_nil, or_false] at hb
      subst hb
      have e : (UInt8.ofNat (48 + u)).toNat = 48 + u := by simp; omega
      omega
    · rw [dif_neg h] at hb
      rcases List.mem_append.1 hb with hb | hb
      · exact ih _ (by omega) b hb
      · simp only [List.mem_cons, List.not_mem_nil, or_false] at hb
        subst hb
        have e : (UInt8.ofNat (48 + u % 10)).toNat = 48 + u % 10 := by simp; omega
        omega
theorem digits_len : ∀ (k u : Nat), u < 10 ^ (k + 1) → (Lib.decDigits u).length ≤ k + 1
  | 0, u, h => by
    rw [Lib.decDigits, dif_pos (by omega)]
    simp
  | k + 1, u, h => by
    rw [Lib.decDigits]
    split
    · simp
    · rw [List.length_append]
      have := digits_len k (u / 10) (by rw [Nat.pow_succ] at h; omega)
      simp
      omega
theorem itoa_of (z : Int) (h : 0 ≤ z) : Lib.itoa z = Lib.decDigits z.toNat := by unfold Lib.itoa; rw [if_neg (by omega)]
theorem atoi_of (z : Int) (h : 0 ≤ z) : Lib.atoi (Lib.itoa z) = some z := by
  rw [itoa_of z h]
  have h1 := digits_ne z.toNat
  have h2 := digits_are z.toNat
  have h3 := decFrom_digits z.toNat
  cases e : Lib.decDigits z.toNat with
  | nil => exact absurd e h1
  | cons b l =>
    rw [e] at h2 h3
    have hb := h2 b (by simp)
    have n45 : (b == 45) = false := by
      rw [beq_eq_false_iff_ne]
      rintro rfl
      simp at hb
    have n43 : (b == 43) = false := by
      rw [beq_eq_false_iff_ne]
      rintro rfl
      simp at hb
    simp only [Lib.atoi, n45, n43, Lib.decNat, List.isEmpty_cons, h3]
    simp
    omega
set_option maxHeartbeats 4000000 in
set_option maxRecDepth 100000 in
theorem number_any (z : Int) (h0 : 0 ≤ z) (h1 : z ≤ 1000000000000000) (w : World) (htab : Lib.TabIs Tryz.prog w "internal/strconv.uint64pow10" .u64 Lib.pow10Tab) (t : ByteArray) (ht : t = ⟨(Lib.itoa z).toArray⟩) :
    Calls Tryz.prog 138 #[.string t] w fun e w' => e = .returned (.tuple #[.int .i64 z, .bool true]) ∧ But [] w w' := by
  have hsz : t.size ≤ 18 := by
    rw [ht, itoa_of z h0]
    have := digits_len 15 z.toNat (by omega)
    show (Lib.decDigits z.toNat).toArray.size ≤ 18
    simp
    omega
  have hat : Lib.atoi t.data.toList = some z := by rw [ht]; exact atoi_of z h0
  have AT : Hid (Calls Tryz.prog 184 #[.string t] w fun e w' => e = .returned (.tuple #[.int .i64 z, .nilIface]) ∧ But [] w w') :=
    (Any.strconv_Atoi Tryz.lays172 t z hsz hat w).mono (by rintro e w' ⟨rfl, tt, rfl⟩; exact ⟨rfl, but_bytesT _ _ _⟩)
  have IT : Hid (∀ W, But [] w W → Calls Tryz.prog 87 #[.int .i64 z] W fun e w' => e = .returned (.string t) ∧ But [] W w') := fun W hW => by
    have h := Any.strconv_Itoa Tryz.laysM171 z (by omega) (by omega) W (TabIs.but htab hW)
    rw [← ht] at h
    exact h.mono (by rintro e w' ⟨rfl, k, os, rfl⟩; exact ⟨rfl, but_growT _ _ _⟩)
  clear htab hat hsz ht
  go_enter Tryz.func138, Tryz.ntmps138
  go_wp2_with fail
  refine (unhide AT).mono ?_
  rintro e w1 ⟨rfl, hb1⟩
  have B1 := hide hb1
  clear hb1 AT
  go_wp2_with fail
  refine (unhide IT _ (unhide B1)).mono ?_
  rintro e w2 ⟨rfl, hb2⟩
  have B2 := hide ((unhide B1).trans' hb2)
  clear hb2
  go_wp2
  exact bodyPost_ret (v := .tuple #[.int .i64 z, .bool true]) (by simp [results, Tryz.results138, go_sem]) rfl ⟨rfl, unhide B2⟩
end Go.Proofs.YtjbboicccddhbaaGreatDoor

namespace Go.Proofs.YtjbboicccddhbaaGreatDoor
open Go.RowKit Go.Shelf
set_option linter.unusedVariables false
attribute [local go_sem] Oper.semAt_some

/-- all blocks below a bound, but some, stay as they are -/
def KeptT (n₀ : Nat) (gs : List Nat) (A B : World) : Prop := ∀ k, k < n₀ → k ∉ gs → B.heap[k]? = A.heap[k]?
theorem KeptT.refl (n₀ : Nat) (gs : List Nat) (A : World) : KeptT n₀ gs A A := fun _ _ _ => rfl
theorem KeptT.trans {n₀ : Nat} {gs : List Nat} {A B C : World} (h : KeptT n₀ gs A B) (k : KeptT n₀ gs B C) : KeptT n₀ gs A C := fun i h1 h2 => (k i h1 h2).trans (h i h1 h2)
theorem KeptT.cell {n₀ : Nat} {gs : List Nat} {A B : World} (h : KeptT n₀ gs A B) {p : Addr} (hp : p.block < n₀) (hn : p.block ∉ gs) : B.cell? p = A.cell? p := World.cell?_of_block (w := A) (h p.block hp hn)
theorem KeptT.put {n₀ : Nat} {gs : List Nat} (W : World) (l : Nat) (o : Obj) (hl : n₀ ≤ l) : KeptT n₀ gs W (W.putObj l o) := fun k hk _ => World.putObj_heap_other (by omega)
theorem KeptT.drewN (n₀ : Nat) (gs : List Nat) (A : World) (k : Nat) : KeptT n₀ gs A (A.drewN k) := fun _ _ _ => rfl

/-- words with one sign between -/
def jn (d : UInt8) : List (List UInt8) → List UInt8
  | [] => []
  | [x] => x
  | x :: y :: l => x ++ d :: jn d (y :: l)
/-- what stands behind a word -/
def tlw (d : UInt8) (l : List (List UInt8)) : List UInt8 := match l with
  | [] => []
  | y :: l => d :: jn d (y :: l)
theorem jn_cons (d : UInt8) (x : List UInt8) (l : List (List UInt8)) : jn d (x :: l) = x ++ tlw d l := by
  cases l with
  | nil => simp [jn, tlw]
  | cons y l => rfl
/-- what is left ahead of the k-th word -/
def tailK (d : UInt8) (ws : List (List UInt8)) (k : Nat) : List UInt8 := if k = 0 then jn d ws else tlw d (ws.drop k)
theorem drop_cons {α : Type} (l : List α) (k : Nat) (h : k < l.length) : l.drop k = l[k] :: l.drop (k + 1) := List.drop_eq_getElem_cons h
theorem jn_drop (d : UInt8) (ws : List (List UInt8)) (k : Nat) (h : k < ws.length) : jn d (ws.drop k) = ws[k] ++ tailK d ws (k + 1) := by
  rw [drop_cons ws k h, jn_cons]
  unfold tailK
  rw [if_neg (by omega)]
theorem tail_trim (d : UInt8) (ws : List (List UInt8)) (k : Nat) (h : k < ws.length) : tailK d ws k = jn d (ws.drop k) ∨ tailK d ws k = d :: jn d (ws.drop k) := by
  unfold tailK
  by_cases h0 : k = 0
  · subst h0; left; simp
  · right
    rw [if_neg h0, drop_cons ws k h]
    rfl
theorem tail_end (d : UInt8) (ws : List (List UInt8)) : tailK d ws ws.length = [] := by
  unfold tailK
  cases ws with
  | nil => rfl
  | cons x l => rw [if_neg (by simp)]; simp [tlw]
theorem tail_suffix (d : UInt8) (ws : List (List UInt8)) : ∀ k, k ≤ ws.length → ∃ p, jn d ws = p ++ tailK d ws k
  | 0, _ => ⟨[], rfl⟩
  | k + 1, h => by
    obtain ⟨p, hp⟩ := tail_suffix d ws k (by omega)
    have hd := jn_drop d ws k (by omega)
    rcases tail_trim d ws k (by omega) with e | e
    · exact ⟨p ++ ws[k], by rw [hp, e, hd, List.append_assoc]⟩
    · exact ⟨p ++ d :: ws[k], by rw [hp, e, hd, List.append_assoc]; rfl⟩
/-- where the k-th word begins -/
def posW (d : UInt8) (ws : List (List UInt8)) (k : Nat) : Nat := (jn d ws).length - (jn d (ws.drop k)).length
/-- where the search for the k-th word begins -/
def plc (d : UInt8) (ws : List (List UInt8)) (k : Nat) : Nat := (jn d ws).length - (tailK d ws k).length
theorem plc_drop (d : UInt8) (ws : List (List UInt8)) (k : Nat) (h : k ≤ ws.length) : (jn d ws).drop (plc d ws k) = tailK d ws k ∧ plc d ws k ≤ (jn d ws).length := by
  obtain ⟨p, hp⟩ := tail_suffix d ws k h
  unfold plc
  have hl : (jn d ws).length = p.length + (tailK d ws k).length := by rw [hp, List.length_append]
  refine ⟨?_, by omega⟩
  rw [show (jn d ws).length - (tailK d ws k).length = p.length from by omega]
  conv => lhs; rw [hp]
  simp
theorem plc_next (d : UInt8) (ws : List (List UInt8)) (k : Nat) (h : k < ws.length) (hw : ∀ x ∈ ws, x ≠ []) : posW d ws k + ws[k].length = plc d ws (k + 1) ∧ plc d ws k < plc d ws (k + 1) ∧ plc d ws (k + 1) ≤ (jn d ws).length ∧ (jn d (ws.drop k)).length ≤ (jn d ws).length := by
  obtain ⟨p, hp⟩ := tail_suffix d ws (k + 1) h
  obtain ⟨q, hq⟩ := tail_suffix d ws k (by omega)
  have hd : (jn d (ws.drop k)).length = ws[k].length + (tailK d ws (k + 1)).length := by rw [jn_drop d ws k h, List.length_append]
  have hl : (jn d ws).length = q.length + (tailK d ws k).length := by rw [hq, List.length_append]
  have h1 : 0 < ws[k].length := List.length_pos_iff.2 (hw _ (List.getElem_mem h))
  have h2 : (tailK d ws k).length = (jn d (ws.drop k)).length ∨ (tailK d ws k).length = (jn d (ws.drop k)).length + 1 := by
    rcases tail_trim d ws k h with e | e <;> rw [e] <;> simp
  unfold posW plc
  omega
theorem trim_tail (d : UInt8) (ws : List (List UInt8)) (k : Nat) (h : k ≤ ws.length) (hw : ∀ x ∈ ws, x ≠ [] ∧ d ∉ x) : Lib.trimLeftB (tailK d ws k) d = jn d (ws.drop k) := by
  rcases Nat.lt_or_ge k ws.length with hk | hk
  · have hx := hw _ (List.getElem_mem hk)
    have hd := jn_drop d ws k hk
    obtain ⟨a, l, ea⟩ : ∃ a l, ws[k] = a :: l := by
      cases e : ws[k] with
      | nil => exact absurd e hx.1
      | cons a l => exact ⟨a, l, rfl⟩
    have hne : ¬ a = d := fun e => hx.2 (by rw [ea, e]; simp)
    have hb : (a == d) = false := by rw [beq_eq_false_iff_ne]; exact hne
    have hj : Lib.trimLeftB (jn d (ws.drop k)) d = jn d (ws.drop k) := by
      rw [hd, ea]
      simp [Lib.trimLeftB, hne]
    rcases tail_trim d ws k hk with e | e
    · rw [e, hj]
    · rw [e]
      unfold Lib.trimLeftB at hj ⊢
      rw [List.dropWhile_cons_of_pos (by simp)]
      exact hj
  · obtain rfl : k = ws.length := by omega
    rw [tail_end]
    simp [Lib.trimLeftB, jn]
theorem cut_word (d : UInt8) (ws : List (List UInt8)) (k : Nat) (h : k < ws.length) (hw : ∀ x ∈ ws, x ≠ [] ∧ d ∉ x) : ∃ r b, Lib.cut (jn d (ws.drop k)) [d] = (ws[k], r, b) := by
  have hx := hw _ (List.getElem_mem h)
  rw [jn_drop d ws k h]
  unfold tailK
  rw [if_neg (by omega)]
  cases e : ws.drop (k + 1) with
  | nil =>
    refine ⟨[], false, ?_⟩
    show Lib.cut (ws[k] ++ []) [d] = _
    rw [List.append_nil, cut_none d _ hx.2]
  | cons y l => exact ⟨_, true, cut_behind d ws[k] (jn d (y :: l)) hx.2⟩
end Go.Proofs.YtjbboicccddhbaaGreatDoor

namespace Go.Proofs.YtjbboicccddhbaaGreatDoor
open Go.RowKit Go.Shelf
set_option linter.unusedVariables false
attribute [local go_sem] Oper.semAt_some

theorem take_snoc (n k : Nat) (h : k < n) : (List.finRange n).take (k + 1) = (List.finRange n).take k ++ [⟨k, h⟩] := by
  rw [List.take_add_one, List.getElem?_eq_getElem (by simpa using h)]
  simp
theorem str_eq (t : ByteArray) (l : List UInt8) (h : t.data.toList = l) : t = ⟨l.toArray⟩ := by
  rw [← h]
theorem string_slice (t : ByteArray) (k : Nat) (l : List UInt8) (h : t.data.toList.drop k = l) (hk : k ≤ t.size) : t.extract k t.size = ⟨l.toArray⟩ := by
  refine str_eq _ _ ?_
  rw [← h]
  simp only [ByteArray.data_extract, Array.toList_extract]
  rw [List.extract_eq_take_drop]
  exact List.take_of_length_le (by rw [List.length_drop]; have e : t.data.toList.length = t.size := by simp
                                   omega)
set_option maxRecDepth 100000 in
set_option maxHeartbeats 8000000 in
theorem words1_in (n : Nat) (hn : 1 ≤ n) (l Bs n₀ : Nat) (gs : List Nat) (ws : List (List UInt8)) (t : ByteArray) (ht : t.data.toList = jn 32 ws) (hw : ∀ x ∈ ws, x ≠ [] ∧ (32 : UInt8) ∉ x) (hts : t.size ≤ 50000) (mx : Int) (J Jx : List (Fin ws.length) → World → Prop)
    (hJ : ∀ pre W k, J pre W → J pre (W.drewN k))
    (hY : ∀ pre (x : Fin ws.length) W, J pre W → pre.length < ws.length → YieldAt Fence.wide (n - 1) Tryz.prog l #[.int .i64 ((posW 32 ws x.1 : Nat) : Int), .string ⟨(ws[x.1]).toArray⟩] W fun e W' =>
      (e = .returned (.bool true) ∧ J (pre ++ [x]) W' ∧ KeptT n₀ gs W W') ∨ (e = .returned (.bool false) ∧ Jx (pre ++ [x]) W'))
    (W : World) (hBs : W.cell? ⟨Bs, 0, none⟩ = some (.string t)) (hBn : Bs < n₀) (hBg : Bs ∉ gs) (hm : W.cell? ⟨5, 0, none⟩ = some (.int .i64 mx)) (hmn : 5 < n₀) (hmg : 5 ∉ gs) (h0 : J [] W) :
    CallsIn Fence.wide n Tryz.prog 183 #[.func (.yield l) #[] #[], .pointer (some ⟨Bs, 0, none⟩)] W fun e W' => (∃ v, e = .returned v) ∧
      ((∃ ys, ys = List.finRange ws.length ∧ J ys W') ∨ (∃ pre, True ∧ Jx pre W')) := by
  have htl : t.size = (jn 32 ws).length := by rw [← ht]; simp
  have HW := hide hw
  have HT := hide ht
  have HTL := hide htl
  have HJ := hide hJ
  clear hw ht htl hJ
  refine callsIn_of_wp Tryz.func183 rfl trivial ?_ rfl
  simp only [Tryz.ntmps183, List.size_toArray, List.length_cons, List.length_nil, Nat.reduceAdd, Nat.reduceSub, Array.replicate_succ, Array.replicate_zero, List.push_toArray, List.append_toArray, List.nil_append, List.cons_append]
  gi_wp2
  gi_loopw [3] (fun i wr => ∃ k : Nat, k ≤ ws.length ∧ (∃ pl : Nat, i = .int .i64 (pl : Int) ∧ Hid (pl = plc 32 ws k)) ∧ J ((List.finRange ws.length).take k) wr ∧ KeptT n₀ gs W wr) (fun i _ => t.size - (intOf i).toNat)
  case atStart => exact ⟨0, Nat.zero_le _, ⟨0, rfl, by show 0 = _; unfold plc tailK; simp⟩, h0, KeptT.refl _ _ _⟩
  case round =>
    obtain ⟨k, hk, ⟨pl, rfl, HP⟩, hJs, hnx⟩ := hrel
    rename World => wr
    have hBs' := (hnx.cell (p := ⟨Bs, 0, none⟩) hBn hBg).trans hBs
    have hm' := (hnx.cell (p := ⟨5, 0, none⟩) hmn hmg).trans hm
    obtain ⟨pd, ple⟩ := plc_drop 32 ws k hk
    rw [← unhide HP] at pd ple
    have hpl : pl ≤ t.size := by rw [unhide HTL]; exact ple
    have hsl : t.extract pl t.size = ⟨(tailK 32 ws k).toArray⟩ := string_slice t pl _ (by rw [unhide HT]; exact pd) hpl
    have TR : Hid (∀ W2, Calls Tryz.prog 133 #[.string (t.extract pl t.size), .string ⟨#[32]⟩] W2 fun e w' => e = .returned (.string ⟨(jn 32 (ws.drop k)).toArray⟩) ∧ w' = W2) := fun W2 => by
      have h := Any.strings_TrimLeft_one Tryz.lays161 (t.extract pl t.size) 32 (by decide) W2
      rw [hsl] at h ⊢
      rw [show Lib.trimLeftB (⟨(tailK 32 ws k).toArray⟩ : ByteArray).data.toList 32 = jn 32 (ws.drop k) from trim_tail 32 ws k hk (unhide HW)] at h
      exact h
    clear pd ple hsl
    by_cases hlt : k < ws.length
    · obtain ⟨r, b, hcut⟩ := cut_word 32 ws k hlt (unhide HW)
      obtain ⟨hp1, hp2, hp3, hp4⟩ := plc_next 32 ws k hlt (fun x hx => (unhide HW x hx).1)
      rw [← unhide HP] at hp2
      obtain ⟨rest, hrest⟩ : ∃ rest : ByteArray, rest = ⟨(jn 32 (ws.drop k)).toArray⟩ := ⟨_, rfl⟩
      have hrs : rest.size = (jn 32 (ws.drop k)).length := by rw [hrest]; rfl
      have hre : rest.toList.isEmpty = false := by
        have h1 : 0 < ws[k].length := List.length_pos_iff.2 (unhide HW _ (List.getElem_mem hlt)).1
        have h2 : (jn 32 (ws.drop k)).length = ws[k].length + (tailK 32 ws (k + 1)).length := by rw [jn_drop 32 ws k hlt, List.length_append]
        rw [Lib.toList_data, hrest]
        show (jn 32 (ws.drop k)).isEmpty = false
        cases e : jn 32 (ws.drop k) with
        | nil => rw [e] at h2; simp at h2; omega
        | cons _ _ => rfl
      have CU : Hid (∀ W2, W2.cell? ⟨5, 0, none⟩ = some (.int .i64 mx) → Calls Tryz.prog 131 #[.string rest, .string ⟨#[32]⟩] W2 fun e w' => e = .returned (.tuple #[.string ⟨(ws[k]).toArray⟩, .string ⟨r.toArray⟩, .bool b]) ∧ ∃ q, w' = W2.drewN q) := fun W2 h2 => by
        have h := Any.strings_Cut Tryz.lays145 rest ⟨#[32]⟩ mx W2 (by rw [hrs]; have := unhide HTL; omega) h2
        rw [show rest.data.toList = jn 32 (ws.drop k) from by rw [hrest], show (⟨#[32]⟩ : ByteArray).data.toList = [32] from rfl, hcut] at h
        exact h
      rw [← hrest] at TR
      obtain ⟨word, hword⟩ : ∃ word : ByteArray, word = ⟨(ws[k]).toArray⟩ := ⟨_, rfl⟩
      rw [← hword] at CU
      have hws : word.size = ws[k].length := by rw [hword]; rfl
      have hpos : t.size - rest.size = posW 32 ws k := by unfold posW; rw [hrs, unhide HTL]
      have hposi : (t.size : Int) - (rest.size : Int) = ((posW 32 ws k : Nat) : Int) := by rw [← hpos]; have := unhide HTL; omega
      have hY' : Hid (∀ W2, J ((List.finRange ws.length).take k) W2 → YieldAt Fence.wide (n - 1) Tryz.prog l #[.int .i64 ((posW 32 ws k : Nat) : Int), .string word] W2 fun e W' =>
          (e = .returned (.bool true) ∧ J ((List.finRange ws.length).take (k + 1)) W' ∧ KeptT n₀ gs W2 W') ∨ (e = .returned (.bool false) ∧ Jx ((List.finRange ws.length).take (k + 1)) W')) := fun W2 h2 => by
        rw [take_snoc _ k hlt, hword]
        exact hY _ ⟨k, hlt⟩ W2 h2 (by rw [List.length_take, List.length_finRange]; omega)
      obtain ⟨ps, hps⟩ : ∃ ps, ps = posW 32 ws k := ⟨_, rfl⟩
      rw [← hps] at hposi hY' hp1
      have hsum : Hid (((ps : Int) + (word.size : Int)) = ((plc 32 ws (k + 1) : Nat) : Int)) := by
        show _ = _
        rw [hws]
        omega
      have hsb : ps + word.size ≤ 50000 := by have := unhide HTL; omega
      have HP1 := hide hp2
      have HP3 : Hid (plc 32 ws (k + 1) ≤ t.size) := by show _ ≤ _; rw [unhide HTL]; exact hp3
      have HJS := hide hJs
      clear hcut hp1 hp2 hp3 hp4 hrest hrs hword hws hpos hps hY HW HT hJs
      gi_wp2_with fail
      refine ⟨trivial, ?_⟩
      refine (callsIn_wide.2 (unhide TR _)).mono ?_
      rintro e w1 ⟨rfl, hw1⟩
      subst hw1
      gi_wp2_with fail
      refine ⟨trivial, ?_⟩
      refine (callsIn_wide.2 (unhide CU _ hm')).mono ?_
      rintro e w2 ⟨rfl, q, hw2⟩
      have hB2 : w2.cell? ⟨Bs, 0, none⟩ = some (.string t) := by rw [hw2]; exact hBs'
      have J2 : Hid (J ((List.finRange ws.length).take k) w2) := by rw [hw2]; exact unhide HJ _ _ q (unhide HJS)
      have K2 : Hid (KeptT n₀ gs W w2) := by rw [hw2]; exact hnx.trans (KeptT.drewN _ _ _ q)
      obtain ⟨fn, tmps, assign, body, hy, hR⟩ := unhide hY' w2 (unhide J2)
      have HR := hide hR
      clear hw2 hBs' hm' hR hY' HJS TR CU
      gi_wp2_with fail
      refine (unhide HR).mono ?_
      rintro e W3 (⟨rfl, hJ3, hk3⟩ | ⟨rfl, hJx3⟩)
      · have HJ3 := hide hJ3
        have HK3 := hide hk3
        clear hJ3 hk3
        gi_wp2
        go_roundw
        case rel => exact ⟨k + 1, by omega, ⟨plc 32 ws (k + 1), by first | exact congrArg _ (unhide hsum) | (rw [← unhide hsum]), rfl⟩, unhide HJ3, (unhide K2).trans (unhide HK3)⟩
        case measure =>
          have h1 := unhide hsum
          have h2 := unhide HP1
          have h3 := unhide HP3
          simp [intOf]
          omega
      · gi_wp2
        refine bodyPost_ret (results_none rfl _ _ _) rfl ?_
        exact ⟨⟨_, rfl⟩, .inr ⟨_, trivial, hJx3⟩⟩
    · obtain rfl : k = ws.length := by omega
      have hemp : ∀ x : ByteArray, x = ⟨(jn 32 (ws.drop ws.length)).toArray⟩ → x.toList.isEmpty = true := fun x hx => by
        rw [Lib.toList_data, hx, List.drop_length]
        rfl
      obtain ⟨rest, hrest⟩ : ∃ rest : ByteArray, rest = ⟨(jn 32 (ws.drop ws.length)).toArray⟩ := ⟨_, rfl⟩
      have hre := hemp rest hrest
      rw [← hrest] at TR
      have hfin : Hid (J (List.finRange ws.length) wr) := by
        rw [List.take_of_length_le (by simp)] at hJs
        exact hJs
      clear hemp hrest hJs hY
      gi_wp2_with fail
      refine ⟨trivial, ?_⟩
      refine (callsIn_wide.2 (unhide TR _)).mono ?_
      rintro e w1 ⟨rfl, hw1⟩
      subst hw1
      gi_wp2
      refine bodyPost_ret (results_none rfl _ _ _) rfl ?_
      exact ⟨⟨_, rfl⟩, .inl ⟨_, rfl, unhide hfin⟩⟩

theorem words_stops (n : Nat) (hn : 1 ≤ n) (Bs n₀ : Nat) (gs : List Nat) (ws : List (List UInt8)) (t : ByteArray) (ht : t.data.toList = jn 32 ws) (hw : ∀ x ∈ ws, x ≠ [] ∧ (32 : UInt8) ∉ x) (hts : t.size ≤ 50000) (mx : Int) (w : World) (hn₀ : n₀ ≤ w.heap.size)
    (hBs : w.cell? ⟨Bs, 0, none⟩ = some (.string t)) (hBn : Bs < n₀) (hBg : Bs ∉ gs) (hm : w.cell? ⟨5, 0, none⟩ = some (.int .i64 mx)) (hmn : 5 < n₀) (hmg : 5 ∉ gs) :
    SeqStopsK Fence.wide n Tryz.prog 183 #[.pointer (some ⟨Bs, 0, none⟩)] (fun x : Fin ws.length => #[.int .i64 ((posW 32 ws x.1 : Nat) : Int), .string ⟨(ws[x.1]).toArray⟩]) (KeptT n₀ gs) (fun ys => ys = List.finRange ws.length) (fun _ => True) ws.length w := fun l J Jx W hW hA _ hY h0 =>
  words1_in n hn l Bs n₀ gs ws t ht hw hts mx J Jx (fun pre W k h => hA pre W _ none h ⟨rfl, rfl, rfl, Nat.le_refl _, fun _ _ _ => rfl⟩ (fun r e => by simp at e)) hY W ((hW.cell (p := ⟨Bs, 0, none⟩) (by show Bs < _; omega)).trans hBs) hBn hBg ((hW.cell (p := ⟨5, 0, none⟩) (by show 5 < _; omega)).trans hm) hmn hmg h0
set_option maxHeartbeats 1000000 in
theorem words_in (n : Nat) (t : ByteArray) (w : World) :
    CallsIn Fence.wide n Tryz.prog 137 #[.string t] w fun e w' => e = .returned (.func (.func 183) #[] #[.pointer (some ⟨w.heap.size, 0, none⟩)]) ∧ w' = w.alloc (.cells #[.string t] 9) := by
  refine callsIn_of_wp Tryz.func137 rfl trivial ?_ rfl
  simp only [Tryz.ntmps137, List.size_toArray, List.length_cons, List.length_nil, Nat.reduceAdd, Nat.reduceSub, Array.replicate_succ, Array.replicate_zero, List.push_toArray, List.append_toArray, List.nil_append, List.cons_append]
  gi_wp2
  go_ret
  exact ⟨rfl, rfl⟩
end Go.Proofs.YtjbboicccddhbaaGreatDoor

namespace Go.Proofs.YtjbboicccddhbaaGreatDoor
open Go.RowKit
set_option linter.unusedVariables false

theorem run_loadS (a : Act) (w : World) (d t : Nat) (u : TypeId) (ps : String) (ed : Array Edge) (gd : Option (Nat × Bool)) (b : Nat) (s : ByteArray) (h1 : a.eval (.tmp t) = .pointer (some ⟨b, 0, none⟩)) (hc : w.cell? ⟨b, 0, none⟩ = some (.string s)) :
    (execOp a.eval { dst := some d, op := Op.load 9 (.tmp t), type := u, pos := ps, after := ed, guard := gd }).run Tryz.prog w = .ok (.value (.string s)) w := by
  unfold execOp
  simp only [h1]
  go_simp
theorem run_asC (a : Act) (w : World) (d : Nat) (u : TypeId) (ps : String) (ed : Array Edge) (gd : Option (Nat × Bool)) (v : Value) :
    (execOp a.eval { dst := some d, op := Op.assign (.const v), type := u, pos := ps, after := ed, guard := gd }).run Tryz.prog w = .ok (.value v) w := by
  unfold execOp
  go_simp
def opTi0 : Oper := { dst := some 7, op := Op.load 9 (Operand.tmp 1), type := 9, pos := "lines.go:13", after := #[{ on := 1, ground := Ground.gcOnly Departure.lateStores }], guard := none }
def opTi1 : Oper := { dst := some 3, op := Op.assign (Operand.const (Value.int IntKind.i64 0)), type := 3, pos := "lines.go:13", after := #[{ on := 0, ground := Ground.textOnly Departure.lateStores }], guard := none }
def opTi2 : Oper := { dst := some 4, op := Op.assign (Operand.tmp 7), type := 9, pos := "lines.go:13", after := #[{ on := 0, ground := Ground.data }, { on := 1, ground := Ground.chain }, { on := 0, ground := Ground.phase }, { on := 1, ground := Ground.phase }], guard := none }
def opTis : Array Oper := #[opTi0, opTi1, opTi2]
def opTiT (i : Nat) : Nat := match i with
  | 0 => 7
  | 1 => 3
  | _ => 4
/-- what each operation's value is -/
def opTiC (t : ByteArray) (i : Nat) (_w : World) (v : Value) : Prop := match i with
  | 0 => v = .string t
  | 1 => v = .int .i64 0
  | _ => v = .string t
theorem opTiC_but {t : ByteArray} {i : Nat} {w w' : World} {v : Value} (h : opTiC t i w v) (hi : i < 3) (hb : But [] w w') : opTiC t i w' v := by
  have : i = 0 ∨ i = 1 ∨ i = 2 := by omega
  rcases this with rfl | rfl | rfl
  all_goals first | exact h | exact FracAt.but h hb | exact FracsAt.but h hb
theorem opTiT_inj : ∀ i j, i < 3 → j < 3 → opTiT i = opTiT j → i = j := fun i j hi hj => (by decide : ∀ i, i < 3 → ∀ j, j < 3 → opTiT i = opTiT j → i = j) i hi j hj
set_option maxRecDepth 100000 in
theorem lines_region0 (id : Nat) (Q : Exit → Act → World → Prop) (base : Act) (W0 : World) (t : ByteArray) (hs : 7 < base.tmps.size) (g1 : Nat) (e1 : base.eval (.tmp 1) = .pointer (some ⟨g1, 0, none⟩))
    (ct : W0.cell? ⟨g1, 0, none⟩ = some (.string t))
    (hQ : ∀ w, But [] W0 w → Q .normal (putted base [(7, .string t), (3, .int .i64 0), (4, .string t)]) w) :
    (Code.region id opTis true).wp Tryz.prog Q base W0 := by
  have hdr : ∀ {w}, But [] W0.drew w → But [] W0 w := fun h => (But.refl _ _).drew.trans' h
  have hT : ∀ i, i < 3 → opTiT i < base.tmps.size := fun i hi => by
    have h : opTiT i ≤ 7 := by revert i; decide
    omega
  refine region_go (by kernel_rfl) (low_of (by kernel_rfl)) (opTiC t) opTiT (by kernel_rfl) ?_ opTiT_inj hT (fun i w w' v hi h hb => opTiC_but h hi hb) ?_ ?_
  · intro i o j want ho hg w v hv
    have hi : i < 3 := (Array.getElem?_eq_some_iff.1 ho).1
    have : i = 0 ∨ i = 1 ∨ i = 2 := by omega
    rcases this with rfl | rfl | rfl
    · obtain rfl := Option.some.inj ((show opTis[0]? = some opTi0 from rfl).symm.trans ho)
      exact absurd (show (none : Option (Nat × Bool)) = some (j, want) from hg) (by simp)
    · obtain rfl := Option.some.inj ((show opTis[1]? = some opTi1 from rfl).symm.trans ho)
      exact absurd (show (none : Option (Nat × Bool)) = some (j, want) from hg) (by simp)
    · obtain rfl := Option.some.inj ((show opTis[2]? = some opTi2 from rfl).symm.trans ho)
      exact absurd (show (none : Option (Nat × Bool)) = some (j, want) from hg) (by simp)
  · intro i o a w K ho hH he hdep hk
    have hi : i < 3 := (Array.getElem?_eq_some_iff.1 ho).1
    have hD := dep_have (ps := [(2, 0), (2, 1)]) (by kernel_rfl) ho (fun j => opTiC t j w (a.eval (.tmp (opTiT j)))) hdep
    have e1' := (he 1 (fun j hj e => absurd e.symm (by revert j; decide))).trans e1
    have : i = 0 ∨ i = 1 ∨ i = 2 := by omega
    rcases this with rfl | rfl | rfl
    · obtain rfl := Option.some.inj ((show opTis[0]? = some opTi0 from rfl).symm.trans ho)
      exact wp_value (run_loadS a w _ _ _ _ _ _ g1 t e1' ((hdr hH).cell_some ct (by simp))) (hk _ _ (But.refl _ _) rfl)
    · obtain rfl := Option.some.inj ((show opTis[1]? = some opTi1 from rfl).symm.trans ho)
      exact wp_value (run_asC a w _ _ _ _ _ _) (hk _ _ (But.refl _ _) rfl)
    · obtain rfl := Option.some.inj ((show opTis[2]? = some opTi2 from rfl).symm.trans ho)
      exact wp_value (run_asK a w _ _ _ _ _ _ _ (hD 0 (by simp))) (hk _ _ (But.refl _ _) rfl)
  · intro a w h
    have ea := h.puts hT (fun i => match i with
      | 0 => .string t
      | 1 => .int .i64 0
      | _ => .string t) (fun i hi => by
      have hi' : i < 3 := hi
      have hc := h.has i hi rfl
      have : i = 0 ∨ i = 1 ∨ i = 2 := by omega
      rcases this with rfl | rfl | rfl
      all_goals first | exact hc | rfl)
    rw [ea]
    exact hQ w (hdr h.but)
end Go.Proofs.YtjbboicccddhbaaGreatDoor

namespace Go.Proofs.YtjbboicccddhbaaGreatDoor
open Go.RowKit Go.Shelf
set_option linter.unusedVariables false
attribute [local go_sem] Oper.semAt_some

theorem cut_line (d : UInt8) (ls : List (List UInt8)) (k : Nat) (h : k < ls.length) (hl : ∀ x ∈ ls, d ∉ x) : Lib.cut (jn d (ls.drop k)) [d] = (ls[k], jn d (ls.drop (k + 1)), decide (k + 1 < ls.length)) := by
  have hx := hl _ (List.getElem_mem h)
  rw [jn_drop d ls k h]
  unfold tailK
  rw [if_neg (by omega)]
  cases e : ls.drop (k + 1) with
  | nil =>
    have : ls.length ≤ k + 1 := List.drop_eq_nil_iff.1 e
    rw [decide_eq_false (by omega)]
    show Lib.cut (ls[k] ++ []) [d] = _
    rw [List.append_nil, cut_none d _ hx]
    rfl
  | cons y l =>
    have : k + 1 < ls.length := by
      rcases Nat.lt_or_ge (k + 1) ls.length with h' | h'
      · exact h'
      · rw [List.drop_eq_nil_iff.2 h'] at e
        simp at e
    rw [decide_eq_true this]
    exact cut_behind d ls[k] (jn d (y :: l)) hx
theorem pos_next (d : UInt8) (ls : List (List UInt8)) (k : Nat) (h : k + 1 < ls.length) : posW d ls k + (ls[k].length + 1) = posW d ls (k + 1) := by
  obtain ⟨q, hq⟩ := tail_suffix d ls (k + 1) (by omega)
  have e1 : tailK d ls (k + 1) = d :: jn d (ls.drop (k + 1)) := by
    unfold tailK
    rw [if_neg (by omega), drop_cons ls (k + 1) h]
    rfl
  have hd : (jn d (ls.drop k)).length = ls[k].length + (tailK d ls (k + 1)).length := by rw [jn_drop d ls k (by omega), List.length_append]
  obtain ⟨p, hp⟩ := tail_suffix d ls k (by omega)
  have h2 : (tailK d ls k).length = (jn d (ls.drop k)).length ∨ (tailK d ls k).length = (jn d (ls.drop k)).length + 1 := by
    rcases tail_trim d ls k (by omega) with e | e <;> rw [e] <;> simp
  have hl : (jn d ls).length = p.length + (tailK d ls k).length := by rw [hp, List.length_append]
  rw [e1] at hd
  unfold posW
  simp only [List.length_cons] at hd
  omega
theorem len_drop (d : UInt8) (ls : List (List UInt8)) (k : Nat) (h : k < ls.length) : (jn d (ls.drop k)).length ≤ (jn d ls).length ∧ ls[k].length ≤ (jn d ls).length := by
  obtain ⟨p, hp⟩ := tail_suffix d ls k (by omega)
  have h2 : (tailK d ls k).length = (jn d (ls.drop k)).length ∨ (tailK d ls k).length = (jn d (ls.drop k)).length + 1 := by
    rcases tail_trim d ls k h with e | e <;> rw [e] <;> simp
  have hl : (jn d ls).length = p.length + (tailK d ls k).length := by rw [hp, List.length_append]
  have hd : (jn d (ls.drop k)).length = ls[k].length + (tailK d ls (k + 1)).length := by rw [jn_drop d ls k h, List.length_append]
  omega
set_option maxRecDepth 100000 in
set_option maxHeartbeats 8000000 in
theorem lines1_in (n : Nat) (hn : 1 ≤ n) (l Bs n₀ : Nat) (gs : List Nat) (ls : List (List UInt8)) (t : ByteArray) (ht : t.data.toList = jn 10 ls) (h1 : 0 < ls.length) (hl : ∀ x ∈ ls, (10 : UInt8) ∉ x) (hts : t.size ≤ 50000) (mx : Int) (J Jx : List (Fin ls.length) → World → Prop)
    (hJ : ∀ pre W W', J pre W → But [] W W' → J pre W')
    (hY : ∀ pre (x : Fin ls.length) W, J pre W → pre.length < ls.length → YieldAt Fence.wide (n - 1) Tryz.prog l #[.int .i64 ((posW 10 ls x.1 : Nat) : Int), .string ⟨(ls[x.1]).toArray⟩] W fun e W' =>
      (e = .returned (.bool true) ∧ J (pre ++ [x]) W' ∧ KeptT n₀ gs W W') ∨ (e = .returned (.bool false) ∧ Jx (pre ++ [x]) W'))
    (W : World) (hn₀ : n₀ ≤ W.heap.size) (hBs : W.cell? ⟨Bs, 0, none⟩ = some (.string t)) (hBn : Bs < n₀) (hBg : Bs ∉ gs) (hm : W.cell? ⟨5, 0, none⟩ = some (.int .i64 mx)) (hmn : 5 < n₀) (hmg : 5 ∉ gs) (h0 : J [] W) :
    CallsIn Fence.wide n Tryz.prog 130 #[.func (.yield l) #[] #[], .pointer (some ⟨Bs, 0, none⟩)] W fun e W' => (∃ v, e = .returned v) ∧
      ((∃ ys, ys = List.finRange ls.length ∧ J ys W') ∨ (∃ pre, True ∧ Jx pre W')) := by
  have htl : t.size = (jn 10 ls).length := by rw [← ht]; simp
  have HL := hide hl
  have HT := hide ht
  have HTL := hide htl
  have HJ := hide hJ
  have HY := hide hY
  clear hl ht htl hJ hY
  refine callsIn_of_wp Tryz.func130 rfl trivial ?_ rfl
  simp only [Tryz.ntmps130, List.size_toArray, List.length_cons, List.length_nil, Nat.reduceAdd, Nat.reduceSub, Array.replicate_succ, Array.replicate_zero, List.push_toArray, List.append_toArray, List.nil_append, List.cons_append]
  gi_wp2
  refine wpIn_wide.2 (lines_region0 0 _ _ W t (by simp) Bs (by simp [Act.eval]) hBs ?_)
  intro w0 hb0
  simp only [putted, List.foldl_cons, List.foldl_nil, Act.put, List.setIfInBounds_toArray, List.set_cons_zero, List.set_cons_succ]
  have J0 : Hid (J [] w0) := unhide HJ _ _ _ h0 hb0
  have K0 : Hid (KeptT n₀ gs W w0) := fun k hk _ => hb0.block k (by omega) (by simp)
  clear hb0 h0
  gi_wp2
  gi_loopw [3, 4, 5] (fun i r m wr => ∃ k : Nat, k ≤ ls.length ∧ (∃ pl : Nat, i = .int .i64 (pl : Int) ∧ pl ≤ 60000 ∧ Hid (k < ls.length → pl = posW 10 ls k)) ∧ (∃ rest : ByteArray, r = .string rest ∧ Hid (rest = ⟨(jn 10 (ls.drop k)).toArray⟩)) ∧ (∃ mo : Bool, m = .bool mo ∧ Hid (mo = decide (k < ls.length))) ∧ J ((List.finRange ls.length).take k) wr ∧ KeptT n₀ gs W wr) (fun i _ _ _ => 60002 - (intOf i).toNat)
  case atStart => exact ⟨0, Nat.zero_le _, ⟨0, rfl, by omega, fun _ => by unfold posW; simp⟩, ⟨t, rfl, by show t = _; rw [List.drop_zero]; exact str_eq t _ (unhide HT)⟩, ⟨true, rfl, by show true = _; rw [decide_eq_true h1]⟩, unhide J0, unhide K0⟩
  case round =>
    obtain ⟨k, hk, ⟨pl, rfl, hpl, HP⟩, ⟨rest, rfl, HR⟩, ⟨mo, rfl, HM⟩, hJs, hnx⟩ := hrel
    rename World => wr
    have hm' := (hnx.cell (p := ⟨5, 0, none⟩) hmn hmg).trans hm
    by_cases hlt : k < ls.length
    · obtain rfl : mo = true := by rw [unhide HM]; exact decide_eq_true hlt
      have hps : pl = posW 10 ls k := unhide HP hlt
      obtain ⟨ld1, ld2⟩ := len_drop 10 ls k hlt
      have hrs : rest.size = (jn 10 (ls.drop k)).length := by rw [unhide HR]; rfl
      have hcut := cut_line 10 ls k hlt (unhide HL)
      obtain ⟨line, hline⟩ : ∃ line : ByteArray, line = ⟨(ls[k]).toArray⟩ := ⟨_, rfl⟩
      obtain ⟨rest2, hrest2⟩ : ∃ rest2 : ByteArray, rest2 = ⟨(jn 10 (ls.drop (k + 1))).toArray⟩ := ⟨_, rfl⟩
      obtain ⟨mo2, hmo2⟩ : ∃ mo2, mo2 = decide (k + 1 < ls.length) := ⟨_, rfl⟩
      have CU : Hid (∀ W2, W2.cell? ⟨5, 0, none⟩ = some (.int .i64 mx) → Calls Tryz.prog 131 #[.string rest, .string ⟨#[10]⟩] W2 fun e w' => e = .returned (.tuple #[.string line, .string rest2, .bool mo2]) ∧ ∃ q, w' = W2.drewN q) := fun W2 h2 => by
        have h := Any.strings_Cut Tryz.lays145 rest ⟨#[10]⟩ mx W2 (by rw [hrs]; have := unhide HTL; omega) h2
        rw [show rest.data.toList = jn 10 (ls.drop k) from by rw [unhide HR], show (⟨#[10]⟩ : ByteArray).data.toList = [10] from rfl, hcut, ← hmo2] at h
        rw [hline, hrest2]
        exact h
      have hY' : Hid (∀ W2, J ((List.finRange ls.length).take k) W2 → YieldAt Fence.wide (n - 1) Tryz.prog l #[.int .i64 (pl : Int), .string line] W2 fun e W' =>
          (e = .returned (.bool true) ∧ J ((List.finRange ls.length).take (k + 1)) W' ∧ KeptT n₀ gs W2 W') ∨ (e = .returned (.bool false) ∧ Jx ((List.finRange ls.length).take (k + 1)) W')) := fun W2 h2 => by
        rw [take_snoc _ k hlt, hline, hps]
        exact unhide HY _ ⟨k, hlt⟩ W2 h2 (by rw [List.length_take, List.length_finRange]; omega)
      have hls : line.size = ls[k].length := by rw [hline]; rfl
      have NXP : Hid (k + 1 < ls.length → pl + (line.size + 1) = posW 10 ls (k + 1)) := fun h => by
        rw [hps, hls]
        exact pos_next 10 ls k h
      have hpb : pl ≤ 50000 := by
        rw [hps]
        unfold posW
        have := unhide HTL
        omega
      have hlb : pl + line.size ≤ 50000 := by
        have e : (jn 10 (ls.drop k)).length = ls[k].length + (tailK 10 ls (k + 1)).length := by rw [jn_drop 10 ls k hlt, List.length_append]
        have := unhide HTL
        rw [hls, hps]
        unfold posW
        omega
      have HJS := hide hJs
      have HNX := hide hnx
      have HR2 := hide hrest2
      have HM2 := hide hmo2
      clear hps ld1 ld2 hrs hcut hline hrest2 hmo2 hls HP HR HM hJs hnx HY
      gi_wp2_with fail
      refine ⟨trivial, ?_⟩
      refine (callsIn_wide.2 (unhide CU _ hm')).mono ?_
      rintro e w2 ⟨rfl, q, hw2⟩
      have J2 : Hid (J ((List.finRange ls.length).take k) w2) := by rw [hw2]; exact unhide HJ _ _ _ (unhide HJS) ⟨rfl, rfl, rfl, Nat.le_refl _, fun _ _ _ => rfl⟩
      have K2 : Hid (KeptT n₀ gs W w2) := by rw [hw2]; exact (unhide HNX).trans (KeptT.drewN _ _ _ q)
      obtain ⟨fn, tmps, assign, body, hy, hR⟩ := unhide hY' w2 (unhide J2)
      have HRR := hide hR
      clear hw2 hm' hR hY' HJS CU
      gi_wp2_with fail
      refine (unhide HRR).mono ?_
      rintro e W3 (⟨rfl, hJ3, hk3⟩ | ⟨rfl, hJx3⟩)
      · have HJ3 := hide hJ3
        have HK3 := hide hk3
        clear hJ3 hk3
        gi_wp2
        go_roundw
        case rel => exact ⟨k + 1, by omega, ⟨pl + (line.size + 1), by go_num, by omega, unhide NXP⟩, ⟨rest2, rfl, unhide HR2⟩, ⟨mo2, rfl, unhide HM2⟩, unhide HJ3, (unhide K2).trans (unhide HK3)⟩
        case measure =>
          simp [intOf]
          omega
      · gi_wp2
        refine bodyPost_ret (results_none rfl _ _ _) rfl ?_
        exact ⟨⟨_, rfl⟩, .inr ⟨_, trivial, hJx3⟩⟩
    · obtain rfl : k = ls.length := by omega
      obtain rfl : mo = false := by rw [unhide HM]; exact decide_eq_false hlt
      have hfin : Hid (J (List.finRange ls.length) wr) := by
        rw [List.take_of_length_le (by simp)] at hJs
        exact hJs
      clear hJs HY HP HR HM
      gi_wp2
      first | go_end0 | skip
      exact ⟨⟨_, rfl⟩, .inl ⟨_, rfl, unhide hfin⟩⟩

theorem grown_of_but {A B : World} (h : But [] A B) : A.grownBy B none := ⟨h.1, h.2, h.3, h.size, fun k hk _ => h.block k hk (by simp)⟩
theorem lines_stops (n : Nat) (hn : 1 ≤ n) (Bs n₀ : Nat) (gs : List Nat) (ls : List (List UInt8)) (t : ByteArray) (ht : t.data.toList = jn 10 ls) (h1 : 0 < ls.length) (hl : ∀ x ∈ ls, (10 : UInt8) ∉ x) (hts : t.size ≤ 50000) (mx : Int) (w : World) (hn₀ : n₀ ≤ w.heap.size)
    (hBs : w.cell? ⟨Bs, 0, none⟩ = some (.string t)) (hBn : Bs < n₀) (hBg : Bs ∉ gs) (hm : w.cell? ⟨5, 0, none⟩ = some (.int .i64 mx)) (hmn : 5 < n₀) (hmg : 5 ∉ gs) :
    SeqStopsK Fence.wide n Tryz.prog 130 #[.pointer (some ⟨Bs, 0, none⟩)] (fun x : Fin ls.length => #[.int .i64 ((posW 10 ls x.1 : Nat) : Int), .string ⟨(ls[x.1]).toArray⟩]) (KeptT n₀ gs) (fun ys => ys = List.finRange ls.length) (fun _ => True) ls.length w := fun l J Jx W hW hA _ hY h0 =>
  lines1_in n hn l Bs n₀ gs ls t ht h1 hl hts mx J Jx (fun pre W W' h hb => hA pre W _ none h (grown_of_but hb) (fun r e => by simp at e)) hY W (Nat.le_trans hn₀ hW.size) ((hW.cell (p := ⟨Bs, 0, none⟩) (by show Bs < _; omega)).trans hBs) hBn hBg ((hW.cell (p := ⟨5, 0, none⟩) (by show 5 < _; omega)).trans hm) hmn hmg h0
set_option maxHeartbeats 1000000 in
theorem lines_in (n : Nat) (t : ByteArray) (w : World) :
    CallsIn Fence.wide n Tryz.prog 77 #[.string t] w fun e w' => e = .returned (.func (.func 130) #[] #[.pointer (some ⟨w.heap.size, 0, none⟩)]) ∧ w' = w.alloc (.cells #[.string t] 9) := by
  refine callsIn_of_wp Tryz.func77 rfl trivial ?_ rfl
  simp only [Tryz.ntmps77, List.size_toArray, List.length_cons, List.length_nil, Nat.reduceAdd, Nat.reduceSub, Array.replicate_succ, Array.replicate_zero, List.push_toArray, List.append_toArray, List.nil_append, List.cons_append]
  gi_wp2
  go_ret
  exact ⟨rfl, rfl⟩
end Go.Proofs.YtjbboicccddhbaaGreatDoor
