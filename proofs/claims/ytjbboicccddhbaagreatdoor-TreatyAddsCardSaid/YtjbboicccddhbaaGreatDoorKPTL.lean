/- A whole number that is written as the program writes it is read, as the Go text of package lines does it. -/
import Derived.RangeFuncNested
import Derived.RangeFuncBound
import Derived.RangeFuncCalls
import Derived.RangeFuncLeaves
import Derived.Shelf.Abstract
import Derived.Shelf.RegionOpen
import Derived.WalkKit
import Derived.OwnWalkIn
import Derived.TacticsInMore
import Derived.LoopNIn
import Derived.LoopIn
import Derived.Test.YtjbboicccddhbaaGreatDoorKPF8
namespace Go.Proofs.YtjbboicccddhbaaGreatDoor
open Go.RowKit Go.Shelf
set_option linter.unusedVariables false

theorem but_bytesT (w : World) (e : TypeId) (s : ByteArray) : But [] w (Lib.bytesWorld w e s) :=
 ⟨rfl,rfl,rfl,by rw [Lib.bytesWorld_size]; omega,fun k hk _ => Lib.bytesWorld_at_old w e s k hk⟩
theorem but_growT (w : World) (k : Nat) (os : Array Obj) : But [] w (Sort.grow (w.drewN k) os) :=
 ⟨rfl,rfl,rfl,by simp [Sort.grow],fun j hj _ => by simp [Sort.grow]; exact Array.getElem?_append_left hj⟩
theorem digit_val (d : Nat) (h : d < 10) : Lib.digitVal (UInt8.ofNat (48 + d)) = some d:=by
 unfold Lib.digitVal
 have e : (UInt8.ofNat (48 + d)).toNat = 48 + d:=by simp; omega
 rw [e,if_pos (by omega)]
 congr 1
 omega
theorem decFrom_snoc : ∀ (l : List UInt8) (acc n d : Nat),Lib.decFrom acc l = some n→d < 10→Lib.decFrom acc (l ++ [UInt8.ofNat (48 + d)]) = some (n * 10 + d)
 | [],acc,n,d,h,hd => by
  simp only [Lib.decFrom,Option.some.injEq] at h
  subst h
  simp only [List.nil_append,Lib.decFrom,digit_val d hd]
 | b :: l,acc,n,d,h,hd => by
  simp only [List.cons_append,Lib.decFrom] at h ⊢
  cases e : Lib.digitVal b with
  | none => rw [e] at h; simp at h
  | some x =>
   rw [e] at h
   exact decFrom_snoc l _ n d h hd
theorem decFrom_digits (u : Nat) : Lib.decFrom 0 (Lib.decDigits u) = some u:=by
 induction u using Nat.strongRecOn with
 | _ u ih =>
  rw [Lib.decDigits]
  by_cases h : u < 10
  ·rw [dif_pos h]
   simp only [Lib.decFrom,digit_val u h]
   congr 1
   omega
  ·rw [dif_neg h,decFrom_snoc _ 0 (u / 10) (u % 10) (ih _ (by omega)) (by omega)]
   congr 1
   omega
theorem digits_ne (u : Nat) : Lib.decDigits u ≠ []:=by
 rw [Lib.decDigits]
 split <;> simp
theorem digits_are (u : Nat) : ∀ b ∈ Lib.decDigits u,48 ≤ b.toNat∧b.toNat ≤ 57:=by
 induction u using Nat.strongRecOn with
 | _ u ih =>
  intro b hb
  rw [Lib.decDigits] at hb
  by_cases h : u < 10
  ·rw [dif_pos h] at hb
   simp only [List.mem_cons,List.not_mem_nil,or_false] at hb
   subst hb
   have e : (UInt8.ofNat (48 + u)).toNat = 48 + u:=by simp; omega
   omega
  ·rw [dif_neg h] at hb
   rcases List.mem_append.1 hb with hb | hb
   ·exact ih _ (by omega) b hb
   ·simp only [List.mem_cons,List.not_mem_nil,or_false] at hb
    subst hb
    have e : (UInt8.ofNat (48 + u % 10)).toNat = 48 + u % 10:=by simp; omega
    omega
theorem digits_len : ∀ (k u : Nat),u < 10 ^ (k + 1)→(Lib.decDigits u).length ≤ k + 1
 | 0,u,h => by
  rw [Lib.decDigits,dif_pos (by omega)]
  simp
 | k + 1,u,h => by
  rw [Lib.decDigits]
  split
  ·simp
  ·rw [List.length_append]
   have:=digits_len k (u / 10) (by rw [Nat.pow_succ] at h; omega)
   simp
   omega
theorem itoa_of (z : Int) (h : 0 ≤ z) : Lib.itoa z = Lib.decDigits z.toNat:=by unfold Lib.itoa; rw [if_neg (by omega)]
theorem atoi_of (z : Int) (h : 0 ≤ z) : Lib.atoi (Lib.itoa z) = some z:=by
 rw [itoa_of z h]
 have h1:=digits_ne z.toNat
 have h2:=digits_are z.toNat
 have h3:=decFrom_digits z.toNat
 cases e : Lib.decDigits z.toNat with
 | nil => exact absurd e h1
 | cons b l =>
  rw [e] at h2 h3
  have hb:=h2 b (by simp)
  have n45 : (b == 45) = false:=by
   rw [beq_eq_false_iff_ne]
   rintro rfl
   simp at hb
  have n43 : (b == 43) = false:=by
   rw [beq_eq_false_iff_ne]
   rintro rfl
   simp at hb
  simp only [Lib.atoi,n45,n43,Lib.decNat,List.isEmpty_cons,h3]
  simp
  omega
set_option maxHeartbeats 4000000 in
set_option maxRecDepth 100000 in
theorem number_any (z : Int) (h0 : 0 ≤ z) (h1 : z ≤ 1000000000000000) (w : World) (htab : Lib.TabIs Tryz.prog w "internal/strconv.uint64pow10" .u64 Lib.pow10Tab) (t : ByteArray) (ht : t = ⟨(Lib.itoa z).toArray⟩) :
  Calls Tryz.prog 138 #[.string t] w fun e w' => e = .returned (.tuple #[.int .i64 z,.bool true])∧But [] w w':=by
 have hsz : t.size ≤ 18:=by
  rw [ht,itoa_of z h0]
  have:=digits_len 15 z.toNat (by omega)
  show (Lib.decDigits z.toNat).toArray.size ≤ 18
  simp
  omega
 have hat : Lib.atoi t.data.toList = some z:=by rw [ht]; exact atoi_of z h0
 have AT : Hid (Calls Tryz.prog 184 #[.string t] w fun e w' => e = .returned (.tuple #[.int .i64 z,.nilIface])∧But [] w w') :=
  (Any.strconv_Atoi Tryz.lays172 t z hsz hat w).mono (by rintro e w' ⟨rfl,tt,rfl⟩; exact ⟨rfl,but_bytesT _ _ _⟩)
 have IT : Hid (∀ W,But [] w W→Calls Tryz.prog 87 #[.int .i64 z] W fun e w' => e = .returned (.string t)∧But [] W w'):=fun W hW => by
  have h:=Any.strconv_Itoa Tryz.laysM171 z (by omega) (by omega) W (TabIs.but htab hW)
  rw [← ht] at h
  exact h.mono (by rintro e w' ⟨rfl,k,os,rfl⟩; exact ⟨rfl,but_growT _ _ _⟩)
 clear htab hat hsz ht
 go_enter Tryz.func138,Tryz.ntmps138
 go_wp2_with fail
 refine (unhide AT).mono ?_
 rintro e w1 ⟨rfl,hb1⟩
 have B1:=hide hb1
 clear hb1 AT
 go_wp2_with fail
 refine (unhide IT _ (unhide B1)).mono ?_
 rintro e w2 ⟨rfl,hb2⟩
 have B2:=hide ((unhide B1).trans' hb2)
 clear hb2
 go_wp2
 exact bodyPost_ret (v:=.tuple #[.int .i64 z,.bool true]) (by simp [results,Tryz.results138,go_sem]) rfl ⟨rfl,unhide B2⟩
end Go.Proofs.YtjbboicccddhbaaGreatDoor

namespace Go.Proofs.YtjbboicccddhbaaGreatDoor
open Go.RowKit Go.Shelf
set_option linter.unusedVariables false
attribute [local go_sem] Oper.semAt_some

/-- all blocks below a bound, but some, stay as they are -/
def KeptT (n₀ : Nat) (gs : List Nat) (A B : World) : Prop:=∀ k,k < n₀→k ∉ gs→B.heap[k]? = A.heap[k]?
theorem KeptT.refl (n₀ : Nat) (gs : List Nat) (A : World) : KeptT n₀ gs A A:=fun _ _ _ => rfl
theorem KeptT.trans {n₀ : Nat} {gs : List Nat} {A B C : World} (h : KeptT n₀ gs A B) (k : KeptT n₀ gs B C) : KeptT n₀ gs A C:=fun i h1 h2 => (k i h1 h2).trans (h i h1 h2)
theorem KeptT.cell {n₀ : Nat} {gs : List Nat} {A B : World} (h : KeptT n₀ gs A B) {p : Addr} (hp : p.block < n₀) (hn : p.block ∉ gs) : B.cell? p = A.cell? p:=World.cell?_of_block (w:=A) (h p.block hp hn)
theorem KeptT.put {n₀ : Nat} {gs : List Nat} (W : World) (l : Nat) (o : Obj) (hl : n₀ ≤ l) : KeptT n₀ gs W (W.putObj l o):=fun k hk _ => World.putObj_heap_other (by omega)
theorem KeptT.drewN (n₀ : Nat) (gs : List Nat) (A : World) (k : Nat) : KeptT n₀ gs A (A.drewN k):=fun _ _ _ => rfl

/-- words with one sign between -/
def jn (d : UInt8) : List (List UInt8)→List UInt8
 | [] => []
 | [x] => x
 | x :: y :: l => x ++ d :: jn d (y :: l)
/-- what stands behind a word -/
def tlw (d : UInt8) (l : List (List UInt8)) : List UInt8:=match l with
 | [] => []
 | y :: l => d :: jn d (y :: l)
theorem jn_cons (d : UInt8) (x : List UInt8) (l : List (List UInt8)) : jn d (x :: l) = x ++ tlw d l:=by
 cases l with
 | nil => simp [jn,tlw]
 | cons y l => rfl
/-- what is left ahead of the k-th word -/
def tailK (d : UInt8) (ws : List (List UInt8)) (k : Nat) : List UInt8:=if k = 0 then jn d ws else tlw d (ws.drop k)
theorem drop_cons {α : Type} (l : List α) (k : Nat) (h : k < l.length) : l.drop k = l[k] :: l.drop (k + 1):=List.drop_eq_getElem_cons h
theorem jn_drop (d : UInt8) (ws : List (List UInt8)) (k : Nat) (h : k < ws.length) : jn d (ws.drop k) = ws[k] ++ tailK d ws (k + 1):=by
 rw [drop_cons ws k h,jn_cons]
 unfold tailK
 rw [if_neg (by omega)]
theorem tail_trim (d : UInt8) (ws : List (List UInt8)) (k : Nat) (h : k < ws.length) : tailK d ws k = jn d (ws.drop k) ∨ tailK d ws k = d :: jn d (ws.drop k):=by
 unfold tailK
 by_cases h0 : k = 0
 ·subst h0; left; simp
 ·right
  rw [if_neg h0,drop_cons ws k h]
  rfl
theorem tail_end (d : UInt8) (ws : List (List UInt8)) : tailK d ws ws.length = []:=by
 unfold tailK
 cases ws with
 | nil => rfl
 | cons x l => rw [if_neg (by simp)]; simp [tlw]
theorem tail_suffix (d : UInt8) (ws : List (List UInt8)) : ∀ k,k ≤ ws.length→∃ p,jn d ws = p ++ tailK d ws k
 | 0,_ => ⟨[],rfl⟩
 | k + 1,h => by
  obtain ⟨p,hp⟩:=tail_suffix d ws k (by omega)
  have hd:=jn_drop d ws k (by omega)
  rcases tail_trim d ws k (by omega) with e | e
  ·exact ⟨p ++ ws[k],by rw [hp,e,hd,List.append_assoc]⟩
  ·exact ⟨p ++ d :: ws[k],by rw [hp,e,hd,List.append_assoc]; rfl⟩
/-- where the k-th word begins -/
def posW (d : UInt8) (ws : List (List UInt8)) (k : Nat) : Nat:=(jn d ws).length - (jn d (ws.drop k)).length
theorem trim_tail (d : UInt8) (ws : List (List UInt8)) (k : Nat) (h : k ≤ ws.length) (hw : ∀ x ∈ ws,x ≠ []∧d ∉ x) : Lib.trimLeftB (tailK d ws k) d = jn d (ws.drop k):=by
 rcases Nat.lt_or_ge k ws.length with hk | hk
 ·have hx:=hw _ (List.getElem_mem hk)
  have hd:=jn_drop d ws k hk
  obtain ⟨a,l,ea⟩ : ∃ a l,ws[k] = a :: l:=by
   cases e : ws[k] with
   | nil => exact absurd e hx.1
   | cons a l => exact ⟨a,l,rfl⟩
  have hne : ¬ a = d:=fun e => hx.2 (by rw [ea,e]; simp)
  have hb : (a == d) = false:=by rw [beq_eq_false_iff_ne]; exact hne
  have hj : Lib.trimLeftB (jn d (ws.drop k)) d = jn d (ws.drop k):=by
   rw [hd,ea]
   simp [Lib.trimLeftB,hne]
  rcases tail_trim d ws k hk with e | e
  ·rw [e,hj]
  ·rw [e]
   unfold Lib.trimLeftB at hj ⊢
   rw [List.dropWhile_cons_of_pos (by simp)]
   exact hj
 ·obtain rfl : k = ws.length:=by omega
  rw [tail_end]
  simp [Lib.trimLeftB,jn]
end Go.Proofs.YtjbboicccddhbaaGreatDoor

namespace Go.Proofs.YtjbboicccddhbaaGreatDoor
open Go.RowKit Go.Shelf
set_option linter.unusedVariables false
attribute [local go_sem] Oper.semAt_some

theorem take_snoc (n k : Nat) (h : k < n) : (List.finRange n).take (k + 1) = (List.finRange n).take k ++ [⟨k,h⟩]:=by
 rw [List.take_add_one,List.getElem?_eq_getElem (by simpa using h)]
 simp
theorem str_eq (t : ByteArray) (l : List UInt8) (h : t.data.toList = l) : t = ⟨l.toArray⟩:=by
 rw [← h]
end Go.Proofs.YtjbboicccddhbaaGreatDoor

namespace Go.Proofs.YtjbboicccddhbaaGreatDoor
open Go.RowKit Go.Shelf
set_option linter.unusedVariables false
attribute [local go_sem] Oper.semAt_some

theorem cut_line (d : UInt8) (ls : List (List UInt8)) (k : Nat) (h : k < ls.length) (hl : ∀ x ∈ ls,d ∉ x) : Lib.cut (jn d (ls.drop k)) [d] = (ls[k],jn d (ls.drop (k + 1)),decide (k + 1 < ls.length)):=by
 have hx:=hl _ (List.getElem_mem h)
 rw [jn_drop d ls k h]
 unfold tailK
 rw [if_neg (by omega)]
 cases e : ls.drop (k + 1) with
 | nil =>
  have : ls.length ≤ k + 1:=List.drop_eq_nil_iff.1 e
  rw [decide_eq_false (by omega)]
  show Lib.cut (ls[k] ++ []) [d] = _
  rw [List.append_nil,cut_none d _ hx]
  rfl
 | cons y l =>
  have : k + 1 < ls.length:=by
   rcases Nat.lt_or_ge (k + 1) ls.length with h' | h'
   ·exact h'
   ·rw [List.drop_eq_nil_iff.2 h'] at e
    simp at e
  rw [decide_eq_true this]
  exact cut_behind d ls[k] (jn d (y :: l)) hx
theorem pos_next (d : UInt8) (ls : List (List UInt8)) (k : Nat) (h : k + 1 < ls.length) : posW d ls k + (ls[k].length + 1) = posW d ls (k + 1):=by
 obtain ⟨q,hq⟩:=tail_suffix d ls (k + 1) (by omega)
 have e1 : tailK d ls (k + 1) = d :: jn d (ls.drop (k + 1)):=by
  unfold tailK
  rw [if_neg (by omega),drop_cons ls (k + 1) h]
  rfl
 have hd : (jn d (ls.drop k)).length = ls[k].length + (tailK d ls (k + 1)).length:=by rw [jn_drop d ls k (by omega),List.length_append]
 obtain ⟨p,hp⟩:=tail_suffix d ls k (by omega)
 have h2 : (tailK d ls k).length = (jn d (ls.drop k)).length ∨ (tailK d ls k).length = (jn d (ls.drop k)).length + 1:=by
  rcases tail_trim d ls k (by omega) with e | e <;> rw [e] <;> simp
 have hl : (jn d ls).length = p.length + (tailK d ls k).length:=by rw [hp,List.length_append]
 rw [e1] at hd
 unfold posW
 simp only [List.length_cons] at hd
 omega
theorem len_drop (d : UInt8) (ls : List (List UInt8)) (k : Nat) (h : k < ls.length) : (jn d (ls.drop k)).length ≤ (jn d ls).length∧ls[k].length ≤ (jn d ls).length:=by
 obtain ⟨p,hp⟩:=tail_suffix d ls k (by omega)
 have h2 : (tailK d ls k).length = (jn d (ls.drop k)).length ∨ (tailK d ls k).length = (jn d (ls.drop k)).length + 1:=by
  rcases tail_trim d ls k h with e | e <;> rw [e] <;> simp
 have hl : (jn d ls).length = p.length + (tailK d ls k).length:=by rw [hp,List.length_append]
 have hd : (jn d (ls.drop k)).length = ls[k].length + (tailK d ls (k + 1)).length:=by rw [jn_drop d ls k h,List.length_append]
 omega
set_option maxRecDepth 100000 in
set_option maxHeartbeats 8000000 in
theorem lines1_in (n : Nat) (hn : 1 ≤ n) (l Bs n₀ : Nat) (gs : List Nat) (ls : List (List UInt8)) (t : ByteArray) (ht : t.data.toList = jn 10 ls) (h1 : 0 < ls.length) (hl : ∀ x ∈ ls,(10 : UInt8) ∉ x) (hts : t.size ≤ 50000) (mx : Int) (J Jx : List (Fin ls.length)→World→Prop)
  (hJ : ∀ pre W W',J pre W→But [] W W'→J pre W')
  (hY : ∀ pre (x : Fin ls.length) W,J pre W→pre.length < ls.length→YieldAt Fence.wide (n - 1) Tryz.prog l #[.int .i64 ((posW 10 ls x.1 : Nat) : Int),.string ⟨(ls[x.1]).toArray⟩] W fun e W' =>
   (e = .returned (.bool true)∧J (pre ++ [x]) W'∧KeptT n₀ gs W W') ∨ (e = .returned (.bool false)∧Jx (pre ++ [x]) W'))
  (W : World) (hn₀ : n₀ ≤ W.heap.size) (hBs : W.cell? ⟨Bs,0,none⟩ = some (.string t)) (hBn : Bs < n₀) (hBg : Bs ∉ gs) (hm : W.cell? ⟨5,0,none⟩ = some (.int .i64 mx)) (hmn : 5 < n₀) (hmg : 5 ∉ gs) (h0 : J [] W) :
  CallsIn Fence.wide n Tryz.prog 130 #[.func (.yield l) #[] #[],.pointer (some ⟨Bs,0,none⟩)] W fun e W' => (∃ v,e = .returned v) ∧
   ((∃ ys,ys = List.finRange ls.length∧J ys W') ∨ (∃ pre,True∧Jx pre W')):=by
 have htl : t.size = (jn 10 ls).length:=by rw [← ht]; simp
 have HL:=hide hl
 have HT:=hide ht
 have HTL:=hide htl
 have HJ:=hide hJ
 have HY:=hide hY
 clear hl ht htl hJ hY
 refine callsIn_of_wp Tryz.func130 rfl trivial ?_ rfl
 simp only [Tryz.ntmps130,List.size_toArray,List.length_cons,List.length_nil,Nat.reduceAdd,Nat.reduceSub,Array.replicate_succ,Array.replicate_zero,List.push_toArray,List.append_toArray,List.nil_append,List.cons_append]
 gi_wp2
 refine wpIn_wide.2 (lines_region0 0 _ _ W t (by simp) Bs (by simp [Act.eval]) hBs ?_)
 intro w0 hb0
 simp only [putted,List.foldl_cons,List.foldl_nil,Act.put,List.setIfInBounds_toArray,List.set_cons_zero,List.set_cons_succ]
 have J0 : Hid (J [] w0):=unhide HJ _ _ _ h0 hb0
 have K0 : Hid (KeptT n₀ gs W w0):=fun k hk _ => hb0.block k (by omega) (by simp)
 clear hb0 h0
 gi_wp2
 gi_loopw [3,4,5] (fun i r m wr => ∃ k : Nat,k ≤ ls.length∧(∃ pl : Nat,i = .int .i64 (pl : Int)∧pl ≤ 60000∧Hid (k < ls.length→pl = posW 10 ls k))∧(∃ rest : ByteArray,r = .string rest∧Hid (rest = ⟨(jn 10 (ls.drop k)).toArray⟩))∧(∃ mo : Bool,m = .bool mo∧Hid (mo = decide (k < ls.length)))∧J ((List.finRange ls.length).take k) wr∧KeptT n₀ gs W wr) (fun i _ _ _ => 60002 - (intOf i).toNat)
 case atStart => exact ⟨0,Nat.zero_le _,⟨0,rfl,by omega,fun _ => by unfold posW; simp⟩,⟨t,rfl,by show t = _; rw [List.drop_zero]; exact str_eq t _ (unhide HT)⟩,⟨true,rfl,by show true = _; rw [decide_eq_true h1]⟩,unhide J0,unhide K0⟩
 case round =>
  obtain ⟨k,hk,⟨pl,rfl,hpl,HP⟩,⟨rest,rfl,HR⟩,⟨mo,rfl,HM⟩,hJs,hnx⟩:=hrel
  rename World => wr
  have hm':=(hnx.cell (p:=⟨5,0,none⟩) hmn hmg).trans hm
  by_cases hlt : k < ls.length
  ·obtain rfl : mo = true:=by rw [unhide HM]; exact decide_eq_true hlt
   have hps : pl = posW 10 ls k:=unhide HP hlt
   obtain ⟨ld1,ld2⟩:=len_drop 10 ls k hlt
   have hrs : rest.size = (jn 10 (ls.drop k)).length:=by rw [unhide HR]; rfl
   have hcut:=cut_line 10 ls k hlt (unhide HL)
   obtain ⟨line,hline⟩ : ∃ line : ByteArray,line = ⟨(ls[k]).toArray⟩:=⟨_,rfl⟩
   obtain ⟨rest2,hrest2⟩ : ∃ rest2 : ByteArray,rest2 = ⟨(jn 10 (ls.drop (k + 1))).toArray⟩:=⟨_,rfl⟩
   obtain ⟨mo2,hmo2⟩ : ∃ mo2,mo2 = decide (k + 1 < ls.length):=⟨_,rfl⟩
   have CU : Hid (∀ W2,W2.cell? ⟨5,0,none⟩ = some (.int .i64 mx)→Calls Tryz.prog 131 #[.string rest,.string ⟨#[10]⟩] W2 fun e w' => e = .returned (.tuple #[.string line,.string rest2,.bool mo2])∧∃ q,w' = W2.drewN q):=fun W2 h2 => by
    have h:=Any.strings_Cut Tryz.lays145 rest ⟨#[10]⟩ mx W2 (by rw [hrs]; have:=unhide HTL; omega) h2
    rw [show rest.data.toList = jn 10 (ls.drop k) from by rw [unhide HR],show (⟨#[10]⟩ : ByteArray).data.toList = [10] from rfl,hcut,← hmo2] at h
    rw [hline,hrest2]
    exact h
   have hY' : Hid (∀ W2,J ((List.finRange ls.length).take k) W2→YieldAt Fence.wide (n - 1) Tryz.prog l #[.int .i64 (pl : Int),.string line] W2 fun e W' =>
     (e = .returned (.bool true)∧J ((List.finRange ls.length).take (k + 1)) W'∧KeptT n₀ gs W2 W') ∨ (e = .returned (.bool false)∧Jx ((List.finRange ls.length).take (k + 1)) W')):=fun W2 h2 => by
    rw [take_snoc _ k hlt,hline,hps]
    exact unhide HY _ ⟨k,hlt⟩ W2 h2 (by rw [List.length_take,List.length_finRange]; omega)
   have hls : line.size = ls[k].length:=by rw [hline]; rfl
   have NXP : Hid (k + 1 < ls.length→pl + (line.size + 1) = posW 10 ls (k + 1)):=fun h => by
    rw [hps,hls]
    exact pos_next 10 ls k h
   have hpb : pl ≤ 50000:=by
    rw [hps]
    unfold posW
    have:=unhide HTL
    omega
   have hlb : pl + line.size ≤ 50000:=by
    have e : (jn 10 (ls.drop k)).length = ls[k].length + (tailK 10 ls (k + 1)).length:=by rw [jn_drop 10 ls k hlt,List.length_append]
    have:=unhide HTL
    rw [hls,hps]
    unfold posW
    omega
   have HJS:=hide hJs
   have HNX:=hide hnx
   have HR2:=hide hrest2
   have HM2:=hide hmo2
   clear hps ld1 ld2 hrs hcut hline hrest2 hmo2 hls HP HR HM hJs hnx HY
   gi_wp2_with fail
   refine ⟨trivial,?_⟩
   refine (callsIn_wide.2 (unhide CU _ hm')).mono ?_
   rintro e w2 ⟨rfl,q,hw2⟩
   have J2 : Hid (J ((List.finRange ls.length).take k) w2):=by rw [hw2]; exact unhide HJ _ _ _ (unhide HJS) ⟨rfl,rfl,rfl,Nat.le_refl _,fun _ _ _ => rfl⟩
   have K2 : Hid (KeptT n₀ gs W w2):=by rw [hw2]; exact (unhide HNX).trans (KeptT.drewN _ _ _ q)
   obtain ⟨fn,tmps,assign,body,hy,hR⟩:=unhide hY' w2 (unhide J2)
   have HRR:=hide hR
   clear hw2 hm' hR hY' HJS CU
   gi_wp2_with fail
   refine (unhide HRR).mono ?_
   rintro e W3 (⟨rfl,hJ3,hk3⟩ | ⟨rfl,hJx3⟩)
   ·have HJ3:=hide hJ3
    have HK3:=hide hk3
    clear hJ3 hk3
    gi_wp2
    go_roundw
    case rel => exact ⟨k + 1,by omega,⟨pl + (line.size + 1),by go_num,by omega,unhide NXP⟩,⟨rest2,rfl,unhide HR2⟩,⟨mo2,rfl,unhide HM2⟩,unhide HJ3,(unhide K2).trans (unhide HK3)⟩
    case measure =>
     simp [intOf]
     omega
   ·gi_wp2
    refine bodyPost_ret (results_none rfl _ _ _) rfl ?_
    exact ⟨⟨_,rfl⟩,.inr ⟨_,trivial,hJx3⟩⟩
  ·obtain rfl : k = ls.length:=by omega
   obtain rfl : mo = false:=by rw [unhide HM]; exact decide_eq_false hlt
   have hfin : Hid (J (List.finRange ls.length) wr):=by
    rw [List.take_of_length_le (by simp)] at hJs
    exact hJs
   clear hJs HY HP HR HM
   gi_wp2
   first | go_end0 | skip
   exact ⟨⟨_,rfl⟩,.inl ⟨_,rfl,unhide hfin⟩⟩

theorem grown_of_but {A B : World} (h : But [] A B) : A.grownBy B none:=⟨h.1,h.2,h.3,h.size,fun k hk _ => h.block k hk (by simp)⟩
theorem lines_stops (n : Nat) (hn : 1 ≤ n) (Bs n₀ : Nat) (gs : List Nat) (ls : List (List UInt8)) (t : ByteArray) (ht : t.data.toList = jn 10 ls) (h1 : 0 < ls.length) (hl : ∀ x ∈ ls,(10 : UInt8) ∉ x) (hts : t.size ≤ 50000) (mx : Int) (w : World) (hn₀ : n₀ ≤ w.heap.size)
  (hBs : w.cell? ⟨Bs,0,none⟩ = some (.string t)) (hBn : Bs < n₀) (hBg : Bs ∉ gs) (hm : w.cell? ⟨5,0,none⟩ = some (.int .i64 mx)) (hmn : 5 < n₀) (hmg : 5 ∉ gs) :
  SeqStopsK Fence.wide n Tryz.prog 130 #[.pointer (some ⟨Bs,0,none⟩)] (fun x : Fin ls.length => #[.int .i64 ((posW 10 ls x.1 : Nat) : Int),.string ⟨(ls[x.1]).toArray⟩]) (KeptT n₀ gs) (fun ys => ys = List.finRange ls.length) (fun _ => True) ls.length w:=fun l J Jx W hW hA _ hY h0 =>
 lines1_in n hn l Bs n₀ gs ls t ht h1 hl hts mx J Jx (fun pre W W' h hb => hA pre W _ none h (grown_of_but hb) (fun r e => by simp at e)) hY W (Nat.le_trans hn₀ hW.size) ((hW.cell (p:=⟨Bs,0,none⟩) (by show Bs < _; omega)).trans hBs) hBn hBg ((hW.cell (p:=⟨5,0,none⟩) (by show 5 < _; omega)).trans hm) hmn hmg h0
set_option maxHeartbeats 1000000 in
theorem lines_in (n : Nat) (t : ByteArray) (w : World) :
  CallsIn Fence.wide n Tryz.prog 77 #[.string t] w fun e w' => e = .returned (.func (.func 130) #[] #[.pointer (some ⟨w.heap.size,0,none⟩)])∧w' = w.alloc (.cells #[.string t] 9):=by
 refine callsIn_of_wp Tryz.func77 rfl trivial ?_ rfl
 simp only [Tryz.ntmps77,List.size_toArray,List.length_cons,List.length_nil,Nat.reduceAdd,Nat.reduceSub,Array.replicate_succ,Array.replicate_zero,List.push_toArray,List.append_toArray,List.nil_append,List.cons_append]
 gi_wp2
 go_ret
 exact ⟨rfl,rfl⟩
end Go.Proofs.YtjbboicccddhbaaGreatDoor

namespace Go.Proofs.YtjbboicccddhbaaGreatDoor
open Go.RowKit Go.Shelf
set_option linter.unusedVariables false
attribute [local go_sem] Oper.semAt_some

theorem wpListIn_app {F : Fence} {n : Nat} {P : Program} {w : World} {ops : Array Oper} {rest : List Oper} {o : Oper} {a : Act} {Q : Exit→Act→World→Prop} (hgd : o.guard = none) (s x : Operand) (t u : TypeId)
  (hop : o.op = .call { callee:=.builtin .append,args:=#[s,x],argTypes:=#[t,u] }) (vs vx v' : Value) (w' : World) (hs : a.eval s = vs) (hx : a.eval x = vx)
  (hr : (Builtin.append_ #[t,u] o.type #[vs,vx]).run P w = .ok v' w') (h : wpListIn F n P ops Q rest (a.put o.dst v') w') : wpListIn F n P ops Q (o :: rest) a w:=by
 refine wpListIn_plain hgd fun K hK' => ?_
 unfold Oper.wpIn
 refine ⟨?_,?_⟩
 ·simp [Oper.about,hop,resolve,Target.leads,Sem.run_pure]
 ·rw [Oper.semAt_plain F _ _ (by rw [hop]; intro c hc'; cases hc')]
  simp [execOp,hop,resolve,invoke,builtin,hs,hx,hr,Result.andThen]
  exact hK' _ _ h
theorem but_of_grownO {w w' : World} {row : Option Nat} (hg : w.grownBy w' row) : But row.toList w w' :=
 ⟨hg.os,hg.tape,hg.output,hg.size,fun j hj hn => hg.block j hj (by
  rintro rfl
  simp at hn)⟩
theorem keeps_of_butL {W V : World} {l : List Nat} (hb : But l W V) (hc : ∀ g ∈ l,∃ cur T,W.heap[g]? = some (.cells cur T (0,0))) (B n₀ b : Nat) (hn : n₀ ≤ W.heap.size) (hl : ∀ g ∈ l,g = b ∨ n₀ ≤ g) : KeepsFrom B W V∧KeptT n₀ [b] W V :=
 ⟨⟨hb.size,fun k o _ hk ho => by
  refine (hb.block k (Array.getElem?_eq_some_iff.1 hk).1 (fun hm => ?_)).trans hk
  obtain ⟨cur,T,h⟩:=hc k hm
  rw [hk] at h
  obtain rfl:=Option.some.inj h
  simp [Obj.isCells] at ho⟩,fun k hk hne => hb.block k (by omega) (fun hm => by
  rcases hl k hm with e | e
  ·exact hne (by simp [e])
  ·omega)⟩
theorem calm_all {A B : World} {row : Option Nat} (hg : A.grownBy B row) (hr : ∀ r,row = some r→∃ o : Obj,A.heap[r]? = some o∧o.isCells = false) (k : Nat) (o : Obj) (hk : A.heap[k]? = some o) (ho : o.isCells = true) : B.heap[k]? = some o:=by
 refine (hg.block k (Array.getElem?_eq_some_iff.1 hk).1 (fun e => ?_)).trans hk
 obtain ⟨o',h1,h2⟩:=hr k e.symm
 rw [hk] at h1
 obtain rfl:=Option.some.inj h1
 rw [ho] at h2
 simp at h2
end Go.Proofs.YtjbboicccddhbaaGreatDoor

namespace Go.Proofs.YtjbboicccddhbaaGreatDoor
open Go.RowKit Go.Shelf
set_option linter.unusedVariables false
attribute [local go_sem] Oper.semAt_some

theorem jn_not (d b : UInt8) (hb : b ≠ d) : ∀ ws : List (List UInt8),(∀ x ∈ ws,b ∉ x)→b ∉ jn d ws
 | [],_ => by simp [jn]
 | x :: l,h => by
  rw [jn_cons]
  intro hm
  rcases List.mem_append.1 hm with e | e
  ·exact h x (by simp) e
  ·cases l with
   | nil => simp [tlw] at e
   | cons y l =>
    simp only [tlw,List.mem_cons] at e
    rcases e with e | e
    ·exact hb e
    ·exact jn_not d b hb (y :: l) (fun z hz => h z (by simp [hz])) e
end Go.Proofs.YtjbboicccddhbaaGreatDoor
