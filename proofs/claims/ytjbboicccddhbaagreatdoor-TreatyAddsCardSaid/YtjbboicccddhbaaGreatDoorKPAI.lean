/- Rows of whole numbers of the call's own. -/
import Derived.Test.YtjbboicccddhbaaGreatDoorProg
import Derived.Laws.MakeOwn
import Derived.Shelf.Strconv.Clone
import Derived.Test.YtjbboicccddhbaaGreatDoorKPTL
namespace Go.Proofs.YtjbboicccddhbaaGreatDoor
open Go.RowKit

theorem setCell_is (w : World) (g k : Nat) (v : Value) : w.setCell ⟨g,k,none⟩ v = w.setCells g k [v]:=rfl
/-- block g holds n whole numbers, and may be written -/
structure IRow (w : World) (g n : Nat) (F : Nat→Int) : Prop where
 cells : ∀ k,k < n→w.cell? ⟨g,k,none⟩ = some (.int .i64 (F k))
 loose : ∀ j,w.frozen? ⟨g,j,none⟩ = false
 lt : g < w.heap.size
theorem IRow.but {w w' : World} {g n : Nat} {F : Nat→Int} {l : List Nat} (h : IRow w g n F) (hb : But l w w') (hn : g ∉ l) : IRow w' g n F :=
 ⟨fun k hk => hb.cell_some (h.cells k hk) hn,fun j => (hb.frozen (p:=⟨g,j,none⟩) h.lt hn).trans (h.loose j),Nat.lt_of_lt_of_le h.lt hb.size⟩
def updI (F : Nat→Int) (k : Nat) (z : Int) : Nat→Int:=fun i => if i = k then z else F i
theorem updI_self (F : Nat→Int) (k : Nat) (z : Int) : updI F k z k = z:=by simp [updI]
theorem updI_ne (F : Nat→Int) {k i : Nat} (z : Int) (h : i ≠ k) : updI F k z i = F i:=by simp [updI,h]
theorem IRow.put {w : World} {g n : Nat} {F : Nat→Int} (h : IRow w g n F) (k : Nat) (hk : k < n) (z : Int) : IRow (w.setCell ⟨g,k,none⟩ (.int .i64 z)) g n (updI F k z):=by
 rw [setCell_is]
 refine ⟨fun i hi => ?_,fun j => by rw [World.frozen?_setCells]; exact h.loose j,Nat.lt_of_lt_of_le h.lt (but_setCells w g _ k).size⟩
 by_cases e : i = k
 ·subst e
  have e1:=World.cell?_setCells_in g [.int .i64 z] i w (fun j hj => by
   obtain rfl : j = 0:=by simpa using hj
   rw [Nat.add_zero,h.cells i hi]; rfl) 0 (by simp)
  rw [Nat.add_zero] at e1
  rw [e1,updI_self]
  rfl
 ·rw [World.cell?_setCells_out g _ _ _ _ (fun _ _ => by simp only [List.length_cons,List.length_nil]; omega),updI_ne F z e]
  exact h.cells i hi
theorem IRow.put_but (w : World) (g k : Nat) (z : Int) : But [g] w (w.setCell ⟨g,k,none⟩ (.int .i64 z)):=by rw [setCell_is]; exact but_setCells w g _ k
theorem made_oneA (z : Value) (n k : Nat) (h : k < n) : (madeCells #[z] n)[k]? = some z:=by
 unfold madeCells
 rw [Array.getElem?_map,Array.getElem?_eq_getElem (by simpa using h),Array.getElem_range,Option.map_some]
 have e : k % (#[z] : Array Value).size = 0:=by simp [Nat.mod_one]
 rw [e]
 rfl
theorem IRow.made (w : World) (n : Nat) (t : TypeId) : IRow (w.alloc (.cells (madeCells #[.int .i64 0] n) t)) w.heap.size n (fun _ => 0) :=
 ⟨fun k hk => by rw [World.cell?_alloc_new,made_oneA _ n k hk],fun j => by simp,by simp⟩
theorem info_intA : ∃ i,Tryz.prog.info? 3 = some i∧i.zero = some (.int .i64 0)∧i.size = 1∧i.bytes = 8:=by
 have h : (Tryz.prog.info? 3).map (fun i => (i.zero,i.size,i.bytes)) = some (some (.int .i64 0),1,8):=by kernel_rfl
 cases e : Tryz.prog.info? 3 with
 | none => rw [e] at h; simp at h
 | some i =>
  rw [e] at h
  simp only [Option.map_some,Option.some.injEq,Prod.mk.injEq] at h
  exact ⟨i,rfl,h.1,h.2.1,h.2.2⟩
theorem run_makeI (wx : World) (n : Nat) (h : n < 1000000) : (Instr.makeSlice 53 (.int .i64 (n : Int)) (.int .i64 (n : Int))).run Tryz.prog wx = .ok (.slice (some ⟨wx.heap.size,0,none⟩) n n) (wx.alloc (.cells (madeCells #[.int .i64 0] n) 3)):=by
 obtain ⟨ti,hi,hz,hs,hbt⟩:=info_intA
 have hmk:=run_make (P:=Tryz.prog) wx 53 3 ti _ Tryz.underlying53 hi hz .i64 .i64 (n : Int) (n : Int) (by omega) (by omega) (by rw [hbt]; omega) (by omega)
 rw [hs,Int.toNat_natCast,Nat.mul_one] at hmk
 exact hmk
/-- a row of noughts, new -/
structure NewI (B : Nat) (w : World) (g n : Nat) : Prop where
 row : IRow w g n (fun _ => 0)
 new : B ≤ g
theorem NewI.but {B : Nat} {w w' : World} {g n : Nat} (h : NewI B w g n) (hb : But [] w w') : NewI B w' g n:=⟨h.row.but hb (by simp),h.new⟩
theorem NewI.lt {B : Nat} {w : World} {g n : Nat} (h : NewI B w g n) : g < w.heap.size:=h.row.lt
/-- a box of so many cells, new -/
structure NewB (B : Nat) (w : World) (g : Nat) (vs : List Value) : Prop where
 cells : ∀ k v,vs[k]? = some v→w.cell? ⟨g,k,none⟩ = some v
 loose : ∀ j,w.frozen? ⟨g,j,none⟩ = false
 new : B ≤ g
 lt : g < w.heap.size
theorem NewB.but {B : Nat} {w w' : World} {g : Nat} {vs : List Value} (h : NewB B w g vs) (hb : But [] w w') : NewB B w' g vs :=
 ⟨fun k v hv => hb.cell_some (h.cells k v hv) (by simp),fun j => (hb.frozen (p:=⟨g,j,none⟩) h.lt (by simp)).trans (h.loose j),h.new,Nat.lt_of_lt_of_le h.lt hb.size⟩
theorem NewB.made (B : Nat) (w : World) (vs : List Value) (t : TypeId) (h : B ≤ w.heap.size) : NewB B (w.alloc (.cells vs.toArray t)) w.heap.size vs :=
 ⟨fun k v hv => by rw [World.cell?_alloc_new]; simpa using hv,fun j => by simp,h,by simp⟩
end Go.Proofs.YtjbboicccddhbaaGreatDoor

namespace Go.Proofs.YtjbboicccddhbaaGreatDoor
open Go.RowKit Go.Shelf
set_option linter.unusedVariables false

/-- a word as a value -/
def strV (x : List UInt8) : Value:=.string ⟨x.toArray⟩
/-- a row of words of the call's own -/
def OwnS (w : World) (base : Nat) (v : Value) (ws : List (List UInt8)) : Prop:=w.ownsRow base 9 1 v ws.length (ws.map strV)
theorem OwnS.nil (w : World) (base : Nat) : OwnS w base (.slice none 0 0) []:=World.ownsRow_nil _ _ _ _
theorem OwnS.but {w w' : World} {base : Nat} {v : Value} {ws : List (List UInt8)} (h : OwnS w base v ws) (hb : But [] w w') : OwnS w' base v ws:=ownsRow_but h hb
theorem OwnS.form {w : World} {base : Nat} {v : Value} {ws : List (List UInt8)} (h : OwnS w base v ws) : ∃ a c,v = .slice a ws.length c:=ownsRow_form h
/-- words that lie in memory -/
def WordsAt (w : World) (v : Value) (ws : List (List UInt8)) : Prop:=∃ a cap,v = .slice a ws.length cap∧∀ i x,ws[i]? = some x→∃ b off,a = some ⟨b,off,none⟩∧w.cell? ⟨b,off + i,none⟩ = some (strV x)
theorem OwnS.words {w : World} {base : Nat} {v : Value} {ws : List (List UInt8)} (h : OwnS w base v ws) : WordsAt w v ws:=by
 rcases h.2 with ⟨rfl,h0⟩ | ⟨g,cap,cur,rfl,h1,h2,h3,-⟩
 ·have : ws = []:=List.length_eq_zero_iff.1 h0
  subst this
  exact ⟨none,0,rfl,fun i x hx => by simp at hx⟩
 ·refine ⟨_,cap,rfl,fun i x hx => ⟨g,0,rfl,?_⟩⟩
  have hi:=(List.getElem?_eq_some_iff.1 hx).1
  rw [Nat.zero_add,h.cellAt i (by omega),List.getElem?_map,hx]
  rfl
theorem info_str : ∃ i,Tryz.prog.info? 9 = some i∧i.zero = some (.string ⟨#[]⟩)∧i.size = 1∧i.bytes = 16:=by
 have h : (Tryz.prog.info? 9).map (fun i => (i.zero,i.size,i.bytes)) = some (some (.string ⟨#[]⟩),1,16):=by kernel_rfl
 cases e : Tryz.prog.info? 9 with
 | none => rw [e] at h; simp at h
 | some i =>
  rw [e] at h
  simp only [Option.map_some,Option.some.injEq,Prod.mk.injEq] at h
  exact ⟨i,rfl,h.1,h.2.1,h.2.2⟩
theorem append_str (w : World) (base : Nat) (v : Value) (ws : List (List UInt8)) (hown : OwnS w base v ws) (g : Nat) (x : List UInt8) (c : w.cell? ⟨g,0,none⟩ = some (strV x)) (hk : ws.length < 1000000) (hb : base ≤ w.heap.size) :
  ∃ v' w',(Builtin.append_ #[132,132] 132 #[v,.slice (some ⟨g,0,none⟩) 1 1]).run Tryz.prog w = .ok v' w'∧OwnS w' base v' (ws ++ [x])∧w.grownBy w' v.ownBlock:=by
 obtain ⟨i0,hi,hz0,hz1,hz2⟩:=info_str
 obtain ⟨v',w',hr,ho,hg,-⟩:=run_append_own (P:=Tryz.prog) w base 132 132 9 i0 _ 1 16 Tryz.underlying132 hi hz0 hz1 hz2 rfl (by decide) v ws.length (ws.map strV) hown ⟨g,0,none⟩ 1 1 [strV x] rfl (fun j u hj => by
   cases j with
   | zero => simp at hj; subst hj; exact c
   | succ j => simp at hj) (fun u hu => by
   simp only [List.mem_cons,List.not_mem_nil,or_false] at hu
   subst hu
   rfl) (by unfold maxLen; omega) (by omega) hb
 refine ⟨v',w',hr,?_,hg⟩
 unfold OwnS at *
 rw [List.length_append,List.map_append]
 exact ho
theorem trim_jn (d : UInt8) (ws : List (List UInt8)) (hw : ∀ x ∈ ws,x ≠ []∧d ∉ x) : Lib.trimLeftB (jn d ws) d = jn d ws:=by
 have h:=trim_tail d ws 0 (by omega) hw
 unfold tailK at h
 rw [if_pos rfl,List.drop_zero] at h
 exact h
theorem cut_next (d : UInt8) (ws : List (List UInt8)) (k : Nat) (hk : k ≤ ws.length) (hw : ∀ x ∈ ws,x ≠ []∧d ∉ x) : ∃ b,Lib.cut (jn d (ws.drop k)) [d] = (ws[k]?.getD [],jn d (ws.drop (k + 1)),b):=by
 rcases Nat.lt_or_ge k ws.length with h | h
 ·refine ⟨decide (k + 1 < ws.length),?_⟩
  rw [cut_line d ws k h (fun x hx => (hw x hx).2),List.getElem?_eq_getElem h]
  rfl
 ·refine ⟨false,?_⟩
  rw [List.drop_eq_nil_of_le h,List.drop_eq_nil_of_le (by omega),List.getElem?_eq_none h]
  exact cut_none d [] (by simp)
set_option maxHeartbeats 8000000 in
set_option maxRecDepth 100000 in
theorem cutNext_any (ws : List (List UInt8)) (hw : ∀ x ∈ ws,x ≠ []∧(32 : UInt8) ∉ x) (hs : (jn 32 ws).length ≤ 50000) (k : Nat) (hk : k ≤ ws.length) (g : Nat) (mx : Int) (w : World) (hb : Box1 w g 9 (strV (jn 32 (ws.drop k)))) (hm : w.cell? ⟨5,0,none⟩ = some (.int .i64 mx)) :
  Calls Tryz.prog 132 #[.pointer (some ⟨g,0,none⟩)] w fun e w' => e = .returned (strV (ws[k]?.getD []))∧Box1 w' g 9 (strV (jn 32 (ws.drop (k + 1))))∧But [g] w w':=by
 obtain ⟨bb,hcut⟩:=cut_next 32 ws k hk hw
 have hl : (jn 32 (ws.drop k)).length ≤ 50000:=by
  rcases Nat.lt_or_ge k ws.length with h | h
  ·have:=(len_drop 32 ws k h).1; omega
  ·rw [List.drop_eq_nil_of_le h]; simp [jn]
 obtain ⟨rest,hrest⟩ : ∃ rest : ByteArray,rest = ⟨(jn 32 (ws.drop k)).toArray⟩:=⟨_,rfl⟩
 obtain ⟨rest2,hrest2⟩ : ∃ rest2 : ByteArray,rest2 = ⟨(jn 32 (ws.drop (k + 1))).toArray⟩:=⟨_,rfl⟩
 obtain ⟨word,hword⟩ : ∃ word : ByteArray,word = ⟨(ws[k]?.getD []).toArray⟩:=⟨_,rfl⟩
 have hrl : rest.data.toList = jn 32 (ws.drop k):=by rw [hrest]
 have TR : Hid (∀ W2,Calls Tryz.prog 133 #[.string rest,.string ⟨#[32]⟩] W2 fun e w' => e = .returned (.string rest)∧w' = W2):=fun W2 => by
  have h:=Any.strings_TrimLeft_one Tryz.lays161 rest 32 (by decide) W2
  rw [hrl,trim_jn 32 _ (fun x hx => hw x (List.mem_of_mem_drop hx)),← hrest] at h
  exact h
 have CU : Hid (∀ W2,W2.cell? ⟨5,0,none⟩ = some (.int .i64 mx)→Calls Tryz.prog 131 #[.string rest,.string ⟨#[32]⟩] W2 fun e w' => e = .returned (.tuple #[.string word,.string rest2,.bool bb])∧∃ q,w' = W2.drewN q):=fun W2 h2 => by
  have hsz : rest.size = (jn 32 (ws.drop k)).length:=by rw [hrest]; rfl
  have h:=Any.strings_Cut Tryz.lays145 rest ⟨#[32]⟩ mx W2 (by omega) h2
  rw [hrl,show (⟨#[32]⟩ : ByteArray).data.toList = [32] from rfl,hcut,← hrest2,← hword] at h
  exact h
 unfold strV at hb ⊢
 rw [← hrest] at hb
 rw [← hrest2,← hword]
 have c0:=hb.cell
 have fz:=hb.loose
 have HB:=hide hb
 have HM:=hide hm
 clear hcut hl hrest hrest2 hword hrl hb hm hw hs
 go_enter Tryz.func132,Tryz.ntmps132
 go_wp2_with fail
 refine (unhide TR _).mono ?_
 rintro e w1 ⟨rfl,h1⟩
 obtain rfl:=h1.symm
 clear h1 TR
 go_wp2_with fail
 refine (unhide CU _ (unhide HM)).mono ?_
 rintro e w2 ⟨rfl,q,rfl⟩
 have d0 : (w.drewN q).cell? ⟨g,0,none⟩ = some (.string rest):=c0
 have fz2 : ∀ o,(w.drewN q).frozen? ⟨g,o,none⟩ = false:=fz
 have HB2 : Hid (Box1 (w.drewN q) g 9 (.string rest)):=unhide HB
 have B2 : Hid (But [] w (w.drewN q)):=(But.refl _ _).drewN q
 clear CU
 generalize w.drewN q = V at *
 go_wp2
 have hS:=setCell_but V g (.string rest2)
 exact bodyPost_ret (v:=.string word) (by simp [results,Tryz.results132,go_sem]) rfl ⟨rfl,(unhide HB2).set _,((unhide B2).of_nil (l:=[g])).trans hS (fun x hx => .inl hx)⟩
end Go.Proofs.YtjbboicccddhbaaGreatDoor

namespace Go.Proofs.YtjbboicccddhbaaGreatDoor
open Go.RowKit Go.Shelf
set_option linter.unusedVariables false

def lenV : Value→Nat
 | .slice _ n _ => n
 | _ => 0
theorem OwnS.block {w : World} {base : Nat} {v : Value} {ws : List (List UInt8)} (h : OwnS w base v ws) : ∀ g ∈ v.ownBlock.toList,base ≤ g:=fun g hg => by
 rcases h.2 with ⟨rfl,-⟩ | ⟨g',cap,cur,rfl,q1,-⟩
 ·simp [Value.ownBlock] at hg
 ·simp only [Value.ownBlock,Option.toList_some,List.mem_cons,List.not_mem_nil,or_false] at hg
  subst hg
  exact q1
theorem OwnS.beside {w w' : World} {base : Nat} {v : Value} {ws : List (List UInt8)} {l : List Nat} (h : OwnS w base v ws) (hb : But l w w') (hn : ∀ g ∈ l,g < base) : OwnS w' base v ws:=by
 refine ⟨h.1,?_⟩
 rcases h.2 with e | ⟨g,cap,cur,e,h1,h2,h3⟩
 ·exact .inl e
 ·exact .inr ⟨g,cap,cur,e,h1,(hb.block g (Array.getElem?_eq_some_iff.1 h2).1 (fun hm => by have:=hn g hm; omega)).trans h2,h3⟩
theorem OwnS.mono {w : World} {base b2 : Nat} {v : Value} {ws : List (List UInt8)} (h : OwnS w base v ws) (hb : b2 ≤ base) : OwnS w b2 v ws:=by
 refine ⟨h.1,?_⟩
 rcases h.2 with e | ⟨g,cap,cur,e,h1,h2⟩
 ·exact .inl e
 ·exact .inr ⟨g,cap,cur,e,Nat.le_trans hb h1,h2⟩
set_option maxHeartbeats 16000000 in
set_option maxRecDepth 100000 in
theorem treatyCut_any (ws : List (List UInt8)) (hw : ∀ x ∈ ws,x ≠ []∧(32 : UInt8) ∉ x) (hs : (jn 32 ws).length ≤ 50000) (hn : ws.length ≤ 50000) (t : ByteArray) (ht : t = ⟨(jn 32 ws).toArray⟩) (mx : Int) (w : World) (hm : w.cell? ⟨5,0,none⟩ = some (.int .i64 mx)) :
  Calls Tryz.prog 78 #[.string t] w fun e w' => ∃ v,e = .returned v∧OwnS w' w.heap.size v ws∧But [] w w':=by
 have hmf : ∀ (fn : Fn) (first cap : Array Value) (w : World),(Instr.makeFunc fn first cap).run Tryz.prog w = .ok (.func fn first cap) w:=fun _ _ _ _ => rfl
 have CN:=hide (fun k hk g W hb hm => cutNext_any ws hw hs k hk g mx W hb hm)
 have gm:=lt_of_cell hm
 have B0 : Hid (Box1 (w.alloc (.cells #[.string t] 9)) w.heap.size 9 (strV (jn 32 (ws.drop 0)))):=by
  show Box1 _ _ _ _
  rw [List.drop_zero,ht]
  exact Box1.new w _ _
 have F0 : Hid (But [] w (w.alloc (.cells #[.string t] 9))):=(But.refl _ _).alloc _
 have S0 : Hid ((w.alloc (.cells #[.string t] 9)).heap.size = w.heap.size + 1):=by show _ = _; simp
 have M0 : Hid ((w.alloc (.cells #[.string t] 9)).cell? ⟨5,0,none⟩ = some (.int .i64 mx)):=((But.refl [] w).alloc _).cell_some hm (by simp)
 have HNE : Hid (∀ k,k < ws.length→(⟨(ws[k]?.getD []).toArray⟩ : ByteArray).toList.isEmpty = false):=fun k hk => by
  rw [ByteArray.toList_mk,List.getElem?_eq_getElem hk]
  have h1:=(hw _ (List.getElem_mem hk)).1
  simpa using h1
 have HM:=hide hm
 have GM:=hide gm
 clear hw hs ht hm gm
 go_enter Tryz.func78,Tryz.ntmps78
 go_wp2_with fail
 refine (unhide CN 0 (by omega) _ _ (unhide B0) (unhide M0)).mono ?_
 rintro e w1 ⟨rfl,hb1,hf1⟩
 have W1 : Hid (But [] w w1):=(unhide F0).trans hf1 (fun x hx => by simp at hx; subst hx; exact .inr (Nat.le_refl _))
 have S1 : Hid (w.heap.size + 1 ≤ w1.heap.size):=by show _ ≤ _; have:=unhide S0; have:=hf1.size; omega
 have HB1:=hide hb1
 obtain ⟨gB,hgB⟩ : ∃ gB,gB = w.heap.size:=⟨_,rfl⟩
 have HGB:=hide hgB
 rw [← hgB] at HB1 S1 ⊢
 clear hb1 hf1 F0 S0 M0 B0 hgB
 unfold strV
 go_wp2
 go_loopw [4,5] (fun v x wr => ∃ k : Nat,k ≤ ws.length∧(∃ wd : ByteArray,x = .string wd∧Hid (wd = ⟨(ws[k]?.getD []).toArray⟩))∧(∃ a c,v = .slice a k c)∧Hid (OwnS wr (gB + 1) v (ws.take k))∧Hid (Box1 wr gB 9 (strV (jn 32 (ws.drop (k + 1)))))∧Hid (But [] w wr)∧Hid (gB + 1 ≤ wr.heap.size)) (fun v _ _ => ws.length - lenV v)
 case atStart => exact ⟨0,Nat.zero_le _,⟨_,rfl,rfl⟩,⟨_,_,rfl⟩,OwnS.nil _ _,unhide HB1,unhide W1,unhide S1⟩
 case round =>
  obtain ⟨k,hk,⟨wd,rfl,HWD⟩,⟨a,c,rfl⟩,HO,HX,HF,HS⟩:=hrel
  rename World => wr
  clear HB1 W1 S1
  by_cases hlt : k < ws.length
  ·have hne : wd.toList.isEmpty = false:=by rw [unhide HWD]; exact unhide HNE k hlt
   have hwv : Value.string wd = strV (ws[k]?.getD []):=by rw [unhide HWD]; rfl
   have bV : But [] wr (wr.alloc (.cells #[.string wd] 9)):=(But.refl [] wr).alloc _
   have sV:=bV.size
   obtain ⟨v',w',hr,ho,hg⟩:=append_str (wr.alloc (.cells #[.string wd] 9)) (gB + 1) (.slice a k c) (ws.take k) ((unhide HO).but bV) wr.heap.size (ws[k]?.getD []) (by rw [← hwv]; simp) (by rw [List.length_take]; omega) (by have:=unhide HS; omega)
   have bG : But (Value.slice a k c).ownBlock.toList (wr.alloc (.cells #[.string wd] 9)) w':=but_of_grownO hg
   have hown:=((unhide HO).but bV).block
   have etk : ws.take k ++ [ws[k]?.getD []] = ws.take (k + 1):=by rw [List.take_add_one,List.getElem?_eq_getElem hlt]; rfl
   rw [etk] at ho
   have hx' : Box1 w' gB 9 (strV (jn 32 (ws.drop (k + 1)))):=((unhide HX).but bV).beside bG (fun hmm => by have:=hown _ hmm; omega)
   have hf' : But [] w w':=((unhide HF).trans' bV).trans bG (fun x hx => by
    have h1:=hown x hx
    have h2:=unhide HGB
    exact .inr (by omega))
   obtain ⟨a',c',ev⟩:=ho.form
   have hlk : (ws.take (k + 1)).length = k + 1:=by rw [List.length_take]; omega
   rw [hlk] at ev
   subst ev
   have HR : Hid ((Builtin.append_ #[132,132] 132 #[.slice a k c,.slice (some ⟨wr.heap.size,0,none⟩) 1 1]).run Tryz.prog (wr.alloc (.cells #[.string wd] 9)) = .ok (.slice a' (k + 1) c') w'):=hr
   have HO':=hide ho
   have HX':=hide hx'
   have HF':=hide hf'
   have HS' : Hid (gB + 1 ≤ w'.heap.size):=by show _ ≤ _; have:=unhide HS; have:=bG.size; omega
   have HM' : Hid (w'.cell? ⟨5,0,none⟩ = some (.int .i64 mx)):=hf'.cell_some (unhide HM) (by simp)
   clear hr ho hg bG hown etk hx' hf' hlk bV sV hwv HX HO HF HS
   go_wp2_with (at_builtin; refine wpList_app rfl _ _ 132 132 rfl _ _ (.slice a' (k + 1) c') w' rfl rfl (unhide HR) ?_)
   refine (unhide CN (k + 1) (by omega) gB w' (unhide HX') (unhide HM')).mono ?_
   rintro e w2 ⟨rfl,hb2,hf2⟩
   have HB2:=hide hb2
   have HO2:=hide ((unhide HO').beside hf2 (fun g hg => by simp at hg; omega))
   have HF2 : Hid (But [] w w2):=(unhide HF').trans hf2 (fun x hx => by simp at hx; subst hx; exact .inr (by have:=unhide HGB; omega))
   have HS2 : Hid (gB + 1 ≤ w2.heap.size):=Nat.le_trans (unhide HS') hf2.size
   clear hb2 hf2 HX' HM' HO' HF' HS'
   unfold strV
   go_wp2
   exact ⟨⟨k + 1,by omega,⟨_,rfl,rfl⟩,⟨_,_,rfl⟩,unhide HO2,unhide HB2,unhide HF2,unhide HS2⟩,by simp [lenV]; omega⟩
  ·obtain rfl : k = ws.length:=by omega
   have hne : wd.toList.isEmpty = true:=by
    rw [unhide HWD,ByteArray.toList_mk,List.getElem?_eq_none (Nat.le_refl _)]
    rfl
   have ho:=unhide HO
   rw [List.take_length] at ho
   have HO':=hide (ho.mono (show w.heap.size ≤ gB + 1 by have:=unhide HGB; omega))
   clear ho HO
   go_wp2
   exact bodyPost_ret (v:=.slice a ws.length c) (by simp [results,Tryz.results78,go_sem]) rfl ⟨_,rfl,unhide HO',unhide HF⟩
end Go.Proofs.YtjbboicccddhbaaGreatDoor

namespace Go.Proofs.YtjbboicccddhbaaGreatDoor
open Go.RowKit

/-- block g holds n of package treaty's Paid: a row of shares, and what is left -/
structure PRow (w : World) (g n : Nat) (V : Nat→Value) (F : Nat→Int) : Prop where
 one : ∀ k,k < n→w.cell? ⟨g,k * 2,none⟩ = some (V k)
 two : ∀ k,k < n→w.cell? ⟨g,k * 2 + 1,none⟩ = some (.int .i64 (F k))
 loose : ∀ j,w.frozen? ⟨g,j,none⟩ = false
 lt : g < w.heap.size
theorem PRow.but {w w' : World} {g n : Nat} {V : Nat→Value} {F : Nat→Int} {l : List Nat} (h : PRow w g n V F) (hb : But l w w') (hn : g ∉ l) : PRow w' g n V F :=
 ⟨fun k hk => hb.cell_some (h.one k hk) hn,fun k hk => hb.cell_some (h.two k hk) hn,fun j => (hb.frozen (p:=⟨g,j,none⟩) h.lt hn).trans (h.loose j),Nat.lt_of_lt_of_le h.lt hb.size⟩
def updV (F : Nat→Value) (k : Nat) (z : Value) : Nat→Value:=fun i => if i = k then z else F i
theorem PRow.put {w : World} {g n : Nat} {V : Nat→Value} {F : Nat→Int} (h : PRow w g n V F) (k : Nat) (hk : k < n) (v : Value) (z : Int) : PRow (w.setCells g (k * 2) [v,.int .i64 z]) g n (updV V k v) (updI F k z):=by
 have inn:=World.cell?_setCells_in g [v,.int .i64 z] (k * 2) w (fun j hj => by
  have : j = 0 ∨ j = 1:=by simp at hj; omega
  rcases this with rfl | rfl
  ·rw [Nat.add_zero,h.one k hk]; rfl
  ·rw [h.two k hk]; rfl)
 refine ⟨fun i hi => ?_,fun i hi => ?_,fun j => by rw [World.frozen?_setCells]; exact h.loose j,Nat.lt_of_lt_of_le h.lt (but_setCells w g _ _).size⟩
 ·by_cases e : i = k
  ·subst e
   have e1:=inn 0 (by simp)
   rw [Nat.add_zero] at e1
   rw [e1]
   simp [updV]
  ·rw [World.cell?_setCells_out g _ _ _ _ (fun _ _ => by simp only [List.length_cons,List.length_nil]; omega),h.one i hi]
   simp [updV,e]
 ·by_cases e : i = k
  ·subst e
   have e1:=inn 1 (by simp)
   rw [e1]
   simp [updI]
  ·rw [World.cell?_setCells_out g _ _ _ _ (fun _ _ => by simp only [List.length_cons,List.length_nil]; omega),h.two i hi]
   simp [updI,e]
theorem made_two (a b : Value) (n : Nat) (k : Nat) (h : k < n) : (madeCells #[a,b] (n * 2))[k * 2]? = some a∧(madeCells #[a,b] (n * 2))[k * 2 + 1]? = some b:=by
 unfold madeCells
 refine ⟨?_,?_⟩
 ·rw [Array.getElem?_map,Array.getElem?_eq_getElem (by simp <;> omega),Array.getElem_range,Option.map_some]
  have e : k * 2 % (#[a,b] : Array Value).size = 0:=by simp
  rw [e]
  rfl
 ·rw [Array.getElem?_map,Array.getElem?_eq_getElem (by simp <;> omega),Array.getElem_range,Option.map_some]
  have e : (k * 2 + 1) % (#[a,b] : Array Value).size = 1:=by simp <;> omega
  rw [e]
  rfl
theorem PRow.made (w : World) (n : Nat) (t : TypeId) : PRow (w.alloc (.cells (madeCells #[.slice none 0 0,.int .i64 0] (n * 2)) t)) w.heap.size n (fun _ => .slice none 0 0) (fun _ => 0) :=
 ⟨fun k hk => by rw [World.cell?_alloc_new,(made_two _ _ n k hk).1],fun k hk => by rw [World.cell?_alloc_new,(made_two _ _ n k hk).2],fun j => by simp,by simp⟩
theorem info_paid : ∃ i,Tryz.prog.info? 61 = some i∧i.zero = some (.agg #[.slice none 0 0,.int .i64 0])∧i.size = 2∧i.bytes = 32:=by
 have h : (Tryz.prog.info? 61).map (fun i => (i.zero,i.size,i.bytes)) = some (some (.agg #[.slice none 0 0,.int .i64 0]),2,32):=by kernel_rfl
 cases e : Tryz.prog.info? 61 with
 | none => rw [e] at h; simp at h
 | some i =>
  rw [e] at h
  simp only [Option.map_some,Option.some.injEq,Prod.mk.injEq] at h
  exact ⟨i,rfl,h.1,h.2.1,h.2.2⟩
theorem run_makeP (wx : World) (n : Nat) (h : n < 1000000) : (Instr.makeSlice 52 (.int .i64 (n : Int)) (.int .i64 (n : Int))).run Tryz.prog wx = .ok (.slice (some ⟨wx.heap.size,0,none⟩) n n) (wx.alloc (.cells (madeCells #[.slice none 0 0,.int .i64 0] (n * 2)) 61)):=by
 obtain ⟨ti,hi,hz,hs,hbt⟩:=info_paid
 have hmk:=run_make (P:=Tryz.prog) wx 52 61 ti _ Tryz.underlying52 hi hz .i64 .i64 (n : Int) (n : Int) (by omega) (by omega) (by rw [hbt]; omega) (by omega)
 rw [hs,Int.toNat_natCast] at hmk
 exact hmk
structure NewP (B : Nat) (w : World) (g n : Nat) : Prop where
 row : PRow w g n (fun _ => .slice none 0 0) (fun _ => 0)
 new : B ≤ g
theorem NewP.but {B : Nat} {w w' : World} {g n : Nat} (h : NewP B w g n) (hb : But [] w w') : NewP B w' g n:=⟨h.row.but hb (by simp),h.new⟩
theorem NewP.lt {B : Nat} {w : World} {g n : Nat} (h : NewP B w g n) : g < w.heap.size:=h.row.lt
/-- what parted leaves: a new row of shares, and what each line has borne -/
structure Parted (B : Nat) (w : World) (sh gb n : Nat) (ss bs : Nat→Int) : Prop where
 share : IRow w sh n ss
 new : B ≤ sh
 borne : IRow w gb n bs
/-- a box that is written whole -/
theorem NewB.put {B : Nat} {w : World} {g : Nat} {vs us : List Value} (h : NewB B w g vs) (hl : us.length = vs.length) : NewB B (w.setCells g 0 us) g us:=by
 refine ⟨fun k v hv => ?_,fun j => by rw [World.frozen?_setCells]; exact h.loose j,h.new,Nat.lt_of_lt_of_le h.lt (but_setCells w g _ _).size⟩
 have hk : k < us.length:=(List.getElem?_eq_some_iff.1 hv).1
 have e:=World.cell?_setCells_in g us 0 w (fun j hj => by
  rw [Nat.zero_add,h.cells j vs[j] (List.getElem?_eq_getElem (by omega))]; rfl) k hk
 rw [Nat.zero_add] at e
 rw [e,← (List.getElem?_eq_some_iff.1 hv).2]
/-- a box of which some cells are written -/
theorem NewB.putAt {B : Nat} {w : World} {g : Nat} {vs : List Value} (h : NewB B w g vs) (o : Nat) (us : List Value) (hl : o + us.length ≤ vs.length) : NewB B (w.setCells g o us) g (vs.take o ++ us ++ vs.drop (o + us.length)):=by
 refine ⟨fun k v hv => ?_,fun j => by rw [World.frozen?_setCells]; exact h.loose j,h.new,Nat.lt_of_lt_of_le h.lt (but_setCells w g _ _).size⟩
 have hto : (vs.take o).length = o:=by rw [List.length_take]; omega
 rcases Nat.lt_or_ge k o with h1 | h1
 ·rw [World.cell?_setCells_out g _ _ _ _ (fun _ _ => .inl h1)]
  rw [List.append_assoc,List.getElem?_append_left (by omega),List.getElem?_take_of_lt h1] at hv
  exact h.cells k v hv
 ·rcases Nat.lt_or_ge k (o + us.length) with h2 | h2
  ·have e:=World.cell?_setCells_in g us o w (fun j hj => by
    rw [h.cells (o + j) vs[o + j] (List.getElem?_eq_getElem (by omega))]; rfl) (k - o) (by omega)
   rw [show o + (k - o) = k by omega] at e
   rw [List.append_assoc,List.getElem?_append_right (by omega),hto,List.getElem?_append_left (by omega)] at hv
   rw [e,← (List.getElem?_eq_some_iff.1 hv).2]
  ·rw [World.cell?_setCells_out g _ _ _ _ (fun _ _ => .inr h2)]
   rw [List.append_assoc,List.getElem?_append_right (by omega),hto,List.getElem?_append_right (by omega),List.getElem?_drop,show o + us.length + (k - o - us.length) = k by omega] at hv
   exact h.cells k v hv
theorem NewB.beside {B : Nat} {w w' : World} {g : Nat} {vs : List Value} {l : List Nat} (h : NewB B w g vs) (hb : But l w w') (hn : g ∉ l) : NewB B w' g vs :=
 ⟨fun k v hv => hb.cell_some (h.cells k v hv) hn,fun j => (hb.frozen (p:=⟨g,j,none⟩) h.lt hn).trans (h.loose j),h.new,Nat.lt_of_lt_of_le h.lt hb.size⟩
end Go.Proofs.YtjbboicccddhbaaGreatDoor

namespace Go.Proofs
open Go.Shelf Go.RowKit
def Tryz.laysM316_ren : Go.Shelf.Ren := ⟨fun | 316 => 201 | n => n, fun | 0 => 0 | 3 => 3 | 4 => 4 | 5 => 5 | 9 => 9 | 37 => 123 | 127 => 185 | n => n, fun | n => n⟩
theorem Tryz.laysM316 : Go.Proofs.LaysM.n316 Tryz.prog Tryz.laysM316_ren := {
  mixed := by kernel_rfl
  f316 := Tryz.func201.trans (congrArg some (by kernel_rfl))
  t0 := Tryz.underlying0
  a0 := Tryz.isAgg0
  z0 := Tryz.sizeOf0
  v0 := Tryz.zeroValue0
  t3 := Tryz.underlying3
  a3 := Tryz.isAgg3
  z3 := Tryz.sizeOf3
  v3 := Tryz.zeroValue3
  t4 := Tryz.underlying4
  a4 := Tryz.isAgg4
  z4 := Tryz.sizeOf4
  v4 := Tryz.zeroValue4
  t5 := Tryz.underlying5
  a5 := Tryz.isAgg5
  z5 := Tryz.sizeOf5
  v5 := Tryz.zeroValue5
  t9 := Tryz.underlying9
  a9 := Tryz.isAgg9
  z9 := Tryz.sizeOf9
  v9 := Tryz.zeroValue9
  t37 := Tryz.underlying123
  a37 := Tryz.isAgg123
  z37 := Tryz.sizeOf123
  v37 := Tryz.zeroValue123
  t127 := Tryz.underlying185
  a127 := Tryz.isAgg185
  z127 := Tryz.sizeOf185
  v127 := Tryz.zeroValue185
  i0 := by kernel_rfl
  i3 := by kernel_rfl
  i4 := by kernel_rfl
  i5 := by kernel_rfl
  i9 := by kernel_rfl
  i37 := by kernel_rfl
  i127 := by kernel_rfl }
end Go.Proofs
namespace Go.Proofs.YtjbboicccddhbaaGreatDoor
open Go.RowKit Go.Shelf
set_option linter.unusedVariables false

theorem strClone_any (s : ByteArray) (hs : s.size ≤ 281474976710656) (w : World) : Calls Tryz.prog 177 #[.string s] w fun e w' => e = .returned (.string s)∧But [] w w':=by
 have CL : Hid (∀ W,Calls Tryz.prog 201 #[.string s] W fun e w' => e = .returned (.string s)∧Below W.heap.size W w'):=fun W => Any.stringslite_Clone Tryz.laysM316 s W hs
 clear hs
 go_enter Tryz.func177,Tryz.ntmps177
 go_wp2_with fail
 refine (unhide CL _).mono ?_
 rintro e w1 ⟨rfl,hb⟩
 have B1:=hide (But.of_below hb)
 clear hb CL
 go_wp2
 exact bodyPost_ret (v:=.string s) (by simp [results,Tryz.results177,go_sem]) rfl ⟨rfl,unhide B1⟩
set_option maxHeartbeats 4000000 in
theorem treatyNumber_any (z : Int) (h0 : 0 ≤ z) (h1 : z ≤ 1000000000000000) (t : ByteArray) (ht : t = ⟨(Lib.itoa z).toArray⟩) (g o : Nat) (u0 : Int) (w : World) (htab : Lib.TabIs Tryz.prog w "internal/strconv.uint64pow10" .u64 Lib.pow10Tab) (hc : w.cell? ⟨g,o,none⟩ = some (.int .i64 u0)) (fz : ∀ j,w.frozen? ⟨g,j,none⟩ = false) :
  Calls Tryz.prog 175 #[.string t,.pointer (some ⟨g,o,none⟩)] w fun e w' => ∃ w1,e = .returned .nilIface∧But [] w w1∧w' = w1.setCell ⟨g,o,none⟩ (.int .i64 z):=by
 have NU:=hide (number_any z h0 h1 w htab t ht)
 have hl:=lt_of_cell hc
 clear ht htab
 go_enter Tryz.func175,Tryz.ntmps175
 go_wp2_with fail
 refine (unhide NU).mono ?_
 rintro e w1 ⟨rfl,hb⟩
 have c1:=hb.cell_some hc (by simp)
 have f1 : ∀ j,w1.frozen? ⟨g,j,none⟩ = false:=fun j => (hb.frozen (p:=⟨g,j,none⟩) hl (by simp)).trans (fz j)
 have B1:=hide hb
 clear hb NU fz hc
 go_wp2
 exact bodyPost_ret (v:=.nilIface) (by simp [results,Tryz.results175,go_sem]) rfl ⟨w1,rfl,unhide B1,rfl⟩
set_option maxHeartbeats 4000000 in
theorem hear_cede (g : Nat) (w : World) : Calls Tryz.prog 134 #[.pointer (some ⟨g,0,none⟩),.string ⟨#[99,101,100,101]⟩,.string ⟨#[99,101,100,101]⟩] w fun e w' => e = .returned .nilIface∧w' = w:=by
 go_enter Tryz.func134,Tryz.ntmps134
 go_wp2
 exact bodyPost_ret (v:=.nilIface) (by simp [results,Tryz.results134,go_sem]) rfl ⟨rfl,rfl⟩
set_option maxHeartbeats 4000000 in
theorem hear_to (g : Nat) (w : World) : Calls Tryz.prog 134 #[.pointer (some ⟨g,0,none⟩),.string ⟨#[116,111]⟩,.string ⟨#[116,111]⟩] w fun e w' => e = .returned .nilIface∧w' = w:=by
 go_enter Tryz.func134,Tryz.ntmps134
 go_wp2
 exact bodyPost_ret (v:=.nilIface) (by simp [results,Tryz.results134,go_sem]) rfl ⟨rfl,rfl⟩
set_option maxHeartbeats 4000000 in
theorem hear_surplus (g : Nat) (w : World) : Calls Tryz.prog 134 #[.pointer (some ⟨g,0,none⟩),.string ⟨#[115,117,114,112,108,117,115]⟩,.string ⟨#[115,117,114,112,108,117,115]⟩] w fun e w' => e = .returned .nilIface∧w' = w:=by
 go_enter Tryz.func134,Tryz.ntmps134
 go_wp2
 exact bodyPost_ret (v:=.nilIface) (by simp [results,Tryz.results134,go_sem]) rfl ⟨rfl,rfl⟩
set_option maxHeartbeats 4000000 in
theorem hear_times (g : Nat) (w : World) : Calls Tryz.prog 134 #[.pointer (some ⟨g,0,none⟩),.string ⟨#[116,105,109,101,115]⟩,.string ⟨#[116,105,109,101,115]⟩] w fun e w' => e = .returned .nilIface∧w' = w:=by
 go_enter Tryz.func134,Tryz.ntmps134
 go_wp2
 exact bodyPost_ret (v:=.nilIface) (by simp [results,Tryz.results134,go_sem]) rfl ⟨rfl,rfl⟩
set_option maxHeartbeats 4000000 in
theorem hear_excess (g : Nat) (w : World) : Calls Tryz.prog 134 #[.pointer (some ⟨g,0,none⟩),.string ⟨#[101,120,99,101,115,115]⟩,.string ⟨#[101,120,99,101,115,115]⟩] w fun e w' => e = .returned .nilIface∧w' = w:=by
 go_enter Tryz.func134,Tryz.ntmps134
 go_wp2
 exact bodyPost_ret (v:=.nilIface) (by simp [results,Tryz.results134,go_sem]) rfl ⟨rfl,rfl⟩
set_option maxHeartbeats 4000000 in
theorem hear_limit (g : Nat) (w : World) : Calls Tryz.prog 134 #[.pointer (some ⟨g,0,none⟩),.string ⟨#[108,105,109,105,116]⟩,.string ⟨#[108,105,109,105,116]⟩] w fun e w' => e = .returned .nilIface∧w' = w:=by
 go_enter Tryz.func134,Tryz.ntmps134
 go_wp2
 exact bodyPost_ret (v:=.nilIface) (by simp [results,Tryz.results134,go_sem]) rfl ⟨rfl,rfl⟩
set_option maxHeartbeats 4000000 in
theorem hear_again (g : Nat) (w : World) : Calls Tryz.prog 134 #[.pointer (some ⟨g,0,none⟩),.string ⟨#[97,103,97,105,110]⟩,.string ⟨#[97,103,97,105,110]⟩] w fun e w' => e = .returned .nilIface∧w' = w:=by
 go_enter Tryz.func134,Tryz.ntmps134
 go_wp2
 exact bodyPost_ret (v:=.nilIface) (by simp [results,Tryz.results134,go_sem]) rfl ⟨rfl,rfl⟩
set_option maxHeartbeats 4000000 in
theorem hear_at (g : Nat) (w : World) : Calls Tryz.prog 134 #[.pointer (some ⟨g,0,none⟩),.string ⟨#[97,116]⟩,.string ⟨#[97,116]⟩] w fun e w' => e = .returned .nilIface∧w' = w:=by
 go_enter Tryz.func134,Tryz.ntmps134
 go_wp2
 exact bodyPost_ret (v:=.nilIface) (by simp [results,Tryz.results134,go_sem]) rfl ⟨rfl,rfl⟩
set_option maxHeartbeats 4000000 in
theorem hear_stop (g : Nat) (w : World) : Calls Tryz.prog 134 #[.pointer (some ⟨g,0,none⟩),.string ⟨#[115,116,111,112]⟩,.string ⟨#[115,116,111,112]⟩] w fun e w' => e = .returned .nilIface∧w' = w:=by
 go_enter Tryz.func134,Tryz.ntmps134
 go_wp2
 exact bodyPost_ret (v:=.nilIface) (by simp [results,Tryz.results134,go_sem]) rfl ⟨rfl,rfl⟩
set_option maxHeartbeats 4000000 in
theorem hear_FROM (z : Int) (h0 : 0 ≤ z) (h1 : z ≤ 1000000000000000) (t : ByteArray) (ht : t = ⟨(Lib.itoa z).toArray⟩) (g : Nat) (u0 : Int) (w : World) (htab : Lib.TabIs Tryz.prog w "internal/strconv.uint64pow10" .u64 Lib.pow10Tab) (hc : w.cell? ⟨g,5,none⟩ = some (.int .i64 u0)) (fz : ∀ j,w.frozen? ⟨g,j,none⟩ = false) :
  Calls Tryz.prog 134 #[.pointer (some ⟨g,0,none⟩),.string ⟨#[70,82,79,77]⟩,.string t] w fun e w' => ∃ w1,e = .returned .nilIface∧But [] w w1∧w' = w1.setCell ⟨g,5,none⟩ (.int .i64 z):=by
 have NU:=hide (treatyNumber_any z h0 h1 t ht g 5 u0 w htab hc fz)
 clear ht htab hc fz
 go_enter Tryz.func134,Tryz.ntmps134
 go_wp2_with fail
 refine (unhide NU).mono ?_
 rintro e w1 ⟨w2,rfl,hb,rfl⟩
 have B1:=hide hb
 clear hb NU
 go_wp2
 exact bodyPost_ret (v:=.nilIface) (by simp [results,Tryz.results134,go_sem]) rfl ⟨w2,rfl,unhide B1,rfl⟩
set_option maxHeartbeats 4000000 in
theorem hear_LIMIT (z : Int) (h0 : 0 ≤ z) (h1 : z ≤ 1000000000000000) (t : ByteArray) (ht : t = ⟨(Lib.itoa z).toArray⟩) (g : Nat) (u0 : Int) (w : World) (htab : Lib.TabIs Tryz.prog w "internal/strconv.uint64pow10" .u64 Lib.pow10Tab) (hc : w.cell? ⟨g,6,none⟩ = some (.int .i64 u0)) (fz : ∀ j,w.frozen? ⟨g,j,none⟩ = false) :
  Calls Tryz.prog 134 #[.pointer (some ⟨g,0,none⟩),.string ⟨#[76,73,77,73,84]⟩,.string t] w fun e w' => ∃ w1,e = .returned .nilIface∧But [] w w1∧w' = w1.setCell ⟨g,6,none⟩ (.int .i64 z):=by
 have NU:=hide (treatyNumber_any z h0 h1 t ht g 6 u0 w htab hc fz)
 clear ht htab hc fz
 go_enter Tryz.func134,Tryz.ntmps134
 go_wp2_with fail
 refine (unhide NU).mono ?_
 rintro e w1 ⟨w2,rfl,hb,rfl⟩
 have B1:=hide hb
 clear hb NU
 go_wp2
 exact bodyPost_ret (v:=.nilIface) (by simp [results,Tryz.results134,go_sem]) rfl ⟨w2,rfl,unhide B1,rfl⟩
set_option maxHeartbeats 4000000 in
theorem hear_PRICE (z : Int) (h0 : 0 ≤ z) (h1 : z ≤ 1000000000000000) (t : ByteArray) (ht : t = ⟨(Lib.itoa z).toArray⟩) (g : Nat) (u0 : Int) (w : World) (htab : Lib.TabIs Tryz.prog w "internal/strconv.uint64pow10" .u64 Lib.pow10Tab) (hc : w.cell? ⟨g,8,none⟩ = some (.int .i64 u0)) (fz : ∀ j,w.frozen? ⟨g,j,none⟩ = false) :
  Calls Tryz.prog 134 #[.pointer (some ⟨g,0,none⟩),.string ⟨#[80,82,73,67,69]⟩,.string t] w fun e w' => ∃ w1,e = .returned .nilIface∧But [] w w1∧w' = w1.setCell ⟨g,8,none⟩ (.int .i64 z):=by
 have NU:=hide (treatyNumber_any z h0 h1 t ht g 8 u0 w htab hc fz)
 clear ht htab hc fz
 go_enter Tryz.func134,Tryz.ntmps134
 go_wp2_with fail
 refine (unhide NU).mono ?_
 rintro e w1 ⟨w2,rfl,hb,rfl⟩
 have B1:=hide hb
 clear hb NU
 go_wp2
 exact bodyPost_ret (v:=.nilIface) (by simp [results,Tryz.results134,go_sem]) rfl ⟨w2,rfl,unhide B1,rfl⟩
set_option maxHeartbeats 4000000 in
theorem hear_NAME (t : ByteArray) (hs : t.size ≤ 281474976710656) (g : Nat) (u0 : Value) (w : World) (hc : w.cell? ⟨g,9,none⟩ = some u0) (fz : ∀ j,w.frozen? ⟨g,j,none⟩ = false) :
  Calls Tryz.prog 134 #[.pointer (some ⟨g,0,none⟩),.string ⟨#[78,65,77,69]⟩,.string t] w fun e w' => ∃ w1,e = .returned .nilIface∧But [] w w1∧w' = w1.setCell ⟨g,9,none⟩ (.string t):=by
 have CL:=hide (strClone_any t hs w)
 have hl:=lt_of_cell hc
 clear hs
 go_enter Tryz.func134,Tryz.ntmps134
 go_wp2_with fail
 refine (unhide CL).mono ?_
 rintro e w1 ⟨rfl,hb⟩
 have c1:=hb.cell_some hc (by simp)
 have f1 : ∀ j,w1.frozen? ⟨g,j,none⟩ = false:=fun j => (hb.frozen (p:=⟨g,j,none⟩) hl (by simp)).trans (fz j)
 have B1:=hide hb
 clear hb CL fz hc
 go_wp2
 exact bodyPost_ret (v:=.nilIface) (by simp [results,Tryz.results134,go_sem]) rfl ⟨w1,rfl,unhide B1,rfl⟩
set_option maxHeartbeats 4000000 in
theorem hear_SHARE (t : ByteArray) (s : Bool) (x y : Int) (g : Nat) (k0 : Value) (u1 : Bool) (u2 u3 : Int) (u4 : Option Addr) (k5 k6 k7 k8 k9 : Value) (w : World) (CP : Calls Tryz.prog 10 #[.string t] w fun e w' => e = .returned (.tuple #[.agg #[.bool s,.int .u64 x,.int .u64 y,.pointer none],.nilIface])∧But [] w w') (hN : NewB 0 w g [k0,.bool u1,.int .u64 u2,.int .u64 u3,.pointer u4,k5,k6,k7,k8,k9]) :
  Calls Tryz.prog 134 #[.pointer (some ⟨g,0,none⟩),.string ⟨#[83,72,65,82,69]⟩,.string t] w fun e w' => e = .returned .nilIface∧NewB 0 w' g [k0,.bool s,.int .u64 x,.int .u64 y,.pointer none,k5,k6,k7,k8,k9]∧But [g] w w':=by
 have HCP:=hide CP
 have HN:=hide hN
 clear CP hN
 go_enter Tryz.func134,Tryz.ntmps134
 go_wp2_with fail
 refine (unhide HCP).mono ?_
 rintro e w1 ⟨rfl,hb⟩
 have hN1:=(unhide HN).but hb
 have d1:=hN1.cells 1 _ rfl
 have d2:=hN1.cells 2 _ rfl
 have d3:=hN1.cells 3 _ rfl
 have d4:=hN1.cells 4 _ rfl
 have f1:=hN1.loose
 have hg1:=hN1.lt
 have B1:=hide hb
 have HN1:=hide hN1
 clear hb HCP HN hN1
 go_wp2
 have hp:=(unhide HN1).putAt 1 [.bool s,.int .u64 x,.int .u64 y,.pointer none] (by simp)
 have hS:=but_setCells w1 g [.bool s,.int .u64 x,.int .u64 y,.pointer none] 1
 have hA : But [] (w1.setCells g 1 [.bool s,.int .u64 x,.int .u64 y,.pointer none]) ((w1.setCells g 1 [.bool s,.int .u64 x,.int .u64 y,.pointer none]).alloc (.cells #[.bool s,.int .u64 x,.int .u64 y,.pointer none] 27)):=(But.refl _ _).alloc _
 exact bodyPost_ret (v:=.nilIface) (by simp [results,Tryz.results134,go_sem]) rfl ⟨rfl,hp.but hA,(((unhide B1).of_nil (l:=[g])).trans hS (fun x hx => .inl hx)).trans' hA⟩
end Go.Proofs.YtjbboicccddhbaaGreatDoor
