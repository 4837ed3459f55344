/- Rows of whole numbers, and triangles, of -/
import Derived.Test.YtjlfllhedceigaaGreatDoorProg
import Derived.Deep.QuietTactic
import Derived.BigQuiet
import Derived.Outline
import Derived.Shelf.Spec.BitsCarry
import Derived.Laws.MakeOwn
import Derived.Shelf.Strconv.Clone
import Derived.Shelf.Strings.Builder1
import Derived.Shelf.Strings.OnBuilder
import Derived.Test.YtjlfllhedceigaaGreatDoorRT3r
namespace Go.Proofs.YtjlfllhedceigaaGreatDoor
open Go.Proofs.Tryz
open Go.RowKit
set_option maxHeartbeats 16000000
set_option maxRecDepth 100000
set_option linter.unusedVariables false
def l9 (w:World) (b:Nat) (T:TypeId) (v:Value):Prop:=w.heap[b]? = some (.cells #[v] T (0,0))
theorem l9.new (w:World) (T:TypeId) (v:Value):l9 (w.alloc (.cells #[v] T)) w.heap.size T v:=World.alloc_heap_new w _
theorem l9.lt {w:World} {b:Nat} {T:TypeId} {v:Value} (h:l9 w b T v):b<w.heap.size:=(Array.getElem?_eq_some_iff.1 h).1
theorem l9.beside {w w':World} {b:Nat} {T:TypeId} {v:Value} {l:List Nat} (h:l9 w b T v) (hb:But l w w') (hn:b ∉ l):l9 w' b T v:=(hb.block b h.lt hn).trans h
theorem l9.but {w w':World} {b:Nat} {T:TypeId} {v:Value} (h:l9 w b T v) (hb:But [] w w'):l9 w' b T v:=h.beside hb (by simp)
theorem l9.cell {w:World} {b:Nat} {T:TypeId} {v:Value} (h:l9 w b T v):w.cell? ⟨b,0,none⟩=some v:=by
 unfold l9 at h
 simp[World.cell?,h]
theorem l9.loose {w:World} {b:Nat} {T:TypeId} {v:Value} (h:l9 w b T v) (o:Nat):w.frozen? ⟨b,o,none⟩=false:=by
 unfold l9 at h
 simp[World.frozen?,h]
theorem l9.set {w:World} {b:Nat} {T:TypeId} {v:Value} (h:l9 w b T v) (u:Value):l9 (w.setCell ⟨b,0,none⟩ u) b T u:=by
 unfold l9 at h ⊢
 simp[World.setCell,Array.getElem?_modify,h]
theorem zpr (w:World) (b:Nat) (u:Value):But [b] w (w.setCell ⟨b,0,none⟩ u):=bn w b [u] 0
open Go.RowKit Go.Shelf
def dm (x:List UInt8):Value:=.string ⟨x.toArray⟩
def zan (w:World) (base:Nat) (v:Value) (ws:List (List UInt8)):Prop:=w.ownsRow base 9 1 v ws.length (ws.map dm)
theorem zan.nil (w:World) (base:Nat):zan w base (.slice none 0 0) []:=World.ownsRow_nil _ _ _ _
theorem zan.but {w w':World} {base:Nat} {v:Value} {ws:List (List UInt8)} (h:zan w base v ws) (hb:But [] w w'):zan w' base v ws:=zcp h hb
theorem zan.form {w:World} {base:Nat} {v:Value} {ws:List (List UInt8)} (h:zan w base v ws):∃ a c,v=.slice a ws.length c:=ownsRow_form h
def zpa (w:World) (v:Value) (ws:List (List UInt8)):Prop:=∃ a cap,v=.slice a ws.length cap∧∀ i x,ws[i]? = some x→∃ b off,a=some ⟨b,off,none⟩∧w.cell? ⟨b,off+i,none⟩=some (dm x)
theorem qdh:∃ i,prog.info? 9 = some i∧i.zero=some (.string ⟨#[]⟩)∧i.size=1∧i.bytes=16:=by(
 have h:(prog.info? 9).map (fun i=>(i.zero,i.size,i.bytes))=some (some (.string ⟨#[]⟩),1,16):=by kernel_rfl
 cases e:prog.info? 9 with
 | none=>rw[e] at h;simp at h
 | some i =>
  rw[e] at h
  simp only[Option.map_some,Option.some.injEq,Prod.mk.injEq] at h
  exact⟨i,rfl,h.1,h.2.1,h.2.2⟩)
theorem zts (w:World) (base:Nat) (v:Value) (ws:List (List UInt8)) (hown:zan w base v ws) (g:Nat) (x:List UInt8) (c:w.cell? ⟨g,0,none⟩=some (dm x)) (hk:ws.length<1000000) (hb:base≤w.heap.size) :
   ∃ v' w',(Builtin.append_ #[151,151] 151 #[v,.slice (some ⟨g,0,none⟩) 1 1]).run prog w=.ok v' w'∧zan w' base v' (ws++[x])∧w.grownBy w' v.ownBlock:=by(
 obtain⟨i0,hi,hz0,hz1,hz2⟩:=qdh
 obtain⟨v',w',hr,ho,hg,-⟩:=run_append_own (P:=prog) w base 151 151 9 i0 _ 1 16 underlying151 hi hz0 hz1 hz2 rfl (by decide) v ws.length (ws.map dm) hown ⟨g,0,none⟩ 1 1 [dm x] rfl (fun j u hj=>by
   cases j with
   | zero=>simp at hj;subst hj;exact c
   | succ j=>simp at hj) (fun u hu=>by
   simp only[List.mem_cons,List.not_mem_nil,or_false] at hu
   subst hu
   rfl) (by unfold maxLen;omega) (by omega) hb
 refine⟨v',w',hr,?_,hg⟩
 unfold zan at *
 rw[List.length_append,List.map_append]
 exact ho)
theorem qer (d:UInt8) (ws:List (List UInt8)) (hw:∀ x ∈ ws,x≠[]∧d ∉ x):Lib.trimLeftB (jn d ws) d=jn d ws:=by(
 have h:=zvp d ws 0 (by omega) hw
 unfold zae at h
 rw[if_pos rfl,List.drop_zero] at h
 exact h)
theorem qdy (d:UInt8) (ws:List (List UInt8)) (k:Nat) (hk:k≤ws.length) (hw:∀ x ∈ ws,x≠[]∧d ∉ x):∃ b,Lib.cut (jn d (ws.drop k)) [d]=(ws[k]?.getD [],jn d (ws.drop (k+1)),b):=by(
 rcases Nat.lt_or_ge k ws.length with h | h
 ·refine⟨decide (k+1<ws.length),?_⟩
  rw[qdz d ws k h (fun x hx=>(hw x hx).2),List.getElem?_eq_getElem h]
  rfl
 ·refine⟨false,?_⟩
  rw[List.drop_eq_nil_of_le h,List.drop_eq_nil_of_le (by omega),List.getElem?_eq_none h]
  exact zra d [] (by simp))
theorem zrb (ws:List (List UInt8)) (hw:∀ x ∈ ws,x≠[]∧(32:UInt8) ∉ x) (hs:(jn 32 ws).length≤50000) (k:Nat) (hk:k≤ws.length) (g:Nat) (mx:Int) (w:World) (hb:l9 w g 9 (dm (jn 32 (ws.drop k)))) (hm:w.cell? ⟨3,0,none⟩=some (.int .i64 mx)) :
   Calls prog 163 #[.pointer (some ⟨g,0,none⟩)] w fun e w'=>e=.returned (dm (ws[k]?.getD []))∧l9 w' g 9 (dm (jn 32 (ws.drop (k+1))))∧But [g] w w':=by(
 obtain⟨bb,hcut⟩:=qdy 32 ws k hk hw
 have hl:(jn 32 (ws.drop k)).length≤50000:=by
  rcases Nat.lt_or_ge k ws.length with h | h
  ·have:=(qcx 32 ws k h).1;omega
  ·rw[List.drop_eq_nil_of_le h];simp[jn]
 obtain⟨rest,hrest⟩:∃ rest:ByteArray,rest=⟨(jn 32 (ws.drop k)).toArray⟩:=⟨_,rfl⟩
 obtain⟨rest2,hrest2⟩:∃ rest2:ByteArray,rest2=⟨(jn 32 (ws.drop (k+1))).toArray⟩:=⟨_,rfl⟩
 obtain⟨word,hword⟩:∃ word:ByteArray,word=⟨(ws[k]?.getD []).toArray⟩:=⟨_,rfl⟩
 have hrl:rest.data.toList=jn 32 (ws.drop k):=by rw[hrest]
 have TR:Hid (∀ W2,Calls prog 164 #[.string rest,.string ⟨#[32]⟩] W2 fun e w'=>e=.returned (.string rest)∧w'=W2):=fun W2=>by
  have h:=Any.strings_TrimLeft_one Tryz.lays161 rest 32 (by decide) W2
  rw[hrl,qer 32 _ (fun x hx=>hw x (List.mem_of_mem_drop hx)),← hrest] at h
  exact h
 have CU:Hid (∀ W2,W2.cell? ⟨3,0,none⟩=some (.int .i64 mx)→Calls prog 162 #[.string rest,.string ⟨#[32]⟩] W2 fun e w'=>e=.returned (.tuple #[.string word,.string rest2,.bool bb])∧∃ q,w'=W2.drewN q):=fun W2 h2=>by
  have hsz:rest.size=(jn 32 (ws.drop k)).length:=by rw[hrest];rfl
  have h:=Any.strings_Cut Tryz.lays145 rest ⟨#[32]⟩ mx W2 (by omega) h2
  rw[hrl,show (⟨#[32]⟩:ByteArray).data.toList=[32] from rfl,hcut,← hrest2,← hword] at h
  exact h
 unfold dm at hb ⊢
 rw[← hrest] at hb
 rw[← hrest2,← hword]
 have c0:=hb.cell
 have fz:=hb.loose
 have HB:=af hb
 have HM:=af hm
 clear hcut hl hrest hrest2 hword hrl hb hm hw hs
 go_enter func163,ntmps163
 go_wp2_with fail
 refine (ae TR _).mono ?_
 rintro e w1 ⟨rfl,h1⟩
 obtain rfl:=h1.symm
 clear h1 TR
 go_wp2_with fail
 refine (ae CU _ (ae HM)).mono ?_
 rintro e w2 ⟨rfl,q,rfl⟩
 have d0:(w.drewN q).cell? ⟨g,0,none⟩=some (.string rest):=c0
 have fz2:∀ o,(w.drewN q).frozen? ⟨g,o,none⟩=false:=fz
 have HB2:Hid (l9 (w.drewN q) g 9 (.string rest)):=ae HB
 have B2:Hid (But [] w (w.drewN q)):=(But.refl _ _).drewN q
 clear CU
 generalize w.drewN q=V at *
 go_wp2
 have hS:=zpr V g (.string rest2)
 exact bodyPost_ret (v:=.string word) (by simp[results,results163,go_sem]) rfl ⟨rfl,(ae HB2).set _,((ae B2).of_nil (l:=[g])).trans hS (fun x hx=>.inl hx)⟩)
attribute [local go_sem] Oper.semAt_some
theorem zmi {w w':World} {row:Option Nat} (hg:w.grownBy w' row):But row.toList w w' :=
 ⟨hg.os,hg.tape,hg.output,hg.size,fun j hj hn=>hg.block j hj (by
  rintro rfl
  simp at hn)⟩
theorem zvj (xs:List Int) (h:∀ x ∈ xs,0≤x):∀ y ∈ xs.map Lib.itoa,y≠[]∧(32:UInt8) ∉ y∧(10:UInt8) ∉ y:=fun y hy=>by
 obtain⟨x,hx,rfl⟩:=List.mem_map.1 hy
 rw[zuz x (h x hx)]
 refine⟨znd _,fun hm=>?_,fun hm=>?_⟩
 ·have:=zej _ _ hm
  simp at this
 ·have:=zej _ _ hm
  simp at this
def qkk:Value→Nat
 | .slice _ n _=>n
 | _=>0
theorem zan.block {w:World} {base:Nat} {v:Value} {ws:List (List UInt8)} (h:zan w base v ws):∀ g ∈ v.ownBlock.toList,base≤g:=fun g hg=>by
 rcases h.2 with ⟨rfl,-⟩|⟨g',cap,cur,rfl,q1,-⟩
 ·simp[Value.ownBlock] at hg
 ·simp only[Value.ownBlock,Option.toList_some,List.mem_cons,List.not_mem_nil,or_false] at hg
  subst hg
  exact q1
theorem zan.beside {w w':World} {base:Nat} {v:Value} {ws:List (List UInt8)} {l:List Nat} (h:zan w base v ws) (hb:But l w w') (hn:∀ g ∈ l,g<base):zan w' base v ws:=by(
 refine⟨h.1,?_⟩
 rcases h.2 with e|⟨g,cap,cur,e,h1,h2,h3⟩
 ·exact .inl e
 ·exact .inr ⟨g,cap,cur,e,h1,(hb.block g (Array.getElem?_eq_some_iff.1 h2).1 (fun hm=>by have:=hn g hm;omega)).trans h2,h3⟩)
theorem zan.mono {w:World} {base b2:Nat} {v:Value} {ws:List (List UInt8)} (h:zan w base v ws) (hb:b2≤base):zan w b2 v ws:=by(
 refine⟨h.1,?_⟩
 rcases h.2 with e|⟨g,cap,cur,e,h1,h2⟩
 ·exact .inl e
 ·exact .inr ⟨g,cap,cur,e,Nat.le_trans hb h1,h2⟩)
theorem zlq (ws:List (List UInt8)) (hw:∀ x ∈ ws,x≠[]∧(32:UInt8) ∉ x) (hs:(jn 32 ws).length≤50000) (hn:ws.length≤50000) (t:ByteArray) (ht:t=⟨(jn 32 ws).toArray⟩) (mx:Int) (w:World) (hm:w.cell? ⟨3,0,none⟩=some (.int .i64 mx)) :
   Calls prog 80 #[.string t] w fun e w'=>∃ v,e=.returned v∧zan w' w.heap.size v ws∧But [] w w':=by(
 have hmf:∀ (fn:Fn) (first cap:Array Value) (w:World),(Instr.makeFunc fn first cap).run prog w=.ok (.func fn first cap) w:=fun _ _ _ _=>rfl
 have CN:=af (fun k hk g W hb hm=>zrb ws hw hs k hk g mx W hb hm)
 have gm:=ai hm
 have B0:Hid (l9 (w.alloc (.cells #[.string t] 9)) w.heap.size 9 (dm (jn 32 (ws.drop 0)))):=by
  show l9 _ _ _ _
  rw[List.drop_zero,ht]
  exact l9.new w _ _
 have F0:Hid (But [] w (w.alloc (.cells #[.string t] 9))):=(But.refl _ _).alloc _
 have S0:Hid ((w.alloc (.cells #[.string t] 9)).heap.size=w.heap.size+1):=by show _=_;simp
 have M0:Hid ((w.alloc (.cells #[.string t] 9)).cell? ⟨3,0,none⟩=some (.int .i64 mx)):=((But.refl [] w).alloc _).ag hm (by simp)
 have HNE:Hid (∀ k,k<ws.length→(⟨(ws[k]?.getD []).toArray⟩:ByteArray).toList.isEmpty=false):=fun k hk=>by
  rw[ByteArray.toList_mk,List.getElem?_eq_getElem hk]
  have h1:=(hw _ (List.getElem_mem hk)).1
  simpa using h1
 have HM:=af hm
 have GM:=af gm
 clear hw hs ht hm gm
 go_enter func80,ntmps80
 go_wp2_with fail
 refine (ae CN 0 (by omega) _ _ (ae B0) (ae M0)).mono ?_
 rintro e w1 ⟨rfl,hb1,hf1⟩
 have W1:Hid (But [] w w1):=(ae F0).trans hf1 (fun x hx=>by simp at hx;subst hx;exact .inr (Nat.le_refl _))
 have S1:Hid (w.heap.size+1≤w1.heap.size):=by show _≤_;have:=ae S0;have:=hf1.size;omega
 have HB1:=af hb1
 obtain⟨gB,hgB⟩:∃ gB,gB=w.heap.size:=⟨_,rfl⟩
 have HGB:=af hgB
 rw[← hgB] at HB1 S1 ⊢
 clear hb1 hf1 F0 S0 M0 B0 hgB
 unfold dm
 go_wp2
 go_loopw [4,5] (fun v x wr=>∃ k:Nat,k≤ws.length∧(∃ wd:ByteArray,x=.string wd∧Hid (wd=⟨(ws[k]?.getD []).toArray⟩))∧(∃ a c,v=.slice a k c)∧Hid (zan wr (gB+1) v (ws.take k))∧Hid (l9 wr gB 9 (dm (jn 32 (ws.drop (k+1)))))∧Hid (But [] w wr)∧Hid (gB+1≤wr.heap.size)) (fun v _ _=>ws.length-qkk v)
 case atStart=>exact⟨0,Nat.zero_le _,⟨_,rfl,rfl⟩,⟨_,_,rfl⟩,zan.nil _ _,ae HB1,ae W1,ae S1⟩
 case round =>(
 obtain⟨k,hk,⟨wd,rfl,HWD⟩,⟨a,c,rfl⟩,HO,HX,HF,HS⟩:=hrel
 rename World=>wr
 clear HB1 W1 S1
 by_cases hlt:k<ws.length
 ·(
 have hne:wd.toList.isEmpty=false:=by rw[ae HWD];exact ae HNE k hlt
 have hwv:Value.string wd=dm (ws[k]?.getD []):=by rw[ae HWD];rfl
 have bV:But [] wr (wr.alloc (.cells #[.string wd] 9)):=(But.refl [] wr).alloc _
 have sV:=bV.size
 obtain⟨v',w',hr,ho,hg⟩:=zts (wr.alloc (.cells #[.string wd] 9)) (gB+1) (.slice a k c) (ws.take k) ((ae HO).but bV) wr.heap.size (ws[k]?.getD []) (by rw[← hwv];simp) (by rw[List.length_take];omega) (by have:=ae HS;omega)
 have bG:But (Value.slice a k c).ownBlock.toList (wr.alloc (.cells #[.string wd] 9)) w':=zmi hg
 have hown:=((ae HO).but bV).block
 have etk:ws.take k++[ws[k]?.getD []]=ws.take (k+1):=by rw[List.take_add_one,List.getElem?_eq_getElem hlt];rfl
 rw[etk] at ho
 have hx':l9 w' gB 9 (dm (jn 32 (ws.drop (k+1)))):=((ae HX).but bV).beside bG (fun hmm=>by have:=hown _ hmm;omega)
 have hf':But [] w w':=((ae HF).trans' bV).trans bG (fun x hx=>by
  have h1:=hown x hx
  have h2:=ae HGB
  exact .inr (by omega))
 obtain⟨a',c',ev⟩:=ho.form
 have hlk:(ws.take (k+1)).length=k+1:=by rw[List.length_take];omega
 rw[hlk] at ev
 subst ev
 have HR:Hid ((Builtin.append_ #[151,151] 151 #[.slice a k c,.slice (some ⟨wr.heap.size,0,none⟩) 1 1]).run prog (wr.alloc (.cells #[.string wd] 9))=.ok (.slice a' (k+1) c') w'):=hr
 have HO':=af ho
 have HX':=af hx'
 have HF':=af hf'
 have HS':Hid (gB+1≤w'.heap.size):=by show _≤_;have:=ae HS;have:=bG.size;omega
 have HM':Hid (w'.cell? ⟨3,0,none⟩=some (.int .i64 mx)):=hf'.ag (ae HM) (by simp)
 clear hr ho hg bG hown etk hx' hf' hlk bV sV hwv HX HO HF HS
 go_wp2_with (at_builtin;refine jc rfl _ _ 151 151 rfl _ _ (.slice a' (k+1) c') w' rfl rfl (ae HR) ?_)
 refine (ae CN (k+1) (by omega) gB w' (ae HX') (ae HM')).mono ?_
 rintro e w2 ⟨rfl,hb2,hf2⟩
 have HB2:=af hb2
 have HO2:=af ((ae HO').beside hf2 (fun g hg=>by simp at hg;omega))
 have HF2:Hid (But [] w w2):=(ae HF').trans hf2 (fun x hx=>by simp at hx;subst hx;exact .inr (by have:=ae HGB;omega))
 have HS2:Hid (gB+1≤w2.heap.size):=Nat.le_trans (ae HS') hf2.size
 clear hb2 hf2 HX' HM' HO' HF' HS'
 unfold dm
 go_wp2
 exact⟨⟨k+1,by omega,⟨_,rfl,rfl⟩,⟨_,_,rfl⟩,ae HO2,ae HB2,ae HF2,ae HS2⟩,by simp[qkk];omega⟩)
 ·(
 obtain rfl:k=ws.length:=by omega
 have hne:wd.toList.isEmpty=true:=by
  rw[ae HWD,ByteArray.toList_mk,List.getElem?_eq_none (Nat.le_refl _)]
  rfl
 have ho:=ae HO
 rw[List.take_length] at ho
 have HO':=af (ho.mono (show w.heap.size≤gB+1 by have:=ae HGB;omega))
 clear ho HO
 go_wp2
 exact bodyPost_ret (v:=.slice a ws.length c) (by simp[results,results80,go_sem]) rfl ⟨_,rfl,ae HO',ae HF⟩)))
end Go.Proofs.YtjlfllhedceigaaGreatDoor
namespace Go.Proofs
open Go.Proofs.Tryz
open Go.Shelf Go.RowKit
set_option maxHeartbeats 4000000
def Tryz.laysM316_ren : Go.Shelf.Ren := ⟨fun | 316 => 276 | n => n, fun | 0 => 0 | 3 => 3 | 4 => 4 | 5 => 5 | 9 => 9 | 37 => 141 | 127 => 231 | n => n, fun | n => n⟩
theorem Tryz.laysM316 : Go.Proofs.LaysM.n316 Tryz.prog Tryz.laysM316_ren := {
  mixed := by kernel_rfl
  f316 := Tryz.func276.trans (congrArg some (by kernel_rfl))
  t0 := Tryz.underlying0
  a0 := Tryz.isAgg0
  z0 := Tryz.sizeOf0
  v0 := Tryz.zeroValue0
  t3 := Tryz.underlying3
  a3 := Tryz.isAgg3
  z3 := Tryz.sizeOf3
  v3 := Tryz.zeroValue3
  t4 := Tryz.underlying4
  a4 := Tryz.isAgg4
  z4 := Tryz.sizeOf4
  v4 := Tryz.zeroValue4
  t5 := Tryz.underlying5
  a5 := Tryz.isAgg5
  z5 := Tryz.sizeOf5
  v5 := Tryz.zeroValue5
  t9 := Tryz.underlying9
  a9 := Tryz.isAgg9
  z9 := Tryz.sizeOf9
  v9 := Tryz.zeroValue9
  t37 := Tryz.underlying141
  a37 := Tryz.isAgg141
  z37 := Tryz.sizeOf141
  v37 := Tryz.zeroValue141
  t127 := Tryz.underlying231
  a127 := Tryz.isAgg231
  z127 := Tryz.sizeOf231
  v127 := Tryz.zeroValue231
  i0 := by kernel_rfl
  i3 := by kernel_rfl
  i4 := by kernel_rfl
  i5 := by kernel_rfl
  i9 := by kernel_rfl
  i37 := by kernel_rfl
  i127 := by kernel_rfl }
end Go.Proofs
namespace Go.Proofs.YtjlfllhedceigaaGreatDoor
open Go.Proofs.Tryz
open Go.RowKit Go.Shelf
set_option linter.unusedVariables false
end Go.Proofs.YtjlfllhedceigaaGreatDoor
namespace Go.Proofs
open Go.Proofs.Tryz
open Go.Shelf Go.RowKit
def Tryz.lays167_ren : Go.Shelf.Ren := ⟨fun | 167 => 76 | 240 => 156 | 276 => 219 | n => n, fun | 0 => 0 | 4 => 4 | 5 => 5 | 9 => 9 | 20 => 20 | 37 => 141 | 70 => 140 | 72 => 143 | 80 => 35 | 75 => 29 | 164 => 187 | n => n, fun | n => n⟩
theorem Tryz.lays167 : Go.Proofs.Lays.n167 Tryz.prog Tryz.lays167_ren := {
  mixed := by kernel_rfl
  f167 := Tryz.func76.trans (congrArg some (by kernel_rfl))
  f240 := Tryz.func156.trans (congrArg some (by kernel_rfl))
  f276 := Tryz.func219.trans (congrArg some (by kernel_rfl))
  t0 := Tryz.underlying0
  a0 := Tryz.isAgg0
  z0 := Tryz.sizeOf0
  v0 := Tryz.zeroValue0
  t4 := Tryz.underlying4
  a4 := Tryz.isAgg4
  z4 := Tryz.sizeOf4
  v4 := Tryz.zeroValue4
  t5 := Tryz.underlying5
  a5 := Tryz.isAgg5
  z5 := Tryz.sizeOf5
  v5 := Tryz.zeroValue5
  t9 := Tryz.underlying9
  a9 := Tryz.isAgg9
  z9 := Tryz.sizeOf9
  v9 := Tryz.zeroValue9
  t20 := Tryz.underlying20
  a20 := Tryz.isAgg20
  z20 := Tryz.sizeOf20
  v20 := Tryz.zeroValue20
  t37 := Tryz.underlying141
  a37 := Tryz.isAgg141
  z37 := Tryz.sizeOf141
  v37 := Tryz.zeroValue141
  t70 := Tryz.underlying140
  a70 := Tryz.isAgg140
  z70 := Tryz.sizeOf140
  v70 := Tryz.zeroValue140
  t72 := Tryz.underlying143
  a72 := Tryz.isAgg143
  z72 := Tryz.sizeOf143
  v72 := Tryz.zeroValue143
  t75 := Tryz.underlying29
  a75 := Tryz.isAgg29
  z75 := Tryz.sizeOf29
  v75 := Tryz.zeroValue29
  t164 := Tryz.underlying187
  a164 := Tryz.isAgg187
  z164 := Tryz.sizeOf187
  v164 := Tryz.zeroValue187 }
def Tryz.lays166_ren : Go.Shelf.Ren := ⟨fun | 166 => 74 | 240 => 156 | 276 => 219 | n => n, fun | 0 => 0 | 3 => 3 | 4 => 4 | 5 => 5 | 9 => 9 | 20 => 20 | 37 => 141 | 70 => 140 | 72 => 143 | 80 => 35 | 75 => 29 | 164 => 187 | n => n, fun | n => n⟩
theorem Tryz.lays166 : Go.Proofs.Lays.n166 Tryz.prog Tryz.lays166_ren := {
  mixed := by kernel_rfl
  f166 := Tryz.func74.trans (congrArg some (by kernel_rfl))
  f240 := Tryz.func156.trans (congrArg some (by kernel_rfl))
  f276 := Tryz.func219.trans (congrArg some (by kernel_rfl))
  t0 := Tryz.underlying0
  a0 := Tryz.isAgg0
  z0 := Tryz.sizeOf0
  v0 := Tryz.zeroValue0
  t3 := Tryz.underlying3
  a3 := Tryz.isAgg3
  z3 := Tryz.sizeOf3
  v3 := Tryz.zeroValue3
  t4 := Tryz.underlying4
  a4 := Tryz.isAgg4
  z4 := Tryz.sizeOf4
  v4 := Tryz.zeroValue4
  t9 := Tryz.underlying9
  a9 := Tryz.isAgg9
  z9 := Tryz.sizeOf9
  v9 := Tryz.zeroValue9
  t20 := Tryz.underlying20
  a20 := Tryz.isAgg20
  z20 := Tryz.sizeOf20
  v20 := Tryz.zeroValue20
  t37 := Tryz.underlying141
  a37 := Tryz.isAgg141
  z37 := Tryz.sizeOf141
  v37 := Tryz.zeroValue141
  t70 := Tryz.underlying140
  a70 := Tryz.isAgg140
  z70 := Tryz.sizeOf140
  v70 := Tryz.zeroValue140
  t72 := Tryz.underlying143
  a72 := Tryz.isAgg143
  z72 := Tryz.sizeOf143
  v72 := Tryz.zeroValue143
  t75 := Tryz.underlying29
  a75 := Tryz.isAgg29
  z75 := Tryz.sizeOf29
  v75 := Tryz.zeroValue29
  t164 := Tryz.underlying187
  a164 := Tryz.isAgg187
  z164 := Tryz.sizeOf187
  v164 := Tryz.zeroValue187 }
def Tryz.lays169_ren : Go.Shelf.Ren := ⟨fun | 169 => 77 | n => n, fun | 0 => 0 | 3 => 3 | 5 => 5 | 9 => 9 | 37 => 141 | 70 => 140 | 72 => 143 | 127 => 231 | n => n, fun | n => n⟩
theorem Tryz.lays169 : Go.Proofs.Lays.n169 Tryz.prog Tryz.lays169_ren := {
  mixed := by kernel_rfl
  f169 := Tryz.func77.trans (congrArg some (by kernel_rfl))
  t0 := Tryz.underlying0
  a0 := Tryz.isAgg0
  z0 := Tryz.sizeOf0
  v0 := Tryz.zeroValue0
  t3 := Tryz.underlying3
  a3 := Tryz.isAgg3
  z3 := Tryz.sizeOf3
  v3 := Tryz.zeroValue3
  t9 := Tryz.underlying9
  a9 := Tryz.isAgg9
  z9 := Tryz.sizeOf9
  v9 := Tryz.zeroValue9
  t37 := Tryz.underlying141
  a37 := Tryz.isAgg141
  z37 := Tryz.sizeOf141
  v37 := Tryz.zeroValue141
  t70 := Tryz.underlying140
  a70 := Tryz.isAgg140
  z70 := Tryz.sizeOf140
  v70 := Tryz.zeroValue140
  t72 := Tryz.underlying143
  a72 := Tryz.isAgg143
  z72 := Tryz.sizeOf143
  v72 := Tryz.zeroValue143
  t127 := Tryz.underlying231
  a127 := Tryz.isAgg231
  z127 := Tryz.sizeOf231
  v127 := Tryz.zeroValue231 }
theorem Tryz.zio:Builder.Extra prog Tryz.lays167_ren where
 sizeBuilder:=by kernel_rfl
 liesBuilder:=by kernel_rfl
 t5:=underlying5
 a5:=isAgg5
 z5:=sizeOf5
 v5:=zeroValue5
 infoByte:=by kernel_rfl
 cellsByte:=by kernel_rfl
 sizeByte:=by kernel_rfl
 neB5:=by decide
theorem Tryz.ziq:Builder.Extra prog Tryz.lays166_ren where
 sizeBuilder:=by kernel_rfl
 liesBuilder:=by kernel_rfl
 t5:=underlying5
 a5:=isAgg5
 z5:=sizeOf5
 v5:=zeroValue5
 infoByte:=by kernel_rfl
 cellsByte:=by kernel_rfl
 sizeByte:=by kernel_rfl
 neB5:=by decide
theorem Tryz.zin:Builder.Extra prog Tryz.lays169_ren where
 sizeBuilder:=by kernel_rfl
 liesBuilder:=by kernel_rfl
 t5:=underlying5
 a5:=isAgg5
 z5:=sizeOf5
 v5:=zeroValue5
 infoByte:=by kernel_rfl
 cellsByte:=by kernel_rfl
 sizeByte:=by kernel_rfl
 neB5:=by decide
end Go.Proofs
namespace Go.Proofs.YtjlfllhedceigaaGreatDoor
open Go.Proofs.Tryz
open Go.RowKit Go.Shelf
set_option linter.unusedVariables false
def mh (w:World) (b:Nat) (l:List UInt8):Prop:=Lib.IsBuilder 143 5 b b (Lib.byteCells l) w
theorem mh.but {w w':World} {b:Nat} {l:List UInt8} (h:mh w b l) (hb:But [] w w'):mh w' b l:=by(
 have one:∀ p,Lib.BuilderAt 143 5 b b p (Lib.byteCells l) w→Lib.BuilderAt 143 5 b b p (Lib.byteCells l) w':=fun p ⟨h1,v,h2,h3,h4⟩=>by
  refine⟨h1,v,(hb.block b (Array.getElem?_eq_some_iff.1 h2).1 (by simp)).trans h2,h3.kept (row:=none) ⟨hb.os,hb.tape,hb.output,hb.size,fun k hk _=>hb.block k hk (by simp)⟩ ?_,h4⟩
  cases h5:v.ownBlock with
  | none=>exact .inl rfl
  | some x=>exact .inr (by simp)
 rcases h with h | h
 ·exact .inl (one _ h)
 ·exact .inr (one _ h))
theorem mh.new (w:World):mh (w.alloc (.cells #[.pointer none,.slice none 0 0] 143)) w.heap.size [] :=
 .inl ⟨Nat.le_refl _,.slice none 0 0,World.alloc_heap_new w _,World.ownsRow_nil _ _ _ _,by simp[Value.ownBlock]⟩
theorem ztp (l:List UInt8) (c:UInt8):Lib.byteCells l++[.int .u8 (c.toNat:Int)]=Lib.byteCells (l++[c]):=by(
 unfold Lib.byteCells
 rw[List.map_append]
 try rfl)
theorem zto (l:List UInt8) (s:ByteArray):Lib.byteCells l++Lib.strCells s=Lib.byteCells (l++s.data.toList):=by(
 unfold Lib.byteCells Lib.strCells
 rw[List.map_append]
 try rfl)
theorem zdr (b:Nat) (l:List UInt8) (c:UInt8) (w:World) (h:mh w b l) (hl:l.length<1000000) (hb:b<w.heap.size) :
   Calls prog 76 #[.pointer (some ⟨b,0,none⟩),.int .u8 (c.toNat:Int)] w fun e w'=>e=.returned .nilIface∧mh w' b (l++[c])∧Below b w w':=by(
 have hx:=Any.Builder_WriteByte Tryz.lays167 Tryz.zio b b (Lib.byteCells l) (c.toNat:Int) w h (by unfold Lib.byteCells;rw[List.length_map];omega) (by omega)
 refine hx.mono ?_
 rintro e w' ⟨rfl,h1,h2⟩
 refine⟨rfl,.inr ?_,h2⟩
 rw[ztp] at h1
 exact h1)
theorem zcf (b:Nat) (l:List UInt8) (s:ByteArray) (w:World) (h:mh w b l) (hl:l.length<1000000) (hs:s.size<1000000) (hb:b<w.heap.size) :
   Calls prog 74 #[.pointer (some ⟨b,0,none⟩),.string s] w fun e w'=>e=.returned (.tuple #[.int .i64 (s.size:Int),.nilIface])∧mh w' b (l++s.data.toList)∧Below b w w':=by(
 have hx:=Any.Builder_WriteString Tryz.lays166 Tryz.ziq b b (Lib.byteCells l) s w h (by unfold Lib.byteCells;rw[List.length_map];omega) (by omega)
 refine hx.mono ?_
 rintro e w' ⟨rfl,h1,h2⟩
 refine⟨rfl,.inr ?_,h2⟩
 rw[zto] at h1
 exact h1)
theorem zfu (b:Nat) (l:List UInt8) (w:World) (h:mh w b l) (hb:b<w.heap.size) :
  Calls prog 77 #[.pointer (some ⟨b,0,none⟩)] w fun e w'=>e=.returned (.string ⟨l.toArray⟩)∧Below b w w' :=
 Any.Builder_String_any Tryz.lays169 Tryz.zin b b l w h (by omega)
end Go.Proofs.YtjlfllhedceigaaGreatDoor
namespace Go.Proofs
open Go.Proofs.Tryz
open Go.Shelf Go.RowKit
def Tryz.lays156_ren : Go.Shelf.Ren := ⟨fun | 156 => 159 | 165 => 220 | 166 => 74 | 169 => 77 | 240 => 156 | 241 => 267 | 276 => 219 | 277 => 304 | n => n, fun | 0 => 0 | 3 => 3 | 4 => 4 | 5 => 5 | 9 => 9 | 20 => 20 | 31 => 151 | 37 => 141 | 70 => 140 | 72 => 143 | 75 => 29 | 76 => 144 | 80 => 35 | 127 => 231 | 164 => 187 | n => n, fun | n => n⟩
theorem Tryz.lays156 : Go.Proofs.Lays.n156 Tryz.prog Tryz.lays156_ren := {
  mixed := by kernel_rfl
  f156 := Tryz.func159.trans (congrArg some (by kernel_rfl))
  f165 := Tryz.func220.trans (congrArg some (by kernel_rfl))
  f166 := Tryz.func74.trans (congrArg some (by kernel_rfl))
  f169 := Tryz.func77.trans (congrArg some (by kernel_rfl))
  f240 := Tryz.func156.trans (congrArg some (by kernel_rfl))
  f241 := Tryz.func267.trans (congrArg some (by kernel_rfl))
  f276 := Tryz.func219.trans (congrArg some (by kernel_rfl))
  f277 := Tryz.func304.trans (congrArg some (by kernel_rfl))
  t0 := Tryz.underlying0
  a0 := Tryz.isAgg0
  z0 := Tryz.sizeOf0
  v0 := Tryz.zeroValue0
  t3 := Tryz.underlying3
  a3 := Tryz.isAgg3
  z3 := Tryz.sizeOf3
  v3 := Tryz.zeroValue3
  t4 := Tryz.underlying4
  a4 := Tryz.isAgg4
  z4 := Tryz.sizeOf4
  v4 := Tryz.zeroValue4
  t9 := Tryz.underlying9
  a9 := Tryz.isAgg9
  z9 := Tryz.sizeOf9
  v9 := Tryz.zeroValue9
  t20 := Tryz.underlying20
  a20 := Tryz.isAgg20
  z20 := Tryz.sizeOf20
  v20 := Tryz.zeroValue20
  t31 := Tryz.underlying151
  a31 := Tryz.isAgg151
  z31 := Tryz.sizeOf151
  v31 := Tryz.zeroValue151
  t37 := Tryz.underlying141
  a37 := Tryz.isAgg141
  z37 := Tryz.sizeOf141
  v37 := Tryz.zeroValue141
  t70 := Tryz.underlying140
  a70 := Tryz.isAgg140
  z70 := Tryz.sizeOf140
  v70 := Tryz.zeroValue140
  t72 := Tryz.underlying143
  a72 := Tryz.isAgg143
  z72 := Tryz.sizeOf143
  v72 := Tryz.zeroValue143
  t75 := Tryz.underlying29
  a75 := Tryz.isAgg29
  z75 := Tryz.sizeOf29
  v75 := Tryz.zeroValue29
  t76 := Tryz.underlying144
  a76 := Tryz.isAgg144
  z76 := Tryz.sizeOf144
  v76 := Tryz.zeroValue144
  t127 := Tryz.underlying231
  a127 := Tryz.isAgg231
  z127 := Tryz.sizeOf231
  v127 := Tryz.zeroValue231
  t164 := Tryz.underlying187
  a164 := Tryz.isAgg187
  z164 := Tryz.sizeOf187
  v164 := Tryz.zeroValue187 }
theorem Tryz.zir:Builder.Extra prog Tryz.lays156_ren where
 sizeBuilder:=by kernel_rfl
 liesBuilder:=by kernel_rfl
 t5:=underlying5
 a5:=isAgg5
 z5:=sizeOf5
 v5:=zeroValue5
 infoByte:=by kernel_rfl
 cellsByte:=by kernel_rfl
 sizeByte:=by kernel_rfl
 neB5:=by decide
end Go.Proofs
namespace Go.Proofs.YtjlfllhedceigaaGreatDoor
open Go.Proofs.Tryz
open Go.RowKit Go.Shelf
set_option linter.unusedVariables false
theorem zom (d:UInt8):∀ xs:List (List UInt8),Lib.join xs [d]=jn d xs
 | []=>rfl
 | [x]=>Lib.join_one x [d]
 | x::y::l=>by
  have ih:=zom d (y::l)
  rw[Lib.join_cons] at ih ⊢
  show x++Lib.joinTail [d] (y::l)=x++d::jn d (y::l)
  rw[← ih]
  simp[Lib.joinTail]
theorem zpp (b o c:Nat) (xs:List (List UInt8)) (w:World) (hw:zpa w (.slice (some ⟨b,o,none⟩) xs.length c) xs) (hN:xs.length≤1000) (hcap:xs.length≤c) (hbk:b<w.heap.size) (hlen:(jn 32 xs).length≤1000000) :
   Calls prog 159 #[.slice (some ⟨b,o,none⟩) xs.length c,.string ⟨#[32]⟩] w fun e w'=>e=.returned (dm (jn 32 xs))∧But [] w w':=by(
 have hx:=Any.strings_Join Tryz.lays156 Tryz.zir b o c (xs.map fun x=>⟨x.toArray⟩) ⟨#[32]⟩ w (fun j x hj=>by
  rw[List.getElem?_map] at hj
  cases e:xs[j]? with
  | none=>rw[e] at hj;simp at hj
  | some y =>
   rw[e] at hj
   simp only[Option.map_some,Option.some.injEq] at hj
   subst hj
   obtain⟨a,cap,ha,hw⟩:=hw
   simp only[Value.slice.injEq] at ha
   obtain⟨b',o',e1,h1⟩:=hw j y e
   rw[← ha.1] at e1
   simp only[Option.some.injEq,Addr.mk.injEq,and_true] at e1
   rw[e1.1,e1.2]
   exact h1) hbk (by rw[List.length_map];omega) (by rw[List.length_map];omega) (by
    rw[List.map_map]
    have e:((fun x:ByteArray=>x.data.toList) ∘ fun x:List UInt8=>(⟨x.toArray⟩:ByteArray))=id:=by funext x;simp
    rw[e,List.map_id]
    show (Lib.join xs [32]).length≤_
    rw[zom]
    omega)
 rw[List.length_map] at hx
 refine hx.mono ?_
 rintro e w' ⟨rfl,h2⟩
 refine⟨?_,But.of_below h2⟩
 rw[List.map_map]
 have e:((fun x:ByteArray=>x.data.toList) ∘ fun x:List UInt8=>(⟨x.toArray⟩:ByteArray))=id:=by funext x;simp
 rw[e,List.map_id]
 show Ending.returned (.string ⟨(Lib.join xs [32]).toArray⟩)=_
 rw[zom]
 rfl)
open Go.RowKit
theorem zxy {a w w':World} (h:But [] a w) (hb:Below a.heap.size w w'):But [] a w':=But.of_below (h.below.trans hb)
theorem qdf (z:Int) (h0:0≤z) (h1:z≤1000000000000000):(Lib.itoa z).length≤16:=by
 rw[zuz z h0]
 exact zbz 15 z.toNat (by omega)
end Go.Proofs.YtjlfllhedceigaaGreatDoor
