/- A line cut into its words, as the Go tex -/
import Derived.Shelf.Strconv.Clone
import Derived.Test.YtcgecpoedojhjaaGreatDoorKPSC
namespace Go.Proofs.YtcgecpoedojhjaaGreatDoor
open Go.Proofs.Tryz
open Go.RowKit Go.Shelf
set_option maxHeartbeats 16000000
set_option maxRecDepth 100000
set_option linter.unusedVariables false
def quc:Value→Nat
 | .slice _ n _=>n
 | _=>0
theorem uw.block {w:World} {base:Nat} {v:Value} {ws:List (List UInt8)} (h:uw w base v ws):∀ g ∈ v.ownBlock.toList,base≤g:=fun g hg=>by
 rcases h.2 with ⟨rfl,-⟩|⟨g',cap,cur,rfl,q1,-⟩
 ·simp[Value.ownBlock] at hg
 ·simp only[Value.ownBlock,Option.toList_some,List.mem_cons,List.not_mem_nil,or_false] at hg
  subst hg
  exact q1
theorem uw.beside {w w':World} {base:Nat} {v:Value} {ws:List (List UInt8)} {l:List Nat} (h:uw w base v ws) (hb:But l w w') (hn:∀ g ∈ l,g<base):uw w' base v ws:=by
 refine⟨h.1,?_⟩
 rcases h.2 with e|⟨g,cap,cur,e,h1,h2,h3⟩
 ·exact .inl e
 ·exact .inr ⟨g,cap,cur,e,h1,(hb.block g (Array.getElem?_eq_some_iff.1 h2).1 (fun hm=>by have:=hn g hm;omega)).trans h2,h3⟩
theorem uw.mono {w:World} {base b2:Nat} {v:Value} {ws:List (List UInt8)} (h:uw w base v ws) (hb:b2≤base):uw w b2 v ws:=by
 refine⟨h.1,?_⟩
 rcases h.2 with e|⟨g,cap,cur,e,h1,h2⟩
 ·exact .inl e
 ·exact .inr ⟨g,cap,cur,e,Nat.le_trans hb h1,h2⟩
theorem zbl (ws:List (List UInt8)) (hw:∀ x ∈ ws,x≠[]∧(32:UInt8) ∉ x) (hs:(jn 32 ws).length≤50000) (hn:ws.length≤50000) (t:ByteArray) (ht:t=⟨(jn 32 ws).toArray⟩) (mx:Int) (w:World) (hm:w.cell? ⟨2,0,none⟩=some (.int .i64 mx)) :
  Calls prog 17 #[.string t] w fun e w'=>∃ v,e=.returned v∧uw w' w.heap.size v ws∧But [] w w':=by
 have hmf:∀ (fn:Fn) (first cap:Array Value) (w:World),(Instr.makeFunc fn first cap).run prog w=.ok (.func fn first cap) w:=fun _ _ _ _=>rfl
 have CN:=hide (fun k hk g W hb hm=>ztz ws hw hs k hk g mx W hb hm)
 have gm:=lt_of_cell hm
 have B0:Hid (xq (w.alloc (.cells #[.string t] 9)) w.heap.size 9 (yg (jn 32 (ws.drop 0)))):=by
  show xq _ _ _ _
  rw[List.drop_zero,ht]
  exact xq.new w _ _
 have F0:Hid (But [] w (w.alloc (.cells #[.string t] 9))):=(But.refl _ _).alloc _
 have S0:Hid ((w.alloc (.cells #[.string t] 9)).heap.size=w.heap.size+1):=by show _=_;simp
 have M0:Hid ((w.alloc (.cells #[.string t] 9)).cell? ⟨2,0,none⟩=some (.int .i64 mx)):=((But.refl [] w).alloc _).zb hm (by simp)
 have HNE:Hid (∀ k,k<ws.length→(⟨(ws[k]?.getD []).toArray⟩:ByteArray).toList.isEmpty=false):=fun k hk=>by
  rw[ByteArray.toList_mk,List.getElem?_eq_getElem hk]
  have h1:=(hw _ (List.getElem_mem hk)).1
  simpa using h1
 have HM:=hide hm
 have GM:=hide gm
 clear hw hs ht hm gm
 go_enter func17,ntmps17
 go_wp2_with fail
 refine (za CN 0 (by omega) _ _ (za B0) (za M0)).mono ?_
 rintro e w1 ⟨rfl,hb1,hf1⟩
 have W1:Hid (But [] w w1):=(za F0).trans hf1 (fun x hx=>by simp at hx;subst hx;exact .inr (Nat.le_refl _))
 have S1:Hid (w.heap.size+1≤w1.heap.size):=by show _≤_;have:=za S0;have:=hf1.size;omega
 have HB1:=hide hb1
 obtain⟨gB,hgB⟩:∃ gB,gB=w.heap.size:=⟨_,rfl⟩
 have HGB:=hide hgB
 rw[← hgB] at HB1 S1 ⊢
 clear hb1 hf1 F0 S0 M0 B0 hgB
 unfold yg
 go_wp2
 go_loopw [4,5] (fun v x wr=>∃ k:Nat,k≤ws.length∧(∃ wd:ByteArray,x=.string wd∧Hid (wd=⟨(ws[k]?.getD []).toArray⟩))∧(∃ a c,v=.slice a k c)∧Hid (uw wr (gB+1) v (ws.take k))∧Hid (xq wr gB 9 (yg (jn 32 (ws.drop (k+1)))))∧Hid (But [] w wr)∧Hid (gB+1≤wr.heap.size)) (fun v _ _=>ws.length-quc v)
 case atStart=>exact⟨0,Nat.zero_le _,⟨_,rfl,rfl⟩,⟨_,_,rfl⟩,uw.nil _ _,za HB1,za W1,za S1⟩
 case round =>
  obtain⟨k,hk,⟨wd,rfl,HWD⟩,⟨a,c,rfl⟩,HO,HX,HF,HS⟩:=hrel
  rename World=>wr
  clear HB1 W1 S1
  by_cases hlt:k<ws.length
  ·have hne:wd.toList.isEmpty=false:=by rw[za HWD];exact za HNE k hlt
   have hwv:Value.string wd=yg (ws[k]?.getD []):=by rw[za HWD];rfl
   have bV:But [] wr (wr.alloc (.cells #[.string wd] 9)):=(But.refl [] wr).alloc _
   have sV:=bV.size
   obtain⟨v',w',hr,ho,hg⟩:=zwt (wr.alloc (.cells #[.string wd] 9)) (gB+1) (.slice a k c) (ws.take k) ((za HO).but bV) wr.heap.size (ws[k]?.getD []) (by rw[← hwv];simp) (by rw[List.length_take];omega) (by have:=za HS;omega)
   have bG:But (Value.slice a k c).ownBlock.toList (wr.alloc (.cells #[.string wd] 9)) w':=zfc hg
   have hown:=((za HO).but bV).block
   have etk:ws.take k++[ws[k]?.getD []]=ws.take (k+1):=by rw[List.take_add_one,List.getElem?_eq_getElem hlt];rfl
   rw[etk] at ho
   have hx':xq w' gB 9 (yg (jn 32 (ws.drop (k+1)))):=((za HX).but bV).beside bG (fun hmm=>by have:=hown _ hmm;omega)
   have hf':But [] w w':=((za HF).trans' bV).trans bG (fun x hx=>by
    have h1:=hown x hx
    have h2:=za HGB
    exact .inr (by omega))
   obtain⟨a',c',ev⟩:=ho.form
   have hlk:(ws.take (k+1)).length=k+1:=by rw[List.length_take];omega
   rw[hlk] at ev
   subst ev
   have HR:Hid ((Builtin.append_ #[69,69] 69 #[.slice a k c,.slice (some ⟨wr.heap.size,0,none⟩) 1 1]).run prog (wr.alloc (.cells #[.string wd] 9))=.ok (.slice a' (k+1) c') w'):=hr
   have HO':=hide ho
   have HX':=hide hx'
   have HF':=hide hf'
   have HS':Hid (gB+1≤w'.heap.size):=by show _≤_;have:=za HS;have:=bG.size;omega
   have HM':Hid (w'.cell? ⟨2,0,none⟩=some (.int .i64 mx)):=hf'.zb (za HM) (by simp)
   clear hr ho hg bG hown etk hx' hf' hlk bV sV hwv HX HO HF HS
   go_wp2_with (at_builtin;refine ky rfl _ _ 69 69 rfl _ _ (.slice a' (k+1) c') w' rfl rfl (za HR) ?_)
   refine (za CN (k+1) (by omega) gB w' (za HX') (za HM')).mono ?_
   rintro e w2 ⟨rfl,hb2,hf2⟩
   have HB2:=hide hb2
   have HO2:=hide ((za HO').beside hf2 (fun g hg=>by simp at hg;omega))
   have HF2:Hid (But [] w w2):=(za HF').trans hf2 (fun x hx=>by simp at hx;subst hx;exact .inr (by have:=za HGB;omega))
   have HS2:Hid (gB+1≤w2.heap.size):=Nat.le_trans (za HS') hf2.size
   clear hb2 hf2 HX' HM' HO' HF' HS'
   unfold yg
   go_wp2
   exact⟨⟨k+1,by omega,⟨_,rfl,rfl⟩,⟨_,_,rfl⟩,za HO2,za HB2,za HF2,za HS2⟩,by simp[quc];omega⟩
  ·obtain rfl:k=ws.length:=by omega
   have hne:wd.toList.isEmpty=true:=by
    rw[za HWD,ByteArray.toList_mk,List.getElem?_eq_none (Nat.le_refl _)]
    rfl
   have ho:=za HO
   rw[List.take_length] at ho
   have HO':=hide (ho.mono (show w.heap.size≤gB+1 by have:=za HGB;omega))
   clear ho HO
   go_wp2
   exact bodyPost_ret (v:=.slice a ws.length c) (by simp[results,results17,go_sem]) rfl ⟨_,rfl,za HO',za HF⟩
end Go.Proofs.YtcgecpoedojhjaaGreatDoor
namespace Go.Proofs
open Go.Proofs.Tryz
open Go.Shelf Go.RowKit
set_option maxHeartbeats 4000000
def Tryz.laysM316_ren : Go.Shelf.Ren := ⟨fun | 316 => 106 | n => n, fun | 0 => 0 | 3 => 3 | 4 => 4 | 5 => 5 | 9 => 9 | 37 => 47 | 127 => 83 | n => n, fun | n => n⟩
theorem Tryz.laysM316 : Go.Proofs.LaysM.n316 Tryz.prog Tryz.laysM316_ren := {
  mixed := by kernel_rfl
  f316 := Tryz.func106.trans (congrArg some (by kernel_rfl))
  t0 := Tryz.underlying0
  a0 := Tryz.isAgg0
  z0 := Tryz.sizeOf0
  v0 := Tryz.zeroValue0
  t3 := Tryz.underlying3
  a3 := Tryz.isAgg3
  z3 := Tryz.sizeOf3
  v3 := Tryz.zeroValue3
  t4 := Tryz.underlying4
  a4 := Tryz.isAgg4
  z4 := Tryz.sizeOf4
  v4 := Tryz.zeroValue4
  t5 := Tryz.underlying5
  a5 := Tryz.isAgg5
  z5 := Tryz.sizeOf5
  v5 := Tryz.zeroValue5
  t9 := Tryz.underlying9
  a9 := Tryz.isAgg9
  z9 := Tryz.sizeOf9
  v9 := Tryz.zeroValue9
  t37 := Tryz.underlying47
  a37 := Tryz.isAgg47
  z37 := Tryz.sizeOf47
  v37 := Tryz.zeroValue47
  t127 := Tryz.underlying83
  a127 := Tryz.isAgg83
  z127 := Tryz.sizeOf83
  v127 := Tryz.zeroValue83
  i0 := by kernel_rfl
  i3 := by kernel_rfl
  i4 := by kernel_rfl
  i5 := by kernel_rfl
  i9 := by kernel_rfl
  i37 := by kernel_rfl
  i127 := by kernel_rfl }
end Go.Proofs
namespace Go.Proofs.YtcgecpoedojhjaaGreatDoor
open Go.Proofs.Tryz
open Go.RowKit Go.Shelf
set_option linter.unusedVariables false
theorem zpw (s:ByteArray) (hs:s.size≤281474976710656) (w:World):Calls prog 69 #[.string s] w fun e w'=>e=.returned (.string s)∧But [] w w':=by
 have CL:Hid (∀ W,Calls prog 106 #[.string s] W fun e w'=>e=.returned (.string s)∧Below W.heap.size W w'):=fun W=>Any.stringslite_Clone Tryz.laysM316 s W hs
 clear hs
 go_enter func69,ntmps69
 go_wp2_with fail
 refine (za CL _).mono ?_
 rintro e w1 ⟨rfl,hb⟩
 have B1:=hide (But.of_below hb)
 clear hb CL
 go_wp2
 exact bodyPost_ret (v:=.string s) (by simp[results,results69,go_sem]) rfl ⟨rfl,za B1⟩
theorem ic (z:Int) (h0:0≤z) (h1:z≤1000000000000000) (t:ByteArray) (ht:t=⟨(Lib.itoa z).toArray⟩) (g o:Nat) (u0:Int) (w:World) (htab:Lib.TabIs prog w "internal/strconv.uint64pow10" .u64 Lib.pow10Tab) (hc:w.cell? ⟨g,o,none⟩=some (.int .i64 u0)) (fz:∀ j,w.frozen? ⟨g,j,none⟩=false) :
  Calls prog 67 #[.string t,.pointer (some ⟨g,o,none⟩)] w fun e w'=>∃ w1,e=.returned .nilIface∧But [] w w1∧w'=w1.setCell ⟨g,o,none⟩ (.int .i64 z):=by
 have NU:=hide (zvq z h0 h1 w htab t ht)
 have hl:=lt_of_cell hc
 clear ht htab
 go_enter func67,ntmps67
 go_wp2_with fail
 refine (za NU).mono ?_
 rintro e w1 ⟨rfl,hb⟩
 have c1:=hb.zb hc (by simp)
 have f1:∀ j,w1.frozen? ⟨g,j,none⟩=false:=fun j=>(hb.frozen (p:=⟨g,j,none⟩) hl (by simp)).trans (fz j)
 have B1:=hide hb
 clear hb NU fz hc
 go_wp2
 exact bodyPost_ret (v:=.nilIface) (by simp[results,results67,go_sem]) rfl ⟨w1,rfl,za B1,rfl⟩
theorem qao (g:Nat) (w:World):Calls prog 36 #[.pointer (some ⟨g,0,none⟩),.string ⟨#[99,101,100,101]⟩,.string ⟨#[99,101,100,101]⟩] w fun e w'=>e=.returned .nilIface∧w'=w:=by
 go_enter func36,ntmps36
 go_wp2
 exact bodyPost_ret (v:=.nilIface) (by simp[results,results36,go_sem]) rfl ⟨rfl,rfl⟩
theorem zge (g:Nat) (w:World):Calls prog 36 #[.pointer (some ⟨g,0,none⟩),.string ⟨#[116,111]⟩,.string ⟨#[116,111]⟩] w fun e w'=>e=.returned .nilIface∧w'=w:=by
 go_enter func36,ntmps36
 go_wp2
 exact bodyPost_ret (v:=.nilIface) (by simp[results,results36,go_sem]) rfl ⟨rfl,rfl⟩
theorem zqv (g:Nat) (w:World):Calls prog 36 #[.pointer (some ⟨g,0,none⟩),.string ⟨#[115,117,114,112,108,117,115]⟩,.string ⟨#[115,117,114,112,108,117,115]⟩] w fun e w'=>e=.returned .nilIface∧w'=w:=by
 go_enter func36,ntmps36
 go_wp2
 exact bodyPost_ret (v:=.nilIface) (by simp[results,results36,go_sem]) rfl ⟨rfl,rfl⟩
theorem zwa (g:Nat) (w:World):Calls prog 36 #[.pointer (some ⟨g,0,none⟩),.string ⟨#[116,105,109,101,115]⟩,.string ⟨#[116,105,109,101,115]⟩] w fun e w'=>e=.returned .nilIface∧w'=w:=by
 go_enter func36,ntmps36
 go_wp2
 exact bodyPost_ret (v:=.nilIface) (by simp[results,results36,go_sem]) rfl ⟨rfl,rfl⟩
theorem zim (g:Nat) (w:World):Calls prog 36 #[.pointer (some ⟨g,0,none⟩),.string ⟨#[101,120,99,101,115,115]⟩,.string ⟨#[101,120,99,101,115,115]⟩] w fun e w'=>e=.returned .nilIface∧w'=w:=by
 go_enter func36,ntmps36
 go_wp2
 exact bodyPost_ret (v:=.nilIface) (by simp[results,results36,go_sem]) rfl ⟨rfl,rfl⟩
theorem zfj (g:Nat) (w:World):Calls prog 36 #[.pointer (some ⟨g,0,none⟩),.string ⟨#[108,105,109,105,116]⟩,.string ⟨#[108,105,109,105,116]⟩] w fun e w'=>e=.returned .nilIface∧w'=w:=by
 go_enter func36,ntmps36
 go_wp2
 exact bodyPost_ret (v:=.nilIface) (by simp[results,results36,go_sem]) rfl ⟨rfl,rfl⟩
theorem zwb (g:Nat) (w:World):Calls prog 36 #[.pointer (some ⟨g,0,none⟩),.string ⟨#[97,103,97,105,110]⟩,.string ⟨#[97,103,97,105,110]⟩] w fun e w'=>e=.returned .nilIface∧w'=w:=by
 go_enter func36,ntmps36
 go_wp2
 exact bodyPost_ret (v:=.nilIface) (by simp[results,results36,go_sem]) rfl ⟨rfl,rfl⟩
theorem qis (g:Nat) (w:World):Calls prog 36 #[.pointer (some ⟨g,0,none⟩),.string ⟨#[97,116]⟩,.string ⟨#[97,116]⟩] w fun e w'=>e=.returned .nilIface∧w'=w:=by
 go_enter func36,ntmps36
 go_wp2
 exact bodyPost_ret (v:=.nilIface) (by simp[results,results36,go_sem]) rfl ⟨rfl,rfl⟩
theorem qan (g:Nat) (w:World):Calls prog 36 #[.pointer (some ⟨g,0,none⟩),.string ⟨#[115,116,111,112]⟩,.string ⟨#[115,116,111,112]⟩] w fun e w'=>e=.returned .nilIface∧w'=w:=by
 go_enter func36,ntmps36
 go_wp2
 exact bodyPost_ret (v:=.nilIface) (by simp[results,results36,go_sem]) rfl ⟨rfl,rfl⟩
theorem zhh (z:Int) (h0:0≤z) (h1:z≤1000000000000000) (t:ByteArray) (ht:t=⟨(Lib.itoa z).toArray⟩) (g:Nat) (u0:Int) (w:World) (htab:Lib.TabIs prog w "internal/strconv.uint64pow10" .u64 Lib.pow10Tab) (hc:w.cell? ⟨g,5,none⟩=some (.int .i64 u0)) (fz:∀ j,w.frozen? ⟨g,j,none⟩=false) :
  Calls prog 36 #[.pointer (some ⟨g,0,none⟩),.string ⟨#[70,82,79,77]⟩,.string t] w fun e w'=>∃ w1,e=.returned .nilIface∧But [] w w1∧w'=w1.setCell ⟨g,5,none⟩ (.int .i64 z):=by
 have NU:=hide (ic z h0 h1 t ht g 5 u0 w htab hc fz)
 clear ht htab hc fz
 go_enter func36,ntmps36
 go_wp2_with fail
 refine (za NU).mono ?_
 rintro e w1 ⟨w2,rfl,hb,rfl⟩
 have B1:=hide hb
 clear hb NU
 go_wp2
 exact bodyPost_ret (v:=.nilIface) (by simp[results,results36,go_sem]) rfl ⟨w2,rfl,za B1,rfl⟩
theorem zcj (z:Int) (h0:0≤z) (h1:z≤1000000000000000) (t:ByteArray) (ht:t=⟨(Lib.itoa z).toArray⟩) (g:Nat) (u0:Int) (w:World) (htab:Lib.TabIs prog w "internal/strconv.uint64pow10" .u64 Lib.pow10Tab) (hc:w.cell? ⟨g,6,none⟩=some (.int .i64 u0)) (fz:∀ j,w.frozen? ⟨g,j,none⟩=false) :
  Calls prog 36 #[.pointer (some ⟨g,0,none⟩),.string ⟨#[76,73,77,73,84]⟩,.string t] w fun e w'=>∃ w1,e=.returned .nilIface∧But [] w w1∧w'=w1.setCell ⟨g,6,none⟩ (.int .i64 z):=by
 have NU:=hide (ic z h0 h1 t ht g 6 u0 w htab hc fz)
 clear ht htab hc fz
 go_enter func36,ntmps36
 go_wp2_with fail
 refine (za NU).mono ?_
 rintro e w1 ⟨w2,rfl,hb,rfl⟩
 have B1:=hide hb
 clear hb NU
 go_wp2
 exact bodyPost_ret (v:=.nilIface) (by simp[results,results36,go_sem]) rfl ⟨w2,rfl,za B1,rfl⟩
theorem zwd (z:Int) (h0:0≤z) (h1:z≤1000000000000000) (t:ByteArray) (ht:t=⟨(Lib.itoa z).toArray⟩) (g:Nat) (u0:Int) (w:World) (htab:Lib.TabIs prog w "internal/strconv.uint64pow10" .u64 Lib.pow10Tab) (hc:w.cell? ⟨g,8,none⟩=some (.int .i64 u0)) (fz:∀ j,w.frozen? ⟨g,j,none⟩=false) :
  Calls prog 36 #[.pointer (some ⟨g,0,none⟩),.string ⟨#[80,82,73,67,69]⟩,.string t] w fun e w'=>∃ w1,e=.returned .nilIface∧But [] w w1∧w'=w1.setCell ⟨g,8,none⟩ (.int .i64 z):=by
 have NU:=hide (ic z h0 h1 t ht g 8 u0 w htab hc fz)
 clear ht htab hc fz
 go_enter func36,ntmps36
 go_wp2_with fail
 refine (za NU).mono ?_
 rintro e w1 ⟨w2,rfl,hb,rfl⟩
 have B1:=hide hb
 clear hb NU
 go_wp2
 exact bodyPost_ret (v:=.nilIface) (by simp[results,results36,go_sem]) rfl ⟨w2,rfl,za B1,rfl⟩
theorem zbx (t:ByteArray) (hs:t.size≤281474976710656) (g:Nat) (u0:Value) (w:World) (hc:w.cell? ⟨g,9,none⟩=some u0) (fz:∀ j,w.frozen? ⟨g,j,none⟩=false) :
  Calls prog 36 #[.pointer (some ⟨g,0,none⟩),.string ⟨#[78,65,77,69]⟩,.string t] w fun e w'=>∃ w1,e=.returned .nilIface∧But [] w w1∧w'=w1.setCell ⟨g,9,none⟩ (.string t):=by
 have CL:=hide (zpw t hs w)
 have hl:=lt_of_cell hc
 clear hs
 go_enter func36,ntmps36
 go_wp2_with fail
 refine (za CL).mono ?_
 rintro e w1 ⟨rfl,hb⟩
 have c1:=hb.zb hc (by simp)
 have f1:∀ j,w1.frozen? ⟨g,j,none⟩=false:=fun j=>(hb.frozen (p:=⟨g,j,none⟩) hl (by simp)).trans (fz j)
 have B1:=hide hb
 clear hb CL fz hc
 go_wp2
 exact bodyPost_ret (v:=.nilIface) (by simp[results,results36,go_sem]) rfl ⟨w1,rfl,za B1,rfl⟩
theorem zwc (t:ByteArray) (s:Bool) (x y:Int) (g:Nat) (k0:Value) (u1:Bool) (u2 u3:Int) (u4:Option Addr) (k5 k6 k7 k8 k9:Value) (w:World) (CP:Calls prog 66 #[.string t] w fun e w'=>e=.returned (.tuple #[.agg #[.bool s,.int .u64 x,.int .u64 y,.pointer none],.nilIface])∧But [] w w') (hN:jy 0 w g [k0,.bool u1,.int .u64 u2,.int .u64 u3,.pointer u4,k5,k6,k7,k8,k9]) :
  Calls prog 36 #[.pointer (some ⟨g,0,none⟩),.string ⟨#[83,72,65,82,69]⟩,.string t] w fun e w'=>e=.returned .nilIface∧jy 0 w' g [k0,.bool s,.int .u64 x,.int .u64 y,.pointer none,k5,k6,k7,k8,k9]∧But [g] w w':=by
 have HCP:=hide CP
 have HN:=hide hN
 clear CP hN
 go_enter func36,ntmps36
 go_wp2_with fail
 refine (za HCP).mono ?_
 rintro e w1 ⟨rfl,hb⟩
 have hN1:=(za HN).but hb
 have d1:=hN1.cells 1 _ rfl
 have d2:=hN1.cells 2 _ rfl
 have d3:=hN1.cells 3 _ rfl
 have d4:=hN1.cells 4 _ rfl
 have f1:=hN1.loose
 have hg1:=hN1.lt
 have B1:=hide hb
 have HN1:=hide hN1
 clear hb HCP HN hN1
 go_wp2
 have hp:=(za HN1).putAt 1 [.bool s,.int .u64 x,.int .u64 y,.pointer none] (by simp)
 have hS:=zy w1 g [.bool s,.int .u64 x,.int .u64 y,.pointer none] 1
 have hA:But [] (w1.setCells g 1 [.bool s,.int .u64 x,.int .u64 y,.pointer none]) ((w1.setCells g 1 [.bool s,.int .u64 x,.int .u64 y,.pointer none]).alloc (.cells #[.bool s,.int .u64 x,.int .u64 y,.pointer none] 35)):=(But.refl _ _).alloc _
 exact bodyPost_ret (v:=.nilIface) (by simp[results,results36,go_sem]) rfl ⟨rfl,hp.but hA,(((za B1).of_nil (l:=[g])).trans hS (fun x hx=>.inl hx)).trans' hA⟩
end Go.Proofs.YtcgecpoedojhjaaGreatDoor
