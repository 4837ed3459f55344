/- Texts of fractions, of both kinds, are t -/
import Derived.Test.YtollloafckcogaaGreatDoorKYD1
import Derived.Test.YtollloafckcogaaGreatDoorKYHE
import Derived.Test.YtollloafckcogaaGreatDoorKYHSr
namespace Go.Proofs.YtollloafckcogaaGreatDoor
open Go.RowKit
theorem nba_ext {a b:ByteArray} (h:a.data.toList=b.data.toList):a=b:=by
 cases a;cases b;simp only [ByteArray.mk.injEq];exact Array.ext' h
theorem nba_app (a b:ByteArray):(a++b).data.toList=a.data.toList++b.data.toList:=by simp
theorem txt_same (x:Rat):fracTxt (decide (x.num<0)) x.num.natAbs x.den=ratTxt x.num x.den:=by
 apply nba_ext
 have e:decI x.num=(if decide (x.num<0) then [45] else [])++Lib.decDigits x.num.natAbs:=by
  rw [decI]
  by_cases h:x.num<0
  ·rw [if_pos h,decide_eq_true h];rfl
  ·rw [if_neg h,decide_eq_false h];rfl
 have e2:decI (x.den:Int)=Lib.decDigits x.den:=by rw [decI,if_neg (by omega),Int.natAbs_natCast]
 generalize decide (x.num<0)=r at *
 rw [fracTxt,ratTxt,nba_app]
 by_cases hq:x.den=1
 ·rw [if_pos hq,if_pos hq,e]
  cases r <;> simp
 ·rw [if_neg hq,if_neg hq,nba_app,nba_app,nba_app,e,e2]
  cases r <;> simp
theorem txt_zero:fracTxt false 0 1=⟨#[48]⟩:=by
 rw [fracTxt]
 have:Lib.decDigits 0=[48]:=by rw [Lib.decDigits,dif_pos (by omega)];rfl
 rw [this]
 apply nba_ext
 rw [nba_app];rfl
theorem len_zeroX:Len (0:Rat) 1000000:=⟨by show (wd 18446744073709551616 0).length≤_;rw [wd_zero];simp,Nat.le_trans (wd_length_le (B:=18446744073709551616) (by omega) 1 1 (by omega)) (by omega)⟩
theorem lenU_len {f:Rat} {n:Nat} (h:Len f n):LenU f (2*n):=by
 have h1:=lt_of_wd_length (B:=18446744073709551616) (by omega) _ n h.1
 have h2:=lt_of_wd_length (B:=18446744073709551616) (by omega) _ n h.2
 have e:(18446744073709551616:Nat)^n=4294967296^(2*n):=by rw [Nat.pow_mul]
 rw [e] at h1 h2
 exact ⟨wd_length_le (by omega) _ _ h1,wd_length_le (by omega) _ _ h2⟩
end Go.Proofs.YtollloafckcogaaGreatDoor

namespace Go.Proofs.YtollloafckcogaaGreatDoor
open Go.RowKit
set_option maxHeartbeats 8000000
set_option maxRecDepth 100000
theorem info_txt:∃ i,Tryz.prog.info? 9 = some i∧i.zero=some (.string ⟨#[]⟩)∧i.size=1∧i.bytes=16:=by
 have h:(Tryz.prog.info? 9).map (fun i=>(i.zero,i.size,i.bytes))=some (some (.string ⟨#[]⟩),1,16):=by kernel_rfl
 cases e:Tryz.prog.info? 9 with
 | none=>rw [e] at h;simp at h
 | some i =>
  rw [e] at h
  simp only [Option.map_some,Option.some.injEq,Prod.mk.injEq] at h
  exact ⟨i,rfl,h.1,h.2.1,h.2.2⟩
def OwnT (w:World) (base:Nat) (v:Value) (ts:List ByteArray):Prop:=w.ownsRow base 9 1 v ts.length (ts.map Value.string)
theorem OwnT.nil (w:World) (base:Nat):OwnT w base (.slice none 0 0) []:=World.ownsRow_nil _ _ _ _
theorem OwnT.but {w w':World} {base:Nat} {v:Value} {ts:List ByteArray} (h:OwnT w base v ts) (hb:But [] w w'):OwnT w' base v ts:=ownsRow_but h hb
theorem OwnT.form {w:World} {base:Nat} {v:Value} {ts:List ByteArray} (h:OwnT w base v ts):∃ a c,v=.slice a ts.length c:=ownsRow_form h
def TxtsAt (w:World) (v:Value) (ts:List ByteArray):Prop:=∃ a cap,v=.slice a ts.length cap∧∀ i x,ts[i]? = some x→∃ b off,a=some ⟨b,off,none⟩∧w.cell? ⟨b,off+i,none⟩=some (.string x)
theorem TxtsAt.but {w w':World} {v:Value} {ts:List ByteArray} (h:TxtsAt w v ts) (hb:But [] w w'):TxtsAt w' v ts:=by
 obtain ⟨a,cap,e,h⟩:=h
 refine ⟨a,cap,e,fun i x hx=>?_⟩
 obtain ⟨b,off,e1,h1⟩:=h i x hx
 exact ⟨b,off,e1,hb.cell_some h1 (by simp)⟩
theorem OwnT.txts {w:World} {base:Nat} {v:Value} {ts:List ByteArray} (h:OwnT w base v ts):TxtsAt w v ts:=by
 rcases h.2 with ⟨rfl,h0⟩ | ⟨g,cap,cur,rfl,h1,h2,h3,-⟩
 ·have:ts=[]:=List.length_eq_zero_iff.1 h0
  subst this
  exact ⟨none,0,rfl,fun i x hx=>by simp at hx⟩
 ·refine ⟨_,cap,rfl,fun i x hx=>⟨g,0,rfl,?_⟩⟩
  have hc:=h.cells (g:=g) rfl i (.string x) (by rw [List.getElem?_map,hx];rfl)
  have e:(⟨g,0,none⟩:Addr).add i=⟨g,0+i,none⟩:=by
   by_cases hz:i=0
   ·simp [Addr.add,hz]
   ·simp [Addr.add,hz]
  rw [e] at hc
  exact hc
theorem append_txt (w:World) (base:Nat) (v:Value) (ts:List ByteArray) (hown:OwnT w base v ts) (g:Nat) (x:ByteArray) (c:w.cell? ⟨g,0,none⟩=some (.string x)) (hk:ts.length<1000000) (hb:base≤w.heap.size) :
  ∃ v' w',(Builtin.append_ #[67,67] 67 #[v,.slice (some ⟨g,0,none⟩) 1 1]).run Tryz.prog w=.ok v' w'∧OwnT w' base v' (ts++[x])∧w.grownBy w' v.ownBlock:=by
 obtain ⟨i0,hi,hz0,hz1,hz2⟩:=info_txt
 obtain ⟨v',w',hr,ho,hg,-⟩:=run_append_own (P:=Tryz.prog) w base 67 67 9 i0 _ 1 16 Tryz.underlying67 hi hz0 hz1 hz2 rfl (by decide) v ts.length (ts.map Value.string) hown ⟨g,0,none⟩ 1 1 [.string x] rfl (fun j u hj=>by
   cases j with
   | zero=>simp at hj;subst hj;exact c
   | succ j=>simp at hj) (fun u hu=>by
   simp only [List.mem_cons,List.not_mem_nil,or_false] at hu
   subst hu
   rfl) (by unfold maxLen;omega) (by omega) hb
 refine ⟨v',w',hr,?_,hg⟩
 unfold OwnT at *
 rw [List.length_append,List.map_append]
 exact ho
def txtF (f:Rat):ByteArray:=fracTxt (decide (f.num<0)) f.num.natAbs f.den
theorem range_map {α:Type} {F:Nat→α} {l:List α} (h:∀ i x,l[i]? = some x→F i=x):(List.range l.length).map F=l:=by
 apply List.ext_getElem?
 intro i
 rw [List.getElem?_map]
 by_cases hi:i<l.length
 ·rw [List.getElem?_range hi,List.getElem?_eq_getElem hi]
  exact congrArg some (h i _ (List.getElem?_eq_getElem hi))
 ·rw [List.getElem?_eq_none (by simpa using hi),List.getElem?_eq_none (by simpa using hi)]
  rfl
theorem qf_parts (q:Int × Int) (h:Fits q):(qf q).num*(if q.2=0 then 1 else q.2)=q.1*((qf q).den:Int):=by
 obtain ⟨f,r,x,y,-,hf,-⟩:=plainF_any q.1 q.2 h.1 h.2.1 h.2.2.1 h.2.2.2
 rw [← qf_of f q hf]
 exact hf
theorem refList_any (v:Value) (qs:List (Int × Int)) (w:World) (hq:QsAt w v qs) (hf:∀ q ∈ qs,Fits q) (hn:qs.length≤1000) :
  Calls Tryz.prog 16 #[v] w fun e w'=>∃ v' us,e=.returned v'∧OwnR w' w.heap.size v' (qs.map qf) us∧But [] w w':=by
 obtain ⟨a,cap,rfl,hcap,hc⟩:=hq
 obtain ⟨F,hF⟩:∃ F:Nat→Rat,F=fun i=>qf (qs[i]?.getD (0,0)):=⟨_,rfl⟩
 have hL:(List.range qs.length).map F=qs.map qf:=by
  have:=range_map (F:=F) (l:=qs.map qf) (fun i x hx=>by
   rw [List.getElem?_map] at hx
   cases h:qs[i]? with
   | none=>rw [h] at hx;simp at hx
   | some q=>rw [h] at hx;rw [hF];simp only [h,Option.getD_some];simpa using hx)
  rwa [List.length_map] at this
 have hcell:∀ i,i<qs.length→∃ b off,a=some ⟨b,off,none⟩∧w.cell? ⟨b,off+i*2,none⟩=some (.int .i64 (qs[i]?.getD (0,0)).1)∧w.cell? ⟨b,off+i*2+1,none⟩=some (.int .i64 (qs[i]?.getD (0,0)).2):=fun i hi=>by
  rw [List.getElem?_eq_getElem hi]
  exact hc i _ (List.getElem?_eq_getElem hi)
 have hOF:∀ i,i<qs.length→∀ W,Calls Tryz.prog 12 #[.agg #[.int .i64 (qs[i]?.getD (0,0)).1,.int .i64 (qs[i]?.getD (0,0)).2]] W fun e w'=>∃ zb,e=.returned (.pointer (some ⟨zb,0,none⟩))∧RatIs w' zb (F i)∧But [] W w':=fun i hi W=>by
  have eF:F i=qf qs[i]:=by rw [hF];show qf (qs[i]?.getD (0,0))=_;rw [List.getElem?_eq_getElem hi];rfl
  rw [eF,List.getElem?_eq_getElem hi]
  have hq:=hf qs[i] (List.getElem_mem hi)
  exact (refOf_any _ _ (qf qs[i]) W hq.1 hq.2.1 hq.2.2.1 hq.2.2.2 (qf_parts _ hq)).mono fun e w' ⟨zb,he,hb,hr,_⟩=>⟨zb,he,hr,hb⟩
 have HC:=hide hcell
 have HV:=hide hOF
 rw [← hL]
 obtain ⟨n,hnn⟩:∃ n,n=qs.length:=⟨_,rfl⟩
 rw [← hnn] at hn hcap HC HV
 rw [← hnn]
 clear hcell hOF hc hf hF hL hnn
 go_enter Tryz.func16,Tryz.ntmps16
 go_wp2
 go_loopw [3,8] (fun o i wr=>∃ (k:Nat) (us:List Value),k≤n∧i=.int .i64 (k:Int)∧Hid (OwnR wr w.heap.size o ((List.range k).map F) us∧But [] w wr)) (fun _ i _=>n-(intOf i).toNat)
 case atStart=>exact ⟨0,[],Nat.zero_le _,rfl,OwnR.empty _ _,But.refl _ _⟩
 case round =>
  obtain ⟨k,us,hk,rfl,HI⟩:=hrel
  rename World=>wr
  by_cases hlt:k<n
  ·obtain ⟨b,off,rfl,c0,c1⟩:=unhide HC k hlt
   have c0':=(unhide HI).2.cell_some c0 (by simp)
   have c1':=(unhide HI).2.cell_some c1 (by simp)
   have PF:=hide (unhide HV k hlt)
   clear c0 c1
   generalize (qs[k]?.getD (0,0)).1=q1 at *
   generalize (qs[k]?.getD (0,0)).2=q2 at *
   have ba:=(But.refl [] wr).alloc (.cells #[.int .i64 q1,.int .i64 q2] 23)
   have BA:=hide ba
   clear ba
   go_wp2_with fail
   refine (unhide PF _).mono ?_
   rintro e w1 ⟨zb,rfl,hz,hb1⟩
   obtain ⟨V,hV⟩:∃ V,V=w1.alloc (.cells #[.pointer (some ⟨zb,0,none⟩)] 37):=⟨_,rfl⟩
   have bV1:But [] w1 V:=by rw [hV];exact (But.refl _ _).alloc _
   have cc:V.cell? ⟨w1.heap.size,0,none⟩=some (.pointer (some ⟨zb,0,none⟩)):=by rw [hV];simp
   have bV:But [] wr V:=((unhide BA).trans' hb1).trans' bV1
   have oV:=(unhide HI).1.but bV
   have bwV:=(unhide HI).2.trans' bV
   obtain ⟨v',w',hr,ho,hB,-⟩:=append_ref V w u3 _ us w.heap.size oV w1.heap.size _ (F k) cc ⟨zb,rfl,hz.but bV1⟩ (by simp;omega) bwV (Nat.le_refl _) bwV.size
   have BF:Hid (But [] w w'):=hB
   have HO:=hide ho
   rw [hV] at hr
   have HR:=hide hr
   clear hr ho hB oV bV bwV cc hV bV1 hz hb1
   go_wp2_with (at_builtin;refine wpList_app rfl _ _ 46 46 rfl _ _ v' w' rfl rfl (unhide HR) ?_)
   refine ⟨⟨k+1,_,by omega,by go_num,by rw [List.range_succ,List.map_append];exact unhide HO,unhide BF⟩,by simp [intOf];omega⟩
  ·obtain rfl:k=n:=by omega
   obtain ⟨a',c',e'⟩:=(unhide HI).1.form
   subst e'
   go_wp2
   go_ret
   exact ⟨_,us,rfl,(unhide HI).1,(unhide HI).2⟩
theorem refTexts_any (v:Value) (fs:List Rat) (w:World) (hq:RatsAt w v fs) (lf:∀ f ∈ fs,Len f 1000000) (hn:fs.length≤1000) :
  Calls Tryz.prog 27 #[v] w fun e w'=>∃ v',e=.returned v'∧OwnT w' w.heap.size v' (fs.map txtF)∧But [] w w':=by
 obtain ⟨F,hF⟩:∃ F:Nat→ByteArray,F=fun i=>txtF (fs[i]?.getD 0):=⟨_,rfl⟩
 have hL:(List.range fs.length).map F=fs.map txtF:=by
  have:=range_map (F:=F) (l:=fs.map txtF) (fun i x hx=>by
   rw [List.getElem?_map] at hx
   cases h:fs[i]? with
   | none=>rw [h] at hx;simp at hx
   | some q=>rw [h] at hx;rw [hF];simp only [h,Option.getD_some];simpa using hx)
  rwa [List.length_map] at this
 have hOF:∀ W,But [] w W→∀ i,i<fs.length→∃ b off g,(∃ a c,v=.slice a fs.length c∧a=some ⟨b,off,none⟩)∧W.cell? ⟨b,off+i,none⟩=some (.pointer (some ⟨g,0,none⟩))∧Calls Tryz.prog 10 #[.pointer (some ⟨g,0,none⟩)] W fun e w'=>e=.returned (.string (F i))∧But [] W w':=fun W hb i hi=>by
  obtain ⟨a,cap,e,-⟩:=hq.open
  have h0:=hq.but hb
  rw [e] at h0
  obtain ⟨-,b,off,g,f,h1,h2,h3,h4⟩:=h0.at i hi
  refine ⟨b,off,g,⟨a,cap,e,h1⟩,h2,?_⟩
  have eF:F i=txtF f:=by rw [hF];show txtF (fs[i]?.getD 0)=_;rw [h3];rfl
  rw [eF]
  have hm:f ∈ fs:=List.mem_of_getElem? h3
  exact refText_any g f W h4 ((lenU_len (lf f hm)).mono (by omega)) (txtF f) (txt_same f)
 obtain ⟨a,cap,rfl,hcap⟩:=hq.open
 have HV:=hide hOF
 rw [← hL]
 obtain ⟨n,hnn⟩:∃ n,n=fs.length:=⟨_,rfl⟩
 rw [← hnn] at hn hcap HV
 rw [← hnn]
 clear hOF hF hL hq lf hnn
 go_enter Tryz.func27,Tryz.ntmps27
 go_wp2
 go_loopw [3,8] (fun o i wr=>∃ (k:Nat),k≤n∧i=.int .i64 (k:Int)∧Hid (OwnT wr w.heap.size o ((List.range k).map F)∧But [] w wr)) (fun _ i _=>n-(intOf i).toNat)
 case atStart=>exact ⟨0,Nat.zero_le _,rfl,OwnT.nil _ _,But.refl _ _⟩
 case round =>
  obtain ⟨k,hk,rfl,HI⟩:=hrel
  rename World=>wr
  by_cases hlt:k<n
  ·obtain ⟨b,off,g,⟨a',c',e',ea⟩,c0,hT⟩:=unhide HV wr (unhide HI).2 k hlt
   simp only [Value.slice.injEq] at e'
   obtain ⟨rfl,-,-⟩:=e'
   subst ea
   obtain ⟨t,ht⟩:∃ t,t=F k:=⟨_,rfl⟩
   rw [← ht] at hT
   have PF:=hide hT
   have HT:=hide ht
   clear hT ht
   go_wp2_with fail
   refine (unhide PF).mono ?_
   rintro e w1 ⟨rfl,hb1⟩
   obtain ⟨V,hV⟩:∃ V,V=w1.alloc (.cells #[.string t] 9):=⟨_,rfl⟩
   have bV1:But [] w1 V:=by rw [hV];exact (But.refl _ _).alloc _
   have cc:V.cell? ⟨w1.heap.size,0,none⟩=some (.string t):=by rw [hV];simp
   have bV:But [] wr V:=hb1.trans' bV1
   have oV:=(unhide HI).1.but bV
   have bwV:=(unhide HI).2.trans' bV
   obtain ⟨v',w',hr,ho,hg⟩:=append_txt V w.heap.size u3 _ oV w1.heap.size _ cc (by simp;omega) bwV.size
   have BF:Hid (But [] w w'):=but_of_grown bwV oV (Nat.le_refl _) hg
   have HO:=hide ho
   rw [hV] at hr
   have HR:=hide hr
   clear hr ho hg oV bV bwV cc hV bV1 hb1
   go_wp2_with (at_builtin;refine wpList_app rfl _ _ 67 67 rfl _ _ v' w' rfl rfl (unhide HR) ?_)
   refine ⟨⟨k+1,by omega,by go_num,by rw [List.range_succ,List.map_append,List.map_cons,List.map_nil,← unhide HT];exact unhide HO,unhide BF⟩,by simp [intOf];omega⟩
  ·obtain rfl:k=n:=by omega
   obtain ⟨a',c',e'⟩:=(unhide HI).1.form
   subst e'
   go_wp2
   go_ret
   exact ⟨_,rfl,(unhide HI).1,(unhide HI).2⟩
theorem plainTexts_any (v:Value) (fs:List Rat) (w:World) (hq:FracsAt w v fs) (lf:∀ f ∈ fs,Len f 1000000) (hn:fs.length≤1000) (htab:Lib.TabIs Tryz.prog w "internal/strconv.uint64pow10" .u64 Lib.pow10Tab) :
  Calls Tryz.prog 55 #[v] w fun e w'=>∃ v',e=.returned v'∧OwnT w' w.heap.size v' (fs.map txtF)∧But [] w w':=by
 obtain ⟨F,hF⟩:∃ F:Nat→ByteArray,F=fun i=>txtF (fs[i]?.getD 0):=⟨_,rfl⟩
 have hL:(List.range fs.length).map F=fs.map txtF:=by
  have:=range_map (F:=F) (l:=fs.map txtF) (fun i x hx=>by
   rw [List.getElem?_map] at hx
   cases h:fs[i]? with
   | none=>rw [h] at hx;simp at hx
   | some q=>rw [h] at hx;rw [hF];simp only [h,Option.getD_some];simpa using hx)
  rwa [List.length_map] at this
 obtain ⟨a,cap,e,hcap⟩:∃ a cap,v=.slice a fs.length cap∧fs.length≤cap:=by
  obtain ⟨a,cap,e,h1,-⟩:=hq
  exact ⟨a,cap,e,h1⟩
 have hOF:∀ W,But [] w W→∀ i,i<fs.length→∃ b off s x y p,a=some ⟨b,off,none⟩∧P4o W b (off+i*4) s x y p∧∀ X,But [] W X→Calls Tryz.prog 9 #[.agg #[.bool s,.int .u64 x,.int .u64 y,.pointer p]] X fun e w'=>e=.returned (.string (F i))∧But [] X w':=fun W hb i hi=>by
  have h0:=hq.but hb
  obtain ⟨a',cap',e',h1,h2⟩:=h0
  rw [e] at e'
  simp only [Value.slice.injEq] at e'
  obtain ⟨rfl,-,-⟩:=e'
  obtain ⟨b,off,ea,s,x,y,p,h3,h4⟩:=h2 i fs[i] (List.getElem?_eq_getElem hi)
  refine ⟨b,off,s,x,y,p,ea,h3,fun X hX=>?_⟩
  have eF:F i=txtF fs[i]:=by rw [hF];show txtF (fs[i]?.getD 0)=_;rw [List.getElem?_eq_getElem hi];rfl
  rw [eF]
  exact fracText_len _ fs[i] X (h4.but hX) (lf _ (List.getElem_mem hi)) (TabIs.but htab (hb.trans' hX)) (txtF fs[i]) rfl
 subst e
 have HV:=hide hOF
 rw [← hL]
 obtain ⟨n,hnn⟩:∃ n,n=fs.length:=⟨_,rfl⟩
 rw [← hnn] at hn hcap HV
 rw [← hnn]
 clear hOF hF hL hq lf hnn htab
 go_enter Tryz.func55,Tryz.ntmps55
 go_wp2
 go_loopw [3,8] (fun o i wr=>∃ (k:Nat),k≤n∧i=.int .i64 (k:Int)∧Hid (OwnT wr w.heap.size o ((List.range k).map F)∧But [] w wr)) (fun _ i _=>n-(intOf i).toNat)
 case atStart=>exact ⟨0,Nat.zero_le _,rfl,OwnT.nil _ _,But.refl _ _⟩
 case round =>
  obtain ⟨k,hk,rfl,HI⟩:=hrel
  rename World=>wr
  by_cases hlt:k<n
  ·obtain ⟨b,off,s,x,y,p,rfl,⟨c0,c1,c2,c3⟩,hT⟩:=unhide HV wr (unhide HI).2 k hlt
   obtain ⟨t,ht⟩:∃ t,t=F k:=⟨_,rfl⟩
   rw [← ht] at hT
   have PF:=hide hT
   have HT:=hide ht
   clear hT ht
   have ba:=(But.refl [] wr).alloc (.cells #[.bool s,.int .u64 x,.int .u64 y,.pointer p] 27)
   have BA:=hide ba
   clear ba
   go_wp2_with fail
   refine (unhide PF _ (unhide BA)).mono ?_
   rintro e w1 ⟨rfl,hb1⟩
   obtain ⟨V,hV⟩:∃ V,V=w1.alloc (.cells #[.string t] 9):=⟨_,rfl⟩
   have bV1:But [] w1 V:=by rw [hV];exact (But.refl _ _).alloc _
   have cc:V.cell? ⟨w1.heap.size,0,none⟩=some (.string t):=by rw [hV];simp
   have bV:But [] wr V:=((unhide BA).trans' hb1).trans' bV1
   have oV:=(unhide HI).1.but bV
   have bwV:=(unhide HI).2.trans' bV
   obtain ⟨v',w',hr,ho,hg⟩:=append_txt V w.heap.size u3 _ oV w1.heap.size _ cc (by simp;omega) bwV.size
   have BF:Hid (But [] w w'):=but_of_grown bwV oV (Nat.le_refl _) hg
   have HO:=hide ho
   rw [hV] at hr
   have HR:=hide hr
   clear hr ho hg oV bV bwV cc hV bV1 hb1
   go_wp2_with (at_builtin;refine wpList_app rfl _ _ 67 67 rfl _ _ v' w' rfl rfl (unhide HR) ?_)
   refine ⟨⟨k+1,by omega,by go_num,by rw [List.range_succ,List.map_append,List.map_cons,List.map_nil,← unhide HT];exact unhide HO,unhide BF⟩,by simp [intOf];omega⟩
  ·obtain rfl:k=n:=by omega
   obtain ⟨a',c',e'⟩:=(unhide HI).1.form
   subst e'
   go_wp2
   go_ret
   exact ⟨_,rfl,(unhide HI).1,(unhide HI).2⟩
theorem same_eq (v1 v2:Value) (ts:List ByteArray) (w:World) (h1:TxtsAt w v1 ts) (h2:TxtsAt w v2 ts) (hn:ts.length≤1000) :
  Calls Tryz.prog 26 #[v1,v2] w fun e w'=>e=.returned (.bool true)∧But [] w w':=by
 obtain ⟨a1,k1,rfl,c1⟩:=h1
 obtain ⟨a2,k2,rfl,c2⟩:=h2
 have hc:∀ W,But [] w W→∀ i,i<ts.length→∃ b1 o1 b2 o2 t,a1=some ⟨b1,o1,none⟩∧a2=some ⟨b2,o2,none⟩∧W.cell? ⟨b1,o1+i,none⟩=some (.string t)∧W.cell? ⟨b2,o2+i,none⟩=some (.string t):=fun W hb i hi=>by
  obtain ⟨b1,o1,e1,d1⟩:=c1 i _ (List.getElem?_eq_getElem hi)
  obtain ⟨b2,o2,e2,d2⟩:=c2 i _ (List.getElem?_eq_getElem hi)
  exact ⟨b1,o1,b2,o2,ts[i],e1,e2,hb.cell_some d1 (by simp),hb.cell_some d2 (by simp)⟩
 have HC:=hide hc
 clear hc c1 c2
 generalize ts.length=n at *
 go_enter Tryz.func26,Tryz.ntmps26
 go_wp2
 go_loopw [5] (fun i wr=>∃ (k:Nat),k≤n∧i=.int .i64 (k:Int)∧Hid (But [] w wr)) (fun i _=>n-(intOf i).toNat)
 case atStart=>exact ⟨0,Nat.zero_le _,rfl,But.refl _ _⟩
 case round =>
  obtain ⟨k,hk,rfl,HI⟩:=hrel
  rename World=>wr
  by_cases hlt:k<n
  ·obtain ⟨b1,o1,b2,o2,t,rfl,rfl,d1,d2⟩:=unhide HC wr (unhide HI) k hlt
   have ett:(t.toList==t.toList)=true:=by simp
   go_wp2
   go_quiet (fail)
   have HB3:=hide ((unhide HI).drewN nq)
   generalize wr.drewN nq=V at *
   go_wp2
   exact ⟨⟨k+1,by omega,by go_num,unhide HB3⟩,by simp [intOf];omega⟩
  ·obtain rfl:k=n:=by omega
   go_wp2
   go_ret
   exact ⟨rfl,unhide HI⟩
end Go.Proofs.YtollloafckcogaaGreatDoor
