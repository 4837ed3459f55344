/- Rows of texts of the call's own; the ref -/
import Derived.Test.YtagmkkiagjmimaaGreatDoorXD1
import Derived.Test.YtagmkkiagjmimaaGreatDoorXHPb
import Derived.Test.YtagmkkiagjmimaaGreatDoorXLX
import Derived.Test.YtagmkkiagjmimaaGreatDoorXRLa
import Derived.Test.YtagmkkiagjmimaaGreatDoorXT3
namespace Go.Proofs.YtagmkkiagjmimaaGreatDoor
open Go.Proofs.Tryz
open Go.RowKit
set_option maxHeartbeats 16000000
set_option maxRecDepth 100000
theorem qbx:∃ i,prog.info? 9 = some i∧i.zero=some (.string ⟨#[]⟩)∧i.size=1∧i.bytes=16:=by(
 have h:(prog.info? 9).map (fun i=>(i.zero,i.size,i.bytes))=some (some (.string ⟨#[]⟩),1,16):=by kernel_rfl
 cases e:prog.info? 9 with
 | none=>rw[e] at h;simp at h
 | some i =>
  rw[e] at h
  simp only[Option.map_some,Option.some.injEq,Prod.mk.injEq] at h
  exact⟨i,rfl,h.1,h.2.1,h.2.2⟩)
def zaq (w:World) (base:Nat) (v:Value) (ts:List ByteArray):Prop:=w.ownsRow base 9 1 v ts.length (ts.map Value.string)
theorem zaq.nil (w:World) (base:Nat):zaq w base (.slice none 0 0) []:=World.ownsRow_nil _ _ _ _
theorem zaq.but {w w':World} {base:Nat} {v:Value} {ts:List ByteArray} (h:zaq w base v ts) (hb:But [] w w'):zaq w' base v ts:=zai h hb
theorem zaq.form {w:World} {base:Nat} {v:Value} {ts:List ByteArray} (h:zaq w base v ts):∃ a c,v=.slice a ts.length c:=ownsRow_form h
def zgo (w:World) (v:Value) (ts:List ByteArray):Prop:=∃ a cap,v=.slice a ts.length cap∧∀ i x,ts[i]? = some x→∃ b off,a=some ⟨b,off,none⟩∧w.cell? ⟨b,off+i,none⟩=some (.string x)
theorem zgo.but {w w':World} {v:Value} {ts:List ByteArray} (h:zgo w v ts) (hb:But [] w w'):zgo w' v ts:=by(
 obtain⟨a,cap,e,h⟩:=h
 refine⟨a,cap,e,fun i x hx=>?_⟩
 obtain⟨b,off,e1,h1⟩:=h i x hx
 exact⟨b,off,e1,hb.ag h1 (by simp)⟩)
theorem zaq.qif {w:World} {base:Nat} {v:Value} {ts:List ByteArray} (h:zaq w base v ts):zgo w v ts:=by(
 rcases h.2 with ⟨rfl,h0⟩|⟨g,cap,cur,rfl,h1,h2,h3,-⟩
 ·have:ts=[]:=List.length_eq_zero_iff.1 h0
  subst this
  exact⟨none,0,rfl,fun i x hx=>by simp at hx⟩
 ·(
 refine⟨_,cap,rfl,fun i x hx=>⟨g,0,rfl,?_⟩⟩
 have hc:=h.cells (g:=g) rfl i (.string x) (by rw[List.getElem?_map,hx];rfl)
 have e:(⟨g,0,none⟩:Addr).add i=⟨g,0+i,none⟩:=by
  by_cases hz:i=0
  ·simp[Addr.add,hz]
  ·simp[Addr.add,hz]
 rw[e] at hc
 exact hc))
theorem zmb (w:World) (base:Nat) (v:Value) (ts:List ByteArray) (hown:zaq w base v ts) (g:Nat) (x:ByteArray) (c:w.cell? ⟨g,0,none⟩=some (.string x)) (hk:ts.length<1000000) (hb:base≤w.heap.size) :
   ∃ v' w',(Builtin.append_ #[144,144] 144 #[v,.slice (some ⟨g,0,none⟩) 1 1]).run prog w=.ok v' w'∧zaq w' base v' (ts++[x])∧w.grownBy w' v.ownBlock:=by(
 obtain⟨i0,hi,hz0,hz1,hz2⟩:=qbx
 obtain⟨v',w',hr,ho,hg,-⟩:=run_append_own (P:=prog) w base 144 144 9 i0 _ 1 16 underlying144 hi hz0 hz1 hz2 rfl (by decide) v ts.length (ts.map Value.string) hown ⟨g,0,none⟩ 1 1 [.string x] rfl (fun j u hj=>by
   cases j with
   | zero=>simp at hj;subst hj;exact c
   | succ j=>simp at hj) (fun u hu=>by
   simp only[List.mem_cons,List.not_mem_nil,or_false] at hu
   subst hu
   rfl) (by unfold maxLen;omega) (by omega) hb
 refine⟨v',w',hr,?_,hg⟩
 unfold zaq at *
 rw[List.length_append,List.map_append]
 exact ho)
def zbj (f:Rat):ByteArray:=zho (decide (f.num<0)) f.num.natAbs f.den
theorem zii {α:Type} {F:Nat→α} {l:List α} (h:∀ i x,l[i]? = some x→F i=x):(List.range l.length).map F=l:=by(
 apply List.ext_getElem?
 intro i
 rw[List.getElem?_map]
 by_cases hi:i<l.length
 ·rw[List.getElem?_range hi,List.getElem?_eq_getElem hi]
  exact congrArg some (h i _ (List.getElem?_eq_getElem hi))
 ·rw[List.getElem?_eq_none (by simpa using hi),List.getElem?_eq_none (by simpa using hi)]
  rfl)
theorem qax (q:Int × Int) (h:Fits q):(qf q).num*(if q.2=0 then 1 else q.2)=q.1*((qf q).den:Int):=by(
 obtain⟨f,r,x,y,-,hf,-⟩:=zlh q.1 q.2 h.1 h.2.1 h.2.2.1 h.2.2.2
 rw[← qfe f q hf]
 exact hf)
theorem zjb (v:Value) (qs:List (Int × Int)) (w:World) (hq:zqg w v qs) (hf:∀ q ∈ qs,Fits q) (hn:qs.length≤1000) :
   Calls prog 15 #[v] w fun e w'=>∃ v' us,e=.returned v'∧zar w' w.heap.size v' (qs.map qf) us∧But [] w w':=by(
 obtain⟨a,cap,rfl,hcap,hc⟩:=hq
 obtain⟨F,hF⟩:∃ F:Nat→Rat,F=fun i=>qf (qs[i]?.getD (0,0)):=⟨_,rfl⟩
 have hL:(List.range qs.length).map F=qs.map qf:=by
  have:=zii (F:=F) (l:=qs.map qf) (fun i x hx=>by
   rw[List.getElem?_map] at hx
   cases h:qs[i]? with
   | none=>rw[h] at hx;simp at hx
   | some q=>rw[h] at hx;rw[hF];simp only[h,Option.getD_some];simpa using hx)
  rwa [List.length_map] at this
 have hcell:∀ i,i<qs.length→∃ b off,a=some ⟨b,off,none⟩∧w.cell? ⟨b,off+i*2,none⟩=some (.int .i64 (qs[i]?.getD (0,0)).1)∧w.cell? ⟨b,off+i*2+1,none⟩=some (.int .i64 (qs[i]?.getD (0,0)).2):=fun i hi=>by
  rw[List.getElem?_eq_getElem hi]
  exact hc i _ (List.getElem?_eq_getElem hi)
 have hOF:∀ i,i<qs.length→∀ W,Calls prog 14 #[.agg #[.int .i64 (qs[i]?.getD (0,0)).1,.int .i64 (qs[i]?.getD (0,0)).2]] W fun e w'=>∃ zb,e=.returned (.pointer (some ⟨zb,0,none⟩))∧zi w' zb (F i)∧But [] W w':=fun i hi W=>by
  have eF:F i=qf qs[i]:=by rw[hF];show qf (qs[i]?.getD (0,0))=_;rw[List.getElem?_eq_getElem hi];rfl
  rw[eF,List.getElem?_eq_getElem hi]
  have hq:=hf qs[i] (List.getElem_mem hi)
  exact (zxy _ _ (qf qs[i]) W hq.1 hq.2.1 hq.2.2.1 hq.2.2.2 (qax _ hq)).mono fun e w' ⟨zb,he,hb,hr,_⟩=>⟨zb,he,hr,hb⟩
 have HC:=af hcell
 have HV:=af hOF
 rw[← hL]
 obtain⟨n,hnn⟩:∃ n,n=qs.length:=⟨_,rfl⟩
 rw[← hnn] at hn hcap HC HV
 rw[← hnn]
 clear hcell hOF hc hf hF hL hnn
 go_enter func15,ntmps15
 go_wp2
 go_loopw [3,8] (fun o i wr=>∃ (k:Nat) (us:List Value),k≤n∧i=.int .i64 (k:Int)∧Hid (zar wr w.heap.size o ((List.range k).map F) us∧But [] w wr)) (fun _ i _=>n-(intOf i).toNat)
 case atStart=>exact⟨0,[],Nat.zero_le _,rfl,zar.empty _ _,But.refl _ _⟩
 case round =>(
 obtain⟨k,us,hk,rfl,HI⟩:=hrel
 rename World=>wr
 by_cases hlt:k<n
 ·(
 obtain⟨b,off,rfl,c0,c1⟩:=ae HC k hlt
 have c0':=(ae HI).2.ag c0 (by simp)
 have c1':=(ae HI).2.ag c1 (by simp)
 have PF:=af (ae HV k hlt)
 clear c0 c1
 generalize (qs[k]?.getD (0,0)).1=q1 at *
 generalize (qs[k]?.getD (0,0)).2=q2 at *
 have ba:=(But.refl [] wr).alloc (.cells #[.int .i64 q1,.int .i64 q2] 23)
 have BA:=af ba
 clear ba
 go_wp2_with fail
 refine (ae PF _).mono ?_
 rintro e w1 ⟨zb,rfl,hz,hb1⟩
 obtain⟨V,hV⟩:∃ V,V=w1.alloc (.cells #[.pointer (some ⟨zb,0,none⟩)] 37):=⟨_,rfl⟩
 have bV1:But [] w1 V:=by rw[hV];exact (But.refl _ _).alloc _
 have cc:V.cell? ⟨w1.heap.size,0,none⟩=some (.pointer (some ⟨zb,0,none⟩)):=by rw[hV];simp
 have bV:But [] wr V:=((ae BA).trans' hb1).trans' bV1
 have oV:=(ae HI).1.but bV
 have bwV:=(ae HI).2.trans' bV
 obtain⟨v',w',hr,ho,hB,-⟩:=di V w u3 _ us w.heap.size oV w1.heap.size _ (F k) cc ⟨zb,rfl,hz.but bV1⟩ (by simp;omega) bwV (Nat.le_refl _) bwV.size
 have BF:Hid (But [] w w'):=hB
 have HO:=af ho
 rw[hV] at hr
 have HR:=af hr
 clear hr ho hB oV bV bwV cc hV bV1 hz hb1
 go_wp2_with (at_builtin;refine zw rfl _ _ 42 42 rfl _ _ v' w' rfl rfl (ae HR) ?_)
 refine⟨⟨k+1,_,by omega,by go_num,by rw[List.range_succ,List.map_append];exact ae HO,ae BF⟩,by simp[intOf];omega⟩)
 ·(
 obtain rfl:k=n:=by omega
 obtain⟨a',c',e'⟩:=(ae HI).1.form
 subst e'
 go_wp2
 go_ret
 exact⟨_,us,rfl,(ae HI).1,(ae HI).2⟩)))
theorem zow (v:Value) (fs:List Rat) (w:World) (hq:zn w v fs) (lf:∀ f ∈ fs,Len f 1000000) (hn:fs.length≤1000) :
   Calls prog 107 #[v] w fun e w'=>∃ v',e=.returned v'∧zaq w' w.heap.size v' (fs.map zbj)∧But [] w w':=by(
 obtain⟨F,hF⟩:∃ F:Nat→ByteArray,F=fun i=>zbj (fs[i]?.getD 0):=⟨_,rfl⟩
 have hL:(List.range fs.length).map F=fs.map zbj:=by
  have:=zii (F:=F) (l:=fs.map zbj) (fun i x hx=>by
   rw[List.getElem?_map] at hx
   cases h:fs[i]? with
   | none=>rw[h] at hx;simp at hx
   | some q=>rw[h] at hx;rw[hF];simp only[h,Option.getD_some];simpa using hx)
  rwa [List.length_map] at this
 have hOF:∀ W,But [] w W→∀ i,i<fs.length→∃ b off g,(∃ a c,v=.slice a fs.length c∧a=some ⟨b,off,none⟩)∧W.cell? ⟨b,off+i,none⟩=some (.pointer (some ⟨g,0,none⟩))∧Calls prog 12 #[.pointer (some ⟨g,0,none⟩)] W fun e w'=>e=.returned (.string (F i))∧But [] W w':=fun W hb i hi=>by
  obtain⟨a,cap,e,-⟩:=hq.open
  have h0:=hq.but hb
  rw[e] at h0
  obtain⟨-,b,off,g,f,h1,h2,h3,h4⟩:=h0.at i hi
  refine⟨b,off,g,⟨a,cap,e,h1⟩,h2,?_⟩
  have eF:F i=zbj f:=by rw[hF];show zbj (fs[i]?.getD 0)=_;rw[h3];rfl
  rw[eF]
  have hm:f ∈ fs:=List.mem_of_getElem? h3
  exact zre g f W h4 ((zhk (lf f hm)).mono (by omega)) (zbj f) (zzu f)
 obtain⟨a,cap,rfl,hcap⟩:=hq.open
 have HV:=af hOF
 rw[← hL]
 obtain⟨n,hnn⟩:∃ n,n=fs.length:=⟨_,rfl⟩
 rw[← hnn] at hn hcap HV
 rw[← hnn]
 clear hOF hF hL hq lf hnn
 go_enter func107,ntmps107
 go_wp2
 go_loopw [3,8] (fun o i wr=>∃ (k:Nat),k≤n∧i=.int .i64 (k:Int)∧Hid (zaq wr w.heap.size o ((List.range k).map F)∧But [] w wr)) (fun _ i _=>n-(intOf i).toNat)
 case atStart=>exact⟨0,Nat.zero_le _,rfl,zaq.nil _ _,But.refl _ _⟩
 case round =>(
 obtain⟨k,hk,rfl,HI⟩:=hrel
 rename World=>wr
 by_cases hlt:k<n
 ·(
 obtain⟨b,off,g,⟨a',c',e',ea⟩,c0,hT⟩:=ae HV wr (ae HI).2 k hlt
 simp only[Value.slice.injEq] at e'
 obtain⟨rfl,-,-⟩:=e'
 subst ea
 obtain⟨t,ht⟩:∃ t,t=F k:=⟨_,rfl⟩
 rw[← ht] at hT
 have PF:=af hT
 have HT:=af ht
 clear hT ht
 go_wp2_with fail
 refine (ae PF).mono ?_
 rintro e w1 ⟨rfl,hb1⟩
 obtain⟨V,hV⟩:∃ V,V=w1.alloc (.cells #[.string t] 9):=⟨_,rfl⟩
 have bV1:But [] w1 V:=by rw[hV];exact (But.refl _ _).alloc _
 have cc:V.cell? ⟨w1.heap.size,0,none⟩=some (.string t):=by rw[hV];simp
 have bV:But [] wr V:=hb1.trans' bV1
 have oV:=(ae HI).1.but bV
 have bwV:=(ae HI).2.trans' bV
 obtain⟨v',w',hr,ho,hg⟩:=zmb V w.heap.size u3 _ oV w1.heap.size _ cc (by simp;omega) bwV.size
 have BF:Hid (But [] w w'):=l9 bwV oV (Nat.le_refl _) hg
 have HO:=af ho
 rw[hV] at hr
 have HR:=af hr
 clear hr ho hg oV bV bwV cc hV bV1 hb1
 go_wp2_with (at_builtin;refine zw rfl _ _ 144 144 rfl _ _ v' w' rfl rfl (ae HR) ?_)
 refine⟨⟨k+1,by omega,by go_num,by rw[List.range_succ,List.map_append,List.map_cons,List.map_nil,← ae HT];exact ae HO,ae BF⟩,by simp[intOf];omega⟩)
 ·(
 obtain rfl:k=n:=by omega
 obtain⟨a',c',e'⟩:=(ae HI).1.form
 subst e'
 go_wp2
 go_ret
 exact⟨_,rfl,(ae HI).1,(ae HI).2⟩)))
theorem zlf (v:Value) (fs:List Rat) (w:World) (hq:av w v fs) (lf:∀ f ∈ fs,Len f 1000000) (hn:fs.length≤1000) (htab:Lib.TabIs prog w "internal/strconv.uint64pow10" .u64 Lib.pow10Tab) :
   Calls prog 106 #[v] w fun e w'=>∃ v',e=.returned v'∧zaq w' w.heap.size v' (fs.map zbj)∧But [] w w':=by(
 obtain⟨F,hF⟩:∃ F:Nat→ByteArray,F=fun i=>zbj (fs[i]?.getD 0):=⟨_,rfl⟩
 have hL:(List.range fs.length).map F=fs.map zbj:=by
  have:=zii (F:=F) (l:=fs.map zbj) (fun i x hx=>by
   rw[List.getElem?_map] at hx
   cases h:fs[i]? with
   | none=>rw[h] at hx;simp at hx
   | some q=>rw[h] at hx;rw[hF];simp only[h,Option.getD_some];simpa using hx)
  rwa [List.length_map] at this
 obtain⟨a,cap,e,hcap⟩:∃ a cap,v=.slice a fs.length cap∧fs.length≤cap:=by
  obtain⟨a,cap,e,h1,-⟩:=hq
  exact⟨a,cap,e,h1⟩
 have hOF:∀ W,But [] w W→∀ i,i<fs.length→∃ b off s x y p,a=some ⟨b,off,none⟩∧P4o W b (off+i*4) s x y p∧∀ X,But [] W X→Calls prog 11 #[.agg #[.bool s,.int .u64 x,.int .u64 y,.pointer p]] X fun e w'=>e=.returned (.string (F i))∧But [] X w':=fun W hb i hi=>by
  have h0:=hq.but hb
  obtain⟨a',cap',e',h1,h2⟩:=h0
  rw[e] at e'
  simp only[Value.slice.injEq] at e'
  obtain⟨rfl,-,-⟩:=e'
  obtain⟨b,off,ea,s,x,y,p,h3,h4⟩:=h2 i fs[i] (List.getElem?_eq_getElem hi)
  refine⟨b,off,s,x,y,p,ea,h3,fun X hX=>?_⟩
  have eF:F i=zbj fs[i]:=by rw[hF];show zbj (fs[i]?.getD 0)=_;rw[List.getElem?_eq_getElem hi];rfl
  rw[eF]
  exact zpr _ fs[i] X (h4.but hX) (lf _ (List.getElem_mem hi)) (TabIs.but htab (hb.trans' hX)) (zbj fs[i]) rfl
 subst e
 have HV:=af hOF
 rw[← hL]
 obtain⟨n,hnn⟩:∃ n,n=fs.length:=⟨_,rfl⟩
 rw[← hnn] at hn hcap HV
 rw[← hnn]
 clear hOF hF hL hq lf hnn htab
 go_enter func106,ntmps106
 go_wp2
 go_loopw [3,8] (fun o i wr=>∃ (k:Nat),k≤n∧i=.int .i64 (k:Int)∧Hid (zaq wr w.heap.size o ((List.range k).map F)∧But [] w wr)) (fun _ i _=>n-(intOf i).toNat)
 case atStart=>exact⟨0,Nat.zero_le _,rfl,zaq.nil _ _,But.refl _ _⟩
 case round =>(
 obtain⟨k,hk,rfl,HI⟩:=hrel
 rename World=>wr
 by_cases hlt:k<n
 ·(
 obtain⟨b,off,s,x,y,p,rfl,⟨c0,c1,c2,c3⟩,hT⟩:=ae HV wr (ae HI).2 k hlt
 obtain⟨t,ht⟩:∃ t,t=F k:=⟨_,rfl⟩
 rw[← ht] at hT
 have PF:=af hT
 have HT:=af ht
 clear hT ht
 have ba:=(But.refl [] wr).alloc (.cells #[.bool s,.int .u64 x,.int .u64 y,.pointer p] 27)
 have BA:=af ba
 clear ba
 go_wp2_with fail
 refine (ae PF _ (ae BA)).mono ?_
 rintro e w1 ⟨rfl,hb1⟩
 obtain⟨V,hV⟩:∃ V,V=w1.alloc (.cells #[.string t] 9):=⟨_,rfl⟩
 have bV1:But [] w1 V:=by rw[hV];exact (But.refl _ _).alloc _
 have cc:V.cell? ⟨w1.heap.size,0,none⟩=some (.string t):=by rw[hV];simp
 have bV:But [] wr V:=((ae BA).trans' hb1).trans' bV1
 have oV:=(ae HI).1.but bV
 have bwV:=(ae HI).2.trans' bV
 obtain⟨v',w',hr,ho,hg⟩:=zmb V w.heap.size u3 _ oV w1.heap.size _ cc (by simp;omega) bwV.size
 have BF:Hid (But [] w w'):=l9 bwV oV (Nat.le_refl _) hg
 have HO:=af ho
 rw[hV] at hr
 have HR:=af hr
 clear hr ho hg oV bV bwV cc hV bV1 hb1
 go_wp2_with (at_builtin;refine zw rfl _ _ 144 144 rfl _ _ v' w' rfl rfl (ae HR) ?_)
 refine⟨⟨k+1,by omega,by go_num,by rw[List.range_succ,List.map_append,List.map_cons,List.map_nil,← ae HT];exact ae HO,ae BF⟩,by simp[intOf];omega⟩)
 ·(
 obtain rfl:k=n:=by omega
 obtain⟨a',c',e'⟩:=(ae HI).1.form
 subst e'
 go_wp2
 go_ret
 exact⟨_,rfl,(ae HI).1,(ae HI).2⟩)))
theorem same_eq (v1 v2:Value) (ts:List ByteArray) (w:World) (h1:zgo w v1 ts) (h2:zgo w v2 ts) (hn:ts.length≤1000) :
   Calls prog 105 #[v1,v2] w fun e w'=>e=.returned (.bool true)∧But [] w w':=by(
 obtain⟨a1,k1,rfl,c1⟩:=h1
 obtain⟨a2,k2,rfl,c2⟩:=h2
 have hc:∀ W,But [] w W→∀ i,i<ts.length→∃ b1 o1 b2 o2 t,a1=some ⟨b1,o1,none⟩∧a2=some ⟨b2,o2,none⟩∧W.cell? ⟨b1,o1+i,none⟩=some (.string t)∧W.cell? ⟨b2,o2+i,none⟩=some (.string t):=fun W hb i hi=>by
  obtain⟨b1,o1,e1,d1⟩:=c1 i _ (List.getElem?_eq_getElem hi)
  obtain⟨b2,o2,e2,d2⟩:=c2 i _ (List.getElem?_eq_getElem hi)
  exact⟨b1,o1,b2,o2,ts[i],e1,e2,hb.ag d1 (by simp),hb.ag d2 (by simp)⟩
 have HC:=af hc
 clear hc c1 c2
 generalize ts.length=n at *
 go_enter func105,ntmps105
 go_wp2
 go_loopw [5] (fun i wr=>∃ (k:Nat),k≤n∧i=.int .i64 (k:Int)∧Hid (But [] w wr)) (fun i _=>n-(intOf i).toNat)
 case atStart=>exact⟨0,Nat.zero_le _,rfl,But.refl _ _⟩
 case round =>(
 obtain⟨k,hk,rfl,HI⟩:=hrel
 rename World=>wr
 by_cases hlt:k<n
 ·(
 obtain⟨b1,o1,b2,o2,t,rfl,rfl,d1,d2⟩:=ae HC wr (ae HI) k hlt
 have ett:(t.toList==t.toList)=true:=by simp
 go_wp2
 go_quiet (fail)
 have HB3:=af ((ae HI).drewN nq)
 generalize wr.drewN nq=V at *
 go_wp2
 exact⟨⟨k+1,by omega,by go_num,ae HB3⟩,by simp[intOf];omega⟩)
 ·obtain rfl:k=n:=by omega
  go_wp2
  go_ret
  exact⟨rfl,ae HI⟩))
set_option linter.unusedVariables false
def l8 (w:World) (b:Nat) (f:Rat):Prop:=zi w b f∨(f=0∧yh w b)
theorem l8.but {w w':World} {b:Nat} {f:Rat} (h:l8 w b f) (hb:But [] w w'):l8 w' b f:=h.elim (fun h=>.inl (h.but hb)) (fun ⟨e,h⟩=>.inr ⟨e,h.but hb⟩)
theorem zwn (xb yb:Nat) (f g:Rat) (w:World) (hx:l8 w xb f) (hy:zi w yb g) (lf:qd f 2000000) (lg:qd g 2000000) :
   Calls prog 82 #[.pointer (some ⟨xb,0,none⟩),.pointer (some ⟨yb,0,none⟩)] w fun e w'=>∃ zb,e=.returned (.pointer (some ⟨zb,0,none⟩))∧zi w' zb (f+g)∧But [] w w':=by(
 rcases hx with h|⟨h0,h⟩
 ·exact zpa xb yb f g w h hy lf lg
 ·exact (zoz xb yb f g w h0 h hy lf lg).mono fun e w' ⟨zb,he,hb,hr,_⟩=>⟨zb,he,hr,hb⟩)
theorem zum (v:Value) (fs:List Rat) (F:Nat→Rat) (w:World) (hr:zn w v fs) (hF:∀ i,i<fs.length→fs[i]? = some (F i)) (hn:fs.length≤1000) (lf:∀ i,i<fs.length→qd (F i) 2000000) (ls:∀ k,k≤fs.length→qd (sgR F k) 2000000) :
   Calls prog 108 #[v] w fun e w'=>∃ zb,e=.returned (.pointer (some ⟨zb,0,none⟩))∧l8 w' zb (sgR F fs.length)∧But [] w w':=by(
 have hcell:∀ W,But [] w W→∀ i,i<fs.length→∃ b off g,(∃ a c,v=.slice a fs.length c∧a=some ⟨b,off,none⟩)∧W.cell? ⟨b,off+i,none⟩=some (.pointer (some ⟨g,0,none⟩))∧zi W g (F i):=fun W hb i hi=>by
  obtain⟨a,cap,e,-⟩:=hr.open
  have h0:=hr.but hb
  rw[e] at h0
  obtain⟨-,b,off,g,f,h1,h2,h3,h4⟩:=h0.at i hi
  rw[hF i hi] at h3
  obtain rfl:=Option.some.inj h3
  exact⟨b,off,g,⟨a,cap,e,h1⟩,h2,h4⟩
 obtain⟨a,cap,rfl,hcap⟩:=hr.open
 have HV:=af hcell
 have HL:=af lf
 have HS:=af ls
 clear hcell hr hF lf ls
 generalize fs.length=n at *
 have hb0:=zoa w 113
 have bW:But [] w (w.alloc (.cells #[.bool false,.slice none 0 0,.bool false,.slice none 0 0] 113)):=(But.refl _ _).alloc _
 obtain⟨W,hW⟩:∃ W,W=w.alloc (.cells #[.bool false,.slice none 0 0,.bool false,.slice none 0 0] 113):=⟨_,rfl⟩
 rw[← hW] at hb0 bW
 obtain⟨g0,hg0⟩:∃ g,g=w.heap.size:=⟨_,rfl⟩
 rw[← hg0] at hb0
 have I0:Hid (l8 W g0 (sgR F 0)∧But [] w W):=⟨.inr ⟨rfl,hb0⟩,bW⟩
 have HW:=af hW
 clear hW hb0 bW
 go_enter func108,ntmps108
 go_wp2
 rw[← ae HW,← hg0]
 clear HW hg0
 go_loopw [3,9] (fun p i wr=>∃ (k pb:Nat),k≤n∧i=.int .i64 (k:Int)∧p=.pointer (some ⟨pb,0,none⟩)∧Hid (l8 wr pb (sgR F k)∧But [] w wr)) (fun _ i _=>n-(intOf i).toNat)
 case atStart=>exact⟨0,g0,Nat.zero_le _,rfl,rfl,ae I0⟩
 case round =>(
 obtain⟨k,pb,hk,rfl,rfl,HI⟩:=hrel
 rename World=>wr
 clear I0
 by_cases hlt:k<n
 ·(
 obtain⟨b,off,g,⟨a',c',e',ea⟩,c0,hT⟩:=ae HV wr (ae HI).2 k hlt
 simp only[Value.slice.injEq] at e'
 obtain⟨rfl,-,-⟩:=e'
 subst ea
 have AD:=af (zwn pb g (sgR F k) (F k) wr (ae HI).1 hT (ae HS k (by omega)) (ae HL k hlt))
 clear hT
 go_wp2_with fail
 refine (ae AD).mono ?_
 rintro e w2 ⟨g2,rfl,h2,hb2⟩
 have NS:Hid (l8 w2 g2 (sgR F (k+1))∧But [] w w2):=⟨.inl h2,(ae HI).2.trans' hb2⟩
 clear h2 hb2 AD
 go_wp2
 exact⟨⟨k+1,g2,by omega,by go_num,rfl,ae NS⟩,by simp[intOf];omega⟩)
 ·obtain rfl:k=n:=by omega
  go_wp2
  go_ret
  exact⟨pb,rfl,ae HI⟩))
theorem zcj {F:Nat→Rat} {c:Nat}:∀ n,(∀ i,i<n→qd (F i) c)→qd (sgR F n) (n*(c+1)+1)
 | 0,_=>by
  have:=qd.int (z:=0) (by decide)
  exact⟨by show (wd 4294967296 0).length≤_;rw[zq];simp,by show (wd 4294967296 1).length≤_;exact Nat.le_trans (aj (B:=4294967296) (by omega) 1 1 (by omega)) (by omega)⟩
 | n+1,h=>((zcj n (fun i hi=>h i (by omega))).add (h n (by omega))).mono (by rw[Nat.succ_mul];omega)
theorem zdr {w:World} {v:Value} {fs:List Rat} {F:Nat→Rat} (hr:zn w v fs) (hF:∀ i,i<fs.length→fs[i]? = some (F i)):∃ a cap,v=.slice a fs.length cap∧fs.length≤cap∧∀ W,But [] w W→∀ i,i<fs.length→∃ b off g,a=some ⟨b,off,none⟩∧W.cell? ⟨b,off+i,none⟩=some (.pointer (some ⟨g,0,none⟩))∧zi W g (F i):=by(
 obtain⟨a,cap,e,hc⟩:=hr.open
 refine⟨a,cap,e,hc,fun W hb i hi=>?_⟩
 have h0:=hr.but hb
 rw[e] at h0
 obtain⟨-,b,off,g,f,h1,h2,h3,h4⟩:=h0.at i hi
 rw[hF i hi] at h3
 obtain rfl:=Option.some.inj h3
 exact⟨b,off,g,h1,h2,h4⟩)
theorem qea (xb yb:Nat) (f g:Rat) (w:World) (hx:zi w xb f) (hy:l8 w yb g) (lf:qd f 2000000) (lg:qd g 2000000) :
   Calls prog 71 #[.pointer (some ⟨xb,0,none⟩),.pointer (some ⟨yb,0,none⟩)] w fun e w'=>∃ zb,e=.returned (.pointer (some ⟨zb,0,none⟩))∧zi w' zb (f-g)∧But [] w w':=by(
 rcases hy with h|⟨h0,h⟩
 ·exact qeb xb yb f g w hx h lf lg
 ·exact (zox xb yb f g w h0 hx h lf lg).mono fun e w' ⟨zb,he,hb,hr,_⟩=>⟨zb,he,hr,hb⟩)
theorem zoy (xb yb:Nat) (f g:Rat) (w:World) (hx:zi w xb f) (hy:zi w yb g) (lf:qd f 2000000) (lg:qd g 2000000) :
   Calls prog 22 #[.pointer (some ⟨xb,0,none⟩),.pointer (some ⟨yb,0,none⟩)] w fun e w'=>∃ c,e=.returned (.int .i64 c)∧(c<0↔f<g)∧(0<c↔g<f)∧(c=0↔f=g)∧But [] w w':=by(
 have hfd:0<f.den:=Nat.pos_of_ne_zero f.den_nz
 have hgd:0<g.den:=Nat.pos_of_ne_zero g.den_nz
 obtain⟨lf1,lf2⟩:=lf
 obtain⟨lg1,lg2⟩:=lg
 have d1:(wd 4294967296 ((f.den:Nat):Int).natAbs).length≤2000000:=by rw[Int.natAbs_natCast];exact lf2
 have d2:(wd 4294967296 ((g.den:Nat):Int).natAbs).length≤2000000:=by rw[Int.natAbs_natCast];exact lg2
 have p1:=qp f.num (g.den:Int) _ _ lf1 d2
 have p2:=qp g.num (f.den:Int) _ _ lg1 d1
 have l1:=Rat.lt_iff (a:=f) (b:=g)
 have l2:=Rat.lt_iff (a:=g) (b:=f)
 have e0:f=g↔¬ f<g∧¬ g<f:=⟨fun h=>by rw[h];exact⟨Rat.lt_irrefl,Rat.lt_irrefl⟩,fun ⟨h1,h2⟩=>Rat.le_antisymm (Rat.not_lt.1 h2) (Rat.not_lt.1 h1)⟩
 refine (zrl xb yb f.num g.num f.den g.den w hx hy hfd hgd (by omega) (by omega) (by omega) (by omega) _ _ rfl rfl (by omega) (by omega)).mono ?_
 rintro e w' ⟨rfl,hb⟩
 refine⟨_,rfl,?_,?_,?_,hb⟩
 ·rw[l1];unfold vw;split
  ·omega
  ·split <;> omega
 ·rw[l2];unfold vw;split
  ·omega
  ·split <;> omega
 ·rw[e0,l1,l2];unfold vw;split
  ·omega
  ·split <;> omega)
end Go.Proofs.YtagmkkiagjmimaaGreatDoor
