/- Rows of texts of the call's own; the ref -/
import Derived.Test.YtagmkkiagjmimaaGreatDoorYK1r
import Derived.Test.YtagmkkiagjmimaaGreatDoorYK6
import Derived.Test.YtagmkkiagjmimaaGreatDoorYKNz
import Derived.Test.YtagmkkiagjmimaaGreatDoorYRLa
namespace Go.Proofs.YtagmkkiagjmimaaGreatDoor
open Go.Proofs.Tryz
open Go.RowKit
set_option maxHeartbeats 16000000
set_option maxRecDepth 100000
theorem qfn:∃ i,prog.info? 9 = some i∧i.zero=some (.string ⟨#[]⟩)∧i.size=1∧i.bytes=16:=by(
 have h:(prog.info? 9).map (fun i=>(i.zero,i.size,i.bytes))=some (some (.string ⟨#[]⟩),1,16):=by kernel_rfl
 cases e:prog.info? 9 with
 | none=>rw[e] at h;simp at h
 | some i =>
  rw[e] at h
  simp only[Option.map_some,Option.some.injEq,Prod.mk.injEq] at h
  exact⟨i,rfl,h.1,h.2.1,h.2.2⟩)
def zep (w:World) (base:Nat) (v:Value) (ts:List ByteArray):Prop:=w.ownsRow base 9 1 v ts.length (ts.map Value.string)
theorem zep.nil (w:World) (base:Nat):zep w base (.slice none 0 0) []:=World.ownsRow_nil _ _ _ _
theorem zep.but {w w':World} {base:Nat} {v:Value} {ts:List ByteArray} (h:zep w base v ts) (hb:But [] w w'):zep w' base v ts:=zfb h hb
theorem zep.form {w:World} {base:Nat} {v:Value} {ts:List ByteArray} (h:zep w base v ts):∃ a c,v=.slice a ts.length c:=ownsRow_form h
def zfo (w:World) (v:Value) (ts:List ByteArray):Prop:=∃ a cap,v=.slice a ts.length cap∧∀ i x,ts[i]? = some x→∃ b off,a=some ⟨b,off,none⟩∧w.cell? ⟨b,off+i,none⟩=some (.string x)
theorem zfo.but {w w':World} {v:Value} {ts:List ByteArray} (h:zfo w v ts) (hb:But [] w w'):zfo w' v ts:=by(
 obtain⟨a,cap,e,h⟩:=h
 refine⟨a,cap,e,fun i x hx=>?_⟩
 obtain⟨b,off,e1,h1⟩:=h i x hx
 exact⟨b,off,e1,hb.ag h1 (by simp)⟩)
theorem zep.qmh {w:World} {base:Nat} {v:Value} {ts:List ByteArray} (h:zep w base v ts):zfo w v ts:=by(
 rcases h.2 with ⟨rfl,h0⟩|⟨g,cap,cur,rfl,h1,h2,h3,-⟩
 ·have:ts=[]:=List.length_eq_zero_iff.1 h0
  subst this
  exact⟨none,0,rfl,fun i x hx=>by simp at hx⟩
 ·(
 refine⟨_,cap,rfl,fun i x hx=>⟨g,0,rfl,?_⟩⟩
 have hc:=h.cells (g:=g) rfl i (.string x) (by rw[List.getElem?_map,hx];rfl)
 have e:(⟨g,0,none⟩:Addr).add i=⟨g,0+i,none⟩:=by
  by_cases hz:i=0
  ·simp[Addr.add,hz]
  ·simp[Addr.add,hz]
 rw[e] at hc
 exact hc))
theorem znb (w:World) (base:Nat) (v:Value) (ts:List ByteArray) (hown:zep w base v ts) (g:Nat) (x:ByteArray) (c:w.cell? ⟨g,0,none⟩=some (.string x)) (hk:ts.length<1000000) (hb:base≤w.heap.size) :
   ∃ v' w',(Builtin.append_ #[144,144] 144 #[v,.slice (some ⟨g,0,none⟩) 1 1]).run prog w=.ok v' w'∧zep w' base v' (ts++[x])∧w.grownBy w' v.ownBlock:=by(
 obtain⟨i0,hi,hz0,hz1,hz2⟩:=qfn
 obtain⟨v',w',hr,ho,hg,-⟩:=run_append_own (P:=prog) w base 144 144 9 i0 _ 1 16 underlying144 hi hz0 hz1 hz2 rfl (by decide) v ts.length (ts.map Value.string) hown ⟨g,0,none⟩ 1 1 [.string x] rfl (fun j u hj=>by
   cases j with
   | zero=>simp at hj;subst hj;exact c
   | succ j=>simp at hj) (fun u hu=>by
   simp only[List.mem_cons,List.not_mem_nil,or_false] at hu
   subst hu
   rfl) (by unfold maxLen;omega) (by omega) hb
 refine⟨v',w',hr,?_,hg⟩
 unfold zep at *
 rw[List.length_append,List.map_append]
 exact ho)
def zer (f:Rat):ByteArray:=zcw (decide (f.num<0)) f.num.natAbs f.den
theorem zja {α:Type} {F:Nat→α} {l:List α} (h:∀ i x,l[i]? = some x→F i=x):(List.range l.length).map F=l:=by(
 apply List.ext_getElem?
 intro i
 rw[List.getElem?_map]
 by_cases hi:i<l.length
 ·rw[List.getElem?_range hi,List.getElem?_eq_getElem hi]
  exact congrArg some (h i _ (List.getElem?_eq_getElem hi))
 ·rw[List.getElem?_eq_none (by simpa using hi),List.getElem?_eq_none (by simpa using hi)]
  rfl)
theorem zsr (q:Int × Int) (h:Fits q):(qf q).num*(if q.2=0 then 1 else q.2)=q.1*((qf q).den:Int):=by(
 obtain⟨f,r,x,y,-,hf,-⟩:=zmm q.1 q.2 h.1 h.2.1 h.2.2.1 h.2.2.2
 rw[← qiv f q hf]
 exact hf)
theorem zsj (v:Value) (qs:List (Int × Int)) (w:World) (hq:zuo w v qs) (hf:∀ q ∈ qs,Fits q) (hn:qs.length≤1000) :
   Calls prog 15 #[v] w fun e w'=>∃ v' us,e=.returned v'∧zgh w' w.heap.size v' (qs.map qf) us∧But [] w w':=by(
 obtain⟨a,cap,rfl,hcap,hc⟩:=hq
 obtain⟨F,hF⟩:∃ F:Nat→Rat,F=fun i=>qf (qs[i]?.getD (0,0)):=⟨_,rfl⟩
 have hL:(List.range qs.length).map F=qs.map qf:=by
  have:=zja (F:=F) (l:=qs.map qf) (fun i x hx=>by
   rw[List.getElem?_map] at hx
   cases h:qs[i]? with
   | none=>rw[h] at hx;simp at hx
   | some q=>rw[h] at hx;rw[hF];simp only[h,Option.getD_some];simpa using hx)
  rwa [List.length_map] at this
 have hcell:∀ i,i<qs.length→∃ b off,a=some ⟨b,off,none⟩∧w.cell? ⟨b,off+i*2,none⟩=some (.int .i64 (qs[i]?.getD (0,0)).1)∧w.cell? ⟨b,off+i*2+1,none⟩=some (.int .i64 (qs[i]?.getD (0,0)).2):=fun i hi=>by
  rw[List.getElem?_eq_getElem hi]
  exact hc i _ (List.getElem?_eq_getElem hi)
 have hOF:∀ i,i<qs.length→∀ W,Calls prog 14 #[.agg #[.int .i64 (qs[i]?.getD (0,0)).1,.int .i64 (qs[i]?.getD (0,0)).2]] W fun e w'=>∃ zb,e=.returned (.pointer (some ⟨zb,0,none⟩))∧ze w' zb (F i)∧But [] W w':=fun i hi W=>by
  have eF:F i=qf qs[i]:=by rw[hF];show qf (qs[i]?.getD (0,0))=_;rw[List.getElem?_eq_getElem hi];rfl
  rw[eF,List.getElem?_eq_getElem hi]
  have hq:=hf qs[i] (List.getElem_mem hi)
  exact (zon _ _ (qf qs[i]) W hq.1 hq.2.1 hq.2.2.1 hq.2.2.2 (zsr _ hq)).mono fun e w' ⟨zb,he,hb,hr,_⟩=>⟨zb,he,hr,hb⟩
 have HC:=af hcell
 have HV:=af hOF
 rw[← hL]
 obtain⟨n,hnn⟩:∃ n,n=qs.length:=⟨_,rfl⟩
 rw[← hnn] at hn hcap HC HV
 rw[← hnn]
 clear hcell hOF hc hf hF hL hnn
 go_enter func15,ntmps15
 go_wp2
 go_loopw [3,8] (fun o i wr=>∃ (k:Nat) (us:List Value),k≤n∧i=.int .i64 (k:Int)∧Hid (zgh wr w.heap.size o ((List.range k).map F) us∧But [] w wr)) (fun _ i _=>n-(intOf i).toNat)
 case atStart=>exact⟨0,[],Nat.zero_le _,rfl,zgh.empty _ _,But.refl _ _⟩
 case round =>(
 obtain⟨k,us,hk,rfl,HI⟩:=hrel
 rename World=>wr
 by_cases hlt:k<n
 ·(
 obtain⟨b,off,rfl,c0,c1⟩:=ae HC k hlt
 have c0':=(ae HI).2.ag c0 (by simp)
 have c1':=(ae HI).2.ag c1 (by simp)
 have PF:=af (ae HV k hlt)
 clear c0 c1
 generalize (qs[k]?.getD (0,0)).1=q1 at *
 generalize (qs[k]?.getD (0,0)).2=q2 at *
 have ba:=(But.refl [] wr).alloc (.cells #[.int .i64 q1,.int .i64 q2] 23)
 have BA:=af ba
 clear ba
 go_wp2_with fail
 refine (ae PF _).mono ?_
 rintro e w1 ⟨zb,rfl,hz,hb1⟩
 obtain⟨V,hV⟩:∃ V,V=w1.alloc (.cells #[.pointer (some ⟨zb,0,none⟩)] 37):=⟨_,rfl⟩
 have bV1:But [] w1 V:=by rw[hV];exact (But.refl _ _).alloc _
 have cc:V.cell? ⟨w1.heap.size,0,none⟩=some (.pointer (some ⟨zb,0,none⟩)):=by rw[hV];simp
 have bV:But [] wr V:=((ae BA).trans' hb1).trans' bV1
 have oV:=(ae HI).1.but bV
 have bwV:=(ae HI).2.trans' bV
 obtain⟨v',w',hr,ho,hB,-⟩:=zwn V w u3 _ us w.heap.size oV w1.heap.size _ (F k) cc ⟨zb,rfl,hz.but bV1⟩ (by simp;omega) bwV (Nat.le_refl _) bwV.size
 have BF:Hid (But [] w w'):=hB
 have HO:=af ho
 rw[hV] at hr
 have HR:=af hr
 clear hr ho hB oV bV bwV cc hV bV1 hz hb1
 go_wp2_with (at_builtin;refine ja rfl _ _ 42 42 rfl _ _ v' w' rfl rfl (ae HR) ?_)
 refine⟨⟨k+1,_,by omega,by go_num,by rw[List.range_succ,List.map_append];exact ae HO,ae BF⟩,by simp[intOf];omega⟩)
 ·(
 obtain rfl:k=n:=by omega
 obtain⟨a',c',e'⟩:=(ae HI).1.form
 subst e'
 go_wp2
 go_ret
 exact⟨_,us,rfl,(ae HI).1,(ae HI).2⟩)))
theorem zpw (v:Value) (fs:List Rat) (w:World) (hq:zn w v fs) (lf:∀ f ∈ fs,Len f 1000000) (hn:fs.length≤1000) :
   Calls prog 107 #[v] w fun e w'=>∃ v',e=.returned v'∧zep w' w.heap.size v' (fs.map zer)∧But [] w w':=by(
 obtain⟨F,hF⟩:∃ F:Nat→ByteArray,F=fun i=>zer (fs[i]?.getD 0):=⟨_,rfl⟩
 have hL:(List.range fs.length).map F=fs.map zer:=by
  have:=zja (F:=F) (l:=fs.map zer) (fun i x hx=>by
   rw[List.getElem?_map] at hx
   cases h:fs[i]? with
   | none=>rw[h] at hx;simp at hx
   | some q=>rw[h] at hx;rw[hF];simp only[h,Option.getD_some];simpa using hx)
  rwa [List.length_map] at this
 have hOF:∀ W,But [] w W→∀ i,i<fs.length→∃ b off g,(∃ a c,v=.slice a fs.length c∧a=some ⟨b,off,none⟩)∧W.cell? ⟨b,off+i,none⟩=some (.pointer (some ⟨g,0,none⟩))∧Calls prog 12 #[.pointer (some ⟨g,0,none⟩)] W fun e w'=>e=.returned (.string (F i))∧But [] W w':=fun W hb i hi=>by
  obtain⟨a,cap,e,-⟩:=hq.open
  have h0:=hq.but hb
  rw[e] at h0
  obtain⟨-,b,off,g,f,h1,h2,h3,h4⟩:=h0.at i hi
  refine⟨b,off,g,⟨a,cap,e,h1⟩,h2,?_⟩
  have eF:F i=zer f:=by rw[hF];show zer (fs[i]?.getD 0)=_;rw[h3];rfl
  rw[eF]
  have hm:f ∈ fs:=List.mem_of_getElem? h3
  exact zka g f W h4 ((uw (lf f hm)).mono (by omega)) (zer f) (zrr f)
 obtain⟨a,cap,rfl,hcap⟩:=hq.open
 have HV:=af hOF
 rw[← hL]
 obtain⟨n,hnn⟩:∃ n,n=fs.length:=⟨_,rfl⟩
 rw[← hnn] at hn hcap HV
 rw[← hnn]
 clear hOF hF hL hq lf hnn
 go_enter func107,ntmps107
 go_wp2
 go_loopw [3,8] (fun o i wr=>∃ (k:Nat),k≤n∧i=.int .i64 (k:Int)∧Hid (zep wr w.heap.size o ((List.range k).map F)∧But [] w wr)) (fun _ i _=>n-(intOf i).toNat)
 case atStart=>exact⟨0,Nat.zero_le _,rfl,zep.nil _ _,But.refl _ _⟩
 case round =>(
 obtain⟨k,hk,rfl,HI⟩:=hrel
 rename World=>wr
 by_cases hlt:k<n
 ·(
 obtain⟨b,off,g,⟨a',c',e',ea⟩,c0,hT⟩:=ae HV wr (ae HI).2 k hlt
 simp only[Value.slice.injEq] at e'
 obtain⟨rfl,-,-⟩:=e'
 subst ea
 obtain⟨t,ht⟩:∃ t,t=F k:=⟨_,rfl⟩
 rw[← ht] at hT
 have PF:=af hT
 have HT:=af ht
 clear hT ht
 go_wp2_with fail
 refine (ae PF).mono ?_
 rintro e w1 ⟨rfl,hb1⟩
 obtain⟨V,hV⟩:∃ V,V=w1.alloc (.cells #[.string t] 9):=⟨_,rfl⟩
 have bV1:But [] w1 V:=by rw[hV];exact (But.refl _ _).alloc _
 have cc:V.cell? ⟨w1.heap.size,0,none⟩=some (.string t):=by rw[hV];simp
 have bV:But [] wr V:=hb1.trans' bV1
 have oV:=(ae HI).1.but bV
 have bwV:=(ae HI).2.trans' bV
 obtain⟨v',w',hr,ho,hg⟩:=znb V w.heap.size u3 _ oV w1.heap.size _ cc (by simp;omega) bwV.size
 have BF:Hid (But [] w w'):=zaa bwV oV (Nat.le_refl _) hg
 have HO:=af ho
 rw[hV] at hr
 have HR:=af hr
 clear hr ho hg oV bV bwV cc hV bV1 hb1
 go_wp2_with (at_builtin;refine ja rfl _ _ 144 144 rfl _ _ v' w' rfl rfl (ae HR) ?_)
 refine⟨⟨k+1,by omega,by go_num,by rw[List.range_succ,List.map_append,List.map_cons,List.map_nil,← ae HT];exact ae HO,ae BF⟩,by simp[intOf];omega⟩)
 ·(
 obtain rfl:k=n:=by omega
 obtain⟨a',c',e'⟩:=(ae HI).1.form
 subst e'
 go_wp2
 go_ret
 exact⟨_,rfl,(ae HI).1,(ae HI).2⟩)))
theorem zml (v:Value) (fs:List Rat) (w:World) (hq:au w v fs) (lf:∀ f ∈ fs,Len f 1000000) (hn:fs.length≤1000) (htab:Lib.TabIs prog w "internal/strconv.uint64pow10" .u64 Lib.pow10Tab) :
   Calls prog 106 #[v] w fun e w'=>∃ v',e=.returned v'∧zep w' w.heap.size v' (fs.map zer)∧But [] w w':=by(
 obtain⟨F,hF⟩:∃ F:Nat→ByteArray,F=fun i=>zer (fs[i]?.getD 0):=⟨_,rfl⟩
 have hL:(List.range fs.length).map F=fs.map zer:=by
  have:=zja (F:=F) (l:=fs.map zer) (fun i x hx=>by
   rw[List.getElem?_map] at hx
   cases h:fs[i]? with
   | none=>rw[h] at hx;simp at hx
   | some q=>rw[h] at hx;rw[hF];simp only[h,Option.getD_some];simpa using hx)
  rwa [List.length_map] at this
 obtain⟨a,cap,e,hcap⟩:∃ a cap,v=.slice a fs.length cap∧fs.length≤cap:=by
  obtain⟨a,cap,e,h1,-⟩:=hq
  exact⟨a,cap,e,h1⟩
 have hOF:∀ W,But [] w W→∀ i,i<fs.length→∃ b off s x y p,a=some ⟨b,off,none⟩∧P4o W b (off+i*4) s x y p∧∀ X,But [] W X→Calls prog 11 #[.agg #[.bool s,.int .u64 x,.int .u64 y,.pointer p]] X fun e w'=>e=.returned (.string (F i))∧But [] X w':=fun W hb i hi=>by
  have h0:=hq.but hb
  obtain⟨a',cap',e',h1,h2⟩:=h0
  rw[e] at e'
  simp only[Value.slice.injEq] at e'
  obtain⟨rfl,-,-⟩:=e'
  obtain⟨b,off,ea,s,x,y,p,h3,h4⟩:=h2 i fs[i] (List.getElem?_eq_getElem hi)
  refine⟨b,off,s,x,y,p,ea,h3,fun X hX=>?_⟩
  have eF:F i=zer fs[i]:=by rw[hF];show zer (fs[i]?.getD 0)=_;rw[List.getElem?_eq_getElem hi];rfl
  rw[eF]
  exact zeb _ fs[i] X (h4.but hX) (lf _ (List.getElem_mem hi)) (TabIs.but htab (hb.trans' hX)) (zer fs[i]) rfl
 subst e
 have HV:=af hOF
 rw[← hL]
 obtain⟨n,hnn⟩:∃ n,n=fs.length:=⟨_,rfl⟩
 rw[← hnn] at hn hcap HV
 rw[← hnn]
 clear hOF hF hL hq lf hnn htab
 go_enter func106,ntmps106
 go_wp2
 go_loopw [3,8] (fun o i wr=>∃ (k:Nat),k≤n∧i=.int .i64 (k:Int)∧Hid (zep wr w.heap.size o ((List.range k).map F)∧But [] w wr)) (fun _ i _=>n-(intOf i).toNat)
 case atStart=>exact⟨0,Nat.zero_le _,rfl,zep.nil _ _,But.refl _ _⟩
 case round =>(
 obtain⟨k,hk,rfl,HI⟩:=hrel
 rename World=>wr
 by_cases hlt:k<n
 ·(
 obtain⟨b,off,s,x,y,p,rfl,⟨c0,c1,c2,c3⟩,hT⟩:=ae HV wr (ae HI).2 k hlt
 obtain⟨t,ht⟩:∃ t,t=F k:=⟨_,rfl⟩
 rw[← ht] at hT
 have PF:=af hT
 have HT:=af ht
 clear hT ht
 have ba:=(But.refl [] wr).alloc (.cells #[.bool s,.int .u64 x,.int .u64 y,.pointer p] 27)
 have BA:=af ba
 clear ba
 go_wp2_with fail
 refine (ae PF _ (ae BA)).mono ?_
 rintro e w1 ⟨rfl,hb1⟩
 obtain⟨V,hV⟩:∃ V,V=w1.alloc (.cells #[.string t] 9):=⟨_,rfl⟩
 have bV1:But [] w1 V:=by rw[hV];exact (But.refl _ _).alloc _
 have cc:V.cell? ⟨w1.heap.size,0,none⟩=some (.string t):=by rw[hV];simp
 have bV:But [] wr V:=((ae BA).trans' hb1).trans' bV1
 have oV:=(ae HI).1.but bV
 have bwV:=(ae HI).2.trans' bV
 obtain⟨v',w',hr,ho,hg⟩:=znb V w.heap.size u3 _ oV w1.heap.size _ cc (by simp;omega) bwV.size
 have BF:Hid (But [] w w'):=zaa bwV oV (Nat.le_refl _) hg
 have HO:=af ho
 rw[hV] at hr
 have HR:=af hr
 clear hr ho hg oV bV bwV cc hV bV1 hb1
 go_wp2_with (at_builtin;refine ja rfl _ _ 144 144 rfl _ _ v' w' rfl rfl (ae HR) ?_)
 refine⟨⟨k+1,by omega,by go_num,by rw[List.range_succ,List.map_append,List.map_cons,List.map_nil,← ae HT];exact ae HO,ae BF⟩,by simp[intOf];omega⟩)
 ·(
 obtain rfl:k=n:=by omega
 obtain⟨a',c',e'⟩:=(ae HI).1.form
 subst e'
 go_wp2
 go_ret
 exact⟨_,rfl,(ae HI).1,(ae HI).2⟩)))
theorem same_eq (v1 v2:Value) (ts:List ByteArray) (w:World) (h1:zfo w v1 ts) (h2:zfo w v2 ts) (hn:ts.length≤1000) :
   Calls prog 105 #[v1,v2] w fun e w'=>e=.returned (.bool true)∧But [] w w':=by(
 obtain⟨a1,k1,rfl,c1⟩:=h1
 obtain⟨a2,k2,rfl,c2⟩:=h2
 have hc:∀ W,But [] w W→∀ i,i<ts.length→∃ b1 o1 b2 o2 t,a1=some ⟨b1,o1,none⟩∧a2=some ⟨b2,o2,none⟩∧W.cell? ⟨b1,o1+i,none⟩=some (.string t)∧W.cell? ⟨b2,o2+i,none⟩=some (.string t):=fun W hb i hi=>by
  obtain⟨b1,o1,e1,d1⟩:=c1 i _ (List.getElem?_eq_getElem hi)
  obtain⟨b2,o2,e2,d2⟩:=c2 i _ (List.getElem?_eq_getElem hi)
  exact⟨b1,o1,b2,o2,ts[i],e1,e2,hb.ag d1 (by simp),hb.ag d2 (by simp)⟩
 have HC:=af hc
 clear hc c1 c2
 generalize ts.length=n at *
 go_enter func105,ntmps105
 go_wp2
 go_loopw [5] (fun i wr=>∃ (k:Nat),k≤n∧i=.int .i64 (k:Int)∧Hid (But [] w wr)) (fun i _=>n-(intOf i).toNat)
 case atStart=>exact⟨0,Nat.zero_le _,rfl,But.refl _ _⟩
 case round =>(
 obtain⟨k,hk,rfl,HI⟩:=hrel
 rename World=>wr
 by_cases hlt:k<n
 ·(
 obtain⟨b1,o1,b2,o2,t,rfl,rfl,d1,d2⟩:=ae HC wr (ae HI) k hlt
 have ett:(t.toList==t.toList)=true:=by simp
 go_wp2
 go_quiet (fail)
 have HB3:=af ((ae HI).drewN nq)
 generalize wr.drewN nq=V at *
 go_wp2
 exact⟨⟨k+1,by omega,by go_num,ae HB3⟩,by simp[intOf];omega⟩)
 ·obtain rfl:k=n:=by omega
  go_wp2
  go_ret
  exact⟨rfl,ae HI⟩))
set_option linter.unusedVariables false
def zyn (w:World) (b:Nat) (f:Rat):Prop:=ze w b f∨(f=0∧om w b)
theorem qhp (xb yb:Nat) (f g:Rat) (w:World) (hx:zyn w xb f) (hy:ze w yb g) (lf:zu f 2000000) (lg:zu g 2000000) :
   Calls prog 82 #[.pointer (some ⟨xb,0,none⟩),.pointer (some ⟨yb,0,none⟩)] w fun e w'=>∃ zb,e=.returned (.pointer (some ⟨zb,0,none⟩))∧ze w' zb (f+g)∧But [] w w':=by(
 rcases hx with h|⟨h0,h⟩
 ·exact zfy xb yb f g w h hy lf lg
 ·exact (zpz xb yb f g w h0 h hy lf lg).mono fun e w' ⟨zb,he,hb,hr,_⟩=>⟨zb,he,hr,hb⟩)
theorem gm {F:Nat→Rat} {c:Nat}:∀ n,(∀ i,i<n→zu (F i) c)→zu (sgR F n) (n*(c+1)+1)
 | 0,_=>by
  have:=zu.int (z:=0) (by decide)
  exact⟨by show (wd 4294967296 0).length≤_;rw[zo];simp,by show (wd 4294967296 1).length≤_;exact Nat.le_trans (aj (B:=4294967296) (by omega) 1 1 (by omega)) (by omega)⟩
 | n+1,h=>((gm n (fun i hi=>h i (by omega))).add (h n (by omega))).mono (by rw[Nat.succ_mul];omega)
theorem zaj {w:World} {v:Value} {fs:List Rat} {F:Nat→Rat} (hr:zn w v fs) (hF:∀ i,i<fs.length→fs[i]? = some (F i)):∃ a cap,v=.slice a fs.length cap∧fs.length≤cap∧∀ W,But [] w W→∀ i,i<fs.length→∃ b off g,a=some ⟨b,off,none⟩∧W.cell? ⟨b,off+i,none⟩=some (.pointer (some ⟨g,0,none⟩))∧ze W g (F i):=by(
 obtain⟨a,cap,e,hc⟩:=hr.open
 refine⟨a,cap,e,hc,fun W hb i hi=>?_⟩
 have h0:=hr.but hb
 rw[e] at h0
 obtain⟨-,b,off,g,f,h1,h2,h3,h4⟩:=h0.at i hi
 rw[hF i hi] at h3
 obtain rfl:=Option.some.inj h3
 exact⟨b,off,g,h1,h2,h4⟩)
theorem zpy (xb yb:Nat) (f g:Rat) (w:World) (hx:ze w xb f) (hy:ze w yb g) (lf:zu f 2000000) (lg:zu g 2000000) :
   Calls prog 22 #[.pointer (some ⟨xb,0,none⟩),.pointer (some ⟨yb,0,none⟩)] w fun e w'=>∃ c,e=.returned (.int .i64 c)∧(c<0↔f<g)∧(0<c↔g<f)∧(c=0↔f=g)∧But [] w w':=by(
 have hfd:0<f.den:=Nat.pos_of_ne_zero f.den_nz
 have hgd:0<g.den:=Nat.pos_of_ne_zero g.den_nz
 obtain⟨lf1,lf2⟩:=lf
 obtain⟨lg1,lg2⟩:=lg
 have d1:(wd 4294967296 ((f.den:Nat):Int).natAbs).length≤2000000:=by rw[Int.natAbs_natCast];exact lf2
 have d2:(wd 4294967296 ((g.den:Nat):Int).natAbs).length≤2000000:=by rw[Int.natAbs_natCast];exact lg2
 have p1:=qp f.num (g.den:Int) _ _ lf1 d2
 have p2:=qp g.num (f.den:Int) _ _ lg1 d1
 have l1:=Rat.lt_iff (a:=f) (b:=g)
 have l2:=Rat.lt_iff (a:=g) (b:=f)
 have e0:f=g↔¬ f<g∧¬ g<f:=⟨fun h=>by rw[h];exact⟨Rat.lt_irrefl,Rat.lt_irrefl⟩,fun ⟨h1,h2⟩=>Rat.le_antisymm (Rat.not_lt.1 h2) (Rat.not_lt.1 h1)⟩
 refine (zkc xb yb f.num g.num f.den g.den w hx hy hfd hgd (by omega) (by omega) (by omega) (by omega) _ _ rfl rfl (by omega) (by omega)).mono ?_
 rintro e w' ⟨rfl,hb⟩
 refine⟨_,rfl,?_,?_,?_,hb⟩
 ·rw[l1];unfold yu;split
  ·omega
  ·split <;> omega
 ·rw[l2];unfold yu;split
  ·omega
  ·split <;> omega
 ·rw[e0,l1,l2];unfold yu;split
  ·omega
  ·split <;> omega)
theorem zxk (fs:List Rat):∀ k,k≤fs.length→si (fs.take k)=sgR (fun j=>fs[j]?.getD 0) k
 | 0,_=>by rw[List.take_zero];rfl
 | k+1,h=>by
  rw[zbo fs k (by omega),zxk fs k (by omega)]
  rfl
theorem zva (fs:List Rat):si fs=sgR (fun j=>fs[j]?.getD 0) fs.length:=by
 have:=zxk fs fs.length (Nat.le_refl _)
 rwa [List.take_length] at this
theorem zex (v:Value) (fs:List Rat) (F:Nat→Rat) (w:World) (hr:zn w v fs) (hF:∀ i,i<fs.length→fs[i]? = some (F i)) (h1:1≤fs.length) (hn:fs.length≤1000) (lf:∀ i,i<fs.length→zu (F i) 2000000) (ls:∀ k,k≤fs.length→zu (sgR F k) 2000000) :
   Calls prog 108 #[v] w fun e w'=>∃ zb,e=.returned (.pointer (some ⟨zb,0,none⟩))∧ze w' zb (sgR F fs.length)∧But [] w w':=by(
 obtain⟨a,cap,rfl,hcap,hV⟩:=zaj hr hF
 have HV:=af hV
 have HL:=af lf
 have HS:=af ls
 clear hV hr hF lf ls
 generalize fs.length=n at *
 have hb0:=qbj w 113
 have bW:But [] w (w.alloc (.cells #[.bool false,.slice none 0 0,.bool false,.slice none 0 0] 113)):=(But.refl _ _).alloc _
 obtain⟨W,hW⟩:∃ W,W=w.alloc (.cells #[.bool false,.slice none 0 0,.bool false,.slice none 0 0] 113):=⟨_,rfl⟩
 rw[← hW] at hb0 bW
 obtain⟨g0,hg0⟩:∃ g,g=w.heap.size:=⟨_,rfl⟩
 rw[← hg0] at hb0
 have I0:Hid (zyn W g0 (sgR F 0)∧(0<0→ze W g0 (sgR F 0))∧But [] w W):=⟨.inr ⟨rfl,hb0⟩,fun h=>absurd h (by omega),bW⟩
 have HW:=af hW
 clear hW hb0 bW
 go_enter func108,ntmps108
 go_wp2
 rw[← ae HW,← hg0]
 clear HW hg0
 go_loopw [3,9] (fun p i wr=>∃ (k pb:Nat),k≤n∧i=.int .i64 (k:Int)∧p=.pointer (some ⟨pb,0,none⟩)∧Hid (zyn wr pb (sgR F k)∧(0<k→ze wr pb (sgR F k))∧But [] w wr)) (fun _ i _=>n-(intOf i).toNat)
 case atStart=>exact⟨0,g0,Nat.zero_le _,rfl,rfl,ae I0⟩
 case round =>(
 obtain⟨k,pb,hk,rfl,rfl,HI⟩:=hrel
 rename World=>wr
 clear I0
 by_cases hlt:k<n
 ·(
 obtain⟨b,off,g,rfl,c0,hT⟩:=ae HV wr (ae HI).2.2 k hlt
 have AD:=af (qhp pb g (sgR F k) (F k) wr (ae HI).1 hT (ae HS k (by omega)) (ae HL k hlt))
 clear hT
 go_wp2_with fail
 refine (ae AD).mono ?_
 rintro e w2 ⟨g2,rfl,h2,hb2⟩
 have NS:Hid (zyn w2 g2 (sgR F (k+1))∧(0<k+1→ze w2 g2 (sgR F (k+1)))∧But [] w w2):=⟨.inl h2,fun _=>h2,(ae HI).2.2.trans' hb2⟩
 clear h2 hb2 AD
 go_wp2
 exact⟨⟨k+1,g2,by omega,by go_num,rfl,ae NS⟩,by simp[intOf];omega⟩)
 ·obtain rfl:k=n:=by omega
  go_wp2
  go_ret
  exact⟨pb,rfl,(ae HI).2.1 (by omega),(ae HI).2.2⟩))
theorem zno (v:Value) (fs:List Rat) (w:World) (c:Nat) (hr:zn w v fs) (h1:1≤fs.length) (hn:fs.length≤201) (lf:∀ f ∈ fs,Len f c) (hc:c≤100) (z:Int) (hz:z=if fs.any (fun f=>decide (f.num<0)) then 1 else if si fs=1 then 0 else 10) :
   Calls prog 95 #[v,.int .i64 ((fs.length:Nat):Int)] w fun e w'=>e=.returned (.int .i64 z)∧But [] w w':=by(
 obtain⟨F,hFd⟩:∃ F:Nat→Rat,F=fun j=>fs[j]?.getD 0:=⟨_,rfl⟩
 have hF:∀ i,i<fs.length→fs[i]? = some (F i):=fun i hi=>by
  rw[hFd,List.getElem?_eq_getElem hi]
  show some fs[i]=some (fs[i]?.getD 0)
  rw[List.getElem?_eq_getElem hi];rfl
 have lF:∀ i,i<fs.length→zu (F i) 200:=fun i hi=>by
  have e:=hF i hi
  rw[List.getElem?_eq_getElem hi] at e
  rw[← Option.some.inj e]
  exact (uw (lf _ (List.getElem_mem hi))).mono (by omega)
 have ls:∀ k,k≤fs.length→zu (sgR F k) 50000:=fun k hk=>(gm (F:=F) (c:=200) k (fun i hi=>lF i (by omega))).mono (by
  have:k*(200+1)≤201*201:=Nat.mul_le_mul (by omega) (Nat.le_refl _)
  omega)
 have hneg:∀ m,m<fs.length→(F m).num<0→z=1:=fun m hm h=>by
  rw[hz,if_pos]
  refine List.any_eq_true.2 ⟨fs[m],List.getElem_mem hm,?_⟩
  have e:=hF m hm
  rw[List.getElem?_eq_getElem hm] at e
  rw[Option.some.inj e]
  exact decide_eq_true h
 have hpos:(∀ m,m<fs.length→0≤(F m).num)→z=if sgR F fs.length=((1:Int):Rat) then 0 else 10:=fun h=>by
  rw[hz,if_neg,zva,← hFd]
  ·rfl
  ·intro ha
   obtain⟨f,hf,hlt⟩:=List.any_eq_true.1 ha
   obtain⟨m,hm,rfl⟩:=List.mem_iff_getElem.1 hf
   have e:=hF m hm
   rw[List.getElem?_eq_getElem hm] at e
   rw[Option.some.inj e] at hlt
   have:=h m hm
   have:=of_decide_eq_true hlt
   omega
 have SM:=af (fun W (hb:But [] w W)=>zex v fs F W (hr.but hb) hF h1 (by omega) (fun i hi=>(lF i hi).mono (by omega)) (fun k hk=>(ls k hk).mono (by omega)))
 have I1:=af (fun W=>ui 1 W (by omega) (by omega))
 have CM:=af (fun W x y (hx:ze W x (sgR F fs.length)) (hy:ze W y ((1:Int):Rat))=>zpy x y _ _ W hx hy ((ls _ (Nat.le_refl _)).mono (by omega)) ((zu.int (by decide)).mono (by omega)))
 obtain⟨a,cap,rfl,hcap,hV⟩:=zaj hr hF
 have HV:=af hV
 have HL:=af lF
 have HN:=af hneg
 have HP:=af hpos
 clear hV hr hF lf lF ls hneg hpos hz hFd
 obtain⟨n,hnn⟩:∃ n,n=fs.length:=⟨_,rfl⟩
 rw[← hnn] at h1 hn hcap HV HL HN HP SM CM
 rw[← hnn]
 clear hnn
 go_enter func95,ntmps95
 go_wp2
 go_loopw [13] (fun i wr=>∃ k:Nat,k≤n∧i=.int .i64 (k:Int)∧Hid ((∀ m,m<k→0≤(F m).num)∧But [] w wr)) (fun i _=>n-(intOf i).toNat)
 case atStart=>exact⟨0,Nat.zero_le _,rfl,fun m hm=>absurd hm (by omega),But.refl _ _⟩
 case round =>(
 obtain⟨k,hk,rfl,HI⟩:=hrel
 rename World=>wr
 by_cases hlt:k<n
 ·(
 obtain⟨b,off,g,rfl,c0,hT⟩:=ae HV wr (ae HI).2 k hlt
 obtain⟨s,hs⟩:∃ s,s=(F k).num.sign:=⟨_,rfl⟩
 have SG:=af (zmh g _ wr hT s hs ((ae HL k hlt).mono (by omega)))
 clear hT
 by_cases hneg:(F k).num<0
 ·(
 have p1:s<0:=by rw[hs,Int.sign_eq_neg_one_of_neg hneg];decide
 obtain rfl:=ae HN k hlt hneg
 clear hs hneg HN HP
 go_wp2_with fail
 refine (ae SG).mono ?_
 rintro e w2 ⟨rfl,hb2⟩
 have B2:=af ((ae HI).2.trans' hb2)
 clear hb2 SG
 go_wp2
 go_ret
 exact⟨rfl,ae B2⟩)
 ·(
 have hnn:0≤(F k).num:=by omega
 have p1:0≤s:=by rw[hs];exact Int.sign_nonneg_iff.2 hnn
 have NI:Hid (∀ m,m<k+1→0≤(F m).num):=fun m hm=>by
  by_cases e:m=k
  ·rw[e];exact hnn
  ·exact (ae HI).1 m (by omega)
 clear hs hneg hnn
 go_wp2_with fail
 refine (ae SG).mono ?_
 rintro e w2 ⟨rfl,hb2⟩
 have B2:=af ((ae HI).2.trans' hb2)
 clear hb2 SG
 go_wp2
 exact⟨⟨k+1,by omega,by go_num,ae NI,ae B2⟩,by simp[intOf];omega⟩))
 ·(
 obtain rfl:k=n:=by omega
 have hz2:=af (ae HP (ae HI).1)
 have B0:=af (ae HI).2
 clear HP HN HI
 go_wp2_with fail
 refine (ae SM _ (ae B0)).mono ?_
 rintro e w2 ⟨g2,rfl,h2,hb2⟩
 have S2:=af (And.intro h2 ((ae B0).trans' hb2))
 clear h2 hb2 B0 SM
 go_wp2_with fail
 refine (ae I1 _).mono ?_
 rintro e w3 ⟨g3,rfl,h3,hb3⟩
 have C3:=af (ae CM _ _ _ ((ae S2).1.but hb3) h3)
 have B3:=af ((ae S2).2.trans' hb3)
 clear h3 hb3 S2 I1 CM
 go_wp2_with fail
 refine (ae C3).mono ?_
 rintro e w4 ⟨r,rfl,-,-,hr0,hb4⟩
 have B4:=af ((ae B3).trans' hb4)
 clear hb4 B3 C3
 by_cases h0:sgR F k=((1:Int):Rat)
 ·(
 have hr1:r=0:=hr0.2 h0
 have hz0:z=0:=by rw[ae hz2,if_pos h0]
 subst hr1 hz0
 clear hr0 h0 hz2
 go_wp2
 go_ret
 exact⟨rfl,ae B4⟩)
 ·(
 have hr1:(r != 0)=true:=by simpa using fun h=>h0 (hr0.1 h)
 have hz0:z=10:=by rw[ae hz2,if_neg h0]
 subst hz0
 clear hr0 h0 hz2
 go_wp2
 go_ret
 exact⟨rfl,ae B4⟩))))
theorem zvm (v:Value) (fs:List Rat) (w:World) (c:Nat) (hr:zn w v fs) (hn:fs.length≤1000) (lf:∀ f ∈ fs,Len f c) (hc:c≤100) :
   Calls prog 29 #[v] w fun e w'=>e=.returned (.int .i64 (yc fs))∧But [] w w':=by(
 obtain⟨z,hz⟩:∃ z,z=yc fs:=⟨_,rfl⟩
 rw[← hz]
 have HZ:=af hz
 have bw:But [] w w:=But.refl _ _
 have SH:Hid (1≤fs.length→fs.length≤201→Calls prog 95 #[v,.int .i64 ((fs.length:Nat):Int)] w fun e w'=>e=.returned (.int .i64 z)∧But [] w w'):=fun h1 h2=>zno v fs w c hr h1 h2 lf hc z (by rw[hz];unfold yc;rw[if_neg (by omega)])
 have H4:Hid (fs.length<1∨201<fs.length→z=4):=fun h=>by rw[hz];unfold yc;rw[if_pos h]
 obtain⟨a,cap,rfl,-⟩:=hr.open
 clear hz HZ hr lf
 generalize fs.length=n at *
 by_cases h1:n<1
 ·(
 obtain rfl:=ae H4 (.inl h1)
 clear SH H4
 go_enter func29,ntmps29
 go_wp2
 go_ret
 exact⟨rfl,bw⟩)
 ·(
 by_cases h2:201<n
 ·(
 obtain rfl:=ae H4 (.inr h2)
 clear SH H4
 go_enter func29,ntmps29
 go_wp2
 go_ret
 exact⟨rfl,bw⟩)
 ·(
 have h3:¬ n > 201:=h2
 have S:=af (ae SH (by omega) (by omega))
 clear SH H4
 go_enter func29,ntmps29
 go_wp2_with fail
 refine (ae S).mono ?_
 rintro e w2 ⟨rfl,hb2⟩
 have B2:=af hb2
 clear hb2 S
 go_wp2
 go_ret
 exact⟨rfl,ae B2⟩)))
theorem zn.take {w:World} {a:Option Addr} {n cap:Nat} {fs:List Rat} (h:zn w (.slice a n cap) fs) (k:Nat) (hk:k≤n):zn w (.slice a k cap) (fs.take k):=by(
 obtain⟨a',cap',e,h1,h2⟩:=h
 simp only[Value.slice.injEq] at e
 obtain⟨rfl,rfl,rfl⟩:=e
 refine⟨a,cap,by rw[List.length_take,Nat.min_eq_left hk],by rw[List.length_take];omega,fun i f hi=>h2 i f ?_⟩
 rw[List.getElem?_take] at hi
 split at hi
 ·exact hi
 ·exact absurd hi (by simp))
theorem zez (v:Value) (fs:List Rat) (F:Nat→Rat) (w:World) (hr:zn w v fs) (hF:∀ i,i<fs.length→fs[i]? = some (F i)) (hn:fs.length≤201) (lf:∀ i,i<fs.length→zu (F i) 200) :
   Calls prog 41 #[v] w fun e w'=>∃ zb,e=.returned (.pointer (some ⟨zb,0,none⟩))∧ze w' zb (sgR (fun i=>(((i:Nat):Int):Rat)*F i) fs.length)∧But [] w w':=by(
 obtain⟨G,hG⟩:∃ G:Nat→Rat,G=fun i=>(((i:Nat):Int):Rat)*F i:=⟨_,rfl⟩
 have lm:∀ i,i<fs.length→zu (G i) 203:=fun i hi=>by
  rw[hG]
  exact ((zu.int (by omega)).mul (lf i hi)).mono (by omega)
 have ls:∀ k,k≤fs.length→zu (sgR G k) 100000:=fun k hk=>(gm (F:=G) (c:=203) k (fun i hi=>lm i (by omega))).mono (by
  have:k*(203+1)≤201*204:=Nat.mul_le_mul (by omega) (Nat.le_refl _)
  omega)
 have I0:=af (ui 0 w (by omega) (by omega))
 have IN:=af (fun (z:Int) (W:World) (h:-1000000≤z∧z<1000000)=>ui z W (by omega) (by omega))
 have AD:=af (fun (k:Nat) (W:World) (x y:Nat) (h:k<fs.length) (hx:ze W x (sgR G k)) (hy:ze W y (G k))=>zfy x y _ _ W hx hy ((ls k (by omega)).mono (by omega)) ((lm k h).mono (by omega)))
 have MU:=af (fun (k:Nat) (W:World) (x y:Nat) (h:k<fs.length) (hx:ze W x ((((k:Int):Int):Rat))) (hy:ze W y (F k))=>show Calls prog 28 #[.pointer (some ⟨x,0,none⟩),.pointer (some ⟨y,0,none⟩)] W fun e w'=>∃ zb,e=.returned (.pointer (some ⟨zb,0,none⟩))∧ze w' zb (G k)∧But [] W w' by
  have h2:=zlj x y _ _ W hx hy ((zu.int (by omega)).mono (by omega)) ((lf k h).mono (by omega))
  have eG:G k=((((k:Int):Int):Rat))*F k:=by rw[hG]
  rw[eG]
  exact h2)
 rw[← hG]
 obtain⟨a0,cap,rfl,hcap,hV⟩:=zaj hr hF
 have HV:=af hV
 clear hV hr hF lf lm ls
 obtain⟨n,hnn⟩:∃ n,n=fs.length:=⟨_,rfl⟩
 rw[← hnn] at hn hcap HV AD MU
 rw[← hnn]
 clear hnn hG
 go_enter func41,ntmps41
 go_wp2_with fail
 refine (ae I0).mono ?_
 rintro e w1 ⟨g0,rfl,h0,hb0⟩
 have S1:Hid (ze w1 g0 (sgR G 0)∧But [] w w1):=⟨h0,hb0⟩
 clear h0 hb0 I0
 go_wp2
 go_loopw [3,9] (fun p i wr=>∃ (k pb:Nat),k≤n∧i=.int .i64 (k:Int)∧p=.pointer (some ⟨pb,0,none⟩)∧Hid (ze wr pb (sgR G k)∧But [] w wr)) (fun _ i _=>n-(intOf i).toNat)
 case atStart=>exact⟨0,g0,Nat.zero_le _,rfl,rfl,ae S1⟩
 case round =>(
 obtain⟨k,pb,hk,rfl,rfl,HI⟩:=hrel
 rename World=>wr
 clear S1
 by_cases hlt:k<n
 ·(
 obtain⟨b,off,g,rfl,c0,hT⟩:=ae HV wr (ae HI).2 k hlt
 have HB:=af (ae HI).2
 have T0:=af hT
 have P0:=af (ae HI).1
 clear hT HI
 go_wp2_with fail
 refine (ae IN ((k:Int)) _ (by omega)).mono ?_
 rintro e w2 ⟨g2,rfl,h2,hb⟩
 replace HB:=af ((ae HB).trans' hb)
 replace T0:=af ((ae T0).but hb)
 replace P0:=af ((ae P0).but hb)
 have H2:=af (h2)
 clear h2 hb
 go_wp2_with fail
 refine (ae MU k _ _ _ hlt (ae H2) (ae T0)).mono ?_
 rintro e w3 ⟨g3,rfl,h3,hb⟩
 replace HB:=af ((ae HB).trans' hb)
 replace P0:=af ((ae P0).but hb)
 have H3:=af (h3)
 clear h3 hb H2 T0
 go_wp2_with fail
 refine (ae AD k _ _ _ hlt (ae P0) (ae H3)).mono ?_
 rintro e w4 ⟨g4,rfl,h4,hb⟩
 replace HB:=af ((ae HB).trans' hb)
 have N4:=af (h4)
 clear h4 hb H3 P0
 have N5:Hid (ze w4 g4 (sgR G (k+1))∧But [] w w4):=⟨ae N4,ae HB⟩
 clear N4 HB
 go_wp2
 exact⟨⟨k+1,g4,by omega,by go_num,rfl,ae N5⟩,by simp[intOf];omega⟩)
 ·obtain rfl:k=n:=by omega
  go_wp2
  go_ret
  exact⟨pb,rfl,(ae HI).1,(ae HI).2⟩))
theorem znp (v:Value) (fs:List Rat) (F:Nat→Rat) (w:World) (hr:zn w v fs) (hF:∀ i,i<fs.length→fs[i]? = some (F i)) (hn:fs.length≤201) (lf:∀ i,i<fs.length→zu (F i) 200) :
   Calls prog 42 #[v] w fun e w'=>∃ zb,e=.returned (.pointer (some ⟨zb,0,none⟩))∧ze w' zb (sgR (fun i=>(((i*i:Nat):Int):Rat)*F i) fs.length-sgR (fun i=>(((i:Nat):Int):Rat)*F i) fs.length*sgR (fun i=>(((i:Nat):Int):Rat)*F i) fs.length)∧But [] w w':=by(
 have hsq:∀ i,i<fs.length→i*i≤201*201:=fun i hi=>Nat.mul_le_mul (by omega) (by omega)
 have lm1:∀ i,i<fs.length→zu ((((i:Nat):Int):Rat)*F i) 203:=fun i hi=>((zu.int (by omega)).mul (lf i hi)).mono (by omega)
 have lM:zu (sgR (fun i=>(((i:Nat):Int):Rat)*F i) fs.length) 100000:=(gm (F:=fun i=>(((i:Nat):Int):Rat)*F i) (c:=203) fs.length lm1).mono (by
  have:fs.length*(203+1)≤201*204:=Nat.mul_le_mul (by omega) (Nat.le_refl _)
  omega)
 have ME:=af (fun W (hb:But [] w W)=>zez v fs F W (hr.but hb) hF hn lf)
 obtain⟨M,hM⟩:∃ M,M=sgR (fun i=>(((i:Nat):Int):Rat)*F i) fs.length:=⟨_,rfl⟩
 rw[← hM] at ME lM
 rw[← hM]
 clear hM lm1
 obtain⟨G,hG⟩:∃ G:Nat→Rat,G=fun i=>(((i*i:Nat):Int):Rat)*F i:=⟨_,rfl⟩
 have lm:∀ i,i<fs.length→zu (G i) 203:=fun i hi=>by
  rw[hG]
  have:=hsq i hi
  exact ((zu.int (by omega)).mul (lf i hi)).mono (by omega)
 have ls:∀ k,k≤fs.length→zu (sgR G k) 100000:=fun k hk=>(gm (F:=G) (c:=203) k (fun i hi=>lm i (by omega))).mono (by
  have:k*(203+1)≤201*204:=Nat.mul_le_mul (by omega) (Nat.le_refl _)
  omega)
 have I0:=af (ui 0 w (by omega) (by omega))
 have IN:=af (fun (z:Int) (W:World) (h:-1000000≤z∧z<1000000)=>ui z W (by omega) (by omega))
 have AD:=af (fun (k:Nat) (W:World) (x y:Nat) (h:k<fs.length) (hx:ze W x (sgR G k)) (hy:ze W y (G k))=>zfy x y _ _ W hx hy ((ls k (by omega)).mono (by omega)) ((lm k h).mono (by omega)))
 have MU:=af (fun (k:Nat) (W:World) (x y:Nat) (h:k<fs.length) (hx:ze W x (((((k*k:Nat):Int):Int):Rat))) (hy:ze W y (F k))=>show Calls prog 28 #[.pointer (some ⟨x,0,none⟩),.pointer (some ⟨y,0,none⟩)] W fun e w'=>∃ zb,e=.returned (.pointer (some ⟨zb,0,none⟩))∧ze w' zb (G k)∧But [] W w' by
  have hk2:=hsq k h
  have h2:=zlj x y _ _ W hx hy ((zu.int (by omega)).mono (by omega)) ((lf k h).mono (by omega))
  have eG:G k=(((((k*k:Nat):Int):Int):Rat))*F k:=by rw[hG]
  rw[eG]
  exact h2)
 have M2:=af (fun W x y (hx:ze W x M) (hy:ze W y M)=>zlj x y _ _ W hx hy (lM.mono (by omega)) (lM.mono (by omega)))
 have SB:=af (fun W x y (hx:ze W x (sgR G fs.length)) (hy:ze W y (M*M))=>zxq x y _ _ W hx hy ((ls _ (Nat.le_refl _)).mono (by omega)) ((lM.mul lM).mono (by omega)))
 rw[← hG]
 obtain⟨a0,cap,rfl,hcap,hV⟩:=zaj hr hF
 have HV:=af hV
 clear hV hr hF lf lm ls
 obtain⟨n,hnn⟩:∃ n,n=fs.length:=⟨_,rfl⟩
 rw[← hnn] at hn hcap HV AD MU SB ME hsq
 rw[← hnn]
 clear hnn hG
 have HSQ:=af hsq
 clear hsq lM
 go_enter func42,ntmps42
 go_wp2_with fail
 refine (ae I0).mono ?_
 rintro e w1 ⟨g0,rfl,h0,hb0⟩
 have S1:Hid (ze w1 g0 (sgR G 0)∧But [] w w1):=⟨h0,hb0⟩
 clear h0 hb0 I0
 go_wp2
 go_loopw [3,9] (fun p i wr=>∃ (k pb:Nat),k≤n∧i=.int .i64 (k:Int)∧p=.pointer (some ⟨pb,0,none⟩)∧Hid (ze wr pb (sgR G k)∧But [] w wr)) (fun _ i _=>n-(intOf i).toNat)
 case atStart=>exact⟨0,g0,Nat.zero_le _,rfl,rfl,ae S1⟩
 case round =>(
 obtain⟨k,pb,hk,rfl,rfl,HI⟩:=hrel
 rename World=>wr
 clear S1
 by_cases hlt:k<n
 ·(
 obtain⟨b,off,g,rfl,c0,hT⟩:=ae HV wr (ae HI).2 k hlt
 have HB:=af (ae HI).2
 have T0:=af hT
 have P0:=af (ae HI).1
 clear hT HI
 obtain⟨m,hm⟩:∃ m,m=k*k:=⟨_,rfl⟩
 have hm2:m≤40401:=by rw[hm];exact ae HSQ k hlt
 have hw0:wrap64 ((k:Int)*(k:Int))=(m:Int):=by
  have e:((k*k:Nat):Int)=(k:Int)*(k:Int):=Int.natCast_mul _ _
  rw[← e,← hm];unfold wrap64;omega
 have MK:=af (ae MU k)
 rw[← hm] at MK
 clear hm
 go_wp2_with fail
 refine (ae IN ((m:Int)) _ (by omega)).mono ?_
 rintro e w2 ⟨g2,rfl,h2,hb⟩
 replace HB:=af ((ae HB).trans' hb)
 replace T0:=af ((ae T0).but hb)
 replace P0:=af ((ae P0).but hb)
 have H2:=af (h2)
 clear h2 hb
 go_wp2_with fail
 refine (ae MK _ _ _ hlt (ae H2) (ae T0)).mono ?_
 rintro e w3 ⟨g3,rfl,h3,hb⟩
 replace HB:=af ((ae HB).trans' hb)
 replace P0:=af ((ae P0).but hb)
 have H3:=af (h3)
 clear h3 hb H2 T0
 go_wp2_with fail
 refine (ae AD k _ _ _ hlt (ae P0) (ae H3)).mono ?_
 rintro e w4 ⟨g4,rfl,h4,hb⟩
 replace HB:=af ((ae HB).trans' hb)
 have N4:=af (h4)
 clear h4 hb H3 P0
 have N5:Hid (ze w4 g4 (sgR G (k+1))∧But [] w w4):=⟨ae N4,ae HB⟩
 clear N4 HB
 go_wp2
 exact⟨⟨k+1,g4,by omega,by go_num,rfl,ae N5⟩,by simp[intOf];omega⟩)
 ·(
 obtain rfl:k=n:=by omega
 have HB:=af (ae HI).2
 have P0:=af (ae HI).1
 clear HI
 go_wp2_with fail
 refine (ae ME _ (ae HB)).mono ?_
 rintro e w5 ⟨g5,rfl,h5,hb⟩
 replace HB:=af ((ae HB).trans' hb)
 replace P0:=af ((ae P0).but hb)
 have H5:=af (h5)
 clear h5 hb
 go_wp2_with fail
 refine (ae ME _ (ae HB)).mono ?_
 rintro e w6 ⟨g6,rfl,h6,hb⟩
 replace HB:=af ((ae HB).trans' hb)
 replace P0:=af ((ae P0).but hb)
 replace H5:=af ((ae H5).but hb)
 have H6:=af (h6)
 clear h6 hb
 go_wp2_with fail
 refine (ae M2 _ _ _ (ae H5) (ae H6)).mono ?_
 rintro e w7 ⟨g7,rfl,h7,hb⟩
 replace HB:=af ((ae HB).trans' hb)
 replace P0:=af ((ae P0).but hb)
 have H7:=af (h7)
 clear h7 hb H5 H6
 go_wp2_with fail
 refine (ae SB _ _ _ (ae P0) (ae H7)).mono ?_
 rintro e w8 ⟨g8,rfl,h8,hb⟩
 replace HB:=af ((ae HB).trans' hb)
 have H8:=af (h8)
 clear h8 hb P0 H7
 go_wp2
 go_ret
 exact⟨g8,rfl,ae H8,ae HB⟩)))
theorem zey (v:Value) (fs:List Rat) (F:Nat→Rat) (a:Nat) (w:World) (hr:zn w v fs) (hF:∀ i,i<fs.length→fs[i]? = some (F i)) (hn:fs.length≤201) (lf:∀ i,i<fs.length→zu (F i) 200) (ha:a≤201) :
   Calls prog 50 #[v,.int .i64 (a:Int)] w fun e w'=>∃ zb,e=.returned (.pointer (some ⟨zb,0,none⟩))∧ze w' zb (sgR (fun i=>if a<i then ((((i:Int)-(a:Int):Int)):Rat)*F i else 0) fs.length)∧But [] w w':=by(
 obtain⟨G,hG⟩:∃ G:Nat→Rat,G=fun i=>if a<i then ((((i:Int)-(a:Int):Int)):Rat)*F i else 0:=⟨_,rfl⟩
 have lm:∀ i,i<fs.length→zu (G i) 203:=fun i hi=>by
  rw[hG]
  show zu (if a<i then ((((i:Int)-(a:Int):Int)):Rat)*F i else 0) 203
  split
  ·exact ((zu.int (by omega)).mul (lf i hi)).mono (by omega)
  ·exact (zu.int (z:=0) (by decide)).mono (by omega)
 have ls:∀ k,k≤fs.length→zu (sgR G k) 100000:=fun k hk=>(gm (F:=G) (c:=203) k (fun i hi=>lm i (by omega))).mono (by
  have:k*(203+1)≤201*204:=Nat.mul_le_mul (by omega) (Nat.le_refl _)
  omega)
 have I0:=af (ui 0 w (by omega) (by omega))
 have IN:=af (fun (z:Int) (W:World) (h:-1000000≤z∧z<1000000)=>ui z W (by omega) (by omega))
 have AD:=af (fun (k:Nat) (W:World) (x y:Nat) (h:k<fs.length) (hx:ze W x (sgR G k)) (hy:ze W y (G k))=>zfy x y _ _ W hx hy ((ls k (by omega)).mono (by omega)) ((lm k h).mono (by omega)))
 have MU:=af (fun (k:Nat) (W:World) (x y:Nat) (h:k<fs.length) (hc:a<k) (hx:ze W x (((((k:Int)-(a:Int)):Int):Rat))) (hy:ze W y (F k))=>show Calls prog 28 #[.pointer (some ⟨x,0,none⟩),.pointer (some ⟨y,0,none⟩)] W fun e w'=>∃ zb,e=.returned (.pointer (some ⟨zb,0,none⟩))∧ze w' zb (G k)∧But [] W w' by
  have h2:=zlj x y _ _ W hx hy ((zu.int (by omega)).mono (by omega)) ((lf k h).mono (by omega))
  have eG:G k=(((((k:Int)-(a:Int)):Int):Rat))*F k:=by rw[hG];exact if_pos hc
  rw[eG]
  exact h2)
 have SK:=af (fun (k:Nat) (h:¬ a<k)=>show sgR G k=sgR G (k+1) by
  have e0:G k=0:=by rw[hG];exact if_neg h
  show _=sgR G k+G k
  rw[e0]
  grind)
 rw[← hG]
 obtain⟨a0,cap,rfl,hcap,hV⟩:=zaj hr hF
 have HV:=af hV
 clear hV hr hF lf lm ls
 obtain⟨n,hnn⟩:∃ n,n=fs.length:=⟨_,rfl⟩
 rw[← hnn] at hn hcap HV AD MU
 rw[← hnn]
 clear hnn hG
 go_enter func50,ntmps50
 go_wp2_with fail
 refine (ae I0).mono ?_
 rintro e w1 ⟨g0,rfl,h0,hb0⟩
 have S1:Hid (ze w1 g0 (sgR G 0)∧But [] w w1):=⟨h0,hb0⟩
 clear h0 hb0 I0
 go_wp2
 go_loopw [5,11] (fun p i wr=>∃ (k pb:Nat),k≤n∧i=.int .i64 (k:Int)∧p=.pointer (some ⟨pb,0,none⟩)∧Hid (ze wr pb (sgR G k)∧But [] w wr)) (fun _ i _=>n-(intOf i).toNat)
 case atStart=>exact⟨0,g0,Nat.zero_le _,rfl,rfl,ae S1⟩
 case round =>(
 obtain⟨k,pb,hk,rfl,rfl,HI⟩:=hrel
 rename World=>wr
 clear S1
 by_cases hlt:k<n
 ·(
 obtain⟨b,off,g,rfl,c0,hT⟩:=ae HV wr (ae HI).2 k hlt
 have HB:=af (ae HI).2
 have T0:=af hT
 have P0:=af (ae HI).1
 clear hT HI
 by_cases hak:a<k
 ·(
 have hak2:(a:Int)<(k:Int):=by omega
 go_wp2_with fail
 refine (ae IN ((k:Int)-(a:Int)) _ (by omega)).mono ?_
 rintro e w2 ⟨g2,rfl,h2,hb⟩
 replace HB:=af ((ae HB).trans' hb)
 replace T0:=af ((ae T0).but hb)
 replace P0:=af ((ae P0).but hb)
 have H2:=af (h2)
 clear h2 hb
 go_wp2_with fail
 refine (ae MU k _ _ _ hlt hak (ae H2) (ae T0)).mono ?_
 rintro e w3 ⟨g3,rfl,h3,hb⟩
 replace HB:=af ((ae HB).trans' hb)
 replace P0:=af ((ae P0).but hb)
 have H3:=af (h3)
 clear h3 hb H2 T0
 go_wp2_with fail
 refine (ae AD k _ _ _ hlt (ae P0) (ae H3)).mono ?_
 rintro e w4 ⟨g4,rfl,h4,hb⟩
 replace HB:=af ((ae HB).trans' hb)
 have N4:=af (h4)
 clear h4 hb H3 P0
 have N5:Hid (ze w4 g4 (sgR G (k+1))∧But [] w w4):=⟨ae N4,ae HB⟩
 clear N4 HB
 go_wp2
 exact⟨⟨k+1,g4,by omega,by go_num,rfl,ae N5⟩,by simp[intOf];omega⟩)
 ·(
 have hak2:¬ (a:Int)<(k:Int):=by omega
 have N5:Hid (ze wr pb (sgR G (k+1))∧But [] w wr):=⟨by rw[← ae SK k hak];exact ae P0,ae HB⟩
 clear P0 HB T0
 go_wp2
 exact⟨⟨k+1,pb,by omega,by go_num,rfl,ae N5⟩,by simp[intOf];omega⟩))
 ·obtain rfl:k=n:=by omega
  go_wp2
  go_ret
  exact⟨pb,rfl,(ae HI).1,(ae HI).2⟩))
theorem zu.qmr {f g:Rat} {m n:Nat} (hf:zu f m) (hg:zu g n) (h0:g.num≠0):zu (f/g) (m+n):=by(
 have hg0:g≠0:=fun e=>h0 (by rw[e];rfl)
 have hq:(f/g)*g=f:=Rat.div_mul_cancel hg0
 have e1:=zqa f
 have e2:=zqa g
 have e3:=zqa (f/g)
 have hfd:(((f.den:Nat):Int):Rat)≠0:=fun e=>by
  have:=f.den_nz
  have h2:(((f.den:Nat):Int):Rat)=((0:Int):Rat):=e
  have:=Rat.intCast_inj.1 h2
  omega
 refine zlk (f/g) (f.num*(g.den:Int)) (g.num*(f.den:Int)) (m+n) (Int.mul_ne_zero h0 (by have:=f.den_nz;omega)) ?_ (qp _ _ _ _ hf.1 (by rw[Int.natAbs_natCast];exact hg.2)) (by rw[Nat.add_comm];exact qp _ _ _ _ hg.1 (by rw[Int.natAbs_natCast];exact hf.2))
 have:(((f/g).num*(g.num*(f.den:Int)):Int):Rat)=((f.num*(g.den:Int)*((f/g).den:Int):Int):Rat):=by
  rw[Rat.intCast_mul,Rat.intCast_mul,Rat.intCast_mul,Rat.intCast_mul,← e1,← e2,← e3]
  generalize f/g=x at *
  grind
 exact Rat.intCast_inj.1 this)
theorem zky (v:Value) (fs:List Rat) (F:Nat→Rat) (ch:Rat) (cb q:Nat) (w:World) (hr:zn w v fs) (hF:∀ i,i<fs.length→fs[i]? = some (F i)) (hch:ze w cb ch) (hn:fs.length≤201) (lf:∀ i,i<fs.length→zu (F i) 200) (lc:zu ch 1000) (hq:q<fs.length) (h1:∀ j,j<q→sgR F (j+1)<ch) (h2:¬ sgR F (q+1)<ch) :
   Calls prog 46 #[v,.pointer (some ⟨cb,0,none⟩)] w fun e w'=>e=.returned (.int .i64 (q:Int))∧But [] w w':=by(
 have ls:∀ k,k≤fs.length→zu (sgR F k) 100000:=fun k hk=>(gm (F:=F) (c:=200) k (fun i hi=>lf i (by omega))).mono (by
  have:k*(200+1)≤201*201:=Nat.mul_le_mul (by omega) (Nat.le_refl _)
  omega)
 obtain⟨a0,cap,rfl,hcap⟩:=hr.open
 have SM:=af (fun (k:Nat) W (hb:But [] w W) (hk:k<fs.length)=>show Calls prog 108 #[.slice a0 (k+1) cap] W fun e w'=>∃ zb,e=.returned (.pointer (some ⟨zb,0,none⟩))∧ze w' zb (sgR F (k+1))∧But [] W w' by
  have hl:(fs.take (k+1)).length=k+1:=by rw[List.length_take];omega
  have h:=zex _ (fs.take (k+1)) F W ((hr.but hb).take (k+1) hk) (fun i hi=>by
   rw[hl] at hi
   rw[List.getElem?_take,if_pos hi]
   exact hF i (by omega)) (by omega) (by omega) (fun i hi=>(lf i (by omega)).mono (by omega)) (fun j hj=>(ls j (by omega)).mono (by omega))
  rw[hl] at h
  exact h)
 have CM:=af (fun (k:Nat) W x (hx:ze W x (sgR F (k+1))) (hb:But [] w W) (hk:k<fs.length)=>zpy x cb _ ch W hx (hch.but hb) ((ls _ (by omega)).mono (by omega)) (lc.mono (by omega)))
 obtain⟨b,off,hb0⟩:∃ b off,a0=some ⟨b,off,none⟩:=by
  obtain⟨-,b,off,g,f,h3,-⟩:=hr.at 0 (by omega)
  exact⟨b,off,h3⟩
 subst hb0
 have H1:=af h1
 have H2:=af h2
 clear hr hF lf ls h1 h2 hch lc
 obtain⟨n,hnn⟩:∃ n,n=fs.length:=⟨_,rfl⟩
 rw[← hnn] at hn hcap SM CM hq
 rw[← hnn]
 clear hnn
 go_enter func46,ntmps46
 go_wp2
 go_loopw [5] (fun i wr=>∃ (k:Nat),k≤q∧i=.int .i64 (k:Int)∧Hid (But [] w wr)) (fun i _=>n-(intOf i).toNat)
 case atStart=>exact⟨0,Nat.zero_le _,rfl,But.refl _ _⟩
 case round =>(
 obtain⟨k,hk,rfl,HB⟩:=hrel
 rename World=>wr
 have hkn:k<n:=by omega
 have hkc:k+1≤cap:=by omega
 go_wp2_with fail
 refine (ae SM k _ (ae HB) hkn).mono ?_
 rintro e w2 ⟨g2,rfl,h2,hb⟩
 replace HB:=af ((ae HB).trans' hb)
 have H20:=af (h2)
 clear h2 hb
 go_wp2_with fail
 refine (ae CM k _ _ (ae H20) (ae HB) hkn).mono ?_
 rintro e w3 ⟨c,rfl,hc,-,-,hb⟩
 replace HB:=af ((ae HB).trans' hb)
 have HC:=af (hc)
 clear hc hb H20
 by_cases hkq:k<q
 ·have hc:c<0:=(ae HC).2 (ae H1 k hkq)
  clear HC
  go_wp2
  exact⟨⟨k+1,by omega,by go_num,ae HB⟩,by simp[intOf];omega⟩
 ·(
 obtain rfl:k=q:=by omega
 have hc:¬ c<0:=fun h=>ae H2 ((ae HC).1 h)
 clear HC
 go_wp2
 go_ret
 exact⟨rfl,ae HB⟩)))
theorem zpv (v:Value) (fs:List Rat) (F:Nat→Rat) (ch:Rat) (cb q:Nat) (w:World) (hr:zn w v fs) (hF:∀ i,i<fs.length→fs[i]? = some (F i)) (hch:ze w cb ch) (hn:fs.length≤201) (lf:∀ i,i<fs.length→zu (F i) 200) (lc:zu ch 1000) (hq:q<fs.length) (h1:∀ j,j<q→sgR F (j+1)≤ch) (h2:¬ sgR F (q+1)≤ch) (hc1:ch<1) :
   Calls prog 48 #[v,.pointer (some ⟨cb,0,none⟩)] w fun e w'=>∃ zb,e=.returned (.pointer (some ⟨zb,0,none⟩))∧ze w' zb (((q:Int):Rat)+sgR (fun i=>if q<i then ((((i:Int)-(q:Int):Int)):Rat)*F i else 0) fs.length/(((1:Int):Rat)-ch))∧But [] w w':=by(
 have ls:∀ k,k≤fs.length→zu (sgR F k) 100000:=fun k hk=>(gm (F:=F) (c:=200) k (fun i hi=>lf i (by omega))).mono (by
  have:k*(200+1)≤201*201:=Nat.mul_le_mul (by omega) (Nat.le_refl _)
  omega)
 obtain⟨a0,cap,rfl,hcap⟩:=hr.open
 have SM:=af (fun (k:Nat) W (hb:But [] w W) (hk:k<fs.length)=>show Calls prog 108 #[.slice a0 (k+1) cap] W fun e w'=>∃ zb,e=.returned (.pointer (some ⟨zb,0,none⟩))∧ze w' zb (sgR F (k+1))∧But [] W w' by
  have hl:(fs.take (k+1)).length=k+1:=by rw[List.length_take];omega
  have h:=zex _ (fs.take (k+1)) F W ((hr.but hb).take (k+1) hk) (fun i hi=>by
   rw[hl] at hi
   rw[List.getElem?_take,if_pos hi]
   exact hF i (by omega)) (by omega) (by omega) (fun i hi=>(lf i (by omega)).mono (by omega)) (fun j hj=>(ls j (by omega)).mono (by omega))
  rw[hl] at h
  exact h)
 have CM:=af (fun (k:Nat) W x (hx:ze W x (sgR F (k+1))) (hb:But [] w W) (hk:k<fs.length)=>zpy x cb _ ch W hx (hch.but hb) ((ls _ (by omega)).mono (by omega)) (lc.mono (by omega)))
 have ST:=af (fun W (hb:But [] w W)=>zey _ fs F q W (hr.but hb) hF hn lf (by omega))
 have I1:=af (fun (z:Int) (W:World) (h:0≤z∧z<1000)=>ui z W (by omega) (by omega))
 have lS:zu (sgR (fun i=>if q<i then ((((i:Int)-(q:Int):Int)):Rat)*F i else 0) fs.length) 100000:=(gm (F:=fun i=>if q<i then ((((i:Int)-(q:Int):Int)):Rat)*F i else 0) (c:=203) fs.length (fun i hi=>by
   show zu (if q<i then ((((i:Int)-(q:Int):Int)):Rat)*F i else 0) 203
   split
   ·exact ((zu.int (by omega)).mul (lf i hi)).mono (by omega)
   ·exact (zu.int (z:=0) (by decide)).mono (by omega))).mono (by
  have:fs.length*(203+1)≤201*204:=Nat.mul_le_mul (by omega) (Nat.le_refl _)
  omega)
 have lP:zu (((1:Int):Rat)-ch) 1003:=(zu.int (z:=1) (by decide)).sub lc |>.mono (by omega)
 have hp0:((1:Int):Rat)-ch≠0:=fun h=>by
  have e1:((1:Int):Rat)=1:=rfl
  rw[e1] at h
  grind
 have hpn:(((1:Int):Rat)-ch).num≠0:=fun h=>hp0 (Rat.num_eq_zero.1 h)
 obtain⟨S,hS⟩:∃ S,S=sgR (fun i=>if q<i then ((((i:Int)-(q:Int):Int)):Rat)*F i else 0) fs.length:=⟨_,rfl⟩
 rw[← hS] at ST lS
 rw[← hS]
 have lQ:zu (S/(((1:Int):Rat)-ch)) 110000:=(zu.qmr lS lP hpn).mono (by omega)
 have SB:=af (fun W x (hx:ze W x ((1:Int):Rat)) (hb:But [] w W)=>zxq x cb _ ch W hx (hch.but hb) ((zu.int (z:=1) (by decide)).mono (by omega)) (lc.mono (by omega)))
 have DV:=af (fun W x y (hx:ze W x S) (hy:ze W y (((1:Int):Rat)-ch))=>qhn x y S _ (S/(((1:Int):Rat)-ch)) W hx hy (lS.mono (by omega)) (lP.mono (by omega)) hpn (Rat.div_mul_cancel hp0))
 have AD:=af (fun W x y (hx:ze W x (((q:Nat):Int):Rat)) (hy:ze W y (S/(((1:Int):Rat)-ch)))=>zfy x y _ _ W hx hy ((zu.int (by omega)).mono (by omega)) (lQ.mono (by omega)))
 clear hS lS lP hp0 hpn lQ
 obtain⟨b,off,hb0⟩:∃ b off,a0=some ⟨b,off,none⟩:=by
  obtain⟨-,b,off,g,f,h3,-⟩:=hr.at 0 (by omega)
  exact⟨b,off,h3⟩
 subst hb0
 have H1:=af h1
 have H2:=af h2
 clear hr hF lf ls h1 h2 hch lc
 obtain⟨n,hnn⟩:∃ n,n=fs.length:=⟨_,rfl⟩
 rw[← hnn] at hn hcap SM CM hq ST
 rw[← hnn]
 clear hnn
 go_enter func48,ntmps48
 go_wp2
 go_loopw [5] (fun i wr=>∃ (k:Nat),k≤q∧i=.int .i64 (k:Int)∧Hid (But [] w wr)) (fun i _=>n-(intOf i).toNat)
 case atStart=>exact⟨0,Nat.zero_le _,rfl,But.refl _ _⟩
 case round =>(
 obtain⟨k,hk,rfl,HB⟩:=hrel
 rename World=>wr
 have hkn:k<n:=by omega
 have hkc:k+1≤cap:=by omega
 go_wp2_with fail
 refine (ae SM k _ (ae HB) hkn).mono ?_
 rintro e w2 ⟨g2,rfl,h2,hb⟩
 replace HB:=af ((ae HB).trans' hb)
 have H20:=af (h2)
 clear h2 hb
 go_wp2_with fail
 refine (ae CM k _ _ (ae H20) (ae HB) hkn).mono ?_
 rintro e w3 ⟨c,rfl,-,hc,-,hb⟩
 replace HB:=af ((ae HB).trans' hb)
 have HC:=af (hc)
 clear hc hb H20
 by_cases hkq:k<q
 ·have hc:c≤0:=Int.not_lt.1 (fun h=>(Rat.not_lt.2 (ae H1 k hkq)) ((ae HC).1 h))
  clear HC
  go_wp2
  exact⟨⟨k+1,by omega,by go_num,ae HB⟩,by simp[intOf];omega⟩
 ·(
 obtain rfl:k=q:=by omega
 have hc:0<c:=(ae HC).2 (Rat.not_le.1 (ae H2))
 have hc2:¬ c≤0:=by omega
 clear HC
 go_wp2_with fail
 refine (ae I1 (k:Int) _ (by omega)).mono ?_
 rintro e w4 ⟨g4,rfl,h4,hb⟩
 replace HB:=af ((ae HB).trans' hb)
 have H4:=af (h4)
 clear h4 hb
 go_wp2_with fail
 refine (ae ST _ (ae HB)).mono ?_
 rintro e w5 ⟨g5,rfl,h5,hb⟩
 replace HB:=af ((ae HB).trans' hb)
 replace H4:=af ((ae H4).but hb)
 have H5:=af (h5)
 clear h5 hb
 go_wp2_with fail
 refine (ae I1 1 _ (by omega)).mono ?_
 rintro e w6 ⟨g6,rfl,h6,hb⟩
 replace HB:=af ((ae HB).trans' hb)
 replace H4:=af ((ae H4).but hb)
 replace H5:=af ((ae H5).but hb)
 have H6:=af (h6)
 clear h6 hb
 go_wp2_with fail
 refine (ae SB _ _ (ae H6) (ae HB)).mono ?_
 rintro e w7 ⟨g7,rfl,h7,hb⟩
 replace HB:=af ((ae HB).trans' hb)
 replace H4:=af ((ae H4).but hb)
 replace H5:=af ((ae H5).but hb)
 have H7:=af (h7)
 clear h7 hb H6
 go_wp2_with fail
 refine (ae DV _ _ _ (ae H5) (ae H7)).mono ?_
 rintro e w8 ⟨g8,rfl,h8,hb⟩
 replace HB:=af ((ae HB).trans' hb)
 replace H4:=af ((ae H4).but hb)
 have H8:=af (h8)
 clear h8 hb H5 H7
 go_wp2_with fail
 refine (ae AD _ _ _ (ae H4) (ae H8)).mono ?_
 rintro e w9 ⟨g9,rfl,h9,hb⟩
 replace HB:=af ((ae HB).trans' hb)
 have H9:=af (h9)
 clear h9 hb H4 H8
 go_wp2
 go_ret
 exact⟨g9,rfl,ae H9,ae HB⟩)))
end Go.Proofs.YtagmkkiagjmimaaGreatDoor
