/- The reference's numbers, in one form.  -/
import Derived.Test.YtpmjeclpkahkmaaGreatDoorVD1
import Derived.Test.YtpmjeclpkahkmaaGreatDoorVPK
namespace Go.Proofs.YtpmjeclpkahkmaaGreatDoor
open Go.Proofs.Tryz
open Go.RowKit
set_option maxHeartbeats 8000000
set_option maxRecDepth 100000
set_option linter.unusedVariables false
theorem zls (z:Int) (w:World) (h1:-9223372036854775808≤z) (h2:z<9223372036854775808) :
  Calls prog 36 #[.int .i64 z] w fun e w'=>∃ zb,e=.returned (.pointer (some ⟨zb,0,none⟩))∧zo w' zb (((z:Int):Rat))∧But [] w w':=by
 obtain⟨i1,i2⟩:=bk z
 exact (zwg z w h1 h2).mono fun e w' ⟨zb,he,hb,hr⟩=>⟨zb,he,by unfold zo;rw[i1,i2];exact hr,hb⟩
theorem zrc (xb yb:Nat) (f g:Rat) (w:World) (hx:zo w xb f) (hy:zo w yb g) (lf:jc f 2000000) (lg:jc g 2000000) :
  Calls prog 58 #[.pointer (some ⟨xb,0,none⟩),.pointer (some ⟨yb,0,none⟩)] w fun e w'=>∃ zb,e=.returned (.pointer (some ⟨zb,0,none⟩))∧zo w' zb (f+g)∧But [] w w' :=
 (zwh xb yb f g w hx hy lf lg).mono fun e w' ⟨zb,he,hb,hr,_⟩=>⟨zb,he,hr,hb⟩
theorem qio (xb yb:Nat) (f g:Rat) (w:World) (hx:zo w xb f) (hy:zo w yb g) (lf:jc f 2000000) (lg:jc g 2000000) :
  Calls prog 91 #[.pointer (some ⟨xb,0,none⟩),.pointer (some ⟨yb,0,none⟩)] w fun e w'=>∃ zb,e=.returned (.pointer (some ⟨zb,0,none⟩))∧zo w' zb (f*g)∧But [] w w' :=
 (zwf xb yb f g w hx hy lf lg).mono fun e w' ⟨zb,he,hb,hr,_⟩=>⟨zb,he,hr,hb⟩
theorem zta (b:Nat) (f:Rat) (w:World) (h:zo w b f) (s:Int) (hs:s=f.num.sign) (hl:jc f 2000000) :
  Calls prog 106 #[.pointer (some ⟨b,0,none⟩)] w fun e w'=>e=.returned (.int .i64 s)∧But [] w w' :=
 (ztc b f.num (f.den:Int) w h s hs (by have:=hl.1;omega)).mono fun e w' ⟨he,hw⟩=>⟨he,by rw[hw];exact But.refl _ _⟩
theorem jc.int {z:Int} (h:z.natAbs<18446744073709551616):jc ((z:Int):Rat) 2:=by
 obtain⟨i1,i2⟩:=bk z
 exact⟨by rw[i1];exact dx _ h,by rw[i2];exact dx _ (by omega)⟩
theorem qgd:∃ i,prog.info? 9 = some i∧i.zero=some (.string ⟨#[]⟩)∧i.size=1∧i.bytes=16:=by(
have h:(prog.info? 9).map (fun i=>(i.zero,i.size,i.bytes))=some (some (.string ⟨#[]⟩),1,16):=by kernel_rfl
cases e:prog.info? 9 with
| none=>rw[e] at h;simp at h
| some i =>
 rw[e] at h
 simp only[Option.map_some,Option.some.injEq,Prod.mk.injEq] at h
 exact⟨i,rfl,h.1,h.2.1,h.2.2⟩)
def zfg (w:World) (base:Nat) (v:Value) (ts:List ByteArray):Prop:=w.ownsRow base 9 1 v ts.length (ts.map Value.string)
theorem zfg.nil (w:World) (base:Nat):zfg w base (.slice none 0 0) []:=World.ownsRow_nil _ _ _ _
theorem zfg.but {w w':World} {base:Nat} {v:Value} {ts:List ByteArray} (h:zfg w base v ts) (hb:But [] w w'):zfg w' base v ts:=zfq h hb
theorem zfg.form {w:World} {base:Nat} {v:Value} {ts:List ByteArray} (h:zfg w base v ts):∃ a c,v=.slice a ts.length c:=ownsRow_form h
def zgf (w:World) (v:Value) (ts:List ByteArray):Prop:=∃ a cap,v=.slice a ts.length cap∧∀ i x,ts[i]? = some x→∃ b off,a=some ⟨b,off,none⟩∧w.cell? ⟨b,off+i,none⟩=some (.string x)
theorem zgf.but {w w':World} {v:Value} {ts:List ByteArray} (h:zgf w v ts) (hb:But [] w w'):zgf w' v ts:=by(
obtain⟨a,cap,e,h⟩:=h
refine⟨a,cap,e,fun i x hx=>?_⟩
obtain⟨b,off,e1,h1⟩:=h i x hx
exact⟨b,off,e1,hb.ag h1 (by simp)⟩)
theorem zfg.qnf {w:World} {base:Nat} {v:Value} {ts:List ByteArray} (h:zfg w base v ts):zgf w v ts:=by(
rcases h.2 with ⟨rfl,h0⟩|⟨g,cap,cur,rfl,h1,h2,h3,-⟩
·have:ts=[]:=List.length_eq_zero_iff.1 h0
 subst this
 exact⟨none,0,rfl,fun i x hx=>by simp at hx⟩
·(
refine⟨_,cap,rfl,fun i x hx=>⟨g,0,rfl,?_⟩⟩
have hc:=h.cells (g:=g) rfl i (.string x) (by rw[List.getElem?_map,hx];rfl)
have e:(⟨g,0,none⟩:Addr).add i=⟨g,0+i,none⟩:=by
 by_cases hz:i=0
 ·simp[Addr.add,hz]
 ·simp[Addr.add,hz]
rw[e] at hc
exact hc))
theorem znx (w:World) (base:Nat) (v:Value) (ts:List ByteArray) (hown:zfg w base v ts) (g:Nat) (x:ByteArray) (c:w.cell? ⟨g,0,none⟩=some (.string x)) (hk:ts.length<1000000) (hb:base≤w.heap.size) :
  ∃ v' w',(Builtin.append_ #[190,190] 190 #[v,.slice (some ⟨g,0,none⟩) 1 1]).run prog w=.ok v' w'∧zfg w' base v' (ts++[x])∧w.grownBy w' v.ownBlock:=by(
obtain⟨i0,hi,hz0,hz1,hz2⟩:=qgd
obtain⟨v',w',hr,ho,hg,-⟩:=run_append_own (P:=prog) w base 190 190 9 i0 _ 1 16 underlying190 hi hz0 hz1 hz2 rfl (by decide) v ts.length (ts.map Value.string) hown ⟨g,0,none⟩ 1 1 [.string x] rfl (fun j u hj=>by
  cases j with
  | zero=>simp at hj;subst hj;exact c
  | succ j=>simp at hj) (fun u hu=>by
  simp only[List.mem_cons,List.not_mem_nil,or_false] at hu
  subst hu
  rfl) (by unfold maxLen;omega) (by omega) hb
refine⟨v',w',hr,?_,hg⟩
unfold zfg at *
rw[List.length_append,List.map_append]
exact ho)
def zfh (f:Rat):ByteArray:=zbw (decide (f.num<0)) f.num.natAbs f.den
theorem zju {α:Type} {F:Nat→α} {l:List α} (h:∀ i x,l[i]? = some x→F i=x):(List.range l.length).map F=l:=by(
apply List.ext_getElem?
intro i
rw[List.getElem?_map]
by_cases hi:i<l.length
·rw[List.getElem?_range hi,List.getElem?_eq_getElem hi]
 exact congrArg some (h i _ (List.getElem?_eq_getElem hi))
·rw[List.getElem?_eq_none (by simpa using hi),List.getElem?_eq_none (by simpa using hi)]
 rfl)
theorem qdz (q:Int × Int) (h:Fits q):(qf q).num*(if q.2=0 then 1 else q.2)=q.1*((qf q).den:Int):=by(
obtain⟨f,r,x,y,-,hf,-⟩:=znc q.1 q.2 h.1 h.2.1 h.2.2.1 h.2.2.2
rw[← qjq f q hf]
exact hf)
theorem zkr (v:Value) (qs:List (Int × Int)) (w:World) (hq:zsd w v qs) (hf:∀ q ∈ qs,Fits q) (hn:qs.length≤1000) :
  Calls prog 16 #[v] w fun e w'=>∃ v' us,e=.returned v'∧zeh w' w.heap.size v' (qs.map qf) us∧But [] w w':=by(
obtain⟨a,cap,rfl,hcap,hc⟩:=hq
obtain⟨F,hF⟩:∃ F:Nat→Rat,F=fun i=>qf (qs[i]?.getD (0,0)):=⟨_,rfl⟩
have hL:(List.range qs.length).map F=qs.map qf:=by
 have:=zju (F:=F) (l:=qs.map qf) (fun i x hx=>by
  rw[List.getElem?_map] at hx
  cases h:qs[i]? with
  | none=>rw[h] at hx;simp at hx
  | some q=>rw[h] at hx;rw[hF];simp only[h,Option.getD_some];simpa using hx)
 rwa [List.length_map] at this
have hcell:∀ i,i<qs.length→∃ b off,a=some ⟨b,off,none⟩∧w.cell? ⟨b,off+i*2,none⟩=some (.int .i64 (qs[i]?.getD (0,0)).1)∧w.cell? ⟨b,off+i*2+1,none⟩=some (.int .i64 (qs[i]?.getD (0,0)).2):=fun i hi=>by
 rw[List.getElem?_eq_getElem hi]
 exact hc i _ (List.getElem?_eq_getElem hi)
have hOF:∀ i,i<qs.length→∀ W,Calls prog 15 #[.agg #[.int .i64 (qs[i]?.getD (0,0)).1,.int .i64 (qs[i]?.getD (0,0)).2]] W fun e w'=>∃ zb,e=.returned (.pointer (some ⟨zb,0,none⟩))∧zo w' zb (F i)∧But [] W w':=fun i hi W=>by
 have eF:F i=qf qs[i]:=by rw[hF];show qf (qs[i]?.getD (0,0))=_;rw[List.getElem?_eq_getElem hi];rfl
 rw[eF,List.getElem?_eq_getElem hi]
 have hq:=hf qs[i] (List.getElem_mem hi)
 exact (qaf _ _ (qf qs[i]) W hq.1 hq.2.1 hq.2.2.1 hq.2.2.2 (qdz _ hq)).mono fun e w' ⟨zb,he,hb,hr,_⟩=>⟨zb,he,hr,hb⟩
have HC:=af hcell
have HV:=af hOF
rw[← hL]
obtain⟨n,hnn⟩:∃ n,n=qs.length:=⟨_,rfl⟩
rw[← hnn] at hn hcap HC HV
rw[← hnn]
clear hcell hOF hc hf hF hL hnn
go_enter func16,ntmps16
go_wp2
go_loopw [3,8] (fun o i wr=>∃ (k:Nat) (us:List Value),k≤n∧i=.int .i64 (k:Int)∧Hid (zeh wr w.heap.size o ((List.range k).map F) us∧But [] w wr)) (fun _ i _=>n-(intOf i).toNat)
case atStart=>exact⟨0,[],Nat.zero_le _,rfl,zeh.empty _ _,But.refl _ _⟩
case round =>(
obtain⟨k,us,hk,rfl,HI⟩:=hrel
rename World=>wr
by_cases hlt:k<n
·(
obtain⟨b,off,rfl,c0,c1⟩:=ae HC k hlt
have c0':=(ae HI).2.ag c0 (by simp)
have c1':=(ae HI).2.ag c1 (by simp)
have PF:=af (ae HV k hlt)
clear c0 c1
generalize (qs[k]?.getD (0,0)).1=q1 at *
generalize (qs[k]?.getD (0,0)).2=q2 at *
have ba:=(But.refl [] wr).alloc (.cells #[.int .i64 q1,.int .i64 q2] 23)
have BA:=af ba
clear ba
go_wp2_with fail
refine (ae PF _).mono ?_
rintro e w1 ⟨zb,rfl,hz,hb1⟩
obtain⟨V,hV⟩:∃ V,V=w1.alloc (.cells #[.pointer (some ⟨zb,0,none⟩)] 37):=⟨_,rfl⟩
have bV1:But [] w1 V:=by rw[hV];exact (But.refl _ _).alloc _
have cc:V.cell? ⟨w1.heap.size,0,none⟩=some (.pointer (some ⟨zb,0,none⟩)):=by rw[hV];simp
have bV:But [] wr V:=((ae BA).trans' hb1).trans' bV1
have oV:=(ae HI).1.but bV
have bwV:=(ae HI).2.trans' bV
obtain⟨v',w',hr,ho,hB,-⟩:=zxi V w u3 _ us w.heap.size oV w1.heap.size _ (F k) cc ⟨zb,rfl,hz.but bV1⟩ (by simp;omega) bwV (Nat.le_refl _) bwV.size
have BF:Hid (But [] w w'):=hB
have HO:=af ho
rw[hV] at hr
have HR:=af hr
clear hr ho hB oV bV bwV cc hV bV1 hz hb1
go_wp2_with (at_builtin;refine qp rfl _ _ 42 42 rfl _ _ v' w' rfl rfl (ae HR) ?_)
refine⟨⟨k+1,_,by omega,by go_num,by rw[List.range_succ,List.map_append];exact ae HO,ae BF⟩,by simp[intOf];omega⟩)
·(
obtain rfl:k=n:=by omega
obtain⟨a',c',e'⟩:=(ae HI).1.form
subst e'
go_wp2
go_ret
exact⟨_,us,rfl,(ae HI).1,(ae HI).2⟩)))
theorem zra (v:Value) (fs:List Rat) (w:World) (hq:za w v fs) (lf:∀ f ∈ fs,Len f 1000000) (hn:fs.length≤1000) :
  Calls prog 130 #[v] w fun e w'=>∃ v',e=.returned v'∧zfg w' w.heap.size v' (fs.map zfh)∧But [] w w':=by(
obtain⟨F,hF⟩:∃ F:Nat→ByteArray,F=fun i=>zfh (fs[i]?.getD 0):=⟨_,rfl⟩
have hL:(List.range fs.length).map F=fs.map zfh:=by
 have:=zju (F:=F) (l:=fs.map zfh) (fun i x hx=>by
  rw[List.getElem?_map] at hx
  cases h:fs[i]? with
  | none=>rw[h] at hx;simp at hx
  | some q=>rw[h] at hx;rw[hF];simp only[h,Option.getD_some];simpa using hx)
 rwa [List.length_map] at this
have hOF:∀ W,But [] w W→∀ i,i<fs.length→∃ b off g,(∃ a c,v=.slice a fs.length c∧a=some ⟨b,off,none⟩)∧W.cell? ⟨b,off+i,none⟩=some (.pointer (some ⟨g,0,none⟩))∧Calls prog 13 #[.pointer (some ⟨g,0,none⟩)] W fun e w'=>e=.returned (.string (F i))∧But [] W w':=fun W hb i hi=>by
 obtain⟨a,cap,e,-⟩:=hq.open
 have h0:=hq.but hb
 rw[e] at h0
 obtain⟨-,b,off,g,f,h1,h2,h3,h4⟩:=h0.at i hi
 refine⟨b,off,g,⟨a,cap,e,h1⟩,h2,?_⟩
 have eF:F i=zfh f:=by rw[hF];show zfh (fs[i]?.getD 0)=_;rw[h3];rfl
 rw[eF]
 have hm:f ∈ fs:=List.mem_of_getElem? h3
 exact zsy g f W h4 ((ziq (lf f hm)).mono (by omega)) (zfh f) (qcu f)
obtain⟨a,cap,rfl,hcap⟩:=hq.open
have HV:=af hOF
rw[← hL]
obtain⟨n,hnn⟩:∃ n,n=fs.length:=⟨_,rfl⟩
rw[← hnn] at hn hcap HV
rw[← hnn]
clear hOF hF hL hq lf hnn
go_enter func130,ntmps130
go_wp2
go_loopw [3,8] (fun o i wr=>∃ (k:Nat),k≤n∧i=.int .i64 (k:Int)∧Hid (zfg wr w.heap.size o ((List.range k).map F)∧But [] w wr)) (fun _ i _=>n-(intOf i).toNat)
case atStart=>exact⟨0,Nat.zero_le _,rfl,zfg.nil _ _,But.refl _ _⟩
case round =>(
obtain⟨k,hk,rfl,HI⟩:=hrel
rename World=>wr
by_cases hlt:k<n
·(
obtain⟨b,off,g,⟨a',c',e',ea⟩,c0,hT⟩:=ae HV wr (ae HI).2 k hlt
simp only[Value.slice.injEq] at e'
obtain⟨rfl,-,-⟩:=e'
subst ea
obtain⟨t,ht⟩:∃ t,t=F k:=⟨_,rfl⟩
rw[← ht] at hT
have PF:=af hT
have HT:=af ht
clear hT ht
go_wp2_with fail
refine (ae PF).mono ?_
rintro e w1 ⟨rfl,hb1⟩
obtain⟨V,hV⟩:∃ V,V=w1.alloc (.cells #[.string t] 9):=⟨_,rfl⟩
have bV1:But [] w1 V:=by rw[hV];exact (But.refl _ _).alloc _
have cc:V.cell? ⟨w1.heap.size,0,none⟩=some (.string t):=by rw[hV];simp
have bV:But [] wr V:=hb1.trans' bV1
have oV:=(ae HI).1.but bV
have bwV:=(ae HI).2.trans' bV
obtain⟨v',w',hr,ho,hg⟩:=znx V w.heap.size u3 _ oV w1.heap.size _ cc (by simp;omega) bwV.size
have BF:Hid (But [] w w'):=ou bwV oV (Nat.le_refl _) hg
have HO:=af ho
rw[hV] at hr
have HR:=af hr
clear hr ho hg oV bV bwV cc hV bV1 hb1
go_wp2_with (at_builtin;refine qp rfl _ _ 190 190 rfl _ _ v' w' rfl rfl (ae HR) ?_)
refine⟨⟨k+1,by omega,by go_num,by rw[List.range_succ,List.map_append,List.map_cons,List.map_nil,← ae HT];exact ae HO,ae BF⟩,by simp[intOf];omega⟩)
·(
obtain rfl:k=n:=by omega
obtain⟨a',c',e'⟩:=(ae HI).1.form
subst e'
go_wp2
go_ret
exact⟨_,rfl,(ae HI).1,(ae HI).2⟩)))
theorem zna (v:Value) (fs:List Rat) (w:World) (hq:au w v fs) (lf:∀ f ∈ fs,Len f 1000000) (hn:fs.length≤1000) (htab:Lib.TabIs prog w "internal/strconv.uint64pow10" .u64 Lib.pow10Tab) :
  Calls prog 129 #[v] w fun e w'=>∃ v',e=.returned v'∧zfg w' w.heap.size v' (fs.map zfh)∧But [] w w':=by(
obtain⟨F,hF⟩:∃ F:Nat→ByteArray,F=fun i=>zfh (fs[i]?.getD 0):=⟨_,rfl⟩
have hL:(List.range fs.length).map F=fs.map zfh:=by
 have:=zju (F:=F) (l:=fs.map zfh) (fun i x hx=>by
  rw[List.getElem?_map] at hx
  cases h:fs[i]? with
  | none=>rw[h] at hx;simp at hx
  | some q=>rw[h] at hx;rw[hF];simp only[h,Option.getD_some];simpa using hx)
 rwa [List.length_map] at this
obtain⟨a,cap,e,hcap⟩:∃ a cap,v=.slice a fs.length cap∧fs.length≤cap:=by
 obtain⟨a,cap,e,h1,-⟩:=hq
 exact⟨a,cap,e,h1⟩
have hOF:∀ W,But [] w W→∀ i,i<fs.length→∃ b off s x y p,a=some ⟨b,off,none⟩∧P4o W b (off+i*4) s x y p∧∀ X,But [] W X→Calls prog 12 #[.agg #[.bool s,.int .u64 x,.int .u64 y,.pointer p]] X fun e w'=>e=.returned (.string (F i))∧But [] X w':=fun W hb i hi=>by
 have h0:=hq.but hb
 obtain⟨a',cap',e',h1,h2⟩:=h0
 rw[e] at e'
 simp only[Value.slice.injEq] at e'
 obtain⟨rfl,-,-⟩:=e'
 obtain⟨b,off,ea,s,x,y,p,h3,h4⟩:=h2 i fs[i] (List.getElem?_eq_getElem hi)
 refine⟨b,off,s,x,y,p,ea,h3,fun X hX=>?_⟩
 have eF:F i=zfh fs[i]:=by rw[hF];show zfh (fs[i]?.getD 0)=_;rw[List.getElem?_eq_getElem hi];rfl
 rw[eF]
 exact ziw _ fs[i] X (h4.but hX) (lf _ (List.getElem_mem hi)) (TabIs.but htab (hb.trans' hX)) (zfh fs[i]) rfl
subst e
have HV:=af hOF
rw[← hL]
obtain⟨n,hnn⟩:∃ n,n=fs.length:=⟨_,rfl⟩
rw[← hnn] at hn hcap HV
rw[← hnn]
clear hOF hF hL hq lf hnn htab
go_enter func129,ntmps129
go_wp2
go_loopw [3,8] (fun o i wr=>∃ (k:Nat),k≤n∧i=.int .i64 (k:Int)∧Hid (zfg wr w.heap.size o ((List.range k).map F)∧But [] w wr)) (fun _ i _=>n-(intOf i).toNat)
case atStart=>exact⟨0,Nat.zero_le _,rfl,zfg.nil _ _,But.refl _ _⟩
case round =>(
obtain⟨k,hk,rfl,HI⟩:=hrel
rename World=>wr
by_cases hlt:k<n
·(
obtain⟨b,off,s,x,y,p,rfl,⟨c0,c1,c2,c3⟩,hT⟩:=ae HV wr (ae HI).2 k hlt
obtain⟨t,ht⟩:∃ t,t=F k:=⟨_,rfl⟩
rw[← ht] at hT
have PF:=af hT
have HT:=af ht
clear hT ht
have ba:=(But.refl [] wr).alloc (.cells #[.bool s,.int .u64 x,.int .u64 y,.pointer p] 27)
have BA:=af ba
clear ba
go_wp2_with fail
refine (ae PF _ (ae BA)).mono ?_
rintro e w1 ⟨rfl,hb1⟩
obtain⟨V,hV⟩:∃ V,V=w1.alloc (.cells #[.string t] 9):=⟨_,rfl⟩
have bV1:But [] w1 V:=by rw[hV];exact (But.refl _ _).alloc _
have cc:V.cell? ⟨w1.heap.size,0,none⟩=some (.string t):=by rw[hV];simp
have bV:But [] wr V:=((ae BA).trans' hb1).trans' bV1
have oV:=(ae HI).1.but bV
have bwV:=(ae HI).2.trans' bV
obtain⟨v',w',hr,ho,hg⟩:=znx V w.heap.size u3 _ oV w1.heap.size _ cc (by simp;omega) bwV.size
have BF:Hid (But [] w w'):=ou bwV oV (Nat.le_refl _) hg
have HO:=af ho
rw[hV] at hr
have HR:=af hr
clear hr ho hg oV bV bwV cc hV bV1 hb1
go_wp2_with (at_builtin;refine qp rfl _ _ 190 190 rfl _ _ v' w' rfl rfl (ae HR) ?_)
refine⟨⟨k+1,by omega,by go_num,by rw[List.range_succ,List.map_append,List.map_cons,List.map_nil,← ae HT];exact ae HO,ae BF⟩,by simp[intOf];omega⟩)
·(
obtain rfl:k=n:=by omega
obtain⟨a',c',e'⟩:=(ae HI).1.form
subst e'
go_wp2
go_ret
exact⟨_,rfl,(ae HI).1,(ae HI).2⟩)))
theorem same_eq (v1 v2:Value) (ts:List ByteArray) (w:World) (h1:zgf w v1 ts) (h2:zgf w v2 ts) (hn:ts.length≤1000) :
  Calls prog 128 #[v1,v2] w fun e w'=>e=.returned (.bool true)∧But [] w w':=by(
obtain⟨a1,k1,rfl,c1⟩:=h1
obtain⟨a2,k2,rfl,c2⟩:=h2
have hc:∀ W,But [] w W→∀ i,i<ts.length→∃ b1 o1 b2 o2 t,a1=some ⟨b1,o1,none⟩∧a2=some ⟨b2,o2,none⟩∧W.cell? ⟨b1,o1+i,none⟩=some (.string t)∧W.cell? ⟨b2,o2+i,none⟩=some (.string t):=fun W hb i hi=>by
 obtain⟨b1,o1,e1,d1⟩:=c1 i _ (List.getElem?_eq_getElem hi)
 obtain⟨b2,o2,e2,d2⟩:=c2 i _ (List.getElem?_eq_getElem hi)
 exact⟨b1,o1,b2,o2,ts[i],e1,e2,hb.ag d1 (by simp),hb.ag d2 (by simp)⟩
have HC:=af hc
clear hc c1 c2
generalize ts.length=n at *
go_enter func128,ntmps128
go_wp2
go_loopw [5] (fun i wr=>∃ (k:Nat),k≤n∧i=.int .i64 (k:Int)∧Hid (But [] w wr)) (fun i _=>n-(intOf i).toNat)
case atStart=>exact⟨0,Nat.zero_le _,rfl,But.refl _ _⟩
case round =>(
obtain⟨k,hk,rfl,HI⟩:=hrel
rename World=>wr
by_cases hlt:k<n
·(
obtain⟨b1,o1,b2,o2,t,rfl,rfl,d1,d2⟩:=ae HC wr (ae HI) k hlt
have ett:(t.toList==t.toList)=true:=by simp
go_wp2
go_quiet (fail)
have HB3:=af ((ae HI).drewN nq)
generalize wr.drewN nq=V at *
go_wp2
exact⟨⟨k+1,by omega,by go_num,ae HB3⟩,by simp[intOf];omega⟩)
·obtain rfl:k=n:=by omega
 go_wp2
 go_ret
 exact⟨rfl,ae HI⟩))
def pz (w:World) (b:Nat):Prop:=ze w b 0 0∧w.cell? ⟨b,2,none⟩=some (.bool false)∧w.cell? ⟨b,3,none⟩=some (.slice none 0 0)
theorem pz.but {w w':World} {b:Nat} (h:pz w b) (hb:But [] w w'):pz w' b:=⟨h.1.but hb,hb.ag h.2.1 (by simp),hb.ag h.2.2 (by simp)⟩
theorem pz.lt {w:World} {b:Nat} (h:pz w b):b<w.heap.size:=h.1.lt
theorem qco (w:World) (t:TypeId):pz (w.alloc (.cells #[.bool false,.slice none 0 0,.bool false,.slice none 0 0] t)) w.heap.size:=by(
refine⟨⟨by simp,.slice none 0 0,by simp,?_⟩,by simp,by simp⟩
have h0:wd 4294967296 (0:Int).natAbs=[]:=by rw[dm (by omega)];rfl
rw[h0]
exact⟨none,0,rfl,Nat.le_refl _,fun i hi=>by simp at hi,fun b off e h1=>by simp at h1⟩)
theorem zqe (b:Nat) (w:World) (h:pz w b) :
  Calls prog 186 #[.pointer (some ⟨b,0,none⟩)] w fun e w'=>∃ q,e=.returned (.pointer (some ⟨q,0,none⟩))∧w.heap.size≤q∧But [] w w'∧ze w' q 0 1:=by(
obtain⟨-,c2,c3⟩:=h
go_enter func186,ntmps186
go_wp2_with fail
refine (zar 1 _ (by omega) (by omega)).mono ?_
rintro e w1 ⟨rfl,hb,hI,-⟩
go_wp2
go_ret
exact⟨_,rfl,Nat.le_refl _,hb,hI⟩)
theorem zld (A b1 o1 b2 o2:Nat) (x y z:Int) (hz:x*y=z) (w P:World) (hs:Slot P A 0) (hw:But [] w P) (hA:w.heap.size≤A) (hx:ze P b1 o1 x) (hy:ze P b2 o2 y) (n1:A≠b1) (n2:A≠b2) (hlx:(wd 4294967296 x.natAbs).length<8388608) (hly:(wd 4294967296 y.natAbs).length<8388608) (hlz:(wd 4294967296 z.natAbs).length<8388608) :
  Calls prog 188 #[.pointer (some ⟨A,0,none⟩),.pointer (some ⟨b1,o1,none⟩),.pointer (some ⟨b2,o2,none⟩)] P fun e W1=>e=.returned (.pointer (some ⟨A,0,none⟩))∧But [] w W1∧ze W1 A 0 z∧(∀ B,B≠A→Slot P B 0→Slot W1 B 0)∧(∀ b o z,b≠A→ze P b o z→ze W1 b o z)∧P.heap.size≤W1.heap.size:=by(
refine (znq A 0 b1 o1 b2 o2 x y P hs n1 n2 hx hy (by omega) (by omega) (by rw[← Int.natAbs_mul,hz];omega)).mono ?_
rintro e W1 ⟨rfl,w1,v,hb,hv,rfl⟩
rw[hz] at hv ⊢
have hs1:=hs.but hb (by simp)
exact⟨rfl,(hw.trans' hb).trans (zdg ..) (by simp;exact hA),zdf hs1 _ _ hv,fun B hB hS=>yu _ _ (hS.but hb (by simp)) (.inl hB),fun b o z' hB hI=>ic hs1 _ _ (hI.but hb) (.inl hB),by rw[zgq];exact hb.size⟩)
theorem gm.stay {W:World} {P Q R:Int} {b0 b1 b8:Nat} {a0 a1 a8 p q r z:Bool} {w w':World} (h:gm W P Q R b0 b1 b8 a0 a1 a8 p q r z w) (hb:But [] w w'):gm W P Q R b0 b1 b8 a0 a1 a8 p q r z w' :=
 ⟨h.but.trans' hb,fun e=>⟨(h.s0 e).1,Nat.lt_of_lt_of_le (h.s0 e).2.1 hb.size,fun k=>((h.s0 e).2.2 k).but hb (by simp)⟩,fun e=>⟨(h.s1 e).1,Nat.lt_of_lt_of_le (h.s1 e).2.1 hb.size,fun k=>((h.s1 e).2.2 k).but hb (by simp)⟩,fun e=>⟨(h.s8 e).1,Nat.lt_of_lt_of_le (h.s8 e).2.1 hb.size,fun k=>((h.s8 e).2.2 k).but hb (by simp)⟩,
  h.n01,h.n08,h.n18,fun e=>⟨(h.hp e).1,(h.hp e).2.but hb⟩,fun e=>⟨(h.hq e).1,(h.hq e).2.but hb⟩,fun e=>⟨(h.hr e).1,(h.hr e).2.but hb⟩,h.hz⟩
def qmf (xb yb:Nat) (N:Nat × Nat × Nat × Nat) (i:Nat):Value:=match i with
 | 0=>.pointer (some ⟨N.1,0,none⟩)
 | 1=>.pointer (some ⟨N.2.1,0,none⟩)
 | 2=>.pointer (some ⟨xb,0,none⟩)
 | 3=>.pointer (some ⟨xb,0,none⟩)
 | 4=>.pointer (some ⟨xb,0,none⟩)
 | 5=>.pointer (some ⟨yb,0,none⟩)
 | 6=>.pointer (some ⟨yb,2,none⟩)
 | 7=>.pointer (some ⟨N.2.1,0,none⟩)
 | 8=>.pointer (some ⟨N.2.2.1,0,none⟩)
 | 9=>.pointer (some ⟨yb,0,none⟩)
 | 10=>.pointer (some ⟨yb,0,none⟩)
 | 11=>.pointer (some ⟨yb,0,none⟩)
 | 12=>.pointer (some ⟨xb,0,none⟩)
 | 13=>.pointer (some ⟨N.2.2.2,0,none⟩)
 | 14=>.pointer (some ⟨N.2.2.1,0,none⟩)
 | 15=>.pointer (some ⟨N.1,0,none⟩)
 | _=>.pointer (some ⟨N.1,0,none⟩)
theorem qjl:zev jg [(3,2),(4,3),(6,5),(7,1),(7,4),(7,6),(10,9),(11,10),(13,7),(13,12),(14,8),(14,11),(14,13),(15,0),(15,7),(15,14),(16,0),(16,1),(16,2),(16,3),(16,4),(16,5),(16,6),(16,7),(16,8),(16,9),(16,10),(16,11),(16,12),(16,13),(16,14),(16,15)]=true:=by kernel_rfl
theorem zxr (id:Nat) (Q:Exit→Act→World→Prop) (base:Act) (W0:World) (xb yb:Nat) (x y P Z R:Int) (nx ny:Nat) (hs:23<base.tmps.size) (e1:base.eval (.tmp 1)=.pointer (some ⟨xb,0,none⟩)) (e2:base.eval (.tmp 2)=.pointer (some ⟨yb,0,none⟩))
  (hx:pz W0 xb) (hx0:x=0) (hnx1:(nx:Int)=1) (hy:qd W0 yb y (ny:Int)) (hny:0<ny) (hxl:(wd 4294967296 x.natAbs).length<8388608) (hyl:(wd 4294967296 y.natAbs).length<8388608) (hnxl:(wd 4294967296 nx).length<8388608) (hnyl:(wd 4294967296 ny).length<8388608) (hP:x*(ny:Int)=P) (hZ:y*(nx:Int)=Z) (hR:R=P+Z) (hPl:(wd 4294967296 P.natAbs).length<8388608) (hZl:(wd 4294967296 Z.natAbs).length<8388608) (hRl:(wd 4294967296 R.natAbs).length<8388608)
  (hQ:∀ w b0 b1 b8 bd,But [] W0 w→W0.heap.size≤b0→ze w b0 0 R→Q .normal (bj base [(8,.pointer (some ⟨b0,0,none⟩)),(9,.pointer (some ⟨b1,0,none⟩)),(10,.pointer (some ⟨xb,0,none⟩)),(11,.pointer (some ⟨xb,0,none⟩)),(12,.pointer (some ⟨xb,0,none⟩)),(13,.pointer (some ⟨yb,0,none⟩)),(14,.pointer (some ⟨yb,2,none⟩)),(15,.pointer (some ⟨b1,0,none⟩)),(16,.pointer (some ⟨b8,0,none⟩)),(17,.pointer (some ⟨yb,0,none⟩)),(18,.pointer (some ⟨yb,0,none⟩)),(19,.pointer (some ⟨yb,0,none⟩)),(20,.pointer (some ⟨xb,0,none⟩)),(21,.pointer (some ⟨bd,0,none⟩)),(22,.pointer (some ⟨b8,0,none⟩)),(23,.pointer (some ⟨b0,0,none⟩)),(7,.pointer (some ⟨b0,0,none⟩))]) w) :
  (Code.region id jg true).wp prog Q base W0:=by(
have hdr:∀ {w},But [] W0.drew w→But [] W0 w:=fun h=>(But.refl _ _).drew.trans' h
have hT:∀ i,i<17→zfc i<base.tmps.size:=fun i hi=>by
 have h:zfc i≤23:=by revert i;decide
 omega
have lx:=hx.lt
have ly:=hy.lt
refine zhz (by kernel_rfl) (zco (by kernel_rfl)) (zmb (by kernel_rfl)) (α:=Nat × Nat × Nat × Nat) (fun N d w=>gm W0.drew P Z R N.1 N.2.1 N.2.2.1 (d 0) (d 1) (d 8) (d 7) (d 14) (d 15) (d 16) w∧(d 13=true→d 14=false→ze w N.2.2.2 0 (nx:Int)∧(d 8=true→N.2.2.2≠N.2.2.1))) (qmf xb yb) zfc 17 (by kernel_rfl) zqk hT (0,0,0,0) ?_ ?_ ?_
·exact⟨⟨But.refl _ _,by simp,by simp,by simp,by simp,by simp,by simp,by simp,by simp,by simp,by simp⟩,fun h=>by simp at h⟩
·(
rintro ⟨b0,b1,b8,bd⟩ d i o a w K hi ho hdi hCl hH he hdep hk
have hH':gm W0.drew P Z R b0 b1 b8 (d 0) (d 1) (d 8) (d 7) (d 14) (d 15) (d 16) w:=hH.1
have hX:d 13=true→d 14=false→ze w bd 0 (nx:Int)∧(d 8=true→bd≠b8):=hH.2
have hD:=zrt (ps:=[(3,2),(4,3),(6,5),(7,1),(7,4),(7,6),(10,9),(11,10),(13,7),(13,12),(14,8),(14,11),(14,13),(15,0),(15,7),(15,14),(16,0),(16,1),(16,2),(16,3),(16,4),(16,5),(16,6),(16,7),(16,8),(16,9),(16,10),(16,11),(16,12),(16,13),(16,14),(16,15)]) (by kernel_rfl) ho (fun j=>d j=true∧a.eval (.tmp (zfc j))=qmf xb yb (b0,b1,b8,bd) j) hdep
have e1':=(he 1 (fun j hj e=>absurd e.symm (by revert j;decide))).trans e1
have e2':=(he 2 (fun j hj e=>absurd e.symm (by revert j;decide))).trans e2
have hB:=hdr hH'.but
have hlw:=hB.size
have:i=0∨i=1∨i=2∨i=3∨i=4∨i=5∨i=6∨i=7∨i=8∨i=9∨i=10∨i=11∨i=12∨i=13∨i=14∨i=15∨i=16:=by omega
rcases this with rfl|rfl|rfl|rfl|rfl|rfl|rfl|rfl|rfl|rfl|rfl|rfl|rfl|rfl|rfl|rfl|rfl
·(
obtain rfl:=so (show jg[0]? =some qhr from rfl) ho
rw[hdi] at hH'
refine zu (zaq a w _ _ _ _) (hk (w.heap.size,b1,b8,bd) _ _ rfl (fun j hj hdj=>?_) ⟨hH'.qhg _,fun h1 h2=>⟨(hX h1 h2).1.but ((But.refl _ _).alloc _),(hX h1 h2).2⟩⟩)
have:j=0∨j=1∨j=2∨j=3∨j=4∨j=5∨j=6∨j=7∨j=8∨j=9∨j=10∨j=11∨j=12∨j=13∨j=14∨j=15∨j=16:=by omega
rcases this with rfl|rfl|rfl|rfl|rfl|rfl|rfl|rfl|rfl|rfl|rfl|rfl|rfl|rfl|rfl|rfl|rfl
all_goals first
 | rfl
 | (rw[hdi] at hdj;simp at hdj)
 | (exfalso;first | (have:=(hH'.hr hdj).1;simp at this) | (have:=(hH'.hr (hH'.hz hdj)).1;simp at this)))
·(
obtain rfl:=so (show jg[1]? =some qhq from rfl) ho
rw[hdi] at hH'
refine zu (zaq a w _ _ _ _) (hk (b0,w.heap.size,b8,bd) _ _ rfl (fun j hj hdj=>?_) ⟨hH'.qhf _,fun h1 h2=>⟨(hX h1 h2).1.but ((But.refl _ _).alloc _),(hX h1 h2).2⟩⟩)
have:j=0∨j=1∨j=2∨j=3∨j=4∨j=5∨j=6∨j=7∨j=8∨j=9∨j=10∨j=11∨j=12∨j=13∨j=14∨j=15∨j=16:=by omega
rcases this with rfl|rfl|rfl|rfl|rfl|rfl|rfl|rfl|rfl|rfl|rfl|rfl|rfl|rfl|rfl|rfl|rfl
all_goals first
 | rfl
 | (rw[hdi] at hdj;simp at hdj)
 | (exfalso;have:=(hH'.hp hdj).1;simp at this))
·obtain rfl:=so (show jg[2]? =some qhp from rfl) ho
 exact zu (si a w _ _ _ _ _ _ e1') (hk (b0,b1,b8,bd) _ _ rfl (fun _ _ _=>rfl) hH)
·obtain rfl:=so (show jg[3]? =some qho from rfl) ho
 exact zu (zhw a w _ _ _ _ _ _ 0 (hD 2 (by simp)).2) (hk (b0,b1,b8,bd) _ _ rfl (fun _ _ _=>rfl) hH)
·obtain rfl:=so (show jg[4]? =some qhn from rfl) ho
 exact zu (zem a w _ _ _ _ _ _ (hD 3 (by simp)).2 (by omega)) (hk (b0,b1,b8,bd) _ _ rfl (fun _ _ _=>rfl) hH)
·obtain rfl:=so (show jg[5]? =some qhm from rfl) ho
 exact zu (si a w _ _ _ _ _ _ e2') (hk (b0,b1,b8,bd) _ _ rfl (fun _ _ _=>rfl) hH)
·obtain rfl:=so (show jg[6]? =some qhl from rfl) ho
 refine vw (zdd a w _ _ _ _ _ _ (hD 5 (by simp)).2) (R:=fun w' v=>v=.pointer (some ⟨yb,2,none⟩)∧w'=w) ((pq yb y ny w (hy.but hB) hny).mono (fun e w' h=>⟨_,h.1,rfl,h.2⟩)) ?_
 rintro v w' ⟨rfl,rfl⟩
 exact hk (b0,b1,b8,bd) _ _ rfl (fun _ _ _=>rfl) hH
·(
obtain rfl:=so (show jg[7]? =some qhk from rfl) ho
have hs1:=hH'.s1 (hD 1 (by simp)).1
rw[hdi] at hs1
refine vw (zbs a w _ _ _ _ _ _ _ _ _ _ (hD 1 (by simp)).2 (hD 4 (by simp)).2 (hD 6 (by simp)).2) (R:=fun w' v=>v=.pointer (some ⟨b1,0,none⟩)∧But [] W0.drew w'∧ze w' b1 0 P∧(∀ B,B≠b1→Slot w B 0→Slot w' B 0)∧(∀ b o z',b≠b1→ze w b o z'→ze w' b o z')∧w.heap.size≤w'.heap.size) ((di b1 xb 0 yb 2 x (ny:Int) P hP W0.drew w (hs1.2.2 rfl) hH'.but hs1.1 (by rw[hx0];exact hx.1) hy.drew.low hxl (by rw[Int.natAbs_natCast];exact hnyl) hPl).mono (fun e w' h=>⟨_,h.1,rfl,h.2⟩)) ?_
rintro v w' ⟨rfl,k1,k2,k3,k4,k5⟩
rw[hdi,(hD 1 (by simp)).1] at hH'
refine hk (b0,b1,b8,bd) _ _ rfl (fun _ _ _=>rfl) ⟨?_,fun h1=>absurd ((hCl.not qjl (i:=13) (j:=7) (by simp) hdi).symm.trans h1) (by simp)⟩
show gm W0.drew P Z R b0 b1 b8 (d 0) (d 1) (d 8) true (d 14) (d 15) (d 16) w'
rw[(hD 1 (by simp)).1]
exact hH'.qnk k1 k2 k3 k4 k5)
·(
obtain rfl:=so (show jg[8]? =some qhj from rfl) ho
rw[hdi] at hH'
refine zu (zaq a w _ _ _ _) (hk (b0,b1,w.heap.size,bd) _ _ rfl (fun j hj hdj=>?_) ⟨hH'.qhe _,fun h1 h2=>⟨(hX h1 h2).1.but ((But.refl _ _).alloc _),fun _=>Nat.ne_of_lt (hX h1 h2).1.lt⟩⟩)
have:j=0∨j=1∨j=2∨j=3∨j=4∨j=5∨j=6∨j=7∨j=8∨j=9∨j=10∨j=11∨j=12∨j=13∨j=14∨j=15∨j=16:=by omega
rcases this with rfl|rfl|rfl|rfl|rfl|rfl|rfl|rfl|rfl|rfl|rfl|rfl|rfl|rfl|rfl|rfl|rfl
all_goals first
 | rfl
 | (rw[hdi] at hdj;simp at hdj)
 | (exfalso;have:=(hH'.hq hdj).1;simp at this))
·obtain rfl:=so (show jg[9]? =some qhi from rfl) ho
 exact zu (si a w _ _ _ _ _ _ e2') (hk (b0,b1,b8,bd) _ _ rfl (fun _ _ _=>rfl) hH)
·obtain rfl:=so (show jg[10]? =some zxq from rfl) ho
 exact zu (zhw a w _ _ _ _ _ _ 0 (hD 9 (by simp)).2) (hk (b0,b1,b8,bd) _ _ rfl (fun _ _ _=>rfl) hH)
·obtain rfl:=so (show jg[11]? =some zxp from rfl) ho
 exact zu (zem a w _ _ _ _ _ _ (hD 10 (by simp)).2 (by omega)) (hk (b0,b1,b8,bd) _ _ rfl (fun _ _ _=>rfl) hH)
·obtain rfl:=so (show jg[12]? =some zxo from rfl) ho
 exact zu (si a w _ _ _ _ _ _ e1') (hk (b0,b1,b8,bd) _ _ rfl (fun _ _ _=>rfl) hH)
·(
obtain rfl:=so (show jg[13]? =some zxn from rfl) ho
refine vw (zdd a w _ _ _ _ _ _ (hD 12 (by simp)).2) (R:=fun w' v=>∃ q,v=.pointer (some ⟨q,0,none⟩)∧w.heap.size≤q∧But [] w w'∧ze w' q 0 1) ((zqe xb w (hx.but hB)).mono (fun e w' ⟨q,h1,h2,h3,h4⟩=>⟨_,h1,q,rfl,h2,h3,h4⟩)) ?_
rintro v w' ⟨q,rfl,hq,hb,hI⟩
refine hk (b0,b1,b8,q) _ _ rfl (fun j hj hdj=>?_) ⟨hH'.stay hb,fun _ _=>⟨by rw[hnx1];exact hI,fun h8=>Ne.symm (Nat.ne_of_lt (Nat.lt_of_lt_of_le (hH'.s8 h8).2.1 hq))⟩⟩
have:j=0∨j=1∨j=2∨j=3∨j=4∨j=5∨j=6∨j=7∨j=8∨j=9∨j=10∨j=11∨j=12∨j=13∨j=14∨j=15∨j=16:=by omega
rcases this with rfl|rfl|rfl|rfl|rfl|rfl|rfl|rfl|rfl|rfl|rfl|rfl|rfl|rfl|rfl|rfl|rfl
all_goals first
 | rfl
 | (rw[hdi] at hdj;simp at hdj))
·(
obtain rfl:=so (show jg[14]? =some zxm from rfl) ho
have hs1:=hH'.s8 (hD 8 (by simp)).1
rw[hdi] at hs1
refine vw (zbs a w _ _ _ _ _ _ _ _ _ _ (hD 8 (by simp)).2 (hD 11 (by simp)).2 (hD 13 (by simp)).2) (R:=fun w' v=>v=.pointer (some ⟨b8,0,none⟩)∧But [] W0.drew w'∧ze w' b8 0 Z∧(∀ B,B≠b8→Slot w B 0→Slot w' B 0)∧(∀ b o z',b≠b8→ze w b o z'→ze w' b o z')∧w.heap.size≤w'.heap.size) ((zld b8 yb 0 bd 0 y (nx:Int) Z hZ W0.drew w (hs1.2.2 rfl) hH'.but hs1.1 ((ze.drew hy.up).but hH'.but) (hX (hD 13 (by simp)).1 hdi).1 (Ne.symm (Nat.ne_of_lt (Nat.lt_of_lt_of_le ly hs1.1))) (Ne.symm ((hX (hD 13 (by simp)).1 hdi).2 (hD 8 (by simp)).1)) hyl (by rw[Int.natAbs_natCast];exact hnxl) hZl).mono (fun e w' h=>⟨_,h.1,rfl,h.2⟩)) ?_
rintro v w' ⟨rfl,k1,k2,k3,k4,k5⟩
rw[hdi,(hD 8 (by simp)).1] at hH'
refine hk (b0,b1,b8,bd) _ _ rfl (fun _ _ _=>rfl) ⟨?_,fun _ h2=>absurd h2 (by rw[oq];simp)⟩
show gm W0.drew P Z R b0 b1 b8 (d 0) (d 1) (d 8) (d 7) true (d 15) (d 16) w'
rw[(hD 8 (by simp)).1]
exact hH'.qnj k1 k2 k3 k4 k5)
·(
obtain rfl:=so (show jg[15]? =some zxl from rfl) ho
have d0:=(hD 0 (by simp)).1
have hs1:=hH'.s0 d0
rw[hdi] at hs1
have hp7:=hH'.hp (hD 7 (by simp)).1
have hq14:=hH'.hq (hD 14 (by simp)).1
refine vw (zhx a w _ _ _ _ _ _ _ _ _ _ (hD 0 (by simp)).2 (hD 7 (by simp)).2 (hD 14 (by simp)).2) (R:=fun w' v=>v=.pointer (some ⟨b0,0,none⟩)∧But [] W0.drew w'∧ze w' b0 0 R∧(∀ B,B≠b0→Slot w B 0→Slot w' B 0)∧(∀ b o z',b≠b0→ze w b o z'→ze w' b o z')∧w.heap.size≤w'.heap.size) ((zle b0 0 b1 0 b8 0 P Z R w (hs1.2.2 rfl) (hH'.n01 d0 hp7.1) (hH'.n08 d0 hq14.1) hp7.2 hq14.2 hPl hZl (by omega) hR).mono (fun e w' h=>by
 obtain⟨h1,w1,v,h2,h3,rfl⟩:=h
 exact⟨_,h1,rfl,znp (hs1.2.2 rfl) hH'.but hs1.1 h2 h3⟩)) ?_
rintro v w' ⟨rfl,k1,k2,k3,k4,k5⟩
rw[hdi,d0] at hH'
refine hk (b0,b1,b8,bd) _ _ rfl (fun _ _ _=>rfl) ⟨?_,fun _ h2=>absurd ((hD 14 (by simp)).1.symm.trans h2) (by simp)⟩
show gm W0.drew P Z R b0 b1 b8 (d 0) (d 1) (d 8) (d 7) (d 14) true (d 16) w'
rw[d0]
exact hH'.zdr k1 k2 k3 k4 k5)
·(
obtain rfl:=so (show jg[16]? =some zxk from rfl) ho
have d15:=(hD 15 (by simp)).1
rw[d15] at hH'
refine zu (zsx a w _ _ _ _ _ _ (hD 15 (by simp)).2) (hk (b0,b1,b8,bd) _ _ rfl (fun _ _ _=>rfl) ⟨?_,fun _ h2=>absurd ((hD 14 (by simp)).1.symm.trans h2) (by simp)⟩)
show gm W0.drew P Z R b0 b1 b8 (d 0) (d 1) (d 8) (d 7) (d 14) (d 15) true w
rw[d15]
exact hH'.done))
·rintro ⟨b0,b1,b8,bd⟩ d w hd hH
 have hH':gm W0.drew P Z R b0 b1 b8 (d 0) (d 1) (d 8) (d 7) (d 14) (d 15) (d 16) w:=hH.1
 exact hQ w b0 b1 b8 bd (hdr hH'.but) (hH'.s0 (hd 0 (by omega))).1 (hH'.hr (hd 15 (by omega))).2)
theorem ztf (zb xb yb:Nat) (x y:Int) (nx ny:Nat) (w:World) (hz0:Slot w zb 0) (hz2:Slot w zb 2) (hx:pz w xb) (hx0:x=0) (hnx1:(nx:Int)=1) (hy:qd w yb y (ny:Int)) (hny:0<ny) (hxl:(wd 4294967296 x.natAbs).length<8388608) (hyl:(wd 4294967296 y.natAbs).length<8388608) (hnxl:(wd 4294967296 nx).length<8388608) (hnyl:(wd 4294967296 ny).length<8388608) (P Z R D:Int) (hP:x*(ny:Int)=P) (hZ:y*(nx:Int)=Z) (hR:R=P+Z) (hD:(nx:Int)*(ny:Int)=D) (hPl:(wd 4294967296 P.natAbs).length<8388608) (hZl:(wd 4294967296 Z.natAbs).length<8388608) (hRl:(wd 4294967296 R.natAbs).length<8388608) (hDl:(wd 4294967296 D.natAbs).length<8388608) (hD0:D≠0) (A B:Int) (eA:Hid (A=zfe (if D<0 then -R else R) D.natAbs)) (eB:Hid (B=zff R D.natAbs)) :
  Calls prog 134 #[.pointer (some ⟨zb,0,none⟩),.pointer (some ⟨xb,0,none⟩),.pointer (some ⟨yb,0,none⟩)] w fun e w'=>e=.returned (.pointer (some ⟨zb,0,none⟩))∧But [zb] w w'∧qd w' zb A B:=by(
have HX:=af hx
have HY:=af hy
have HZ0:=af hz0
have HZ2:=af hz2
have REG:=af (fun (Q:Exit→Act→World→Prop) (base:Act) (hs:23<base.tmps.size) (e1:base.eval (.tmp 1)=.pointer (some ⟨xb,0,none⟩)) (e2:base.eval (.tmp 2)=.pointer (some ⟨yb,0,none⟩))=>zxr 1 Q base w xb yb x y P Z R nx ny hs e1 e2 hx hx0 hnx1 hy hny hxl hyl hnxl hnyl hP hZ hR hPl hZl hRl)
have DX:=af (fun W (h:pz W xb)=>zqe xb W h)
have DY:=af (fun W (h:qd W yb y (ny:Int))=>pq yb y ny W h hny)
have MU:=af (fun (A q:Nat) (w P:World) (hs:Slot P A 0) (hw:But [] w P) (hA:w.heap.size≤A) (hx:ze P q 0 1) (hy:qd P yb y (ny:Int)) (n1:A≠q) (n2:A≠yb)=>zld A q 0 yb 2 (nx:Int) (ny:Int) D hD w P hs hw hA (by rw[hnx1];exact hx) hy.low n1 n2 (by rw[Int.natAbs_natCast];exact hnxl) (by rw[Int.natAbs_natCast];exact hnyl) hDl)
have SF:=af (fun (b0 b1:Nat) (W:World) (h0:Slot W zb 0) (h2:Slot W zb 2) (ha:ze W b0 0 R) (hb:ze W b1 0 D)=>zaa zb b0 0 b1 0 R D W h0 h2 ha hb hRl hDl hD0 A B eA eB)
clear hx hy hz0 hz2 hny hx0 hnx1 hxl hyl hnxl hnyl hP hZ hR hD hPl hZl hRl hDl hD0 eA eB
go_enter func134,ntmps134
go_wp2_with fail
refine ae REG _ _ (by simp) (by simp[Act.eval]) (by simp[Act.eval]) ?_
intro w1 b0 b1 b8 bd hb1 hb0 hI
simp only[bj,List.foldl_cons,List.foldl_nil,Act.put,List.setIfInBounds_toArray,List.set_cons_zero,List.set_cons_succ]
obtain⟨W0,hW0⟩:∃ W0,W0=w1.alloc (.cells #[.bool false,.slice none 0 0] 139):=⟨_,rfl⟩
have hs:=ku w1 139
rw[← hW0] at hs
have hbw:But [] w1 W0:=by rw[hW0];exact (But.refl _ _).alloc _
have hb2:=hb1.trans' hbw
have K0:=af (And.intro hs (And.intro hbw (And.intro hb1 (And.intro hb0 hI))))
have KX:=af ((ae HX).but hb2)
have KY:=af ((ae HY).but hb2)
have HW0:=af hW0
clear hW0 hs hbw hb1 hb0 hb2 hI
obtain⟨g,hg⟩:∃ g,g=w1.heap.size:=⟨_,rfl⟩
go_wp2_with fail
rw[← ae HW0,← hg]
rw[← hg] at K0
have HG:=af hg
clear hg
refine (ae DX _ (ae KX)).mono ?_
rintro e w2 ⟨q,rfl,hq,hbq,hIq⟩
have hlg:g<W0.heap.size:=(ae K0).1.lt
have KY2:=af ((ae KY).but hbq)
have KQ:=af (And.intro hIq (And.intro ((ae K0).1.but hbq (by simp)) (And.intro ((ae K0).2.1.trans' hbq) (Nat.ne_of_lt (Nat.lt_of_lt_of_le hlg hq)))))
clear hq hbq hIq hlg
go_wp2_with fail
refine (ae DY _ (ae KY2)).mono ?_
rintro e w3 ⟨rfl,hw⟩
obtain rfl:=hw.symm
clear hw
go_wp2_with fail
refine (ae MU g q w1 w2 (ae KQ).2.1 (ae KQ).2.2.1 (Nat.le_of_eq (ae HG).symm) (ae KQ).1 (ae KY2) (ae KQ).2.2.2 (by
 have h1:=(ae HY).lt
 have h2:=(ae K0).2.2.1.size
 have h3:=ae HG
 omega)).mono ?_
rintro e w4 ⟨rfl,k1,k2,k3,k4,k5⟩
have FIN:Hid (Slot w4 zb 0∧Slot w4 zb 2∧ze w4 b0 0 R∧ze w4 g 0 D∧But [] w w4):=by
 obtain⟨hs,hbw,hb1,hb0,hI⟩:=ae K0
 have hb3:=hb1.trans' k1
 exact⟨(ae HZ0).but hb3 (by simp),(ae HZ2).but hb3 (by simp),hI.but k1,k2,hb3⟩
clear k1 k2 k3 k4 k5 K0 KX KY KY2 KQ HW0 HG MU DX DY REG HX HY HZ0 HZ2
go_wp2_with fail
refine (ae SF b0 g _ (ae FIN).1 (ae FIN).2.1 (ae FIN).2.2.1 (ae FIN).2.2.2.1).mono ?_
rintro e w3 ⟨rfl,k1,k2⟩
have F3:=af (And.intro ((ae FIN).2.2.2.2.of_nil.trans k1 (fun x hx=>.inl hx)) k2)
clear k1 k2 FIN SF
go_wp2
go_ret
exact⟨rfl,(ae F3).1,(ae F3).2⟩)
theorem zrb (xb yb:Nat) (f g:Rat) (w:World) (hf0:f=0) (hx:pz w xb) (hy:zo w yb g) (lf:jc f 2000000) (lg:jc g 2000000) :
  Calls prog 58 #[.pointer (some ⟨xb,0,none⟩),.pointer (some ⟨yb,0,none⟩)] w fun e w'=>∃ zb,e=.returned (.pointer (some ⟨zb,0,none⟩))∧But [] w w'∧zo w' zb (f+g)∧w.heap.size≤zb:=by(
have hfd:0<f.den:=Nat.pos_of_ne_zero f.den_nz
have hgd:0<g.den:=Nat.pos_of_ne_zero g.den_nz
have hQ0:(f.den:Int)*(g.den:Int)≠0:=Int.mul_ne_zero (by omega) (by omega)
obtain⟨e1,e2⟩:=zia (f.num*(g.den:Int)+g.num*(f.den:Int)) ((f.den:Int)*(g.den:Int)) hQ0 (f+g) (zhk f g)
obtain⟨W0,hW0⟩:∃ W0,W0=w.alloc (.cells #[.bool false,.slice none 0 0,.bool false,.slice none 0 0] 141):=⟨_,rfl⟩
have hs:=zfo w 141
have hbw:But [] w W0:=by rw[hW0];exact (But.refl _ _).alloc _
rw[← hW0] at hs
obtain⟨lf1,lf2⟩:=lf
obtain⟨lg1,lg2⟩:=lg
have d1:(wd 4294967296 ((f.den:Nat):Int).natAbs).length≤2000000:=by rw[Int.natAbs_natCast];exact lf2
have d2:(wd 4294967296 ((g.den:Nat):Int).natAbs).length≤2000000:=by rw[Int.natAbs_natCast];exact lg2
have p1:=ji f.num (g.den:Int) _ _ lf1 d2
have p2:=ji g.num (f.den:Int) _ _ lg1 d1
have p3:=ji (f.den:Int) (g.den:Int) _ _ d1 d2
have p4:=zer _ _ _ p1 p2
have MU:=af (ztf w.heap.size xb yb f.num g.num f.den g.den W0 hs.1 hs.2 (hx.but hbw) (by rw[hf0];rfl) (by rw[hf0];rfl) (qd.but hy hbw) hgd (by omega) (by omega) (by omega) (by omega) _ _ _ _ rfl rfl rfl rfl (by omega) (by omega) (by omega) (by omega) hQ0 (f+g).num ((f+g).den:Int) e1 e2)
have HW0:=af hW0
have HBW:=af hbw
clear hW0 hbw hs e1 e2 hQ0 p1 p2 p3 p4 d1 d2 lf1 lf2 lg1 lg2 hx hy hfd hgd
go_enter func58,ntmps58
go_wp2_with fail
rw[← ae HW0]
refine (ae MU).mono ?_
rintro e w1 ⟨rfl,h1,h2⟩
have FIN:=af (And.intro ((ae HBW).trans h1 (by simp)) h2)
clear h1 h2 MU
go_wp2
go_ret
exact⟨w.heap.size,rfl,(ae FIN).1,(ae FIN).2,Nat.le_refl _⟩)
def zzi (w:World) (b:Nat) (f:Rat):Prop:=zo w b f∨(f=0∧pz w b)
theorem qiq (xb yb:Nat) (f g:Rat) (w:World) (hx:zzi w xb f) (hy:zo w yb g) (lf:jc f 2000000) (lg:jc g 2000000) :
  Calls prog 58 #[.pointer (some ⟨xb,0,none⟩),.pointer (some ⟨yb,0,none⟩)] w fun e w'=>∃ zb,e=.returned (.pointer (some ⟨zb,0,none⟩))∧zo w' zb (f+g)∧But [] w w':=by(
rcases hx with h|⟨h0,h⟩
·exact zrc xb yb f g w h hy lf lg
·exact (zrb xb yb f g w h0 h hy lf lg).mono fun e w' ⟨zb,he,hb,hr,_⟩=>⟨zb,he,hr,hb⟩)
theorem zyr {F:Nat→Rat} {c:Nat}:∀ n,(∀ i,i<n→jc (F i) c)→jc (sgR F n) (n*(c+1)+1)
 | 0,_=>by
  have:=jc.int (z:=0) (by decide)
  exact⟨by show (wd 4294967296 0).length≤_;rw[zi];simp,by show (wd 4294967296 1).length≤_;exact Nat.le_trans (aj (B:=4294967296) (by omega) 1 1 (by omega)) (by omega)⟩
 | n+1,h=>((zyr n (fun i hi=>h i (by omega))).add (h n (by omega))).mono (by rw[Nat.succ_mul];omega)
theorem zeh.one (w:World) (u:Value) (f:Rat) (h:zhc w u f):zeh (w.alloc (.cells #[u] 37)) w.heap.size (.slice (some ⟨w.heap.size,0,none⟩) 1 1) [f] [u]:=by(
obtain⟨g,rfl,hr⟩:=h
refine⟨World.ownsRow_lit w #[.pointer (some ⟨g,0,none⟩)] 1 (Nat.le_refl _) (by unfold maxLen;omega) rfl,rfl,fun i x hi=>?_,fun e=>by simp at e⟩
cases i with
| zero =>
 simp only[List.getElem?_cons_zero,Option.some.injEq] at hi
 subst hi
 exact⟨_,rfl,g,rfl,hr.but ((But.refl [] w).alloc _)⟩
| succ i=>simp at hi)
theorem qiy (v1 v2:Value) (fs:List Rat) (w:World) (h1:au w v1 fs) (h2:za w v2 fs) (lf:∀ f ∈ fs,Len f 1000000) (hn:fs.length≤1000) (htab:Lib.TabIs prog w "internal/strconv.uint64pow10" .u64 Lib.pow10Tab) :
  Calls prog 52 #[v1,.nilIface,v2,.int .i64 0] w fun e w'=>e=.returned (.bool true)∧But [] w w':=by(
have T1:=af (zna v1 fs w h1 lf hn htab)
have T2:=af (fun W (hb:But [] w W)=>zra v2 fs W (h2.but hb) lf hn)
have SM:=af (fun W a b (h1:zgf W a (fs.map zfh)) (h2:zgf W b (fs.map zfh))=>same_eq a b (fs.map zfh) W h1 h2 (by rw[List.length_map];exact hn))
clear h1 h2 lf htab
go_enter func52,ntmps52
go_wp2_with fail
refine (ae T1).mono ?_
rintro e w1 ⟨a,rfl,ha,hb1⟩
have A1:=af ha.qnf
have B1:=af hb1
clear ha hb1 T1
go_wp2_with fail
refine (ae T2 w1 (ae B1)).mono ?_
rintro e w2 ⟨b,rfl,hb,hb2⟩
have S2:=af (ae SM w2 a b ((ae A1).but hb2) hb.qnf)
have B2:=af ((ae B1).trans' hb2)
clear hb hb2 A1 B1 T2 SM
go_wp2_with fail
refine (ae S2).mono ?_
rintro e w3 ⟨rfl,hb3⟩
have B3:=af ((ae B2).trans' hb3)
clear hb3 B2 S2
go_wp2
go_ret
exact⟨rfl,ae B3⟩)
theorem qfu (n:Int) (a:Option Addr) (c:Nat) (b:Value) (w:World) (h0:(n != 0)=true) (hg:w.cell? ⟨0,0,none⟩=some (.iface 282 (.agg #[.pointer (some ⟨10,29,none⟩)]))) :
  Calls prog 52 #[.slice a 0 c,.iface 33 (.int .i64 n),b,.int .i64 n] w fun e w'=>e=.returned (.bool true)∧But [] w w':=by(
have TE:=af (zvo n w hg)
clear hg
go_enter func52,ntmps52
go_wp2_with fail
refine (ae TE).mono ?_
rintro e w1 ⟨rfl,hb⟩
have B1:=af hb
clear hb TE
go_wp2
go_ret
exact⟨rfl,ae B1⟩)
end Go.Proofs.YtpmjeclpkahkmaaGreatDoor
