/- Texts of fractions, of both kinds, are t -/
import Derived.Test.YtffghofheeleeaaGreatDoorKHG
import Derived.Test.YtffghofheeleeaaGreatDoorKRLaqS
namespace Go.Proofs.YtffghofheeleeaaGreatDoor
open Go.Proofs.Tryz
open Go.RowKit
set_option maxHeartbeats 8000000
set_option maxRecDepth 100000
theorem zpm {a b:ByteArray} (h:a.data.toList=b.data.toList):a=b:=by
 cases a;cases b;simp only[ByteArray.mk.injEq];exact Array.ext' h
theorem zct (a b:ByteArray):(a++b).data.toList=a.data.toList++b.data.toList:=by simp
theorem zpx (x:Rat):zcx (decide (x.num<0)) x.num.natAbs x.den=zij x.num x.den:=by
 apply zpm
 have e:zca x.num=(if decide (x.num<0) then [45] else [])++Lib.decDigits x.num.natAbs:=by
  rw[zca]
  by_cases h:x.num<0
  ·rw[if_pos h,decide_eq_true h];rfl
  ·rw[if_neg h,decide_eq_false h];rfl
 have e2:zca (x.den:Int)=Lib.decDigits x.den:=by rw[zca,if_neg (by omega),Int.natAbs_natCast]
 generalize decide (x.num<0)=r at *
 rw[zcx,zij,zct]
 by_cases hq:x.den=1
 ·rw[if_pos hq,if_pos hq,e]
  cases r <;> simp
 ·rw[if_neg hq,if_neg hq,zct,zct,zct,e,e2]
  cases r <;> simp
theorem zo {f:Rat} {n:Nat} (h:Len f n):zu f (2*n):=by
 have h1:=am (B:=18446744073709551616) (by omega) _ n h.1
 have h2:=am (B:=18446744073709551616) (by omega) _ n h.2
 have e:(18446744073709551616:Nat)^n=4294967296^(2*n):=by rw[Nat.pow_mul]
 rw[e] at h1 h2
 exact⟨aj (by omega) _ _ h1,aj (by omega) _ _ h2⟩
set_option linter.unusedVariables false
theorem rf (z:Int) (w:World) (h1:-9223372036854775808≤z) (h2:z<9223372036854775808) :
  Calls prog 16 #[.int .i64 z] w fun e w'=>∃ zb,e=.returned (.pointer (some ⟨zb,0,none⟩))∧za w' zb (((z:Int):Rat))∧But [] w w':=by
 obtain⟨i1,i2⟩:=bp z
 exact (zqr z w h1 h2).mono fun e w' ⟨zb,he,hb,hr⟩=>⟨zb,he,by unfold za;rw[i1,i2];exact hr,hb⟩
theorem zai (xb yb:Nat) (f g:Rat) (w:World) (hx:za w xb f) (hy:za w yb g) (lf:zu f 2000000) (lg:zu g 2000000) :
  Calls prog 51 #[.pointer (some ⟨xb,0,none⟩),.pointer (some ⟨yb,0,none⟩)] w fun e w'=>∃ zb,e=.returned (.pointer (some ⟨zb,0,none⟩))∧za w' zb (f+g)∧But [] w w' :=
 (zqs xb yb f g w hx hy lf lg).mono fun e w' ⟨zb,he,hb,hr,_⟩=>⟨zb,he,hr,hb⟩
theorem zfm (xb yb:Nat) (f g:Rat) (w:World) (hx:za w xb f) (hy:za w yb g) (lf:zu f 2000000) (lg:zu g 2000000) :
  Calls prog 47 #[.pointer (some ⟨xb,0,none⟩),.pointer (some ⟨yb,0,none⟩)] w fun e w'=>∃ zb,e=.returned (.pointer (some ⟨zb,0,none⟩))∧za w' zb (f-g)∧But [] w w' :=
 (zqp xb yb f g w hx hy lf lg).mono fun e w' ⟨zb,he,hb,hr,_⟩=>⟨zb,he,hr,hb⟩
theorem pz (xb yb:Nat) (f g:Rat) (w:World) (hx:za w xb f) (hy:za w yb g) (lf:zu f 2000000) (lg:zu g 2000000) :
  Calls prog 42 #[.pointer (some ⟨xb,0,none⟩),.pointer (some ⟨yb,0,none⟩)] w fun e w'=>∃ zb,e=.returned (.pointer (some ⟨zb,0,none⟩))∧za w' zb (f*g)∧But [] w w' :=
 (zqq xb yb f g w hx hy lf lg).mono fun e w' ⟨zb,he,hb,hr,_⟩=>⟨zb,he,hr,hb⟩
theorem zfn (xb yb:Nat) (f g q:Rat) (w:World) (hx:za w xb f) (hy:za w yb g) (lf:zu f 2000000) (lg:zu g 2000000) (hg0:g.num≠0) (hq:q*g=f) :
  Calls prog 59 #[.pointer (some ⟨xb,0,none⟩),.pointer (some ⟨yb,0,none⟩)] w fun e w'=>∃ zb,e=.returned (.pointer (some ⟨zb,0,none⟩))∧za w' zb (q)∧But [] w w' :=
 (zof xb yb f g q w hx hy lf lg hg0 hq).mono fun e w' ⟨zb,he,hb,hr,_⟩=>⟨zb,he,hr,hb⟩
theorem zih (b:Nat) (f:Rat) (w:World) (h:za w b f) (s:Int) (hs:s=f.num.sign) (hl:zu f 2000000) :
  Calls prog 50 #[.pointer (some ⟨b,0,none⟩)] w fun e w'=>e=.returned (.int .i64 s)∧But [] w w' :=
 (zdf b f.num (f.den:Int) w h s hs (by have:=hl.1;omega)).mono fun e w' ⟨he,hw⟩=>⟨he,by rw[hw];exact But.refl _ _⟩
theorem zu.int {z:Int} (h:z.natAbs<18446744073709551616):zu ((z:Int):Rat) 2:=by
 obtain⟨i1,i2⟩:=bp z
 exact⟨by rw[i1];exact jf _ h,by rw[i2];exact jf _ (by omega)⟩
theorem qnv:∃ i,prog.info? 9 = some i∧i.zero=some (.string ⟨#[]⟩)∧i.size=1∧i.bytes=16:=by
 have h:(prog.info? 9).map (fun i=>(i.zero,i.size,i.bytes))=some (some (.string ⟨#[]⟩),1,16):=by kernel_rfl
 cases e:prog.info? 9 with
 | none=>rw[e] at h;simp at h
 | some i =>
  rw[e] at h
  simp only[Option.map_some,Option.some.injEq,Prod.mk.injEq] at h
  exact⟨i,rfl,h.1,h.2.1,h.2.2⟩
def zhy (w:World) (base:Nat) (v:Value) (ts:List ByteArray):Prop:=w.ownsRow base 9 1 v ts.length (ts.map Value.string)
theorem zhy.nil (w:World) (base:Nat):zhy w base (.slice none 0 0) []:=World.ownsRow_nil _ _ _ _
theorem zhy.but {w w':World} {base:Nat} {v:Value} {ts:List ByteArray} (h:zhy w base v ts) (hb:But [] w w'):zhy w' base v ts:=mg h hb
theorem zhy.form {w:World} {base:Nat} {v:Value} {ts:List ByteArray} (h:zhy w base v ts):∃ a c,v=.slice a ts.length c:=ownsRow_form h
def vw (w:World) (v:Value) (ts:List ByteArray):Prop:=∃ a cap,v=.slice a ts.length cap∧∀ i x,ts[i]? = some x→∃ b off,a=some ⟨b,off,none⟩∧w.cell? ⟨b,off+i,none⟩=some (.string x)
theorem vw.but {w w':World} {v:Value} {ts:List ByteArray} (h:vw w v ts) (hb:But [] w w'):vw w' v ts:=by
 obtain⟨a,cap,e,h⟩:=h
 refine⟨a,cap,e,fun i x hx=>?_⟩
 obtain⟨b,off,e1,h1⟩:=h i x hx
 exact⟨b,off,e1,hb.ag h1 (by simp)⟩
theorem zhy.qjk {w:World} {base:Nat} {v:Value} {ts:List ByteArray} (h:zhy w base v ts):vw w v ts:=by
 rcases h.2 with ⟨rfl,h0⟩|⟨g,cap,cur,rfl,h1,h2,h3,-⟩
 ·have:ts=[]:=List.length_eq_zero_iff.1 h0
  subst this
  exact⟨none,0,rfl,fun i x hx=>by simp at hx⟩
 ·refine⟨_,cap,rfl,fun i x hx=>⟨g,0,rfl,?_⟩⟩
  have hc:=h.cells (g:=g) rfl i (.string x) (by rw[List.getElem?_map,hx];rfl)
  have e:(⟨g,0,none⟩:Addr).add i=⟨g,0+i,none⟩:=by
   by_cases hz:i=0
   ·simp[Addr.add,hz]
   ·simp[Addr.add,hz]
  rw[e] at hc
  exact hc
theorem zsq (w:World) (base:Nat) (v:Value) (ts:List ByteArray) (hown:zhy w base v ts) (g:Nat) (x:ByteArray) (c:w.cell? ⟨g,0,none⟩=some (.string x)) (hk:ts.length<1000000) (hb:base≤w.heap.size) :
  ∃ v' w',(Builtin.append_ #[76,76] 76 #[v,.slice (some ⟨g,0,none⟩) 1 1]).run prog w=.ok v' w'∧zhy w' base v' (ts++[x])∧w.grownBy w' v.ownBlock:=by
 obtain⟨i0,hi,hz0,hz1,hz2⟩:=qnv
 obtain⟨v',w',hr,ho,hg,-⟩:=run_append_own (P:=prog) w base 76 76 9 i0 _ 1 16 underlying76 hi hz0 hz1 hz2 rfl (by decide) v ts.length (ts.map Value.string) hown ⟨g,0,none⟩ 1 1 [.string x] rfl (fun j u hj=>by
   cases j with
   | zero=>simp at hj;subst hj;exact c
   | succ j=>simp at hj) (fun u hu=>by
   simp only[List.mem_cons,List.not_mem_nil,or_false] at hu
   subst hu
   rfl) (by unfold maxLen;omega) (by omega) hb
 refine⟨v',w',hr,?_,hg⟩
 unfold zhy at *
 rw[List.length_append,List.map_append]
 exact ho
def zan (f:Rat):ByteArray:=zcx (decide (f.num<0)) f.num.natAbs f.den
theorem zmz {α:Type} {F:Nat→α} {l:List α} (h:∀ i x,l[i]? = some x→F i=x):(List.range l.length).map F=l:=by
 apply List.ext_getElem?
 intro i
 rw[List.getElem?_map]
 by_cases hi:i<l.length
 ·rw[List.getElem?_range hi,List.getElem?_eq_getElem hi]
  exact congrArg some (h i _ (List.getElem?_eq_getElem hi))
 ·rw[List.getElem?_eq_none (by simpa using hi),List.getElem?_eq_none (by simpa using hi)]
  rfl
theorem zqy (q:Int × Int) (h:Fits q):(qf q).num*(if q.2=0 then 1 else q.2)=q.1*((qf q).den:Int):=by
 obtain⟨f,r,x,y,-,hf,-⟩:=zet q.1 q.2 h.1 h.2.1 h.2.2.1 h.2.2.2
 rw[← zzd f q hf]
 exact hf
theorem zyt (v:Value) (qs:List (Int × Int)) (w:World) (hq:zee w v qs) (hf:∀ q ∈ qs,Fits q) (hn:qs.length≤1000) :
  Calls prog 70 #[v] w fun e w'=>∃ v' us,e=.returned v'∧zae w' w.heap.size v' (qs.map qf) us∧But [] w w':=by
 obtain⟨a,cap,rfl,hcap,hc⟩:=hq
 obtain⟨F,hF⟩:∃ F:Nat→Rat,F=fun i=>qf (qs[i]?.getD (0,0)):=⟨_,rfl⟩
 have hL:(List.range qs.length).map F=qs.map qf:=by
  have:=zmz (F:=F) (l:=qs.map qf) (fun i x hx=>by
   rw[List.getElem?_map] at hx
   cases h:qs[i]? with
   | none=>rw[h] at hx;simp at hx
   | some q=>rw[h] at hx;rw[hF];simp only[h,Option.getD_some];simpa using hx)
  rwa [List.length_map] at this
 have hcell:∀ i,i<qs.length→∃ b off,a=some ⟨b,off,none⟩∧w.cell? ⟨b,off+i*2,none⟩=some (.int .i64 (qs[i]?.getD (0,0)).1)∧w.cell? ⟨b,off+i*2+1,none⟩=some (.int .i64 (qs[i]?.getD (0,0)).2):=fun i hi=>by
  rw[List.getElem?_eq_getElem hi]
  exact hc i _ (List.getElem?_eq_getElem hi)
 have hOF:∀ i,i<qs.length→∀ W,Calls prog 12 #[.agg #[.int .i64 (qs[i]?.getD (0,0)).1,.int .i64 (qs[i]?.getD (0,0)).2]] W fun e w'=>∃ zb,e=.returned (.pointer (some ⟨zb,0,none⟩))∧za w' zb (F i)∧But [] W w':=fun i hi W=>by
  have eF:F i=qf qs[i]:=by rw[hF];show qf (qs[i]?.getD (0,0))=_;rw[List.getElem?_eq_getElem hi];rfl
  rw[eF,List.getElem?_eq_getElem hi]
  have hq:=hf qs[i] (List.getElem_mem hi)
  exact (zuj _ _ (qf qs[i]) W hq.1 hq.2.1 hq.2.2.1 hq.2.2.2 (zqy _ hq)).mono fun e w' ⟨zb,he,hb,hr,_⟩=>⟨zb,he,hr,hb⟩
 have HC:=af hcell
 have HV:=af hOF
 rw[← hL]
 obtain⟨n,hnn⟩:∃ n,n=qs.length:=⟨_,rfl⟩
 rw[← hnn] at hn hcap HC HV
 rw[← hnn]
 clear hcell hOF hc hf hF hL hnn
 go_enter func70,ntmps70
 go_wp2
 go_loopw [3,8] (fun o i wr=>∃ (k:Nat) (us:List Value),k≤n∧i=.int .i64 (k:Int)∧Hid (zae wr w.heap.size o ((List.range k).map F) us∧But [] w wr)) (fun _ i _=>n-(intOf i).toNat)
 case atStart=>exact⟨0,[],Nat.zero_le _,rfl,zae.empty _ _,But.refl _ _⟩
 case round =>
  obtain⟨k,us,hk,rfl,HI⟩:=hrel
  rename World=>wr
  by_cases hlt:k<n
  ·obtain⟨b,off,rfl,c0,c1⟩:=ae HC k hlt
   have c0':=(ae HI).2.ag c0 (by simp)
   have c1':=(ae HI).2.ag c1 (by simp)
   have PF:=af (ae HV k hlt)
   clear c0 c1
   generalize (qs[k]?.getD (0,0)).1=q1 at *
   generalize (qs[k]?.getD (0,0)).2=q2 at *
   have ba:=(But.refl [] wr).alloc (.cells #[.int .i64 q1,.int .i64 q2] 23)
   have BA:=af ba
   clear ba
   go_wp2_with fail
   refine (ae PF _).mono ?_
   rintro e w1 ⟨zb,rfl,hz,hb1⟩
   obtain⟨V,hV⟩:∃ V,V=w1.alloc (.cells #[.pointer (some ⟨zb,0,none⟩)] 37):=⟨_,rfl⟩
   have bV1:But [] w1 V:=by rw[hV];exact (But.refl _ _).alloc _
   have cc:V.cell? ⟨w1.heap.size,0,none⟩=some (.pointer (some ⟨zb,0,none⟩)):=by rw[hV];simp
   have bV:But [] wr V:=((ae BA).trans' hb1).trans' bV1
   have oV:=(ae HI).1.but bV
   have bwV:=(ae HI).2.trans' bV
   obtain⟨v',w',hr,ho,hB,-⟩:=zhi V w u3 _ us w.heap.size oV w1.heap.size _ (F k) cc ⟨zb,rfl,hz.but bV1⟩ (by simp;omega) bwV (Nat.le_refl _) bwV.size
   have BF:Hid (But [] w w'):=hB
   have HO:=af ho
   rw[hV] at hr
   have HR:=af hr
   clear hr ho hB oV bV bwV cc hV bV1 hz hb1
   go_wp2_with (at_builtin;refine qw rfl _ _ 69 69 rfl _ _ v' w' rfl rfl (ae HR) ?_)
   refine⟨⟨k+1,_,by omega,by go_num,by rw[List.range_succ,List.map_append];exact ae HO,ae BF⟩,by simp[intOf];omega⟩
  ·obtain rfl:k=n:=by omega
   obtain⟨a',c',e'⟩:=(ae HI).1.form
   subst e'
   go_wp2
   go_ret
   exact⟨_,us,rfl,(ae HI).1,(ae HI).2⟩
theorem zlf (v:Value) (fs:List Rat) (w:World) (hq:jr w v fs) (lf:∀ f ∈ fs,Len f 1000000) (hn:fs.length≤1000) :
  Calls prog 27 #[v] w fun e w'=>∃ v',e=.returned v'∧zhy w' w.heap.size v' (fs.map zan)∧But [] w w':=by
 obtain⟨F,hF⟩:∃ F:Nat→ByteArray,F=fun i=>zan (fs[i]?.getD 0):=⟨_,rfl⟩
 have hL:(List.range fs.length).map F=fs.map zan:=by
  have:=zmz (F:=F) (l:=fs.map zan) (fun i x hx=>by
   rw[List.getElem?_map] at hx
   cases h:fs[i]? with
   | none=>rw[h] at hx;simp at hx
   | some q=>rw[h] at hx;rw[hF];simp only[h,Option.getD_some];simpa using hx)
  rwa [List.length_map] at this
 have hOF:∀ W,But [] w W→∀ i,i<fs.length→∃ b off g,(∃ a c,v=.slice a fs.length c∧a=some ⟨b,off,none⟩)∧W.cell? ⟨b,off+i,none⟩=some (.pointer (some ⟨g,0,none⟩))∧Calls prog 10 #[.pointer (some ⟨g,0,none⟩)] W fun e w'=>e=.returned (.string (F i))∧But [] W w':=fun W hb i hi=>by
  obtain⟨a,cap,e,-⟩:=hq.open
  have h0:=hq.but hb
  rw[e] at h0
  obtain⟨-,b,off,g,f,h1,h2,h3,h4⟩:=h0.at i hi
  refine⟨b,off,g,⟨a,cap,e,h1⟩,h2,?_⟩
  have eF:F i=zan f:=by rw[hF];show zan (fs[i]?.getD 0)=_;rw[h3];rfl
  rw[eF]
  have hm:f ∈ fs:=List.mem_of_getElem? h3
  exact zoe g f W h4 ((zo (lf f hm)).mono (by omega)) (zan f) (zpx f)
 obtain⟨a,cap,rfl,hcap⟩:=hq.open
 have HV:=af hOF
 rw[← hL]
 obtain⟨n,hnn⟩:∃ n,n=fs.length:=⟨_,rfl⟩
 rw[← hnn] at hn hcap HV
 rw[← hnn]
 clear hOF hF hL hq lf hnn
 go_enter func27,ntmps27
 go_wp2
 go_loopw [3,8] (fun o i wr=>∃ (k:Nat),k≤n∧i=.int .i64 (k:Int)∧Hid (zhy wr w.heap.size o ((List.range k).map F)∧But [] w wr)) (fun _ i _=>n-(intOf i).toNat)
 case atStart=>exact⟨0,Nat.zero_le _,rfl,zhy.nil _ _,But.refl _ _⟩
 case round =>
  obtain⟨k,hk,rfl,HI⟩:=hrel
  rename World=>wr
  by_cases hlt:k<n
  ·obtain⟨b,off,g,⟨a',c',e',ea⟩,c0,hT⟩:=ae HV wr (ae HI).2 k hlt
   simp only[Value.slice.injEq] at e'
   obtain⟨rfl,-,-⟩:=e'
   subst ea
   obtain⟨t,ht⟩:∃ t,t=F k:=⟨_,rfl⟩
   rw[← ht] at hT
   have PF:=af hT
   have HT:=af ht
   clear hT ht
   go_wp2_with fail
   refine (ae PF).mono ?_
   rintro e w1 ⟨rfl,hb1⟩
   obtain⟨V,hV⟩:∃ V,V=w1.alloc (.cells #[.string t] 9):=⟨_,rfl⟩
   have bV1:But [] w1 V:=by rw[hV];exact (But.refl _ _).alloc _
   have cc:V.cell? ⟨w1.heap.size,0,none⟩=some (.string t):=by rw[hV];simp
   have bV:But [] wr V:=hb1.trans' bV1
   have oV:=(ae HI).1.but bV
   have bwV:=(ae HI).2.trans' bV
   obtain⟨v',w',hr,ho,hg⟩:=zsq V w.heap.size u3 _ oV w1.heap.size _ cc (by simp;omega) bwV.size
   have BF:Hid (But [] w w'):=wo bwV oV (Nat.le_refl _) hg
   have HO:=af ho
   rw[hV] at hr
   have HR:=af hr
   clear hr ho hg oV bV bwV cc hV bV1 hb1
   go_wp2_with (at_builtin;refine qw rfl _ _ 76 76 rfl _ _ v' w' rfl rfl (ae HR) ?_)
   refine⟨⟨k+1,by omega,by go_num,by rw[List.range_succ,List.map_append,List.map_cons,List.map_nil,← ae HT];exact ae HO,ae BF⟩,by simp[intOf];omega⟩
  ·obtain rfl:k=n:=by omega
   obtain⟨a',c',e'⟩:=(ae HI).1.form
   subst e'
   go_wp2
   go_ret
   exact⟨_,rfl,(ae HI).1,(ae HI).2⟩
theorem zqz (v:Value) (fs:List Rat) (w:World) (hq:au w v fs) (lf:∀ f ∈ fs,Len f 1000000) (hn:fs.length≤1000) (htab:Lib.TabIs prog w "internal/strconv.uint64pow10" .u64 Lib.pow10Tab) :
  Calls prog 28 #[v] w fun e w'=>∃ v',e=.returned v'∧zhy w' w.heap.size v' (fs.map zan)∧But [] w w':=by
 obtain⟨F,hF⟩:∃ F:Nat→ByteArray,F=fun i=>zan (fs[i]?.getD 0):=⟨_,rfl⟩
 have hL:(List.range fs.length).map F=fs.map zan:=by
  have:=zmz (F:=F) (l:=fs.map zan) (fun i x hx=>by
   rw[List.getElem?_map] at hx
   cases h:fs[i]? with
   | none=>rw[h] at hx;simp at hx
   | some q=>rw[h] at hx;rw[hF];simp only[h,Option.getD_some];simpa using hx)
  rwa [List.length_map] at this
 obtain⟨a,cap,e,hcap⟩:∃ a cap,v=.slice a fs.length cap∧fs.length≤cap:=by
  obtain⟨a,cap,e,h1,-⟩:=hq
  exact⟨a,cap,e,h1⟩
 have hOF:∀ W,But [] w W→∀ i,i<fs.length→∃ b off s x y p,a=some ⟨b,off,none⟩∧P4o W b (off+i*4) s x y p∧∀ X,But [] W X→Calls prog 9 #[.agg #[.bool s,.int .u64 x,.int .u64 y,.pointer p]] X fun e w'=>e=.returned (.string (F i))∧But [] X w':=fun W hb i hi=>by
  have h0:=hq.but hb
  obtain⟨a',cap',e',h1,h2⟩:=h0
  rw[e] at e'
  simp only[Value.slice.injEq] at e'
  obtain⟨rfl,-,-⟩:=e'
  obtain⟨b,off,ea,s,x,y,p,h3,h4⟩:=h2 i fs[i] (List.getElem?_eq_getElem hi)
  refine⟨b,off,s,x,y,p,ea,h3,fun X hX=>?_⟩
  have eF:F i=zan fs[i]:=by rw[hF];show zan (fs[i]?.getD 0)=_;rw[List.getElem?_eq_getElem hi];rfl
  rw[eF]
  exact zbz _ fs[i] X (h4.but hX) (lf _ (List.getElem_mem hi)) (TabIs.but htab (hb.trans' hX)) (zan fs[i]) rfl
 subst e
 have HV:=af hOF
 rw[← hL]
 obtain⟨n,hnn⟩:∃ n,n=fs.length:=⟨_,rfl⟩
 rw[← hnn] at hn hcap HV
 rw[← hnn]
 clear hOF hF hL hq lf hnn htab
 go_enter func28,ntmps28
 go_wp2
 go_loopw [3,8] (fun o i wr=>∃ (k:Nat),k≤n∧i=.int .i64 (k:Int)∧Hid (zhy wr w.heap.size o ((List.range k).map F)∧But [] w wr)) (fun _ i _=>n-(intOf i).toNat)
 case atStart=>exact⟨0,Nat.zero_le _,rfl,zhy.nil _ _,But.refl _ _⟩
 case round =>
  obtain⟨k,hk,rfl,HI⟩:=hrel
  rename World=>wr
  by_cases hlt:k<n
  ·obtain⟨b,off,s,x,y,p,rfl,⟨c0,c1,c2,c3⟩,hT⟩:=ae HV wr (ae HI).2 k hlt
   obtain⟨t,ht⟩:∃ t,t=F k:=⟨_,rfl⟩
   rw[← ht] at hT
   have PF:=af hT
   have HT:=af ht
   clear hT ht
   have ba:=(But.refl [] wr).alloc (.cells #[.bool s,.int .u64 x,.int .u64 y,.pointer p] 27)
   have BA:=af ba
   clear ba
   go_wp2_with fail
   refine (ae PF _ (ae BA)).mono ?_
   rintro e w1 ⟨rfl,hb1⟩
   obtain⟨V,hV⟩:∃ V,V=w1.alloc (.cells #[.string t] 9):=⟨_,rfl⟩
   have bV1:But [] w1 V:=by rw[hV];exact (But.refl _ _).alloc _
   have cc:V.cell? ⟨w1.heap.size,0,none⟩=some (.string t):=by rw[hV];simp
   have bV:But [] wr V:=((ae BA).trans' hb1).trans' bV1
   have oV:=(ae HI).1.but bV
   have bwV:=(ae HI).2.trans' bV
   obtain⟨v',w',hr,ho,hg⟩:=zsq V w.heap.size u3 _ oV w1.heap.size _ cc (by simp;omega) bwV.size
   have BF:Hid (But [] w w'):=wo bwV oV (Nat.le_refl _) hg
   have HO:=af ho
   rw[hV] at hr
   have HR:=af hr
   clear hr ho hg oV bV bwV cc hV bV1 hb1
   go_wp2_with (at_builtin;refine qw rfl _ _ 76 76 rfl _ _ v' w' rfl rfl (ae HR) ?_)
   refine⟨⟨k+1,by omega,by go_num,by rw[List.range_succ,List.map_append,List.map_cons,List.map_nil,← ae HT];exact ae HO,ae BF⟩,by simp[intOf];omega⟩
  ·obtain rfl:k=n:=by omega
   obtain⟨a',c',e'⟩:=(ae HI).1.form
   subst e'
   go_wp2
   go_ret
   exact⟨_,rfl,(ae HI).1,(ae HI).2⟩
theorem same_eq (v1 v2:Value) (ts:List ByteArray) (w:World) (h1:vw w v1 ts) (h2:vw w v2 ts) (hn:ts.length≤1000) :
  Calls prog 26 #[v1,v2] w fun e w'=>e=.returned (.bool true)∧But [] w w':=by
 obtain⟨a1,k1,rfl,c1⟩:=h1
 obtain⟨a2,k2,rfl,c2⟩:=h2
 have hc:∀ W,But [] w W→∀ i,i<ts.length→∃ b1 o1 b2 o2 t,a1=some ⟨b1,o1,none⟩∧a2=some ⟨b2,o2,none⟩∧W.cell? ⟨b1,o1+i,none⟩=some (.string t)∧W.cell? ⟨b2,o2+i,none⟩=some (.string t):=fun W hb i hi=>by
  obtain⟨b1,o1,e1,d1⟩:=c1 i _ (List.getElem?_eq_getElem hi)
  obtain⟨b2,o2,e2,d2⟩:=c2 i _ (List.getElem?_eq_getElem hi)
  exact⟨b1,o1,b2,o2,ts[i],e1,e2,hb.ag d1 (by simp),hb.ag d2 (by simp)⟩
 have HC:=af hc
 clear hc c1 c2
 generalize ts.length=n at *
 go_enter func26,ntmps26
 go_wp2
 go_loopw [5] (fun i wr=>∃ (k:Nat),k≤n∧i=.int .i64 (k:Int)∧Hid (But [] w wr)) (fun i _=>n-(intOf i).toNat)
 case atStart=>exact⟨0,Nat.zero_le _,rfl,But.refl _ _⟩
 case round =>
  obtain⟨k,hk,rfl,HI⟩:=hrel
  rename World=>wr
  by_cases hlt:k<n
  ·obtain⟨b1,o1,b2,o2,t,rfl,rfl,d1,d2⟩:=ae HC wr (ae HI) k hlt
   have ett:(t.toList==t.toList)=true:=by simp
   go_wp2
   go_quiet (fail)
   have HB3:=af ((ae HI).drewN nq)
   generalize wr.drewN nq=V at *
   go_wp2
   exact⟨⟨k+1,by omega,by go_num,ae HB3⟩,by simp[intOf];omega⟩
  ·obtain rfl:k=n:=by omega
   go_wp2
   go_ret
   exact⟨rfl,ae HI⟩
end Go.Proofs.YtffghofheeleeaaGreatDoor
