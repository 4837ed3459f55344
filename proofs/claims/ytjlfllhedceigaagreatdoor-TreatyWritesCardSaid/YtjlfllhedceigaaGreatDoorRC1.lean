/- A whole number is divided by a word: the -/
import Derived.Lib.ItoaMem
import Derived.Laws.IdiomStrings
import Derived.Lib.AppendIntMem
import Derived.Test.YtjlfllhedceigaaGreatDoorRShelf
namespace Go.Proofs.YtjlfllhedceigaaGreatDoor
set_option linter.unusedVariables false
open Go.Proofs.Tryz
open Go.RowKit
set_option maxHeartbeats 8000000
set_option maxRecDepth 100000
theorem zox (v:Value) (X d:Nat) (w:World) (hv:Sl .u64 w v (wd 18446744073709551616 X)) (hl:(wd 18446744073709551616 X).length<1073741824) (hd:0<d) (hdB:d < 18446744073709551616) :
   Calls prog 238 #[v,.int .u64 (d:Int)] w fun e w'=>∃ v',e=.returned (.tuple #[v',.int .u64 ((X%d:Nat):Int)])∧Sl .u64 w' v' (wd 18446744073709551616 (X/d))∧But [] w w'∧sw w.heap.size v':=by(
 have mm:=zo (B:=18446744073709551616) (by omega) X
 have em:=qh (B:=18446744073709551616) (by omega) X
 obtain⟨a,c,rfl,hc,hcell,-⟩:=hv
 generalize wd 18446744073709551616 X=xs at *
 subst em
 obtain⟨R,hR⟩:∃ R,R=vl 18446744073709551616 xs%d:=⟨_,rfl⟩
 rw[← hR]
 have HR:=af hR
 have hmk:=fun wx=>jy wx xs.length (by omega)
 have HC:=af hcell
 have MM:=af mm
 clear hcell mm hR
 go_enter func238,ntmps238
 go_wp2
 go_loopw [7,8] (fun r i wr=>∃ (k rN:Nat) (rs:List Nat),k≤xs.length∧i=.int .i64 ((k:Int)-1)∧r=.int .u64 rN∧rN<d∧rs.length=xs.length∧Hid (zdd xs rs d k rN∧But [] w wr∧Seg wr w.heap.size 0 rs)) (fun _ i _=>(intOf i+1).toNat)
 case atStart=>exact⟨xs.length,0,List.replicate xs.length 0,Nat.le_refl _,rfl,rfl,hd,by simp,zdd.start xs d hd,(But.refl _ _).alloc _,Seg.made _ _ _⟩
 case round =>(
 obtain⟨k,rN,rs,hk,rfl,rfl,hrN,hrl,HI⟩:=hrel
 rename World=>wr
 by_cases hk0:k=0
 ·(
 subst hk0
 have hsl:=(ae HI).2.2.sl xs.length (by omega)
 rw[hrl] at hsl
 have HSL:=af hsl
 have HF:=af (ae HI).1.fin
 have hln:rs.length<2147483648:=by omega
 clear hsl HC
 go_wp2_with fail
 refine (qa _ rs _ (ae HSL) (ae HI).1.mem hln).mono ?_
 rintro e w1 ⟨v1,rfl,hv1,hw,hsb⟩
 obtain rfl:=hw.symm
 clear hw
 rw[(ae HF).1] at hv1
 have HV1:=af hv1
 have HSB:=af hsb
 clear hsb
 have er:Hid (rN=R):=by show _=_;rw[ae HR];exact (ae HF).2
 clear hv1
 go_wp2
 go_ret2
 exact⟨v1,by rw[← ae er];rfl,ae HV1,(ae HI).2.1,dx (ae HSB) (Nat.le_refl _)⟩)
 ·(
 obtain⟨i,rfl⟩:∃ i,k=i+1:=⟨k-1,by omega⟩
 obtain⟨b,off,rfl,hci⟩:=ae HC i (by omega)
 have cx:=(ae HI).2.1.ag hci (by simp)
 have hxB:xs[i]?.getD 0 < 18446744073709551616:=bz (ae MM) (by omega) i
 obtain⟨cr,fr⟩:=(ae HI).2.2 i (by omega)
 rw[Nat.zero_add] at cr fr
 obtain⟨q,hq⟩:∃ q,(rN * 18446744073709551616+xs[i]?.getD 0)/d=q:=⟨_,rfl⟩
 obtain⟨r',hr'⟩:∃ r',(rN * 18446744073709551616+xs[i]?.getD 0)%d=r':=⟨_,rfl⟩
 obtain⟨hqB,hst⟩:=(ae HI).1.step (by omega) hxB q r' hq hr'
 have hr'd:r' < d:=hst.lt
 have ST:=af hst
 have DV:=af (zgy rN (xs[i]?.getD 0) d hdB hxB hrN wr q r' hq hr')
 have hset:=(ae HI).2.2.set i (by omega) q
 rw[Nat.zero_add] at hset
 have HSET:=af hset
 clear hset hst hci hq hr'
 generalize xs[i]?.getD 0=x at *
 generalize rs[i]?.getD 0=r0 at cr
 rw[show (((i+1:Nat):Int)-1)=(i:Int) from by omega]
 go_wp2_with fail
 refine (ae DV).mono ?_
 rintro e w1 ⟨rfl,n,rfl⟩
 go_wp2
 refine⟨⟨i,r',rs.set i q,by omega,rfl,rfl,hr'd,by rw[List.length_set];exact hrl,ae ST,((ae HI).2.1.drewN n).setCell (.inr (Nat.le_refl _)) _,?_⟩,?_⟩
 ·exact ae HSET
 ·simp[intOf])))
def qel (vb vx:Value):Prop:=∀ k,vb.ownBlock=some k→∀ b off n c,vx=.slice (some ⟨b,off,none⟩) n c→b≠k
theorem qel.grow {w w':World} {vb vb' vx:Value} {xs:List Nat} {o:Obj} (h:qel vb vx) (hs:Sl .u64 w vx xs) (h0:0<xs.length) (hg:(w.alloc o).grownBy w' vb.ownBlock) (hb:vb'.ownBlock=vb.ownBlock∨∀ k,vb'.ownBlock=some k→(w.alloc o).heap.size≤k):Sl .u64 w' vx xs∧qel vb' vx:=by(
 constructor
 ·have h1:=hs.ah ((But.refl [] w).alloc o)
  cases hr:vb.ownBlock with
  | none=>rw[hr] at hg;exact h1.ah (l6 hg)
  | some g=>rw[hr] at hg;exact h1.but (zdn hg) (fun b off cap n e=>by have:=h g hr b off n cap e;simp;omega)
 ·(
 intro k hk b off n c e
 rcases hb with hb | hb
 ·rw[hb] at hk;exact h k hk b off n c e
 ·have h1:=hb k hk
  have h2:=hs.lt h0 b off n c e
  simp at h1
  omega))
theorem zjz {w:World} {g:Nat} {es:List UInt8} (h:Row .u8 w g (es.map UInt8.toNat)):∀ j u,(es.map u8v)[j]? = some u→w.cell? ((⟨g,0,none⟩:Addr).add j)=some u:=fun j u hj=>by
 rw[List.getElem?_map] at hj
 rcases Nat.lt_or_ge j es.length with hl | hl
 ·rw[List.getElem?_eq_getElem hl] at hj
  simp only[Option.map_some,Option.some.injEq] at hj
  have h1:=(h j (by rw[List.length_map];exact hl)).1
  rw[List.getElem?_map,List.getElem?_eq_getElem hl] at h1
  have e:(⟨g,0,none⟩:Addr).add j=⟨g,j,none⟩:=by by_cases h:j=0 <;> simp[Addr.add,h]
  rw[e,h1,← hj]
  rfl
 ·rw[List.getElem?_eq_none hl] at hj
  simp at hj
theorem zym {q:Nat} (h:1<(wd 18446744073709551616 q).length):10000000000000000000≤q:=by(
 rcases Nat.lt_or_ge q 18446744073709551616 with h1 | h1
 ·have:=aj (B:=18446744073709551616) (by omega) q 1 (by rw[Nat.pow_one];exact h1)
  omega
 ·omega)
structure qgn (w:World) (n m:Nat) (ds:List UInt8) (vb vx:Value) (wr:World):Prop where
 words:Sl .u64 wr vx (wd 18446744073709551616 m)
 own:wr.ownsRow w.heap.size 5 1 vb ds.length (ds.map u8v)
 but:But [] w wr
 dig:j4 n=ds++j4 m
 pos:0<n→0<m
 len:(wd 18446744073709551616 m).length<1048576
theorem zis (base:Nat) (vo:Value) (ods:List UInt8) (v:Value) (X Wd:Nat) (w:World) (hv:Sl .u64 w v (wd 18446744073709551616 X)) (hX:0<X∨0<Wd) (hl:(wd 18446744073709551616 X).length<1048576) (hd:ods.length+(j4 X).length+Wd<1073741000) (ho:w.ownsRow base 5 1 vo ods.length (ods.map u8v)) (hn:vo=.slice none 0 0∨0<ods.length) (hbase:base≤w.heap.size) :
   Calls prog 197 #[vo,v,.int .i64 (Wd:Int)] w fun e w'=>∃ v',e=.returned v'∧w'.ownsRow base 5 1 v' (ods++(q8 Wd X).reverse).length ((ods++(q8 Wd X).reverse).map u8v)∧Below base w w'∧j6 w w':=by(
 have HO:=af ho
 have HN:=af hn
 have HBS:=af hbase
 obtain⟨oa,oc,rfl⟩:=ko ho
 clear ho hn hbase
 have HV:=af hv
 clear hv
 obtain⟨xa,xc,rfl,-,-⟩:=ae HV
 have HX:=af hX
 have HD:=af hd
 clear hX hd
 generalize hno:ods.length=no at *
 have HNO:=af hno
 clear hno
 go_enter func197,ntmps197
 go_wp2
 go_loopg [7,1] X (fun m vb vx wr=>∃ ds:List UInt8,qgn w X m ds vb vx wr)
 case atStart=>exact⟨[],⟨ae HV,World.ownsRow_nil _ _ _ _,But.refl _ _,rfl,fun h=>h,hl⟩⟩
 case round =>(
 obtain⟨ds,hI⟩:=hrel
 rename World=>wr
 obtain⟨hsl,hown,hbut,hdig,hpos,hlen⟩:=hI
 have hdl:ds.length<1073741000:=by have:=congrArg List.length hdig;have h2:=ae HD;rw[List.length_append] at this;omega
 have HSL:=af hsl
 obtain⟨aa,ca,rfl,-,-⟩:=hsl
 have HDG:=af hdig
 have HOWN:=af hown
 have HBUT:=af hbut
 clear hdig hown hbut
 by_cases hm:1<(wd 18446744073709551616 gk).length
 ·(
 have h19:=zym hm
 obtain⟨m',hm'⟩:∃ m',m'=gk/10000000000000000000:=⟨_,rfl⟩
 obtain⟨r0,hr0⟩:∃ r0,r0=gk%10000000000000000000:=⟨_,rfl⟩
 have hmp:0<m':=by omega
 have hml:(wd 18446744073709551616 m').length≤(wd 18446744073709551616 gk).length:=aq (by omega)
 have BW:=af (zox _ gk 10000000000000000000 wr (ae HSL) (by omega) (by omega) (by omega))
 rw[← hm',← hr0] at BW
 have hDP:Hid (j4 gk=kg 19 r0++j4 m'):=by
  show _=_
  have h:=zgh 19 gk (by exact h19)
  rw[← zfc 19 gk] at h
  rw[hm',hr0]
  exact h
 have hr0l:r0<10000000000000000000:=by omega
 have hlt':m' < gk:=by rw[hm'];exact Nat.div_lt_self (by omega) (by omega)
 have HML:=af hml
 clear hm' hr0 hml h19
 generalize hla:(wd 18446744073709551616 gk).length=la at *
 clear hla
 have hwl:Hid (0<(wd 18446744073709551616 m').length):=by show _<_;rw[Nat.pos_iff_ne_zero];intro e;rw[zi (by omega)] at e;omega
 go_wp2_with fail
 refine (ae BW).mono ?_
 rintro e w2 ⟨v2,rfl,hv2,hb2,hf2⟩
 have HV2:=af hv2
 have HOWN2:=af (oq (ae HOWN) hb2)
 have HBUT2:Hid (But [] w w2):=(ae HBUT).trans' hb2
 have HOFF:Hid (qel u7 v2):=fun k hk b off n c e=>by
  have h1:=((ae HOWN).lt k hk).2
  have h2:=hf2 b off n c e
  omega
 clear hv2 hb2 hf2
 go_wp2_with fail
 go_loopw [7,8,18] (fun vb rest c wq=>∃ j q:Nat,j≤19∧c=.int .i64 j∧rest=.int .u64 q∧q<10000000000000000000∧Hid (q=r0/10^j∧wq.ownsRow w.heap.size 5 1 vb (ds++kg j r0).length ((ds++kg j r0).map u8v)∧But [] w wq∧Sl .u64 wq v2 (wd 18446744073709551616 m')∧qel vb v2)) (fun _ _ c _=>19-(intOf c).toNat)
 case atStart=>exact⟨0,r0,by omega,rfl,rfl,hr0l,by simp,by simpa [kg] using ae HOWN2,ae HBUT2,ae HV2,ae HOFF⟩
 case round =>(
 obtain⟨j,q,hj,rfl,rfl,hq,HI⟩:=hrel
 rename World=>wq
 by_cases hj19:j=19
 ·(
 subst hj19
 have HIK:=af (ae HI).2
 clear HI
 go_wp2
 go_roundg m'
 case measure=>exact hlt'
 case rel =>(
 obtain⟨k1,k2,k3,-⟩:=ae HIK
 refine⟨ds++kg 19 r0,k3,k1,k2,?_,fun _=>hmp,by have:=ae HML;omega⟩
 rw[ae HDG,ae hDP,List.append_assoc]))
 ·(
 have hj2:j<19:=by omega
 obtain⟨dg,hdg⟩:∃ dg,dg=q%10:=⟨_,rfl⟩
 obtain⟨q',hq'⟩:∃ q',q'=q/10:=⟨_,rfl⟩
 have hd10:dg<10:=by omega
 have hq2:q' < 10000000000000000000:=by omega
 have e1:(q:Int)%10=(dg:Int):=by omega
 have e2:(q:Int)/10=(q':Int):=by omega
 have e3:(q:Int).tmod 10=(dg:Int):=by rw[Int.tmod_eq_emod_of_nonneg (by omega)];exact e1
 have e4:(q:Int).tdiv 10=(q':Int):=by rw[Int.tdiv_eq_ediv_of_nonneg (by omega)];exact e2
 have hqj:Hid (q'=r0/10^(j+1)∧kg (j+1) r0=kg j r0++[UInt8.ofNat (48+dg)]):=by
  constructor
  ·rw[hq',(ae HI).1,Nat.div_div_eq_div_mul,Nat.pow_succ]
  ·rw[zmu,← (ae HI).1,← hdg]
 have hld:(ds++kg j r0).length<1073741824:=by rw[List.length_append,zhi];omega
 have hAB:=zay (wq.alloc (.cells #[.int .u8 (48+(dg:Int))] 5)) w.heap.size u7 (ds++kg j r0) ((ae HI).2.1.alloc _) ⟨wq.heap.size,0,none⟩ (UInt8.ofNat (48+dg)) (by rw[← zfz dg hd10];simp) hld (by have:=(ae HI).2.2.1.size;simp;omega)
 obtain⟨v3,w3,hr3,ho3,hg3,hb3⟩:=hAB
 have hB3:But [] w w3:=((ae HI).2.2.1.alloc _).grown hg3 (fun k hk=>((ae HI).2.1.lt k hk).1)
 obtain⟨hS3,hO3⟩:=(ae HI).2.2.2.2.grow (ae HI).2.2.2.1 (ae hwl) hg3 hb3
 have ALL:=af (And.intro ho3 (And.intro hB3 (And.intro hS3 hO3)))
 have HR3:=af hr3
 clear ho3 hB3 hS3 hO3 hg3 hb3 hr3 hld hdg hq'
 go_wp2_with (at_builtin;refine jc rfl _ _ 141 141 rfl _ _ v3 w3 rfl rfl (ae HR3) ?_)
 refine⟨⟨j+1,q',by omega,by go_num,rfl,hq2,(ae hqj).1,?_,(ae ALL).2.1,(ae ALL).2.2.1,(ae ALL).2.2.2⟩,?_⟩
 ·rw[(ae hqj).2,← List.append_assoc];exact (ae ALL).1
 ·simp[intOf];omega)))
 ·(
 by_cases hg0:gk=0
 ·(
 subst hg0
 have HOWNt:=HOWN
 have HBUTt:=HBUT
 rw[zk,List.length_nil]
 have hdg:=ae HDG
 rw[ek,List.append_nil] at hdg
 clear HSL hlen hpos hm HDG
 have hE:j4 X=ds:=hdg
 clear hdg
 have PAD0:Hid (wr.ownsRow w.heap.size 5 1 u7 (ds++List.replicate 0 48).length ((ds++List.replicate 0 48).map u8v)∧But [] w wr):=by
  rw[List.replicate_zero,List.append_nil];exact⟨ae HOWN,ae HBUT⟩
 have HEX:=af hE
 have hel2:ds.length+Wd<1073741000:=by have:=ae HD;rw[hE] at this;omega
 clear hE
 go_wp2_with fail
 go_loopg [7] (Wd-ds.length) (fun k vb wp=>∃ j:Nat,j+k=Wd-ds.length∧Hid (wp.ownsRow w.heap.size 5 1 vb (ds++List.replicate j 48).length ((ds++List.replicate j 48).map u8v)∧But [] w wp))
 case atStart=>exact⟨0,by omega,PAD0⟩
 case round =>(
 clear PAD0
 obtain⟨j,hjk,HP⟩:=hrel
 rename World=>wp
 obtain⟨pa,pc,hpe⟩:=ko (ae HP).1
 have hpl:(ds++List.replicate j 48).length=ds.length+j:=by rw[List.length_append,List.length_replicate]
 by_cases hk0:gk=0
 ·(
 subst hk0
 have hfs:ds++List.replicate j (48:UInt8)=q8 Wd X:=by rw[q8,ae HEX,show j=Wd-ds.length from by omega]
 have hfl:0<(q8 Wd X).length:=zjd Wd X (ae HX)
 have hown:=(ae HP).1
 rw[hfs] at hown hpl
 obtain⟨g,cg,hg7,hgb,hcg,hrow⟩:=zbg hown hfl
 rw[hg7] at hpe
 subst hg7
 have HGB:=af hgb
 have RV:=af (zhg g cg ((q8 Wd X).map UInt8.toNat) wp hrow (by simpa using hfl) (by rw[List.length_map];omega))
 rw[List.length_map] at RV
 have BUT:=af (ae HP).2
 have hlw:(q8 Wd X).length<1073741000:=by omega
 have hwle:(Wd:Int)≤((q8 Wd X).length:Int):=by omega
 have HLW:Hid (no+(q8 Wd X).length<1073741000):=by
  have h1:=ae HD
  have h2:=zar Wd X
  show _<_
  omega
 clear hown hrow hgb hcg HP hfs hfl hpe hpl hjk
 generalize hne:(q8 Wd X).length=ne at *
 go_wp2_with fail
 refine (ae RV).mono ?_
 rintro e w4 ⟨rfl,hr4,hb4⟩
 rw[← List.map_reverse] at hr4
 obtain⟨i0,hi,hz0,hz1,hz2⟩:=zja
 have hB4:But [] w w4:=(ae BUT).trans hb4 (fun x hx=>by simp at hx;subst hx;exact .inr (ae HGB))
 have hO4:=oq (ae HO) hB4
 have hbs:=ae HBS
 have hlw2:=ae HLW
 obtain⟨v5,w5,hr5,ho5,hg5,-⟩:=run_append_own (P:=prog) w4 base 141 141 5 i0 (.int .u8 0) 1 1 underlying141 hi hz0 hz1 hz2 rfl (by decide) (.slice oa no oc) no (ods.map u8v) hO4 ⟨g,0,none⟩ ne cg ((q8 Wd X).reverse.map u8v) (by rw[List.length_map,List.length_reverse,hne,Nat.mul_one]) (zjz hr4) (fun u hu=>by obtain⟨x,-,rfl⟩:=List.mem_map.1 hu;rfl) (by unfold maxLen;omega) (by omega) (Nat.le_trans hbs hB4.size)
 have hK:j6 w w5:=(j6.zgl hB4).trans (zkz (ods:=ods) (by rw[ae HNO];exact hO4) (by rw[ae HNO];exact ae HN) hg5)
 have hBe:Below base w w5:=jb (hB4.zbl hbs) (below_grown hO4 (Nat.le_trans hbs hB4.size) hg5)
 have ALL:=af (And.intro ho5 (And.intro hBe hK))
 have HR5:=af hr5
 clear ho5 hBe hK hr5 hg5 hr4 hb4 hB4 hO4 hi hz0 hz1 hz2 hbs hlw2
 go_wp2_with (at_builtin;refine jc rfl _ _ 141 141 rfl _ _ v5 w5 rfl rfl (ae HR5) ?_)
 go_ret
 refine⟨v5,rfl,?_,(ae ALL).2.1,(ae ALL).2.2⟩
 rw[List.length_append,List.length_reverse,hne,ae HNO,List.map_append]
 exact (ae ALL).1)
 ·(
 have hAB:=zay (wp.alloc (.cells #[.int .u8 48] 5)) w.heap.size u7 (ds++List.replicate j 48) ((ae HP).1.alloc _) ⟨wp.heap.size,0,none⟩ 48 (by simp[u8v]) (by omega) (by have:=(ae HP).2.size;simp;omega)
 obtain⟨v3,w3,hr3,ho3,hg3,-⟩:=hAB
 have hB3:But [] w w3:=((ae HP).2.alloc _).grown hg3 (fun k hk=>((ae HP).1.lt k hk).1)
 rw[List.append_assoc,← List.replicate_succ'] at ho3
 have ALL:=af (And.intro ho3 hB3)
 rw[hpe] at hr3
 have HR3:=af hr3
 subst hpe
 have hlt:((ds++List.replicate j (48:UInt8)).length:Int)<(Wd:Int):=by omega
 have hrl:j+1+(gk-1)=Wd-ds.length:=by omega
 have HRL:=af hrl
 clear ho3 hB3 hg3 hr3 hjk hpl HP hrl
 generalize (ds++List.replicate j (48:UInt8)).length=np at *
 go_wp2_with (at_builtin;refine jc rfl _ _ 141 141 rfl _ _ v3 w3 rfl rfl (ae HR3) ?_)
 go_roundg (gk-1)
 case measure=>omega
 case rel=>exact⟨j+1,ae HRL,ae ALL⟩)))
 have hpos:0<gk:=by omega
 have hl1:(wd 18446744073709551616 gk).length=1:=by
  have:(wd 18446744073709551616 gk).length≠0:=by intro e;rw[zi (by omega)] at e;omega
  omega
 have hgB:gk < 18446744073709551616:=by
  have:=ak (B:=18446744073709551616) (by omega) gk 1 (by omega)
  rw[Nat.pow_one] at this;exact this
 have hcell:∃ b off,aa=some ⟨b,off,none⟩∧wr.cell? ⟨b,off,none⟩=some (.int .u64 (gk:Int)):=by
  rcases (ae HSL).open with ⟨e,-⟩|⟨-,b,off,c,e,-,-,hc⟩
  ·rw[e] at hl1;simp at hl1
  ·simp only[Value.slice.injEq] at e
   have h:=hc 0 (by omega)
   rw[Nat.add_zero,zel gk hpos hgB] at h
   exact⟨b,off,e.1,h⟩
 obtain⟨b,off,rfl,hc0⟩:=hcell
 have HCUR:=af hpos
 rw[hl1]
 clear hm hl1 hlen HSL
 go_wp2
 go_loopg [7,9] gk (fun m vb rest wq=>∃ es:List UInt8,rest=.int .u64 (m:Int)∧m < 18446744073709551616∧Hid (j4 X=es++j4 m∧wq.ownsRow w.heap.size 5 1 vb es.length (es.map u8v)∧But [] w wq))
 case atStart=>exact⟨ds,rfl,hgB,ae HDG,ae HOWN,ae HBUT⟩
 case round =>(
 obtain⟨es,rfl,hmB,HI⟩:=hrel
 rename World=>wq
 clear hc0
 have hel:es.length<1073741000:=by have:=congrArg List.length (ae HI).1;have h2:=ae HD;rw[List.length_append] at this;omega
 by_cases h0:gk=0
 ·(
 subst h0
 have hE0:j4 X=es:=by have:=(ae HI).1;rw[ek,List.append_nil] at this;exact this
 have hE:j4 X=es:=hE0
 clear hE0
 have PAD0:Hid (wq.ownsRow w.heap.size 5 1 u7 (es++List.replicate 0 48).length ((es++List.replicate 0 48).map u8v)∧But [] w wq):=by
  rw[List.replicate_zero,List.append_nil];exact⟨(ae HI).2.1,(ae HI).2.2⟩
 have HEX:=af hE
 have hel2:es.length+Wd<1073741000:=by have:=ae HD;rw[hE] at this;omega
 clear hE
 go_wp2_with fail
 go_loopg [7] (Wd-es.length) (fun k vb wp=>∃ j:Nat,j+k=Wd-es.length∧Hid (wp.ownsRow w.heap.size 5 1 vb (es++List.replicate j 48).length ((es++List.replicate j 48).map u8v)∧But [] w wp))
 case atStart=>exact⟨0,by omega,PAD0⟩
 case round =>(
 clear PAD0
 obtain⟨j,hjk,HP⟩:=hrel
 rename World=>wp
 obtain⟨pa,pc,hpe⟩:=ko (ae HP).1
 have hpl:(es++List.replicate j 48).length=es.length+j:=by rw[List.length_append,List.length_replicate]
 by_cases hk0:gk=0
 ·(
 subst hk0
 have hfs:es++List.replicate j (48:UInt8)=q8 Wd X:=by rw[q8,ae HEX,show j=Wd-es.length from by omega]
 have hfl:0<(q8 Wd X).length:=zjd Wd X (ae HX)
 have hown:=(ae HP).1
 rw[hfs] at hown hpl
 obtain⟨g,cg,hg7,hgb,hcg,hrow⟩:=zbg hown hfl
 rw[hg7] at hpe
 subst hg7
 have HGB:=af hgb
 have RV:=af (zhg g cg ((q8 Wd X).map UInt8.toNat) wp hrow (by simpa using hfl) (by rw[List.length_map];omega))
 rw[List.length_map] at RV
 have BUT:=af (ae HP).2
 have hlw:(q8 Wd X).length<1073741000:=by omega
 have hwle:(Wd:Int)≤((q8 Wd X).length:Int):=by omega
 have HLW:Hid (no+(q8 Wd X).length<1073741000):=by
  have h1:=ae HD
  have h2:=zar Wd X
  show _<_
  omega
 clear hown hrow hgb hcg HP hfs hfl hpe hpl hjk
 generalize hne:(q8 Wd X).length=ne at *
 go_wp2_with fail
 refine (ae RV).mono ?_
 rintro e w4 ⟨rfl,hr4,hb4⟩
 rw[← List.map_reverse] at hr4
 obtain⟨i0,hi,hz0,hz1,hz2⟩:=zja
 have hB4:But [] w w4:=(ae BUT).trans hb4 (fun x hx=>by simp at hx;subst hx;exact .inr (ae HGB))
 have hO4:=oq (ae HO) hB4
 have hbs:=ae HBS
 have hlw2:=ae HLW
 obtain⟨v5,w5,hr5,ho5,hg5,-⟩:=run_append_own (P:=prog) w4 base 141 141 5 i0 (.int .u8 0) 1 1 underlying141 hi hz0 hz1 hz2 rfl (by decide) (.slice oa no oc) no (ods.map u8v) hO4 ⟨g,0,none⟩ ne cg ((q8 Wd X).reverse.map u8v) (by rw[List.length_map,List.length_reverse,hne,Nat.mul_one]) (zjz hr4) (fun u hu=>by obtain⟨x,-,rfl⟩:=List.mem_map.1 hu;rfl) (by unfold maxLen;omega) (by omega) (Nat.le_trans hbs hB4.size)
 have hK:j6 w w5:=(j6.zgl hB4).trans (zkz (ods:=ods) (by rw[ae HNO];exact hO4) (by rw[ae HNO];exact ae HN) hg5)
 have hBe:Below base w w5:=jb (hB4.zbl hbs) (below_grown hO4 (Nat.le_trans hbs hB4.size) hg5)
 have ALL:=af (And.intro ho5 (And.intro hBe hK))
 have HR5:=af hr5
 clear ho5 hBe hK hr5 hg5 hr4 hb4 hB4 hO4 hi hz0 hz1 hz2 hbs hlw2
 go_wp2_with (at_builtin;refine jc rfl _ _ 141 141 rfl _ _ v5 w5 rfl rfl (ae HR5) ?_)
 go_ret
 refine⟨v5,rfl,?_,(ae ALL).2.1,(ae ALL).2.2⟩
 rw[List.length_append,List.length_reverse,hne,ae HNO,List.map_append]
 exact (ae ALL).1)
 ·(
 have hAB:=zay (wp.alloc (.cells #[.int .u8 48] 5)) w.heap.size u7 (es++List.replicate j 48) ((ae HP).1.alloc _) ⟨wp.heap.size,0,none⟩ 48 (by simp[u8v]) (by omega) (by have:=(ae HP).2.size;simp;omega)
 obtain⟨v3,w3,hr3,ho3,hg3,-⟩:=hAB
 have hB3:But [] w w3:=((ae HP).2.alloc _).grown hg3 (fun k hk=>((ae HP).1.lt k hk).1)
 rw[List.append_assoc,← List.replicate_succ'] at ho3
 have ALL:=af (And.intro ho3 hB3)
 rw[hpe] at hr3
 have HR3:=af hr3
 subst hpe
 have hlt:((es++List.replicate j (48:UInt8)).length:Int)<(Wd:Int):=by omega
 have hrl:j+1+(gk-1)=Wd-es.length:=by omega
 have HRL:=af hrl
 clear ho3 hB3 hg3 hr3 hjk hpl HP hrl
 generalize (es++List.replicate j (48:UInt8)).length=np at *
 go_wp2_with (at_builtin;refine jc rfl _ _ 141 141 rfl _ _ v3 w3 rfl rfl (ae HR3) ?_)
 go_roundg (gk-1)
 case measure=>omega
 case rel=>exact⟨j+1,ae HRL,ae ALL⟩)))
 ·(
 have hp:0<gk:=by omega
 obtain⟨dg,hdg⟩:∃ dg,dg=gk%10:=⟨_,rfl⟩
 obtain⟨q',hq'⟩:∃ q',q'=gk/10:=⟨_,rfl⟩
 have hd10:dg<10:=by omega
 have hq2:q' < 18446744073709551616:=by omega
 have hlt':q' < gk:=by omega
 have e0:((gk:Int) != 0)=true:=by simp;omega
 have e1:(gk:Int)%10=(dg:Int):=by omega
 have e2:(gk:Int)/10=(q':Int):=by omega
 have e3:(gk:Int).tmod 10=(dg:Int):=by rw[Int.tmod_eq_emod_of_nonneg (by omega)];exact e1
 have e4:(gk:Int).tdiv 10=(q':Int):=by rw[Int.tdiv_eq_ediv_of_nonneg (by omega)];exact e2
 have hqj:Hid (j4 X=(es++[UInt8.ofNat (48+dg)])++j4 q'):=by
  show _=_
  rw[(ae HI).1,lv hp,← hdg,← hq',List.append_assoc];rfl
 have hAB:=zay (wq.alloc (.cells #[.int .u8 (48+(dg:Int))] 5)) w.heap.size u7 es ((ae HI).2.1.alloc _) ⟨wq.heap.size,0,none⟩ (UInt8.ofNat (48+dg)) (by rw[← zfz dg hd10];simp) (by omega) (by have:=(ae HI).2.2.size;simp;omega)
 obtain⟨v3,w3,hr3,ho3,hg3,-⟩:=hAB
 have hB3:But [] w w3:=((ae HI).2.2.alloc _).grown hg3 (fun k hk=>((ae HI).2.1.lt k hk).1)
 have ALL:=af (And.intro ho3 hB3)
 have HR3:=af hr3
 clear ho3 hB3 hg3 hr3 hdg hq'
 go_wp2_with (at_builtin;refine jc rfl _ _ 141 141 rfl _ _ v3 w3 rfl rfl (ae HR3) ?_)
 go_roundg q'
 case measure=>exact hlt'
 case rel=>exact⟨_,rfl,hq2,ae hqj,(ae ALL).1,(ae ALL).2⟩)))))
open Go.RowKit Go.Sort Go.Lib
theorem holds_zero0 (w:World) (T:TypeId) (nd:Nat) (hs:nd≤24):Holds (fun (b:UInt8)=>Value.int .u8 (b.toNat:Int)) (w.alloc (.cells zeros24 T)) w.heap.size 0 (Array.replicate nd (0:UInt8)):=fun j hj=>by
 rw[Array.size_replicate] at hj
 refine⟨?_,by simp⟩
 rw[World.cell?_alloc_new,zeros24_at _ (by omega),getElem!_pos _ j (by rw[Array.size_replicate];exact hj)]
 simp
theorem zlc (u:Nat) (hu:u<18446744073709551616) (w:World) (htab:Lib.TabIs prog w "internal/strconv.uint64pow10" .u64 Lib.pow10Tab) (t:ByteArray) (ht:Hid (t=⟨(Lib.decDigits u).toArray⟩)) :
   Calls prog 196 #[.int .u64 u,.int .i64 10] w fun e w'=>e=.returned (.string t)∧But [] w w':=by(
 by_cases hs:u<100
 ·(
 have H:=af htab
 clear htab
 go_enter func196,ntmps196
 go_wp2_with fail
 refine (Tryz.internal_strconv_small u hs _).mono ?_
 rintro e w1 ⟨rfl,hw⟩
 obtain rfl:=hw.symm
 clear hw
 rw[← ae ht]
 clear ht
 go_wp2
 go_ret
 exact⟨rfl,But.refl _ _⟩)
 ·(
 have hu1:1≤u:=by omega
 have hnd20:Lib.nDigits u≤20:=by have:=Lib.numDigits_eq u hu1 hu;split at this <;> omega
 have H:=af htab
 clear htab
 go_enter func196,ntmps196
 go_wp2_with fail
 refine (Tryz.internal_strconv_numDigits u hu1 hu _ (Lib.tabIs_alloc (ae H) _)).mono ?_
 rintro e w1 ⟨rfl,hw⟩
 obtain rfl:=hw.symm
 clear hw
 have hH0:=holds_zero0 w 320 (Lib.nDigits u) (by omega)
 have hfmt:=af (Tryz.internal_strconv_formatBase10 w.heap.size 0 24 u (Array.replicate (Lib.nDigits u) 0) (w.alloc (.cells Lib.zeros24 320)) hH0 (by rw[Array.size_replicate];exact Lib.lt_pow_nDigits u) hu (by rw[Array.size_replicate];omega))
 rw[Array.size_replicate] at hfmt
 have HH:=af hH0
 clear hH0
 have hnl:=Lib.decDigits_length u
 have HND:=af hnl
 clear hnl
 generalize hndd:Lib.nDigits u=nd at *
 have HE:=af hndd
 clear hndd
 have hal:prog.arrayLen 320 = 24:=by kernel_rfl
 have hsl:∀ W,(Instr.sliceAt 320 (.pointer (some ⟨w.heap.size,0,none⟩)) none (some (.int .i64 (nd:Int))) none).run prog W=.ok (.slice (some ⟨w.heap.size,0,none⟩) nd 24) W:=fun W=>by
  rw[run_sliceAt_array_h W 320 ⟨w.heap.size,0,none⟩ (by kernel_rfl) .i64 (nd:Int) (by omega) (by rw[hal];omega)]
  go_simp
 go_wp2_with fail
 refine (ae hfmt).mono ?_
 rintro e w1 ⟨rfl,k,v',dk,hw1,hF⟩
 have hF':FmtInv (Lib.nDigits u) u 0 v' dk:=by rw[ae HE];exact hF
 have hcv:(convert 141 9 (.slice (some ⟨w.heap.size,0,none⟩) nd 24)).run prog w1=.ok (.string t) w1:=by
  have h:=run_convert_bytes_back (P:=prog) w1 141 9 5 ⟨w.heap.size,0,none⟩ 24 (Lib.decDigits u) underlying141 underlying5 underlying9 (fun j hj=>by
   rw[Lib.row_is_numeral hF' j hj,Lib.add_plain,hw1,World.cell?_drewN]
   exact cell?_putRow (fun (b:UInt8)=>Value.int .u8 (b.toNat:Int)) _ w.heap.size 0 _ dk (ae HH) (by rw[hF.size,Array.size_replicate]) j (by rw[hF.size];rw[ae HND] at hj;exact hj))
  rw[ae HND,← ae ht] at h
  exact h
 have hB:But [] w w1:=by
  rw[hw1,alloc_eq_grow]
  obtain⟨os',_,e⟩:=putRow_grow_new (fun (b:UInt8)=>Value.int .u8 (b.toNat:Int)) w #[.cells Lib.zeros24 320] w.heap.size 0 dk (Nat.le_refl _)
  rw[e]
  have hg:But [] w (grow w os'):=⟨rfl,rfl,rfl,by show w.heap.size≤(w.heap++os').size;rw[Array.size_append];omega,fun k hk _=>Array.getElem?_append_left hk⟩
  exact hg.drewN k
 clear hw1 hF hF' HH HND HE hfmt
 go_wp2
 go_ret
 exact⟨rfl,hB⟩))
theorem zch (u:Nat) (hu:u<18446744073709551616) (w:World) (htab:Lib.TabIs prog w "internal/strconv.uint64pow10" .u64 Lib.pow10Tab) (t:ByteArray) (ht:Hid (t=⟨(Lib.decDigits u).toArray⟩)) :
   Calls prog 120 #[.int .u64 u,.int .i64 10] w fun e w'=>e=.returned (.string t)∧But [] w w':=by(
 have H:=af htab
 clear htab
 go_enter func120,ntmps120
 go_wp2_with fail
 refine (zlc u hu _ (ae H) t ht).mono ?_
 rintro e w1 ⟨rfl,hb⟩
 go_wp2
 go_ret
 exact⟨rfl,hb⟩)
theorem TabIs.but {w w':World} (h:Lib.TabIs prog w "internal/strconv.uint64pow10" .u64 Lib.pow10Tab) (hb:But [] w w'):Lib.TabIs prog w' "internal/strconv.uint64pow10" .u64 Lib.pow10Tab :=
 Go.Lib.tabBelow_of_tabIs h w' hb.below
structure Powers (w:World) (vp:Value) (us:List Value):Prop where
 form:∃ a c,vp=.slice a us.length c∧us.length≤c∧∀ j u,us[j]? = some u→∃ g o,a=some ⟨g,o,none⟩∧g<w.heap.size∧w.cell? ⟨g,o+j,none⟩=some u
 all:∀ j u,us[j]? = some u→Sl .u64 w u (wd 18446744073709551616 (zu j))
theorem zwc {w:World} {base:Nat} {vp:Value} {us:List Value} (h:w.ownsRow base 111 1 vp us.length us) (ha:∀ j u,us[j]? = some u→Sl .u64 w u (wd 18446744073709551616 (zu j))):Powers w vp us:=by(
 refine⟨?_,ha⟩
 rcases h.2 with ⟨rfl,h0⟩|⟨g,cap,cur,rfl,h2,h3,h4,-⟩
 ·exact⟨none,0,by rw[h0],by omega,fun j u hj=>by have:=(List.getElem?_eq_some_iff.1 hj).1;omega⟩
 ·refine⟨_,cap,rfl,h4,fun j u hj=>⟨g,0,rfl,(h.lt g rfl).2,?_⟩⟩
  have:=h.cells (g:=g) rfl j u hj
  rw[addr_add] at this
  exact this)
def zpd (L:Nat):Prop:=∀ (base:Nat) (w0:World) (vp:Value) (us:List Value) (vo:Value) (ods:List UInt8) (v:Value) (X Wd:Nat) (w:World),base=w0.heap.size→Powers w0 vp us→us.length=L→Below base w0 w →
 Sl .u64 w v (wd 18446744073709551616 X)→X<zu L→(Wd=0∧0<X∨Wd=608*2^L)→(wd 18446744073709551616 X).length≤1000000→ods.length+(j4 X).length+2*(608*2^L)<1073741000→w.ownsRow base 5 1 vo ods.length (ods.map u8v)→(vo=.slice none 0 0∨0<ods.length)→(∀ j u,us[j]? = some u→Sl .u64 w u (wd 18446744073709551616 (zu j))) →
 Calls prog 121 #[vo,v,.int .i64 (Wd:Int),vp] w fun e w'=>∃ v',e=.returned v'∧w'.ownsRow base 5 1 v' (ods++(q8 Wd X).reverse).length ((ods++(q8 Wd X).reverse).map u8v)∧Below base w w'∧j6 w w'
theorem zit:zpd 0:=by(
 intro base w0 vp us vo ods v X Wd w hbase hP hL hB hv hX hW hl hd ho hn _
 have hbs:base≤w.heap.size:=by rw[hbase];exact hB.size
 have h608:608*2^0=608:=by decide
 rw[h608] at hW hd
 have AS:=af (zis base vo ods v X Wd w hv (by rcases hW with h | h <;> omega) (by omega) (by rcases hW with h | h <;> omega) ho hn hbs)
 obtain⟨a,c,e,-,-⟩:=hP.form
 rw[hL] at e
 subst e
 obtain⟨xa,xc,rfl,-,-⟩:=hv
 obtain⟨oa,oc,rfl⟩:=ko ho
 clear hX hW hP hL ho hn hB
 generalize (wd 18446744073709551616 X).length=n at *
 generalize ods.length=no at *
 go_enter func121,ntmps121
 go_wp2_with fail
 refine (ae AS).mono ?_
 rintro e w1 ⟨v1,rfl,ho,hb,hk⟩
 have HO:=af (And.intro ho (And.intro hb hk))
 clear ho hb hk
 go_wp2
 go_ret
 exact⟨v1,rfl,(ae HO).1,(ae HO).2.1,(ae HO).2.2⟩)
theorem zyk (L:Nat):(wd 18446744073709551616 (zu L)).length≤38*2^L:=by(
 refine aj (by omega) _ _ ?_
 have e:(18446744073709551616:Nat)^(38*2^L)=16^(608*2^L):=by
  rw[show (18446744073709551616:Nat)=16^16 from by decide,← Nat.pow_mul,← Nat.mul_assoc]
 rw[e]
 exact Nat.pow_lt_pow_left (by omega) (by have:0<2^L:=Nat.pow_pos (by omega);omega))
theorem ztr {n:Nat} {w w':World} (h:Below n w w') {g i:Nat} {u:Value} (hg:g<n) (hc:w.cell? ⟨g,i,none⟩=some u):w'.cell? ⟨g,i,none⟩=some u:=(World.cell?_of_block (w:=w) (h.block g hg)).trans hc
theorem Powers.take {w:World} {g o c L:Nat} {us:List Value} (h:Powers w (.slice (some ⟨g,o,none⟩) us.length c) us) (hL:L≤us.length):Powers w (.slice (some ⟨g,o,none⟩) L c) (us.take L):=by(
 have hl:(us.take L).length=L:=by rw[List.length_take];omega
 have hsub:∀ j u,(us.take L)[j]? = some u→us[j]? = some u:=fun j u hj=>by
  have hlt:j<L:=by have:=(List.getElem?_eq_some_iff.1 hj).1;omega
  rw[List.getElem?_take_of_lt hlt] at hj
  exact hj
 obtain⟨a,c',e,h1,h2⟩:=h.form
 simp only[Value.slice.injEq] at e
 obtain⟨rfl,-,rfl⟩:=e
 exact⟨⟨_,c,by rw[hl],by omega,fun j u hj=>h2 j u (hsub j u hj)⟩,fun j u hj=>h.all j u (hsub j u hj)⟩)
theorem zph (L X Wd:Nat) (hX:X<zu (L+1)) (hW:(Wd=0∧0<X)∨Wd=608*2^(L+1)) (hne:¬ (X/zu L=0∧Wd=0)) :
   (q8 Wd X).reverse=(q8 (Wd-608*2^L) (X/zu L)).reverse++(q8 (608*2^L) (X%zu L)).reverse∧((Wd-608*2^L=0∧0<X/zu L)∨Wd-608*2^L=608*2^L):=by(
 have hp:=zjo L
 have e2:608*2^(L+1)=608*2^L+608*2^L:=by rw[Nat.pow_succ];omega
 rcases hW with ⟨rfl,h0⟩ | h
 ·(
 have h1:0<X/zu L:=by
  rcases Nat.eq_zero_or_pos (X/zu L) with h | h
  ·exact absurd ⟨h,rfl⟩ hne
  ·exact h
 have h2:zu L≤X:=by
  rcases Nat.lt_or_ge X (zu L) with h | h
  ·rw[Nat.div_eq_of_lt h] at h1;omega
  ·exact h
 rw[Nat.zero_sub]
 refine⟨?_,.inl ⟨rfl,h1⟩⟩
 rw[zvm (608*2^L) X h2,List.reverse_append];rfl)
 ·rw[h,e2,Nat.add_sub_cancel]
  refine⟨?_,.inr rfl⟩
  rw[zvl (608*2^L) X (by rw[← e2];exact hX),List.reverse_append];rfl)
theorem ziu (L:Nat) (IH:zpd L) (hL20:L<20):zpd (L+1):=by(
 intro base w0 vp us vo ods v X Wd w hbase hP hL hB hv hX hW hl hd ho hn hall
 have hp:=zjo L
 have e2:608*2^(L+1)=608*2^L+608*2^L:=by rw[Nat.pow_succ];omega
 have hh:X/zu L<zu L:=by rw[Nat.div_lt_iff_lt_mul hp,← zdf];exact hX
 have hlo:X%zu L<zu L:=Nat.mod_lt _ hp
 obtain⟨u,hu⟩:∃ u,us[L]? = some u:=⟨us[L],List.getElem?_eq_getElem (by omega)⟩
 obtain⟨a,c,rfl,hc1,hcell⟩:=hP.form
 obtain⟨g,o,rfl,hg,hcu⟩:=hcell L u hu
 rw[hbase.symm] at hg
 have cu:=ztr hB hg hcu
 have hPT:Powers w0 (.slice (some ⟨g,o,none⟩) L c) (us.take L):=hP.take (by omega)
 have hTL:(us.take L).length=L:=by rw[List.length_take];omega
 have hsub:∀ j u,(us.take L)[j]? = some u→us[j]? = some u:=fun j u hj=>by
  have hlt:j<L:=by have:=(List.getElem?_eq_some_iff.1 hj).1;omega
  rw[List.getElem?_take_of_lt hlt] at hj
  exact hj
 obtain⟨D,hD⟩:∃ D,D=608*2^L:=⟨_,rfl⟩
 have rh:(j4 (X/zu L)).length≤D:=zau _ _ (by rw[hD];exact hh)
 have rl:(j4 (X%zu L)).length≤D:=zau _ _ (by rw[hD];exact hlo)
 have lh:(wd 18446744073709551616 (X/zu L)).length≤1000000:=Nat.le_trans (aq (Nat.div_le_self _ _)) hl
 have ll:(wd 18446744073709551616 (X%zu L)).length≤1000000:=Nat.le_trans (aq (Nat.mod_le _ _)) hl
 have lu:=hall L u hu
 have QR:=af (zma v u X (zu L) w hv lu hp (by omega) (by
  have:=zyk L
  have h19:2^L≤2^19:=Nat.pow_le_pow_right (by omega) (by omega)
  omega) (Short.of _ _ hl))
 have hDB:D<1073741000:=by rw[hD];omega
 have hbs:base≤w.heap.size:=by rw[hbase];exact hB.size
 have HDW:Hid (wrap64 (608*2^L)=(D:Int)):=by
  have e:(608:Int)*2^L=(D:Int):=by rw[hD];simp
  show _=_
  rw[e];unfold wrap64;omega
 have hLc:L<c:=by omega
 have i1:(0:Int)≤(L:Int):=by omega
 have i2:(L:Int)≤(c:Int):=by omega
 have i3:(L:Int)≤(L:Int)+1:=by omega
 have HALL:=af hall
 have HO:=af (And.intro ho hn)
 have HB:=af hB
 have IHA:=af (fun ods' vo' v' X' W' W (h1:Below base w0 W) (h2:Sl .u64 W v' (wd 18446744073709551616 X')) (h3:X' < zu L) (h4:W'=0∧0<X'∨W'=608*2^L) (h5:(wd 18446744073709551616 X').length≤1000000) h6 h7 h8 (h9:∀ j u,us[j]? = some u→Sl .u64 W u (wd 18446744073709551616 (zu j)))=>IH base w0 _ _ vo' ods' v' X' W' W hbase hPT hTL h1 h2 h3 h4 h5 h6 h7 h8 (fun j u hj=>h9 j u (hsub j u hj)))
 have HX:=af hX
 have HW:=af hW
 have HD2:=af (And.intro hD (And.intro rh (And.intro rl (And.intro lh (And.intro ll (And.intro hh hlo))))))
 clear hDB
 have HDD:Hid (ods.length+4*D<1073741000):=by show _<_;rw[hD];omega
 obtain⟨xa,xc,rfl,-,-⟩:=hv
 obtain⟨oa,oc,rfl⟩:=ko ho
 rw[hL]
 clear hX hW hP hL ho hn hB IH hPT hTL hsub hall hcell hcu hu hp hc1 hbase hd rh rl lh ll hh hlo e2 hD
 generalize (wd 18446744073709551616 X).length=n at *
 generalize hno:ods.length=no at *
 go_enter func121,ntmps121
 go_wp2_with fail
 refine (ae QR).mono ?_
 rw[ae HDW]
 rintro e1 w1 ⟨v1,v2,rfl,hv1,hv2,hb1,-⟩
 have HV1:=af hv1
 have HV2:=af hv2
 have B1:=af hb1
 have HB1:=af (jb (ae HB) (hb1.zbl hbs))
 obtain⟨ha,hc,rfl,-,-⟩:=hv1
 clear hv2 hb1 QR
 by_cases h0:X/zu L=0∧Wd=0
 ·(
 obtain⟨hq0,hw0⟩:=h0
 have hXL:X%zu L=X:=by
  have:=Nat.div_add_mod X (zu L)
  rw[hq0,Nat.mul_zero,Nat.zero_add] at this
  exact this
 have hX0:0<X:=by
  have hDp:0<608*2^(L+1):=Nat.mul_pos (by omega) (Nat.pow_pos (by omega))
  rcases ae HW with h | h
  ·exact h.2
  ·omega
 have HXL:=af hXL
 have A:=af (ae IHA ods (.slice oa no oc) v2 (X%zu L) 0 w1 (ae HB1) (ae HV2) (ae HD2).2.2.2.2.2.2 (.inl ⟨rfl,by rw[hXL];exact hX0⟩) (ae HD2).2.2.2.2.1 (by have h1:=(ae HD2).2.2.1;have h2:=(ae HD2).1;have h3:=ae HDD;omega) (by rw[hno];exact oq (ae HO).1 (ae B1)) (by rw[hno];exact (ae HO).2) (fun j u hj=>(ae HALL j u hj).ah (ae B1)))
 rw[hq0,zk,List.length_nil]
 subst hw0
 clear hq0 hXL hX0 IHA HV1 HD2 HX HW HALL HO
 go_wp2_with fail
 refine (ae A).mono ?_
 rintro e2 w2 ⟨v3,rfl,ho2,hb2,hk2⟩
 have FIN:=af (And.intro ho2 (And.intro (jb ((ae B1).zbl hbs) hb2) ((j6.zgl (ae B1)).trans hk2)))
 rw[ae HXL] at FIN
 clear ho2 hb2 hk2 A
 go_wp2
 go_ret
 exact⟨v3,rfl,(ae FIN).1,(ae FIN).2.1,(ae FIN).2.2⟩)
 ·(
 obtain⟨f1,f2⟩:=zph L X Wd (ae HX) (ae HW) h0
 rw[← (ae HD2).1] at f1 f2
 obtain⟨W',hW'⟩:∃ W',W'=Wd-D:=⟨_,rfl⟩
 rw[← hW'] at f1 f2
 have hmax:max ((Wd:Int)-(D:Int)) 0=(W':Int):=by omega
 have hWl:W'≤D:=by omega
 have hWdl:Wd≤2*D:=by
  have e2:608*2^(L+1)=608*2^L+608*2^L:=by rw[Nat.pow_succ];omega
  have:=(ae HD2).1
  rcases ae HW with h | h <;> omega
 have A:=af (ae IHA ods (.slice oa no oc) (.slice ha (wd 18446744073709551616 (X/zu L)).length hc) (X/zu L) W' w1 (ae HB1) (ae HV1) (ae HD2).2.2.2.2.2.1 (by rw[← (ae HD2).1];exact f2) (ae HD2).2.2.2.1 (by have h1:=(ae HD2).2.1;have h2:=(ae HD2).1;have h3:=ae HDD;omega) (by rw[hno];exact oq (ae HO).1 (ae B1)) (by rw[hno];exact (ae HO).2) (fun j u hj=>(ae HALL j u hj).ah (ae B1)))
 have F1:=af f1
 have WL:Hid (0<(q8 W' (X/zu L)).length∧(q8 W' (X/zu L)).length≤D):=by
  refine⟨zjd _ _ (by have hDp:0<608*2^L:=Nat.mul_pos (by omega) (Nat.pow_pos (by omega));have:=(ae HD2).1;rcases f2 with h | h <;> omega),?_⟩
  rw[zar]
  have:=(ae HD2).2.1
  omega
 have hh0:((((wd 18446744073709551616 (X/zu L)).length:Int)==0)=true→((Wd:Int)==0)=false):=fun h=>by
  have h1:(wd 18446744073709551616 (X/zu L)).length=0:=by have:=beq_iff_eq.1 h;omega
  rw[zi (by omega)] at h1
  rw[beq_eq_false_iff_ne]
  intro h2
  exact h0 ⟨h1,by omega⟩
 clear f1 f2 h0 hW'
 generalize (wd 18446744073709551616 (X/zu L)).length=nh at *
 have hsub64:wrap64 ((Wd:Int)-(D:Int))=(Wd:Int)-(D:Int):=by have:=ae HDD;unfold wrap64;omega
 by_cases hn0:nh=0
 ·(
 have hne:((Wd:Int)==0)=false:=hh0 (by simp[hn0])
 subst hn0
 clear hh0
 go_wp2_with fail
 refine (ae A).mono ?_
 rintro e2 w2 ⟨v3,rfl,ho2,hb2,hk2⟩
 have HB2:=af (jb (ae HB1) hb2)
 have HV22:=af (hk2 _ _ (ae HV2))
 obtain⟨oa2,oc2,rfl⟩:=ko ho2
 have hol:(ods++(q8 W' (X/zu L)).reverse).length=no+(q8 W' (X/zu L)).length:=by rw[List.length_append,List.length_reverse,hno]
 have A2:=af (ae IHA (ods++(q8 W' (X/zu L)).reverse) (.slice oa2 (ods++(q8 W' (X/zu L)).reverse).length oc2) v2 (X%zu L) D w2 (ae HB2) (ae HV22) (ae HD2).2.2.2.2.2.2 (.inr (ae HD2).1) (ae HD2).2.2.2.2.1 (by have h1:=(ae HD2).2.2.1;have h2:=(ae HD2).1;have h3:=ae HDD;have h4:=(ae WL).2;omega) ho2 (.inr (by have h4:=(ae WL).1;omega)) (fun j u hj=>hk2 _ _ ((ae HALL j u hj).ah (ae B1))))
 have K2:=af (And.intro hb2 hk2)
 clear ho2 hb2 hk2 A hol IHA HALL HV22 HB2
 generalize (ods++(q8 W' (X/zu L)).reverse).length=no2 at *
 go_wp2_with fail
 refine (ae A2).mono ?_
 rintro e3 w3 ⟨v4,rfl,ho3,hb3,hk3⟩
 have FIN:=af (And.intro ho3 (And.intro (jb ((ae B1).zbl hbs) (jb (ae K2).1 hb3)) (((j6.zgl (ae B1)).trans (ae K2).2).trans hk3)))
 rw[List.append_assoc,← ae F1] at FIN
 clear ho3 hb3 hk3 A2
 go_wp2
 go_ret
 exact⟨v4,rfl,(ae FIN).1,(ae FIN).2.1,(ae FIN).2.2⟩)
 ·(
 have hne:((nh:Int)==0)=false:=beq_eq_false_iff_ne.2 (by omega)
 clear hh0
 go_wp2_with fail
 refine (ae A).mono ?_
 rintro e2 w2 ⟨v3,rfl,ho2,hb2,hk2⟩
 have HB2:=af (jb (ae HB1) hb2)
 have HV22:=af (hk2 _ _ (ae HV2))
 obtain⟨oa2,oc2,rfl⟩:=ko ho2
 have hol:(ods++(q8 W' (X/zu L)).reverse).length=no+(q8 W' (X/zu L)).length:=by rw[List.length_append,List.length_reverse,hno]
 have A2:=af (ae IHA (ods++(q8 W' (X/zu L)).reverse) (.slice oa2 (ods++(q8 W' (X/zu L)).reverse).length oc2) v2 (X%zu L) D w2 (ae HB2) (ae HV22) (ae HD2).2.2.2.2.2.2 (.inr (ae HD2).1) (ae HD2).2.2.2.2.1 (by have h1:=(ae HD2).2.2.1;have h2:=(ae HD2).1;have h3:=ae HDD;have h4:=(ae WL).2;omega) ho2 (.inr (by have h4:=(ae WL).1;omega)) (fun j u hj=>hk2 _ _ ((ae HALL j u hj).ah (ae B1))))
 have K2:=af (And.intro hb2 hk2)
 clear ho2 hb2 hk2 A hol IHA HALL HV22 HB2
 generalize (ods++(q8 W' (X/zu L)).reverse).length=no2 at *
 go_wp2_with fail
 refine (ae A2).mono ?_
 rintro e3 w3 ⟨v4,rfl,ho3,hb3,hk3⟩
 have FIN:=af (And.intro ho3 (And.intro (jb ((ae B1).zbl hbs) (jb (ae K2).1 hb3)) (((j6.zgl (ae B1)).trans (ae K2).2).trans hk3)))
 rw[List.append_assoc,← ae F1] at FIN
 clear ho3 hb3 hk3 A2
 go_wp2
 go_ret
 exact⟨v4,rfl,(ae FIN).1,(ae FIN).2.1,(ae FIN).2.2⟩)))
theorem zli (L:Nat) (h:L≤20):zpd L:=by(
 induction L with
 | zero=>exact zit
 | succ L ih=>exact ziu L (ih (by omega)) (by omega))
theorem zve (X n:Nat) (h:(wd 18446744073709551616 X).length≤n):(j4 X).length≤20*n:=by(
 refine zau X _ (Nat.lt_of_lt_of_le (ak (B:=18446744073709551616) (by omega) X n h) ?_)
 rw[Nat.pow_mul]
 exact Nat.pow_le_pow_left (by decide) _)
theorem zht (v:Value) (X:Nat) (w:World) (hv:Sl .u64 w v (wd 18446744073709551616 X)) (hl:(wd 18446744073709551616 X).length≤1000000) (htab:Lib.TabIs prog w "internal/strconv.uint64pow10" .u64 Lib.pow10Tab) (t:ByteArray) (ht:Hid (t=⟨(Lib.decDigits X).toArray⟩)) :
   Calls prog 51 #[v] w fun e w'=>e=.returned (.string t)∧But [] w w':=by(
 by_cases hu:X < 18446744073709551616
 ·(
 have H:=af htab
 have HW:=af (zqj v X hu w hv)
 obtain⟨xa,xc,rfl,-,-⟩:=hv
 clear htab
 generalize (wd 18446744073709551616 X).length=n at *
 go_enter func51,ntmps51
 go_wp2_with fail
 refine (ae HW).mono ?_
 rintro e w1 ⟨rfl,hw⟩
 obtain rfl:=hw.symm
 clear hw
 go_wp2_with fail
 refine (zch X hu _ (ae H) t ht).mono ?_
 rintro e w1 ⟨rfl,hb⟩
 go_wp2
 go_ret
 exact⟨rfl,hb⟩)
 ·(
 have hp:0<X:=by omega
 have HW:=af (zod v X (by omega) w hv (by omega))
 have PF:=af (zlz v X w hv hl)
 have HV:=af hv
 have hdl:=zve X _ (Nat.le_refl _)
 have AL:Hid (∀ vo us W,W.ownsRow w.heap.size 111 1 vo us.length us→(∀ j u,us[j]? = some u→Sl .u64 W u (wd 18446744073709551616 (zu j)))→But [] w W→(∀ j,j<us.length→zu j≤X)→X<zu us.length →
  Calls prog 121 #[.slice none 0 0,v,.int .i64 0,vo] W fun e w'=>∃ v',e=.returned v'∧w'.ownsRow W.heap.size 5 1 v' (j4 X).reverse.length ((j4 X).reverse.map u8v)∧But [] W w'):=fun vo us W h1 h2 h3 h4 h5=>by
  have hL:1824*2^us.length<128*1000000+3648:=by
   rcases Nat.eq_zero_or_pos us.length with h0 | h0
   ·rw[h0];omega
   ·obtain⟨j,hj⟩:∃ j,us.length=j+1:=⟨us.length-1,by omega⟩
    have:=zjq X j 1000000 hl (h4 j (by omega))
    rw[hj,Nat.pow_succ]
    omega
  have hL20:us.length≤20:=by
   rcases Nat.lt_or_ge 20 us.length with h | h
   ·have:2^21≤2^us.length:=Nat.pow_le_pow_right (by omega) h
    omega
   ·exact h
  have:=zli us.length hL20 W.heap.size W vo us (.slice none 0 0) [] v X 0 W rfl (zwc h1 h2) rfl (But.refl [] W).below (hv.ah h3) h5 (.inl ⟨rfl,hp⟩) hl (by simp only[List.length_nil];omega) (World.ownsRow_nil _ _ _ _) (.inl rfl) h2
  rw[zfx] at this
  refine this.mono fun e w' ⟨v',e1,e2,e3,_⟩=>⟨v',e1,by simpa using e2,But.of_below e3⟩
 have hrl:0<(j4 X).reverse.length:=by rw[List.length_reverse,lv hp];simp
 have HRR:=af (zfb X hp)
 have hrb:(j4 X).reverse.length≤20000000:=by rw[List.length_reverse];omega
 obtain⟨xa,xc,rfl,-,-⟩:=hv
 clear htab hu hl hdl
 generalize (wd 18446744073709551616 X).length=n at *
 go_enter func51,ntmps51
 go_wp2_with fail
 refine (ae HW).mono ?_
 rintro e w1 ⟨rfl,hw⟩
 obtain rfl:=hw.symm
 clear hw
 go_wp2_with fail
 refine (ae PF).mono ?_
 rintro e w1 ⟨vo,us,rfl,h1,h2,h3,h4,h5⟩
 have B1:=af h3
 have A1:=af (ae AL vo us w1 h1 h2 h3 h4 h5)
 clear h1 h2 h3 h4 h5 AL PF
 go_wp2_with fail
 refine (ae A1).mono ?_
 rintro e w2 ⟨v2,rfl,ho2,hb2⟩
 have hB2:But [] w w2:=(ae B1).trans' hb2
 obtain⟨g,cg,rfl,hg,hcg,hrow⟩:=zbg ho2 hrl
 have hcv:=run_convert_bytes_back (P:=prog) w2 141 9 5 ⟨g,0,none⟩ cg (j4 X).reverse underlying141 underlying5 underlying9 (fun j hj=>zjz hrow j _ (by rw[List.getElem?_map,List.getElem?_eq_getElem hj];rfl))
 rw[ae HRR,← ae ht] at hcv
 rw[ae HRR]
 have HB2:=af hB2
 clear ho2 hb2 hrow hB2 hrl
 generalize (Lib.decDigits X).length=m at *
 go_wp2
 go_ret
 exact⟨rfl,ae HB2⟩))
end Go.Proofs.YtjlfllhedceigaaGreatDoor
