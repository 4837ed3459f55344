/- A whole number is divided by a word: the -/
import Derived.Lib.ItoaMem
import Derived.Laws.IdiomStrings
import Derived.Lib.AppendIntMem
import Derived.Test.YtffghofheeleeaaGreatDoorKF3
namespace Go.Proofs.YtffghofheeleeaaGreatDoor
open Go.Proofs.Tryz
open Go.RowKit
set_option maxHeartbeats 8000000
set_option maxRecDepth 100000
theorem zxj (v:Value) (X d:Nat) (w:World) (hv:Sl .u64 w v (wd 18446744073709551616 X)) (hl:(wd 18446744073709551616 X).length<1073741824) (hd:0<d) (hdB:d < 18446744073709551616) :
  Calls prog 159 #[v,.int .u64 (d:Int)] w fun e w'=>∃ v',e=.returned (.tuple #[v',.int .u64 ((X%d:Nat):Int)])∧Sl .u64 w' v' (wd 18446744073709551616 (X/d))∧But [] w w'∧zbj w.heap.size v':=by
 have mm:=zx (B:=18446744073709551616) (by omega) X
 have em:=jg (B:=18446744073709551616) (by omega) X
 obtain⟨a,c,rfl,hc,hcell,-⟩:=hv
 generalize wd 18446744073709551616 X=xs at *
 subst em
 obtain⟨R,hR⟩:∃ R,R=vl 18446744073709551616 xs%d:=⟨_,rfl⟩
 rw[← hR]
 have HR:=af hR
 have hmk:=fun wx=>om wx xs.length (by omega)
 have HC:=af hcell
 have MM:=af mm
 clear hcell mm hR
 go_enter func159,ntmps159
 go_wp2
 go_loopw [7,8] (fun r i wr=>∃ (k rN:Nat) (rs:List Nat),k≤xs.length∧i=.int .i64 ((k:Int)-1)∧r=.int .u64 rN∧rN<d∧rs.length=xs.length∧Hid (zjd xs rs d k rN∧But [] w wr∧Seg wr w.heap.size 0 rs)) (fun _ i _=>(intOf i+1).toNat)
 case atStart=>exact⟨xs.length,0,List.replicate xs.length 0,Nat.le_refl _,rfl,rfl,hd,by simp,zjd.start xs d hd,(But.refl _ _).alloc _,Seg.made _ _ _⟩
 case round =>
  obtain⟨k,rN,rs,hk,rfl,rfl,hrN,hrl,HI⟩:=hrel
  rename World=>wr
  by_cases hk0:k=0
  ·subst hk0
   have hsl:=(ae HI).2.2.sl xs.length (by omega)
   rw[hrl] at hsl
   have HSL:=af hsl
   have HF:=af (ae HI).1.fin
   have hln:rs.length<2147483648:=by omega
   clear hsl HC
   go_wp2_with fail
   refine (qp _ rs _ (ae HSL) (ae HI).1.mem hln).mono ?_
   rintro e w1 ⟨v1,rfl,hv1,hw,hsb⟩
   obtain rfl:=hw.symm
   clear hw
   rw[(ae HF).1] at hv1
   have HV1:=af hv1
   have HSB:=af hsb
   clear hsb
   have er:Hid (rN=R):=by show _=_;rw[ae HR];exact (ae HF).2
   clear hv1
   go_wp2
   go_ret2
   exact⟨v1,by rw[← ae er];rfl,ae HV1,(ae HI).2.1,pg (ae HSB) (Nat.le_refl _)⟩
  ·obtain⟨i,rfl⟩:∃ i,k=i+1:=⟨k-1,by omega⟩
   obtain⟨b,off,rfl,hci⟩:=ae HC i (by omega)
   have cx:=(ae HI).2.1.ag hci (by simp)
   have hxB:xs[i]?.getD 0 < 18446744073709551616:=cm (ae MM) (by omega) i
   obtain⟨cr,fr⟩:=(ae HI).2.2 i (by omega)
   rw[Nat.zero_add] at cr fr
   obtain⟨q,hq⟩:∃ q,(rN * 18446744073709551616+xs[i]?.getD 0)/d=q:=⟨_,rfl⟩
   obtain⟨r',hr'⟩:∃ r',(rN * 18446744073709551616+xs[i]?.getD 0)%d=r':=⟨_,rfl⟩
   obtain⟨hqB,hst⟩:=(ae HI).1.step (by omega) hxB q r' hq hr'
   have hr'd:r' < d:=hst.lt
   have ST:=af hst
   have DV:=af (znp rN (xs[i]?.getD 0) d hdB hxB hrN wr q r' hq hr')
   have hset:=(ae HI).2.2.set i (by omega) q
   rw[Nat.zero_add] at hset
   have HSET:=af hset
   clear hset hst hci hq hr'
   generalize xs[i]?.getD 0=x at *
   generalize rs[i]?.getD 0=r0 at cr
   rw[show (((i+1:Nat):Int)-1)=(i:Int) from by omega]
   go_wp2_with fail
   refine (ae DV).mono ?_
   rintro e w1 ⟨rfl,n,rfl⟩
   go_wp2
   refine⟨⟨i,r',rs.set i q,by omega,rfl,rfl,hr'd,by rw[List.length_set];exact hrl,ae ST,((ae HI).2.1.drewN n).setCell (.inr (Nat.le_refl _)) _,?_⟩,?_⟩
   ·exact ae HSET
   ·simp[intOf]
theorem zfu (w:World) (base:Nat) (v:Value) (ds:List UInt8) (hown:w.ownsRow base 5 1 v ds.length (ds.map u8v)) (a:Addr) (d:UInt8) (hc:w.cell? a=some (u8v d)) (hl:ds.length<1073741824) (hb:base≤w.heap.size) :
  ∃ v' w',(Builtin.append_ #[152,152] 152 #[v,.slice (some a) 1 1]).run prog w=.ok v' w'∧w'.ownsRow base 5 1 v' (ds++[d]).length ((ds++[d]).map u8v)∧w.grownBy w' v.ownBlock∧(v'.ownBlock=v.ownBlock∨∀ k,v'.ownBlock=some k→w.heap.size≤k):=by
 obtain⟨i0,hi,hz0,hz1,hz2⟩:=zpr
 have hnews:∀ j u,[u8v d][j]? = some u→w.cell? (a.add j)=some u:=fun j u hj=>by
  cases j with
  | zero=>simp at hj;subst hj;rw[show a.add 0=a from by simp[Addr.add]];exact hc
  | succ j=>simp at hj
 have h1:∀ u ∈ [u8v d],u.oneCell'=true:=fun u hu=>by simp at hu;subst hu;rfl
 have hrun:=fun (base:Nat) (ho:w.ownsRow base 5 1 v ds.length (ds.map u8v)) (hb:base≤w.heap.size)=>run_append_own (P:=prog) w base 152 152 5 i0 (.int .u8 0) 1 1 underlying152 hi hz0 hz1 hz2 rfl (by decide) v ds.length (ds.map u8v) ho a 1 1 [u8v d] rfl hnews h1 (by unfold maxLen;omega) (by omega) hb
 obtain⟨v',w',hr,ho',hg',-⟩:=hrun base hown hb
 refine⟨v',w',hr,by rw[List.length_append,List.map_append];exact ho',hg',?_⟩
 rcases hown.2 with ⟨rfl,-⟩|⟨g,cap,cur,rfl,-,hgc,hnc,hcm,hcs,htake⟩
 ·have hd:ds=[]:=by
   obtain⟨hx,hy|⟨g,cap,cur,e,-⟩⟩:=hown
   ·exact List.eq_nil_of_length_eq_zero hy.2
   ·simp at e
  subst hd
  obtain⟨v2,w2,hr2,ho2,-,-⟩:=hrun w.heap.size (World.ownsRow_nil _ _ _ _) (Nat.le_refl _)
  rw[hr] at hr2
  simp only[Result.ok.injEq] at hr2
  obtain⟨rfl,rfl⟩:=hr2
  exact .inr fun k hk=>(ho2.lt k hk).1
 ·by_cases hroom:ds.length+1≤cap
  ·have h2:=run_append_room (P:=prog) w 152 152 5 i0 underlying152 hi g ds.length cap cur hgc a 1 1 [u8v d] (by rw[hz1];rfl) hnews h1 hroom (by rw[hz1,hcs];simp;omega)
   rw[hr] at h2
   simp only[Result.ok.injEq] at h2
   rw[h2.1]
   exact .inl rfl
  ·have h2:=run_append_grow (P:=prog) w 152 152 5 i0 (.int .u8 0) underlying152 hi hz0 ⟨g,0,none⟩ ds.length cap (ds.map u8v) (by rw[hz1];simp) (hown.cells rfl) a 1 1 [u8v d] (by rw[hz1];rfl) hnews (by omega) (by omega) (growslice_fits (by omega) (by rw[hz2];omega))
   rw[hr] at h2
   simp only[Result.ok.injEq] at h2
   rw[h2.1]
   refine .inr fun k hk=>?_
   simp only[Value.ownBlock,Option.some.injEq] at hk
   omega
def qph (vb vx:Value):Prop:=∀ k,vb.ownBlock=some k→∀ b off n c,vx=.slice (some ⟨b,off,none⟩) n c→b≠k
theorem qph.grow {w w':World} {vb vb' vx:Value} {xs:List Nat} {o:Obj} (h:qph vb vx) (hs:Sl .u64 w vx xs) (h0:0<xs.length) (hg:(w.alloc o).grownBy w' vb.ownBlock) (hb:vb'.ownBlock=vb.ownBlock∨∀ k,vb'.ownBlock=some k→(w.alloc o).heap.size≤k):Sl .u64 w' vx xs∧qph vb' vx:=by
 constructor
 ·have h1:=hs.ah ((But.refl [] w).alloc o)
  cases hr:vb.ownBlock with
  | none=>rw[hr] at hg;exact h1.ah (zby hg)
  | some g=>rw[hr] at hg;exact h1.but (zjn hg) (fun b off cap n e=>by have:=h g hr b off n cap e;simp;omega)
 ·intro k hk b off n c e
  rcases hb with hb | hb
  ·rw[hb] at hk;exact h k hk b off n c e
  ·have h1:=hb k hk
   have h2:=hs.lt h0 b off n c e
   simp at h1
   omega
theorem zqn {w:World} {g:Nat} {es:List UInt8} (h:Row .u8 w g (es.map UInt8.toNat)):∀ j u,(es.map u8v)[j]? = some u→w.cell? ((⟨g,0,none⟩:Addr).add j)=some u:=fun j u hj=>by
 rw[List.getElem?_map] at hj
 rcases Nat.lt_or_ge j es.length with hl | hl
 ·rw[List.getElem?_eq_getElem hl] at hj
  simp only[Option.map_some,Option.some.injEq] at hj
  have h1:=(h j (by rw[List.length_map];exact hl)).1
  rw[List.getElem?_map,List.getElem?_eq_getElem hl] at h1
  have e:(⟨g,0,none⟩:Addr).add j=⟨g,j,none⟩:=by by_cases h:j=0 <;> simp[Addr.add,h]
  rw[e,h1,← hj]
  rfl
 ·rw[List.getElem?_eq_none hl] at hj
  simp at hj
theorem qjp {q:Nat} (h:1<(wd 18446744073709551616 q).length):10000000000000000000≤q:=by
 rcases Nat.lt_or_ge q 18446744073709551616 with h1 | h1
 ·have:=aj (B:=18446744073709551616) (by omega) q 1 (by rw[Nat.pow_one];exact h1)
  omega
 ·omega
structure qrj (w:World) (n m:Nat) (ds:List UInt8) (vb vx:Value) (wr:World):Prop where
 words:Sl .u64 wr vx (wd 18446744073709551616 m)
 own:wr.ownsRow w.heap.size 5 1 vb ds.length (ds.map u8v)
 but:But [] w wr
 dig:oz n=ds++oz m
 pos:0<n→0<m
 len:(wd 18446744073709551616 m).length<1048576
theorem zpf (base:Nat) (vo:Value) (ods:List UInt8) (v:Value) (X Wd:Nat) (w:World) (hv:Sl .u64 w v (wd 18446744073709551616 X)) (hX:0<X∨0<Wd) (hl:(wd 18446744073709551616 X).length<1048576) (hd:ods.length+(oz X).length+Wd<1073741000) (ho:w.ownsRow base 5 1 vo ods.length (ods.map u8v)) (hn:vo=.slice none 0 0∨0<ods.length) (hbase:base≤w.heap.size) :
  Calls prog 141 #[vo,v,.int .i64 (Wd:Int)] w fun e w'=>∃ v',e=.returned v'∧w'.ownsRow base 5 1 v' (ods++(yj Wd X).reverse).length ((ods++(yj Wd X).reverse).map u8v)∧Below base w w'∧o7 w w':=by
 have HO:=af ho
 have HN:=af hn
 have HBS:=af hbase
 obtain⟨oa,oc,rfl⟩:=ul ho
 clear ho hn hbase
 have HV:=af hv
 clear hv
 obtain⟨xa,xc,rfl,-,-⟩:=ae HV
 have HX:=af hX
 have HD:=af hd
 clear hX hd
 generalize hno:ods.length=no at *
 have HNO:=af hno
 clear hno
 go_enter func141,ntmps141
 go_wp2
 go_loopg [7,1] X (fun m vb vx wr=>∃ ds:List UInt8,qrj w X m ds vb vx wr)
 case atStart=>exact⟨[],⟨ae HV,World.ownsRow_nil _ _ _ _,But.refl _ _,rfl,fun h=>h,hl⟩⟩
 case round =>
  obtain⟨ds,hI⟩:=hrel
  rename World=>wr
  obtain⟨hsl,hown,hbut,hdig,hpos,hlen⟩:=hI
  have hdl:ds.length<1073741000:=by have:=congrArg List.length hdig;have h2:=ae HD;rw[List.length_append] at this;omega
  have HSL:=af hsl
  obtain⟨aa,ca,rfl,-,-⟩:=hsl
  have HDG:=af hdig
  have HOWN:=af hown
  have HBUT:=af hbut
  clear hdig hown hbut
  by_cases hm:1<(wd 18446744073709551616 gk).length
  ·have h19:=qjp hm
   obtain⟨m',hm'⟩:∃ m',m'=gk/10000000000000000000:=⟨_,rfl⟩
   obtain⟨r0,hr0⟩:∃ r0,r0=gk%10000000000000000000:=⟨_,rfl⟩
   have hmp:0<m':=by omega
   have hml:(wd 18446744073709551616 m').length≤(wd 18446744073709551616 gk).length:=aw (by omega)
   have BW:=af (zxj _ gk 10000000000000000000 wr (ae HSL) (by omega) (by omega) (by omega))
   rw[← hm',← hr0] at BW
   have hDP:Hid (oz gk=uj 19 r0++oz m'):=by
    show _=_
    have h:=zmx 19 gk (by exact h19)
    rw[← zlj 19 gk] at h
    rw[hm',hr0]
    exact h
   have hr0l:r0<10000000000000000000:=by omega
   have hlt':m' < gk:=by rw[hm'];exact Nat.div_lt_self (by omega) (by omega)
   have HML:=af hml
   clear hm' hr0 hml h19
   generalize hla:(wd 18446744073709551616 gk).length=la at *
   clear hla
   have hwl:Hid (0<(wd 18446744073709551616 m').length):=by show _<_;rw[Nat.pos_iff_ne_zero];intro e;rw[zt (by omega)] at e;omega
   go_wp2_with fail
   refine (ae BW).mono ?_
   rintro e w2 ⟨v2,rfl,hv2,hb2,hf2⟩
   have HV2:=af hv2
   have HOWN2:=af (zdg (ae HOWN) hb2)
   have HBUT2:Hid (But [] w w2):=(ae HBUT).trans' hb2
   have HOFF:Hid (qph u7 v2):=fun k hk b off n c e=>by
    have h1:=((ae HOWN).lt k hk).2
    have h2:=hf2 b off n c e
    omega
   clear hv2 hb2 hf2
   go_wp2_with fail
   go_loopw [7,8,18] (fun vb rest c wq=>∃ j q:Nat,j≤19∧c=.int .i64 j∧rest=.int .u64 q∧q<10000000000000000000∧Hid (q=r0/10^j∧wq.ownsRow w.heap.size 5 1 vb (ds++uj j r0).length ((ds++uj j r0).map u8v)∧But [] w wq∧Sl .u64 wq v2 (wd 18446744073709551616 m')∧qph vb v2)) (fun _ _ c _=>19-(intOf c).toNat)
   case atStart=>exact⟨0,r0,by omega,rfl,rfl,hr0l,by simp,by simpa [uj] using ae HOWN2,ae HBUT2,ae HV2,ae HOFF⟩
   case round =>
    obtain⟨j,q,hj,rfl,rfl,hq,HI⟩:=hrel
    rename World=>wq
    by_cases hj19:j=19
    ·subst hj19
     have HIK:=af (ae HI).2
     clear HI
     go_wp2
     go_roundg m'
     case measure=>exact hlt'
     case rel =>
      obtain⟨k1,k2,k3,-⟩:=ae HIK
      refine⟨ds++uj 19 r0,k3,k1,k2,?_,fun _=>hmp,by have:=ae HML;omega⟩
      rw[ae HDG,ae hDP,List.append_assoc]
    ·have hj2:j<19:=by omega
     obtain⟨dg,hdg⟩:∃ dg,dg=q%10:=⟨_,rfl⟩
     obtain⟨q',hq'⟩:∃ q',q'=q/10:=⟨_,rfl⟩
     have hd10:dg<10:=by omega
     have hq2:q' < 10000000000000000000:=by omega
     have e1:(q:Int)%10=(dg:Int):=by omega
     have e2:(q:Int)/10=(q':Int):=by omega
     have e3:(q:Int).tmod 10=(dg:Int):=by rw[Int.tmod_eq_emod_of_nonneg (by omega)];exact e1
     have e4:(q:Int).tdiv 10=(q':Int):=by rw[Int.tdiv_eq_ediv_of_nonneg (by omega)];exact e2
     have hqj:Hid (q'=r0/10^(j+1)∧uj (j+1) r0=uj j r0++[UInt8.ofNat (48+dg)]):=by
      constructor
      ·rw[hq',(ae HI).1,Nat.div_div_eq_div_mul,Nat.pow_succ]
      ·rw[zum,← (ae HI).1,← hdg]
     have hld:(ds++uj j r0).length<1073741824:=by rw[List.length_append,zoh];omega
     have hAB:=zfu (wq.alloc (.cells #[.int .u8 (48+(dg:Int))] 5)) w.heap.size u7 (ds++uj j r0) ((ae HI).2.1.alloc _) ⟨wq.heap.size,0,none⟩ (UInt8.ofNat (48+dg)) (by rw[← zmp dg hd10];simp) hld (by have:=(ae HI).2.2.1.size;simp;omega)
     obtain⟨v3,w3,hr3,ho3,hg3,hb3⟩:=hAB
     have hB3:But [] w w3:=((ae HI).2.2.1.alloc _).grown hg3 (fun k hk=>((ae HI).2.1.lt k hk).1)
     obtain⟨hS3,hO3⟩:=(ae HI).2.2.2.2.grow (ae HI).2.2.2.1 (ae hwl) hg3 hb3
     have ALL:=af (And.intro ho3 (And.intro hB3 (And.intro hS3 hO3)))
     have HR3:=af hr3
     clear ho3 hB3 hS3 hO3 hg3 hb3 hr3 hld hdg hq'
     go_wp2_with (at_builtin;refine qw rfl _ _ 152 152 rfl _ _ v3 w3 rfl rfl (ae HR3) ?_)
     refine⟨⟨j+1,q',by omega,by go_num,rfl,hq2,(ae hqj).1,?_,(ae ALL).2.1,(ae ALL).2.2.1,(ae ALL).2.2.2⟩,?_⟩
     ·rw[(ae hqj).2,← List.append_assoc];exact (ae ALL).1
     ·simp[intOf];omega
  ·by_cases hg0:gk=0
   ·subst hg0
    have HOWNt:=HOWN
    have HBUTt:=HBUT
    rw[zq,List.length_nil]
    have hdg:=ae HDG
    rw[zbd,List.append_nil] at hdg
    clear HSL hlen hpos hm HDG
    have hE:oz X=ds:=hdg
    clear hdg
    have PAD0:Hid (wr.ownsRow w.heap.size 5 1 u7 (ds++List.replicate 0 48).length ((ds++List.replicate 0 48).map u8v)∧But [] w wr):=by
     rw[List.replicate_zero,List.append_nil];exact⟨ae HOWN,ae HBUT⟩
    have HEX:=af hE
    have hel2:ds.length+Wd<1073741000:=by have:=ae HD;rw[hE] at this;omega
    clear hE
    go_wp2_with fail
    go_loopg [7] (Wd-ds.length) (fun k vb wp=>∃ j:Nat,j+k=Wd-ds.length∧Hid (wp.ownsRow w.heap.size 5 1 vb (ds++List.replicate j 48).length ((ds++List.replicate j 48).map u8v)∧But [] w wp))
    case atStart=>exact⟨0,by omega,PAD0⟩
    case round =>
     clear PAD0
     obtain⟨j,hjk,HP⟩:=hrel
     rename World=>wp
     obtain⟨pa,pc,hpe⟩:=ul (ae HP).1
     have hpl:(ds++List.replicate j 48).length=ds.length+j:=by rw[List.length_append,List.length_replicate]
     by_cases hk0:gk=0
     ·subst hk0
      have hfs:ds++List.replicate j (48:UInt8)=yj Wd X:=by rw[yj,ae HEX,show j=Wd-ds.length from by omega]
      have hfl:0<(yj Wd X).length:=zpt Wd X (ae HX)
      have hown:=(ae HP).1
      rw[hfs] at hown hpl
      obtain⟨g,cg,hg7,hgb,hcg,hrow⟩:=zgf hown hfl
      rw[hg7] at hpe
      subst hg7
      have HGB:=af hgb
      have RV:=af (zod g cg ((yj Wd X).map UInt8.toNat) wp hrow (by simpa using hfl) (by rw[List.length_map];omega))
      rw[List.length_map] at RV
      have BUT:=af (ae HP).2
      have hlw:(yj Wd X).length<1073741000:=by omega
      have hwle:(Wd:Int)≤((yj Wd X).length:Int):=by omega
      have HLW:Hid (no+(yj Wd X).length<1073741000):=by
       have h1:=ae HD
       have h2:=zfk Wd X
       show _<_
       omega
      clear hown hrow hgb hcg HP hfs hfl hpe hpl hjk
      generalize hne:(yj Wd X).length=ne at *
      go_wp2_with fail
      refine (ae RV).mono ?_
      rintro e w4 ⟨rfl,hr4,hb4⟩
      rw[← List.map_reverse] at hr4
      obtain⟨i0,hi,hz0,hz1,hz2⟩:=zpr
      have hB4:But [] w w4:=(ae BUT).trans hb4 (fun x hx=>by simp at hx;subst hx;exact .inr (ae HGB))
      have hO4:=zdg (ae HO) hB4
      have hbs:=ae HBS
      have hlw2:=ae HLW
      obtain⟨v5,w5,hr5,ho5,hg5,-⟩:=run_append_own (P:=prog) w4 base 152 152 5 i0 (.int .u8 0) 1 1 underlying152 hi hz0 hz1 hz2 rfl (by decide) (.slice oa no oc) no (ods.map u8v) hO4 ⟨g,0,none⟩ ne cg ((yj Wd X).reverse.map u8v) (by rw[List.length_map,List.length_reverse,hne,Nat.mul_one]) (zqn hr4) (fun u hu=>by obtain⟨x,-,rfl⟩:=List.mem_map.1 hu;rfl) (by unfold maxLen;omega) (by omega) (Nat.le_trans hbs hB4.size)
      have hK:o7 w w5:=(o7.znh hB4).trans (zrx (ods:=ods) (by rw[ae HNO];exact hO4) (by rw[ae HNO];exact ae HN) hg5)
      have hBe:Below base w w5:=di (hB4.zgs hbs) (below_grown hO4 (Nat.le_trans hbs hB4.size) hg5)
      have ALL:=af (And.intro ho5 (And.intro hBe hK))
      have HR5:=af hr5
      clear ho5 hBe hK hr5 hg5 hr4 hb4 hB4 hO4 hi hz0 hz1 hz2 hbs hlw2
      go_wp2_with (at_builtin;refine qw rfl _ _ 152 152 rfl _ _ v5 w5 rfl rfl (ae HR5) ?_)
      go_ret
      refine⟨v5,rfl,?_,(ae ALL).2.1,(ae ALL).2.2⟩
      rw[List.length_append,List.length_reverse,hne,ae HNO,List.map_append]
      exact (ae ALL).1
     ·have hAB:=zfu (wp.alloc (.cells #[.int .u8 48] 5)) w.heap.size u7 (ds++List.replicate j 48) ((ae HP).1.alloc _) ⟨wp.heap.size,0,none⟩ 48 (by simp[u8v]) (by omega) (by have:=(ae HP).2.size;simp;omega)
      obtain⟨v3,w3,hr3,ho3,hg3,-⟩:=hAB
      have hB3:But [] w w3:=((ae HP).2.alloc _).grown hg3 (fun k hk=>((ae HP).1.lt k hk).1)
      rw[List.append_assoc,← List.replicate_succ'] at ho3
      have ALL:=af (And.intro ho3 hB3)
      rw[hpe] at hr3
      have HR3:=af hr3
      subst hpe
      have hlt:((ds++List.replicate j (48:UInt8)).length:Int)<(Wd:Int):=by omega
      have hrl:j+1+(gk-1)=Wd-ds.length:=by omega
      have HRL:=af hrl
      clear ho3 hB3 hg3 hr3 hjk hpl HP hrl
      generalize (ds++List.replicate j (48:UInt8)).length=np at *
      go_wp2_with (at_builtin;refine qw rfl _ _ 152 152 rfl _ _ v3 w3 rfl rfl (ae HR3) ?_)
      go_roundg (gk-1)
      case measure=>omega
      case rel=>exact⟨j+1,ae HRL,ae ALL⟩
   have hpos:0<gk:=by omega
   have hl1:(wd 18446744073709551616 gk).length=1:=by
    have:(wd 18446744073709551616 gk).length≠0:=by intro e;rw[zt (by omega)] at e;omega
    omega
   have hgB:gk < 18446744073709551616:=by
    have:=am (B:=18446744073709551616) (by omega) gk 1 (by omega)
    rw[Nat.pow_one] at this;exact this
   have hcell:∃ b off,aa=some ⟨b,off,none⟩∧wr.cell? ⟨b,off,none⟩=some (.int .u64 (gk:Int)):=by
    rcases (ae HSL).open with ⟨e,-⟩|⟨-,b,off,c,e,-,-,hc⟩
    ·rw[e] at hl1;simp at hl1
    ·simp only[Value.slice.injEq] at e
     have h:=hc 0 (by omega)
     rw[Nat.add_zero,zgt gk hpos hgB] at h
     exact⟨b,off,e.1,h⟩
   obtain⟨b,off,rfl,hc0⟩:=hcell
   have HCUR:=af hpos
   rw[hl1]
   clear hm hl1 hlen HSL
   go_wp2
   go_loopg [7,9] gk (fun m vb rest wq=>∃ es:List UInt8,rest=.int .u64 (m:Int)∧m < 18446744073709551616∧Hid (oz X=es++oz m∧wq.ownsRow w.heap.size 5 1 vb es.length (es.map u8v)∧But [] w wq))
   case atStart=>exact⟨ds,rfl,hgB,ae HDG,ae HOWN,ae HBUT⟩
   case round =>
    obtain⟨es,rfl,hmB,HI⟩:=hrel
    rename World=>wq
    clear hc0
    have hel:es.length<1073741000:=by have:=congrArg List.length (ae HI).1;have h2:=ae HD;rw[List.length_append] at this;omega
    by_cases h0:gk=0
    ·subst h0
     have hE0:oz X=es:=by have:=(ae HI).1;rw[zbd,List.append_nil] at this;exact this
     have hE:oz X=es:=hE0
     clear hE0
     have PAD0:Hid (wq.ownsRow w.heap.size 5 1 u7 (es++List.replicate 0 48).length ((es++List.replicate 0 48).map u8v)∧But [] w wq):=by
      rw[List.replicate_zero,List.append_nil];exact⟨(ae HI).2.1,(ae HI).2.2⟩
     have HEX:=af hE
     have hel2:es.length+Wd<1073741000:=by have:=ae HD;rw[hE] at this;omega
     clear hE
     go_wp2_with fail
     go_loopg [7] (Wd-es.length) (fun k vb wp=>∃ j:Nat,j+k=Wd-es.length∧Hid (wp.ownsRow w.heap.size 5 1 vb (es++List.replicate j 48).length ((es++List.replicate j 48).map u8v)∧But [] w wp))
     case atStart=>exact⟨0,by omega,PAD0⟩
     case round =>
      clear PAD0
      obtain⟨j,hjk,HP⟩:=hrel
      rename World=>wp
      obtain⟨pa,pc,hpe⟩:=ul (ae HP).1
      have hpl:(es++List.replicate j 48).length=es.length+j:=by rw[List.length_append,List.length_replicate]
      by_cases hk0:gk=0
      ·subst hk0
       have hfs:es++List.replicate j (48:UInt8)=yj Wd X:=by rw[yj,ae HEX,show j=Wd-es.length from by omega]
       have hfl:0<(yj Wd X).length:=zpt Wd X (ae HX)
       have hown:=(ae HP).1
       rw[hfs] at hown hpl
       obtain⟨g,cg,hg7,hgb,hcg,hrow⟩:=zgf hown hfl
       rw[hg7] at hpe
       subst hg7
       have HGB:=af hgb
       have RV:=af (zod g cg ((yj Wd X).map UInt8.toNat) wp hrow (by simpa using hfl) (by rw[List.length_map];omega))
       rw[List.length_map] at RV
       have BUT:=af (ae HP).2
       have hlw:(yj Wd X).length<1073741000:=by omega
       have hwle:(Wd:Int)≤((yj Wd X).length:Int):=by omega
       have HLW:Hid (no+(yj Wd X).length<1073741000):=by
        have h1:=ae HD
        have h2:=zfk Wd X
        show _<_
        omega
       clear hown hrow hgb hcg HP hfs hfl hpe hpl hjk
       generalize hne:(yj Wd X).length=ne at *
       go_wp2_with fail
       refine (ae RV).mono ?_
       rintro e w4 ⟨rfl,hr4,hb4⟩
       rw[← List.map_reverse] at hr4
       obtain⟨i0,hi,hz0,hz1,hz2⟩:=zpr
       have hB4:But [] w w4:=(ae BUT).trans hb4 (fun x hx=>by simp at hx;subst hx;exact .inr (ae HGB))
       have hO4:=zdg (ae HO) hB4
       have hbs:=ae HBS
       have hlw2:=ae HLW
       obtain⟨v5,w5,hr5,ho5,hg5,-⟩:=run_append_own (P:=prog) w4 base 152 152 5 i0 (.int .u8 0) 1 1 underlying152 hi hz0 hz1 hz2 rfl (by decide) (.slice oa no oc) no (ods.map u8v) hO4 ⟨g,0,none⟩ ne cg ((yj Wd X).reverse.map u8v) (by rw[List.length_map,List.length_reverse,hne,Nat.mul_one]) (zqn hr4) (fun u hu=>by obtain⟨x,-,rfl⟩:=List.mem_map.1 hu;rfl) (by unfold maxLen;omega) (by omega) (Nat.le_trans hbs hB4.size)
       have hK:o7 w w5:=(o7.znh hB4).trans (zrx (ods:=ods) (by rw[ae HNO];exact hO4) (by rw[ae HNO];exact ae HN) hg5)
       have hBe:Below base w w5:=di (hB4.zgs hbs) (below_grown hO4 (Nat.le_trans hbs hB4.size) hg5)
       have ALL:=af (And.intro ho5 (And.intro hBe hK))
       have HR5:=af hr5
       clear ho5 hBe hK hr5 hg5 hr4 hb4 hB4 hO4 hi hz0 hz1 hz2 hbs hlw2
       go_wp2_with (at_builtin;refine qw rfl _ _ 152 152 rfl _ _ v5 w5 rfl rfl (ae HR5) ?_)
       go_ret
       refine⟨v5,rfl,?_,(ae ALL).2.1,(ae ALL).2.2⟩
       rw[List.length_append,List.length_reverse,hne,ae HNO,List.map_append]
       exact (ae ALL).1
      ·have hAB:=zfu (wp.alloc (.cells #[.int .u8 48] 5)) w.heap.size u7 (es++List.replicate j 48) ((ae HP).1.alloc _) ⟨wp.heap.size,0,none⟩ 48 (by simp[u8v]) (by omega) (by have:=(ae HP).2.size;simp;omega)
       obtain⟨v3,w3,hr3,ho3,hg3,-⟩:=hAB
       have hB3:But [] w w3:=((ae HP).2.alloc _).grown hg3 (fun k hk=>((ae HP).1.lt k hk).1)
       rw[List.append_assoc,← List.replicate_succ'] at ho3
       have ALL:=af (And.intro ho3 hB3)
       rw[hpe] at hr3
       have HR3:=af hr3
       subst hpe
       have hlt:((es++List.replicate j (48:UInt8)).length:Int)<(Wd:Int):=by omega
       have hrl:j+1+(gk-1)=Wd-es.length:=by omega
       have HRL:=af hrl
       clear ho3 hB3 hg3 hr3 hjk hpl HP hrl
       generalize (es++List.replicate j (48:UInt8)).length=np at *
       go_wp2_with (at_builtin;refine qw rfl _ _ 152 152 rfl _ _ v3 w3 rfl rfl (ae HR3) ?_)
       go_roundg (gk-1)
       case measure=>omega
       case rel=>exact⟨j+1,ae HRL,ae ALL⟩
    ·have hp:0<gk:=by omega
     obtain⟨dg,hdg⟩:∃ dg,dg=gk%10:=⟨_,rfl⟩
     obtain⟨q',hq'⟩:∃ q',q'=gk/10:=⟨_,rfl⟩
     have hd10:dg<10:=by omega
     have hq2:q' < 18446744073709551616:=by omega
     have hlt':q' < gk:=by omega
     have e0:((gk:Int) != 0)=true:=by simp;omega
     have e1:(gk:Int)%10=(dg:Int):=by omega
     have e2:(gk:Int)/10=(q':Int):=by omega
     have e3:(gk:Int).tmod 10=(dg:Int):=by rw[Int.tmod_eq_emod_of_nonneg (by omega)];exact e1
     have e4:(gk:Int).tdiv 10=(q':Int):=by rw[Int.tdiv_eq_ediv_of_nonneg (by omega)];exact e2
     have hqj:Hid (oz X=(es++[UInt8.ofNat (48+dg)])++oz q'):=by
      show _=_
      rw[(ae HI).1,zbt hp,← hdg,← hq',List.append_assoc];rfl
     have hAB:=zfu (wq.alloc (.cells #[.int .u8 (48+(dg:Int))] 5)) w.heap.size u7 es ((ae HI).2.1.alloc _) ⟨wq.heap.size,0,none⟩ (UInt8.ofNat (48+dg)) (by rw[← zmp dg hd10];simp) (by omega) (by have:=(ae HI).2.2.size;simp;omega)
     obtain⟨v3,w3,hr3,ho3,hg3,-⟩:=hAB
     have hB3:But [] w w3:=((ae HI).2.2.alloc _).grown hg3 (fun k hk=>((ae HI).2.1.lt k hk).1)
     have ALL:=af (And.intro ho3 hB3)
     have HR3:=af hr3
     clear ho3 hB3 hg3 hr3 hdg hq'
     go_wp2_with (at_builtin;refine qw rfl _ _ 152 152 rfl _ _ v3 w3 rfl rfl (ae HR3) ?_)
     go_roundg q'
     case measure=>exact hlt'
     case rel=>exact⟨_,rfl,hq2,ae hqj,(ae ALL).1,(ae ALL).2⟩
open Go.RowKit Go.Sort Go.Lib
theorem holds_zero0 (w:World) (T:TypeId) (nd:Nat) (hs:nd≤24):Holds (fun (b:UInt8)=>Value.int .u8 (b.toNat:Int)) (w.alloc (.cells zeros24 T)) w.heap.size 0 (Array.replicate nd (0:UInt8)):=fun j hj=>by
 rw[Array.size_replicate] at hj
 refine⟨?_,by simp⟩
 rw[World.cell?_alloc_new,zeros24_at _ (by omega),getElem!_pos _ j (by rw[Array.size_replicate];exact hj)]
 simp
theorem zsd (u:Nat) (hu:u<18446744073709551616) (w:World) (htab:Lib.TabIs prog w "internal/strconv.uint64pow10" .u64 Lib.pow10Tab) (t:ByteArray) (ht:Hid (t=⟨(Lib.decDigits u).toArray⟩)) :
  Calls prog 140 #[.int .u64 u,.int .i64 10] w fun e w'=>e=.returned (.string t)∧But [] w w':=by
 by_cases hs:u<100
 ·have H:=af htab
  clear htab
  go_enter func140,ntmps140
  go_wp2_with fail
  refine (Tryz.internal_strconv_small u hs _).mono ?_
  rintro e w1 ⟨rfl,hw⟩
  obtain rfl:=hw.symm
  clear hw
  rw[← ae ht]
  clear ht
  go_wp2
  go_ret
  exact⟨rfl,But.refl _ _⟩
 ·have hu1:1≤u:=by omega
  have hnd20:Lib.nDigits u≤20:=by have:=Lib.numDigits_eq u hu1 hu;split at this <;> omega
  have H:=af htab
  clear htab
  go_enter func140,ntmps140
  go_wp2_with fail
  refine (Tryz.internal_strconv_numDigits u hu1 hu _ (Lib.tabIs_alloc (ae H) _)).mono ?_
  rintro e w1 ⟨rfl,hw⟩
  obtain rfl:=hw.symm
  clear hw
  have hH0:=holds_zero0 w 220 (Lib.nDigits u) (by omega)
  have hfmt:=af (Tryz.internal_strconv_formatBase10 w.heap.size 0 24 u (Array.replicate (Lib.nDigits u) 0) (w.alloc (.cells Lib.zeros24 220)) hH0 (by rw[Array.size_replicate];exact Lib.lt_pow_nDigits u) hu (by rw[Array.size_replicate];omega))
  rw[Array.size_replicate] at hfmt
  have HH:=af hH0
  clear hH0
  have hnl:=Lib.decDigits_length u
  have HND:=af hnl
  clear hnl
  generalize hndd:Lib.nDigits u=nd at *
  have HE:=af hndd
  clear hndd
  have hal:prog.arrayLen 220 = 24:=by kernel_rfl
  have hsl:∀ W,(Instr.sliceAt 220 (.pointer (some ⟨w.heap.size,0,none⟩)) none (some (.int .i64 (nd:Int))) none).run prog W=.ok (.slice (some ⟨w.heap.size,0,none⟩) nd 24) W:=fun W=>by
   rw[run_sliceAt_array_h W 220 ⟨w.heap.size,0,none⟩ (by kernel_rfl) .i64 (nd:Int) (by omega) (by rw[hal];omega)]
   go_simp
  go_wp2_with fail
  refine (ae hfmt).mono ?_
  rintro e w1 ⟨rfl,k,v',dk,hw1,hF⟩
  have hF':FmtInv (Lib.nDigits u) u 0 v' dk:=by rw[ae HE];exact hF
  have hcv:(convert 152 9 (.slice (some ⟨w.heap.size,0,none⟩) nd 24)).run prog w1=.ok (.string t) w1:=by
   have h:=run_convert_bytes_back (P:=prog) w1 152 9 5 ⟨w.heap.size,0,none⟩ 24 (Lib.decDigits u) underlying152 underlying5 underlying9 (fun j hj=>by
    rw[Lib.row_is_numeral hF' j hj,Lib.add_plain,hw1,World.cell?_drewN]
    exact cell?_putRow (fun (b:UInt8)=>Value.int .u8 (b.toNat:Int)) _ w.heap.size 0 _ dk (ae HH) (by rw[hF.size,Array.size_replicate]) j (by rw[hF.size];rw[ae HND] at hj;exact hj))
   rw[ae HND,← ae ht] at h
   exact h
  have hB:But [] w w1:=by
   rw[hw1,alloc_eq_grow]
   obtain⟨os',_,e⟩:=putRow_grow_new (fun (b:UInt8)=>Value.int .u8 (b.toNat:Int)) w #[.cells Lib.zeros24 220] w.heap.size 0 dk (Nat.le_refl _)
   rw[e]
   have hg:But [] w (grow w os'):=⟨rfl,rfl,rfl,by show w.heap.size≤(w.heap++os').size;rw[Array.size_append];omega,fun k hk _=>Array.getElem?_append_left hk⟩
   exact hg.drewN k
  clear hw1 hF hF' HH HND HE hfmt
  go_wp2
  go_ret
  exact⟨rfl,hB⟩
theorem zhw (u:Nat) (hu:u<18446744073709551616) (w:World) (htab:Lib.TabIs prog w "internal/strconv.uint64pow10" .u64 Lib.pow10Tab) (t:ByteArray) (ht:Hid (t=⟨(Lib.decDigits u).toArray⟩)) :
  Calls prog 90 #[.int .u64 u,.int .i64 10] w fun e w'=>e=.returned (.string t)∧But [] w w':=by
 have H:=af htab
 clear htab
 go_enter func90,ntmps90
 go_wp2_with fail
 refine (zsd u hu _ (ae H) t ht).mono ?_
 rintro e w1 ⟨rfl,hb⟩
 go_wp2
 go_ret
 exact⟨rfl,hb⟩
theorem TabIs.but {w w':World} (h:Lib.TabIs prog w "internal/strconv.uint64pow10" .u64 Lib.pow10Tab) (hb:But [] w w'):Lib.TabIs prog w' "internal/strconv.uint64pow10" .u64 Lib.pow10Tab :=
 Go.Lib.tabBelow_of_tabIs h w' hb.below
structure Powers (w:World) (vp:Value) (us:List Value):Prop where
 form:∃ a c,vp=.slice a us.length c∧us.length≤c∧∀ j u,us[j]? = some u→∃ g o,a=some ⟨g,o,none⟩∧g<w.heap.size∧w.cell? ⟨g,o+j,none⟩=some u
 all:∀ j u,us[j]? = some u→Sl .u64 w u (wd 18446744073709551616 (qo j))
theorem qgt {w:World} {base:Nat} {vp:Value} {us:List Value} (h:w.ownsRow base 92 1 vp us.length us) (ha:∀ j u,us[j]? = some u→Sl .u64 w u (wd 18446744073709551616 (qo j))):Powers w vp us:=by
 refine⟨?_,ha⟩
 rcases h.2 with ⟨rfl,h0⟩|⟨g,cap,cur,rfl,h2,h3,h4,-⟩
 ·exact⟨none,0,by rw[h0],by omega,fun j u hj=>by have:=(List.getElem?_eq_some_iff.1 hj).1;omega⟩
 ·refine⟨_,cap,rfl,h4,fun j u hj=>⟨g,0,rfl,(h.lt g rfl).2,?_⟩⟩
  have:=h.cells (g:=g) rfl j u hj
  rw[addr_add] at this
  exact this
def zxs (L:Nat):Prop:=∀ (base:Nat) (w0:World) (vp:Value) (us:List Value) (vo:Value) (ods:List UInt8) (v:Value) (X Wd:Nat) (w:World),base=w0.heap.size→Powers w0 vp us→us.length=L→Below base w0 w →
 Sl .u64 w v (wd 18446744073709551616 X)→X<qo L→(Wd=0∧0<X∨Wd=608*2^L)→(wd 18446744073709551616 X).length≤1000000→ods.length+(oz X).length+2*(608*2^L)<1073741000→w.ownsRow base 5 1 vo ods.length (ods.map u8v)→(vo=.slice none 0 0∨0<ods.length)→(∀ j u,us[j]? = some u→Sl .u64 w u (wd 18446744073709551616 (qo j))) →
 Calls prog 91 #[vo,v,.int .i64 (Wd:Int),vp] w fun e w'=>∃ v',e=.returned v'∧w'.ownsRow base 5 1 v' (ods++(yj Wd X).reverse).length ((ods++(yj Wd X).reverse).map u8v)∧Below base w w'∧o7 w w'
theorem zpg:zxs 0:=by
 intro base w0 vp us vo ods v X Wd w hbase hP hL hB hv hX hW hl hd ho hn _
 have hbs:base≤w.heap.size:=by rw[hbase];exact hB.size
 have h608:608*2^0=608:=by decide
 rw[h608] at hW hd
 have AS:=af (zpf base vo ods v X Wd w hv (by rcases hW with h | h <;> omega) (by omega) (by rcases hW with h | h <;> omega) ho hn hbs)
 obtain⟨a,c,e,-,-⟩:=hP.form
 rw[hL] at e
 subst e
 obtain⟨xa,xc,rfl,-,-⟩:=hv
 obtain⟨oa,oc,rfl⟩:=ul ho
 clear hX hW hP hL ho hn hB
 generalize (wd 18446744073709551616 X).length=n at *
 generalize ods.length=no at *
 go_enter func91,ntmps91
 go_wp2_with fail
 refine (ae AS).mono ?_
 rintro e w1 ⟨v1,rfl,ho,hb,hk⟩
 have HO:=af (And.intro ho (And.intro hb hk))
 clear ho hb hk
 go_wp2
 go_ret
 exact⟨v1,rfl,(ae HO).1,(ae HO).2.1,(ae HO).2.2⟩
theorem qjn (L:Nat):(wd 18446744073709551616 (qo L)).length≤38*2^L:=by
 refine aj (by omega) _ _ ?_
 have e:(18446744073709551616:Nat)^(38*2^L)=16^(608*2^L):=by
  rw[show (18446744073709551616:Nat)=16^16 from by decide,← Nat.pow_mul,← Nat.mul_assoc]
 rw[e]
 exact Nat.pow_lt_pow_left (by omega) (by have:0<2^L:=Nat.pow_pos (by omega);omega)
theorem qee {n:Nat} {w w':World} (h:Below n w w') {g i:Nat} {u:Value} (hg:g<n) (hc:w.cell? ⟨g,i,none⟩=some u):w'.cell? ⟨g,i,none⟩=some u:=(World.cell?_of_block (w:=w) (h.block g hg)).trans hc
theorem Powers.take {w:World} {g o c L:Nat} {us:List Value} (h:Powers w (.slice (some ⟨g,o,none⟩) us.length c) us) (hL:L≤us.length):Powers w (.slice (some ⟨g,o,none⟩) L c) (us.take L):=by
 have hl:(us.take L).length=L:=by rw[List.length_take];omega
 have hsub:∀ j u,(us.take L)[j]? = some u→us[j]? = some u:=fun j u hj=>by
  have hlt:j<L:=by have:=(List.getElem?_eq_some_iff.1 hj).1;omega
  rw[List.getElem?_take_of_lt hlt] at hj
  exact hj
 obtain⟨a,c',e,h1,h2⟩:=h.form
 simp only[Value.slice.injEq] at e
 obtain⟨rfl,-,rfl⟩:=e
 exact⟨⟨_,c,by rw[hl],by omega,fun j u hj=>h2 j u (hsub j u hj)⟩,fun j u hj=>h.all j u (hsub j u hj)⟩
theorem zxw (L X Wd:Nat) (hX:X<qo (L+1)) (hW:(Wd=0∧0<X)∨Wd=608*2^(L+1)) (hne:¬ (X/qo L=0∧Wd=0)) :
  (yj Wd X).reverse=(yj (Wd-608*2^L) (X/qo L)).reverse++(yj (608*2^L) (X%qo L)).reverse∧((Wd-608*2^L=0∧0<X/qo L)∨Wd-608*2^L=608*2^L):=by
 have hp:=zqa L
 have e2:608*2^(L+1)=608*2^L+608*2^L:=by rw[Nat.pow_succ];omega
 rcases hW with ⟨rfl,h0⟩ | h
 ·have h1:0<X/qo L:=by
   rcases Nat.eq_zero_or_pos (X/qo L) with h | h
   ·exact absurd ⟨h,rfl⟩ hne
   ·exact h
  have h2:qo L≤X:=by
   rcases Nat.lt_or_ge X (qo L) with h | h
   ·rw[Nat.div_eq_of_lt h] at h1;omega
   ·exact h
  rw[Nat.zero_sub]
  refine⟨?_,.inl ⟨rfl,h1⟩⟩
  rw[qfx (608*2^L) X h2,List.reverse_append];rfl
 ·rw[h,e2,Nat.add_sub_cancel]
  refine⟨?_,.inr rfl⟩
  rw[qfw (608*2^L) X (by rw[← e2];exact hX),List.reverse_append];rfl
theorem zph (L:Nat) (IH:zxs L) (hL20:L<20):zxs (L+1):=by
 intro base w0 vp us vo ods v X Wd w hbase hP hL hB hv hX hW hl hd ho hn hall
 have hp:=zqa L
 have e2:608*2^(L+1)=608*2^L+608*2^L:=by rw[Nat.pow_succ];omega
 have hh:X/qo L<qo L:=by rw[Nat.div_lt_iff_lt_mul hp,← zjh];exact hX
 have hlo:X%qo L<qo L:=Nat.mod_lt _ hp
 obtain⟨u,hu⟩:∃ u,us[L]? = some u:=⟨us[L],List.getElem?_eq_getElem (by omega)⟩
 obtain⟨a,c,rfl,hc1,hcell⟩:=hP.form
 obtain⟨g,o,rfl,hg,hcu⟩:=hcell L u hu
 rw[hbase.symm] at hg
 have cu:=qee hB hg hcu
 have hPT:Powers w0 (.slice (some ⟨g,o,none⟩) L c) (us.take L):=hP.take (by omega)
 have hTL:(us.take L).length=L:=by rw[List.length_take];omega
 have hsub:∀ j u,(us.take L)[j]? = some u→us[j]? = some u:=fun j u hj=>by
  have hlt:j<L:=by have:=(List.getElem?_eq_some_iff.1 hj).1;omega
  rw[List.getElem?_take_of_lt hlt] at hj
  exact hj
 obtain⟨D,hD⟩:∃ D,D=608*2^L:=⟨_,rfl⟩
 have rh:(oz (X/qo L)).length≤D:=zfo _ _ (by rw[hD];exact hh)
 have rl:(oz (X%qo L)).length≤D:=zfo _ _ (by rw[hD];exact hlo)
 have lh:(wd 18446744073709551616 (X/qo L)).length≤1000000:=Nat.le_trans (aw (Nat.div_le_self _ _)) hl
 have ll:(wd 18446744073709551616 (X%qo L)).length≤1000000:=Nat.le_trans (aw (Nat.mod_le _ _)) hl
 have lu:=hall L u hu
 have QR:=af (zfy v u X (qo L) w hv lu hp (by omega) (by
  have:=qjn L
  have h19:2^L≤2^19:=Nat.pow_le_pow_right (by omega) (by omega)
  omega) (Short.of _ _ hl))
 have hDB:D<1073741000:=by rw[hD];omega
 have hbs:base≤w.heap.size:=by rw[hbase];exact hB.size
 have HDW:Hid (wrap64 (608*2^L)=(D:Int)):=by
  have e:(608:Int)*2^L=(D:Int):=by rw[hD];simp
  show _=_
  rw[e];unfold wrap64;omega
 have hLc:L<c:=by omega
 have i1:(0:Int)≤(L:Int):=by omega
 have i2:(L:Int)≤(c:Int):=by omega
 have i3:(L:Int)≤(L:Int)+1:=by omega
 have HALL:=af hall
 have HO:=af (And.intro ho hn)
 have HB:=af hB
 have IHA:=af (fun ods' vo' v' X' W' W (h1:Below base w0 W) (h2:Sl .u64 W v' (wd 18446744073709551616 X')) (h3:X' < qo L) (h4:W'=0∧0<X'∨W'=608*2^L) (h5:(wd 18446744073709551616 X').length≤1000000) h6 h7 h8 (h9:∀ j u,us[j]? = some u→Sl .u64 W u (wd 18446744073709551616 (qo j)))=>IH base w0 _ _ vo' ods' v' X' W' W hbase hPT hTL h1 h2 h3 h4 h5 h6 h7 h8 (fun j u hj=>h9 j u (hsub j u hj)))
 have HX:=af hX
 have HW:=af hW
 have HD2:=af (And.intro hD (And.intro rh (And.intro rl (And.intro lh (And.intro ll (And.intro hh hlo))))))
 clear hDB
 have HDD:Hid (ods.length+4*D<1073741000):=by show _<_;rw[hD];omega
 obtain⟨xa,xc,rfl,-,-⟩:=hv
 obtain⟨oa,oc,rfl⟩:=ul ho
 rw[hL]
 clear hX hW hP hL ho hn hB IH hPT hTL hsub hall hcell hcu hu hp hc1 hbase hd rh rl lh ll hh hlo e2 hD
 generalize (wd 18446744073709551616 X).length=n at *
 generalize hno:ods.length=no at *
 go_enter func91,ntmps91
 go_wp2_with fail
 refine (ae QR).mono ?_
 rw[ae HDW]
 rintro e1 w1 ⟨v1,v2,rfl,hv1,hv2,hb1,-⟩
 have HV1:=af hv1
 have HV2:=af hv2
 have B1:=af hb1
 have HB1:=af (di (ae HB) (hb1.zgs hbs))
 obtain⟨ha,hc,rfl,-,-⟩:=hv1
 clear hv2 hb1 QR
 by_cases h0:X/qo L=0∧Wd=0
 ·obtain⟨hq0,hw0⟩:=h0
  have hXL:X%qo L=X:=by
   have:=Nat.div_add_mod X (qo L)
   rw[hq0,Nat.mul_zero,Nat.zero_add] at this
   exact this
  have hX0:0<X:=by
   have hDp:0<608*2^(L+1):=Nat.mul_pos (by omega) (Nat.pow_pos (by omega))
   rcases ae HW with h | h
   ·exact h.2
   ·omega
  have HXL:=af hXL
  have A:=af (ae IHA ods (.slice oa no oc) v2 (X%qo L) 0 w1 (ae HB1) (ae HV2) (ae HD2).2.2.2.2.2.2 (.inl ⟨rfl,by rw[hXL];exact hX0⟩) (ae HD2).2.2.2.2.1 (by have h1:=(ae HD2).2.2.1;have h2:=(ae HD2).1;have h3:=ae HDD;omega) (by rw[hno];exact zdg (ae HO).1 (ae B1)) (by rw[hno];exact (ae HO).2) (fun j u hj=>(ae HALL j u hj).ah (ae B1)))
  rw[hq0,zq,List.length_nil]
  subst hw0
  clear hq0 hXL hX0 IHA HV1 HD2 HX HW HALL HO
  go_wp2_with fail
  refine (ae A).mono ?_
  rintro e2 w2 ⟨v3,rfl,ho2,hb2,hk2⟩
  have FIN:=af (And.intro ho2 (And.intro (di ((ae B1).zgs hbs) hb2) ((o7.znh (ae B1)).trans hk2)))
  rw[ae HXL] at FIN
  clear ho2 hb2 hk2 A
  go_wp2
  go_ret
  exact⟨v3,rfl,(ae FIN).1,(ae FIN).2.1,(ae FIN).2.2⟩
 ·obtain⟨f1,f2⟩:=zxw L X Wd (ae HX) (ae HW) h0
  rw[← (ae HD2).1] at f1 f2
  obtain⟨W',hW'⟩:∃ W',W'=Wd-D:=⟨_,rfl⟩
  rw[← hW'] at f1 f2
  have hmax:max ((Wd:Int)-(D:Int)) 0=(W':Int):=by omega
  have hWl:W'≤D:=by omega
  have hWdl:Wd≤2*D:=by
   have e2:608*2^(L+1)=608*2^L+608*2^L:=by rw[Nat.pow_succ];omega
   have:=(ae HD2).1
   rcases ae HW with h | h <;> omega
  have A:=af (ae IHA ods (.slice oa no oc) (.slice ha (wd 18446744073709551616 (X/qo L)).length hc) (X/qo L) W' w1 (ae HB1) (ae HV1) (ae HD2).2.2.2.2.2.1 (by rw[← (ae HD2).1];exact f2) (ae HD2).2.2.2.1 (by have h1:=(ae HD2).2.1;have h2:=(ae HD2).1;have h3:=ae HDD;omega) (by rw[hno];exact zdg (ae HO).1 (ae B1)) (by rw[hno];exact (ae HO).2) (fun j u hj=>(ae HALL j u hj).ah (ae B1)))
  have F1:=af f1
  have WL:Hid (0<(yj W' (X/qo L)).length∧(yj W' (X/qo L)).length≤D):=by
   refine⟨zpt _ _ (by have hDp:0<608*2^L:=Nat.mul_pos (by omega) (Nat.pow_pos (by omega));have:=(ae HD2).1;rcases f2 with h | h <;> omega),?_⟩
   rw[zfk]
   have:=(ae HD2).2.1
   omega
  have hh0:((((wd 18446744073709551616 (X/qo L)).length:Int)==0)=true→((Wd:Int)==0)=false):=fun h=>by
   have h1:(wd 18446744073709551616 (X/qo L)).length=0:=by have:=beq_iff_eq.1 h;omega
   rw[zt (by omega)] at h1
   rw[beq_eq_false_iff_ne]
   intro h2
   exact h0 ⟨h1,by omega⟩
  clear f1 f2 h0 hW'
  generalize (wd 18446744073709551616 (X/qo L)).length=nh at *
  have hsub64:wrap64 ((Wd:Int)-(D:Int))=(Wd:Int)-(D:Int):=by have:=ae HDD;unfold wrap64;omega
  by_cases hn0:nh=0
  ·have hne:((Wd:Int)==0)=false:=hh0 (by simp[hn0])
   subst hn0
   clear hh0
   go_wp2_with fail
   refine (ae A).mono ?_
   rintro e2 w2 ⟨v3,rfl,ho2,hb2,hk2⟩
   have HB2:=af (di (ae HB1) hb2)
   have HV22:=af (hk2 _ _ (ae HV2))
   obtain⟨oa2,oc2,rfl⟩:=ul ho2
   have hol:(ods++(yj W' (X/qo L)).reverse).length=no+(yj W' (X/qo L)).length:=by rw[List.length_append,List.length_reverse,hno]
   have A2:=af (ae IHA (ods++(yj W' (X/qo L)).reverse) (.slice oa2 (ods++(yj W' (X/qo L)).reverse).length oc2) v2 (X%qo L) D w2 (ae HB2) (ae HV22) (ae HD2).2.2.2.2.2.2 (.inr (ae HD2).1) (ae HD2).2.2.2.2.1 (by have h1:=(ae HD2).2.2.1;have h2:=(ae HD2).1;have h3:=ae HDD;have h4:=(ae WL).2;omega) ho2 (.inr (by have h4:=(ae WL).1;omega)) (fun j u hj=>hk2 _ _ ((ae HALL j u hj).ah (ae B1))))
   have K2:=af (And.intro hb2 hk2)
   clear ho2 hb2 hk2 A hol IHA HALL HV22 HB2
   generalize (ods++(yj W' (X/qo L)).reverse).length=no2 at *
   go_wp2_with fail
   refine (ae A2).mono ?_
   rintro e3 w3 ⟨v4,rfl,ho3,hb3,hk3⟩
   have FIN:=af (And.intro ho3 (And.intro (di ((ae B1).zgs hbs) (di (ae K2).1 hb3)) (((o7.znh (ae B1)).trans (ae K2).2).trans hk3)))
   rw[List.append_assoc,← ae F1] at FIN
   clear ho3 hb3 hk3 A2
   go_wp2
   go_ret
   exact⟨v4,rfl,(ae FIN).1,(ae FIN).2.1,(ae FIN).2.2⟩
  ·have hne:((nh:Int)==0)=false:=beq_eq_false_iff_ne.2 (by omega)
   clear hh0
   go_wp2_with fail
   refine (ae A).mono ?_
   rintro e2 w2 ⟨v3,rfl,ho2,hb2,hk2⟩
   have HB2:=af (di (ae HB1) hb2)
   have HV22:=af (hk2 _ _ (ae HV2))
   obtain⟨oa2,oc2,rfl⟩:=ul ho2
   have hol:(ods++(yj W' (X/qo L)).reverse).length=no+(yj W' (X/qo L)).length:=by rw[List.length_append,List.length_reverse,hno]
   have A2:=af (ae IHA (ods++(yj W' (X/qo L)).reverse) (.slice oa2 (ods++(yj W' (X/qo L)).reverse).length oc2) v2 (X%qo L) D w2 (ae HB2) (ae HV22) (ae HD2).2.2.2.2.2.2 (.inr (ae HD2).1) (ae HD2).2.2.2.2.1 (by have h1:=(ae HD2).2.2.1;have h2:=(ae HD2).1;have h3:=ae HDD;have h4:=(ae WL).2;omega) ho2 (.inr (by have h4:=(ae WL).1;omega)) (fun j u hj=>hk2 _ _ ((ae HALL j u hj).ah (ae B1))))
   have K2:=af (And.intro hb2 hk2)
   clear ho2 hb2 hk2 A hol IHA HALL HV22 HB2
   generalize (ods++(yj W' (X/qo L)).reverse).length=no2 at *
   go_wp2_with fail
   refine (ae A2).mono ?_
   rintro e3 w3 ⟨v4,rfl,ho3,hb3,hk3⟩
   have FIN:=af (And.intro ho3 (And.intro (di ((ae B1).zgs hbs) (di (ae K2).1 hb3)) (((o7.znh (ae B1)).trans (ae K2).2).trans hk3)))
   rw[List.append_assoc,← ae F1] at FIN
   clear ho3 hb3 hk3 A2
   go_wp2
   go_ret
   exact⟨v4,rfl,(ae FIN).1,(ae FIN).2.1,(ae FIN).2.2⟩
theorem zsr (L:Nat) (h:L≤20):zxs L:=by
 induction L with
 | zero=>exact zpg
 | succ L ih=>exact zph L (ih (by omega)) (by omega)
theorem qfp (X n:Nat) (h:(wd 18446744073709551616 X).length≤n):(oz X).length≤20*n:=by
 refine zfo X _ (Nat.lt_of_lt_of_le (am (B:=18446744073709551616) (by omega) X n h) ?_)
 rw[Nat.pow_mul]
 exact Nat.pow_le_pow_left (by decide) _
theorem zok (v:Value) (X:Nat) (w:World) (hv:Sl .u64 w v (wd 18446744073709551616 X)) (hl:(wd 18446744073709551616 X).length≤1000000) (htab:Lib.TabIs prog w "internal/strconv.uint64pow10" .u64 Lib.pow10Tab) (t:ByteArray) (ht:Hid (t=⟨(Lib.decDigits X).toArray⟩)) :
  Calls prog 38 #[v] w fun e w'=>e=.returned (.string t)∧But [] w w':=by
 by_cases hu:X < 18446744073709551616
 ·have H:=af htab
  have HW:=af (zdj v X hu w hv)
  obtain⟨xa,xc,rfl,-,-⟩:=hv
  clear htab
  generalize (wd 18446744073709551616 X).length=n at *
  go_enter func38,ntmps38
  go_wp2_with fail
  refine (ae HW).mono ?_
  rintro e w1 ⟨rfl,hw⟩
  obtain rfl:=hw.symm
  clear hw
  go_wp2_with fail
  refine (zhw X hu _ (ae H) t ht).mono ?_
  rintro e w1 ⟨rfl,hb⟩
  go_wp2
  go_ret
  exact⟨rfl,hb⟩
 ·have hp:0<X:=by omega
  have HW:=af (zbv v X (by omega) w hv (by omega))
  have PF:=af (ztj v X w hv hl)
  have HV:=af hv
  have hdl:=qfp X _ (Nat.le_refl _)
  have AL:Hid (∀ vo us W,W.ownsRow w.heap.size 92 1 vo us.length us→(∀ j u,us[j]? = some u→Sl .u64 W u (wd 18446744073709551616 (qo j)))→But [] w W→(∀ j,j<us.length→qo j≤X)→X<qo us.length →
   Calls prog 91 #[.slice none 0 0,v,.int .i64 0,vo] W fun e w'=>∃ v',e=.returned v'∧w'.ownsRow W.heap.size 5 1 v' (oz X).reverse.length ((oz X).reverse.map u8v)∧But [] W w'):=fun vo us W h1 h2 h3 h4 h5=>by
   have hL:1824*2^us.length<128*1000000+3648:=by
    rcases Nat.eq_zero_or_pos us.length with h0 | h0
    ·rw[h0];omega
    ·obtain⟨j,hj⟩:∃ j,us.length=j+1:=⟨us.length-1,by omega⟩
     have:=zqb X j 1000000 hl (h4 j (by omega))
     rw[hj,Nat.pow_succ]
     omega
   have hL20:us.length≤20:=by
    rcases Nat.lt_or_ge 20 us.length with h | h
    ·have:2^21≤2^us.length:=Nat.pow_le_pow_right (by omega) h
     omega
    ·exact h
   have:=zsr us.length hL20 W.heap.size W vo us (.slice none 0 0) [] v X 0 W rfl (qgt h1 h2) rfl (But.refl [] W).below (hv.ah h3) h5 (.inl ⟨rfl,hp⟩) hl (by simp only[List.length_nil];omega) (World.ownsRow_nil _ _ _ _) (.inl rfl) h2
   rw[zmo] at this
   refine this.mono fun e w' ⟨v',e1,e2,e3,_⟩=>⟨v',e1,by simpa using e2,But.of_below e3⟩
  have hrl:0<(oz X).reverse.length:=by rw[List.length_reverse,zbt hp];simp
  have HRR:=af (zlh X hp)
  have hrb:(oz X).reverse.length≤20000000:=by rw[List.length_reverse];omega
  obtain⟨xa,xc,rfl,-,-⟩:=hv
  clear htab hu hl hdl
  generalize (wd 18446744073709551616 X).length=n at *
  go_enter func38,ntmps38
  go_wp2_with fail
  refine (ae HW).mono ?_
  rintro e w1 ⟨rfl,hw⟩
  obtain rfl:=hw.symm
  clear hw
  go_wp2_with fail
  refine (ae PF).mono ?_
  rintro e w1 ⟨vo,us,rfl,h1,h2,h3,h4,h5⟩
  have B1:=af h3
  have A1:=af (ae AL vo us w1 h1 h2 h3 h4 h5)
  clear h1 h2 h3 h4 h5 AL PF
  go_wp2_with fail
  refine (ae A1).mono ?_
  rintro e w2 ⟨v2,rfl,ho2,hb2⟩
  have hB2:But [] w w2:=(ae B1).trans' hb2
  obtain⟨g,cg,rfl,hg,hcg,hrow⟩:=zgf ho2 hrl
  have hcv:=run_convert_bytes_back (P:=prog) w2 152 9 5 ⟨g,0,none⟩ cg (oz X).reverse underlying152 underlying5 underlying9 (fun j hj=>zqn hrow j _ (by rw[List.getElem?_map,List.getElem?_eq_getElem hj];rfl))
  rw[ae HRR,← ae ht] at hcv
  rw[ae HRR]
  have HB2:=af hB2
  clear ho2 hb2 hrow hB2 hrl
  generalize (Lib.decDigits X).length=m at *
  go_wp2
  go_ret
  exact⟨rfl,ae HB2⟩
def zcx (s:Bool) (p q:Nat):ByteArray:=(if s then ⟨#[45]⟩++⟨(Lib.decDigits p).toArray⟩ else ⟨(Lib.decDigits p).toArray⟩)++(if q=1 then ⟨#[]⟩ else ⟨#[47]⟩++⟨(Lib.decDigits q).toArray⟩)
theorem zuz (u:Nat) (h:(wd 18446744073709551616 u).length≤1000000):(Lib.decDigits u).length≤20000000:=by
 rcases Nat.eq_zero_or_pos u with rfl | h0
 ·rw[Lib.decDigits_length,Lib.nDigits_small (by omega)];omega
 ·rw[← zlh u h0,List.length_reverse];exact qfp u 1000000 h
theorem jaa (t:ByteArray):t++⟨#[]⟩=t:=by
 cases t;simp[ByteArray.ext_iff]
theorem zbz (v:Value) (f:Rat) (w:World) (hf:aq w v f) (hL:Len f 1000000) (htab:Lib.TabIs prog w "internal/strconv.uint64pow10" .u64 Lib.pow10Tab) (t:ByteArray) (ht:Hid (t=zcx (decide (f.num<0)) f.num.natAbs f.den)) :
  Calls prog 9 #[v] w fun e w'=>e=.returned (.string t)∧But [] w w':=by
 have hq0:=den_pos f
 obtain⟨hN,hD⟩:=hL
 obtain⟨tp,htp⟩:∃ tp:ByteArray,tp=⟨(Lib.decDigits f.num.natAbs).toArray⟩:=⟨_,rfl⟩
 obtain⟨tq,htq⟩:∃ tq:ByteArray,tq=⟨(Lib.decDigits f.den).toArray⟩:=⟨_,rfl⟩
 have sp:tp.size≤20000000:=by rw[htp];exact zuz _ hN
 have sq:tq.size≤20000000:=by rw[htq];exact zuz _ hD
 have HNU:Hid (∀ W,But [] w W→Calls prog 37 #[v] W fun e w'=>∃ v1 v2,e=.returned (.tuple #[v1,v2])∧Sl .u64 w' v1 (wd 18446744073709551616 f.num.natAbs)∧Sl .u64 w' v2 (wd 18446744073709551616 f.den)∧But [] W w'):=fun W hb=>ut v f W (hf.but hb)
 have T1:Hid (∀ W v1,But [] w W→Sl .u64 W v1 (wd 18446744073709551616 f.num.natAbs)→Calls prog 38 #[v1] W fun e w'=>e=.returned (.string tp)∧But [] W w'):=fun W v1 hb h=>zok v1 _ W h hN (TabIs.but htab hb) tp htp
 have T2:Hid (∀ W v1,But [] w W→Sl .u64 W v1 (wd 18446744073709551616 f.den)→Calls prog 38 #[v1] W fun e w'=>e=.returned (.string tq)∧But [] W w'):=fun W v1 hb h=>zok v1 _ W h hD (TabIs.but htab hb) tq htq
 have HT:Hid (t=(if decide (f.num<0) then ⟨#[45]⟩++tp else tp)++(if f.den=1 then ⟨#[]⟩ else ⟨#[47]⟩++tq)):=by show _=_;rw[ae ht,zcx,htp,htq]
 have ONE:Hid (∀ W v1 (r:Bool),Hid (r=decide (f.den=1))→Sl .u64 W v1 (wd 18446744073709551616 f.den)→Calls prog 39 #[v1] W fun e w'=>e=.returned (.bool r)∧w'=W):=fun W v1 r hr h=>zba v1 _ W h (by omega) r hr
 obtain⟨x,y,p,rfl,-⟩:=hf.agg
 have hbw:But [] w (w.alloc (.cells #[.bool (decide (f.num<0)),.int .u64 x,.int .u64 y,.pointer p] 27)):=(But.refl _ _).alloc _
 clear htp htq ht htab hN hD hf
 generalize hs:decide (f.num<0)=s at *
 clear hs
 go_enter func9,ntmps9
 go_wp2_with fail
 refine (ae HNU _ hbw).mono ?_
 rintro e w1 ⟨v1,v2,rfl,hv1,hv2,hb1⟩
 have B1:=af (hbw.trans' hb1)
 have HV1:=af hv1
 have HV2:=af hv2
 have c0:=hb1.ag (show (w.alloc (.cells #[.bool s,.int .u64 x,.int .u64 y,.pointer p] 27)).cell? ⟨w.heap.size,0,none⟩=some (.bool s) by simp) (by simp)
 clear hv1 hv2 hb1
 go_wp2_with fail
 refine (ae T1 _ v1 (ae B1) (ae HV1)).mono ?_
 rintro e w2 ⟨rfl,hb2⟩
 have d0:=hb2.ag c0 (by simp)
 have B2:Hid (But [] w w2):=(ae B1).trans' hb2
 have HV3:=af ((ae HV2).ah hb2)
 clear hb2 c0 HV2 hbw
 cases s
 all_goals
  go_wp2_with fail
  by_cases hq1:f.den=1
  ·refine (ae ONE _ v2 true (by show true=_;simp[hq1]) (ae HV3)).mono ?_
   rintro e w3 ⟨rfl,hw⟩
   obtain rfl:=hw.symm
   clear hw
   go_wp2
   go_ret
   exact⟨by rw[ae HT,if_pos hq1,jaa];rfl,ae B2⟩
  ·refine (ae ONE _ v2 false (by show false=_;simp[hq1]) (ae HV3)).mono ?_
   rintro e w3 ⟨rfl,hw⟩
   obtain rfl:=hw.symm
   clear hw
   go_wp2_with fail
   refine (ae T2 _ v2 (ae B2) (ae HV3)).mono ?_
   rintro e w3 ⟨rfl,hb3⟩
   go_wp2
   go_ret
   exact⟨by rw[ae HT,if_neg hq1];rfl,(ae B2).trans' hb3⟩
end Go.Proofs.YtffghofheeleeaaGreatDoor
