/- A whole number is divided by a word: the -/
import Derived.Test.YtollloafckcogaaGreatDoorKYG0
namespace Go.Proofs.YtollloafckcogaaGreatDoor
open Go.RowKit
set_option maxHeartbeats 2000000
set_option maxRecDepth 100000
theorem byWord_fresh (v:Value) (X d:Nat) (w:World) (hv:Sl .u64 w v (wd 18446744073709551616 X)) (hl:(wd 18446744073709551616 X).length<1073741824) (hd:0<d) (hdB:d < 18446744073709551616) :
  Calls Tryz.prog 145 #[v,.int .u64 (d:Int)] w fun e w'=>∃ v',e=.returned (.tuple #[v',.int .u64 ((X%d:Nat):Int)])∧Sl .u64 w' v' (wd 18446744073709551616 (X/d))∧But [] w w'∧Fresh w.heap.size v':=by
 have mm:=wd_mem (B:=18446744073709551616) (by omega) X
 have em:=vl_wd (B:=18446744073709551616) (by omega) X
 obtain ⟨a,c,rfl,hc,hcell,-⟩:=hv
 generalize wd 18446744073709551616 X=xs at *
 subst em
 obtain ⟨R,hR⟩:∃ R,R=vl 18446744073709551616 xs%d:=⟨_,rfl⟩
 rw [← hR]
 have HR:=hide hR
 have hmk:=fun wx=>run_make64 wx xs.length (by omega)
 have HC:=hide hcell
 have MM:=hide mm
 clear hcell mm hR
 go_enter Tryz.func145,Tryz.ntmps145
 go_wp2
 go_loopw [7,8] (fun r i wr=>∃ (k rN:Nat) (rs:List Nat),k≤xs.length∧i=.int .i64 ((k:Int)-1)∧r=.int .u64 rN∧rN<d∧rs.length=xs.length∧Hid (ByInv xs rs d k rN∧But [] w wr∧Seg wr w.heap.size 0 rs)) (fun _ i _=>(intOf i+1).toNat)
 case atStart=>exact ⟨xs.length,0,List.replicate xs.length 0,Nat.le_refl _,rfl,rfl,hd,by simp,ByInv.start xs d hd,(But.refl _ _).alloc _,Seg.made _ _ _⟩
 case round =>
  obtain ⟨k,rN,rs,hk,rfl,rfl,hrN,hrl,HI⟩:=hrel
  rename World=>wr
  by_cases hk0:k=0
  ·subst hk0
   have hsl:=(unhide HI).2.2.sl xs.length (by omega)
   rw [hrl] at hsl
   have HSL:=hide hsl
   have HF:=hide (unhide HI).1.fin
   have hln:rs.length<2147483648:=by omega
   clear hsl HC
   go_wp2_with fail
   refine (trimmed_any _ rs _ (unhide HSL) (unhide HI).1.mem hln).mono ?_
   rintro e w1 ⟨v1,rfl,hv1,hw,hsb⟩
   obtain rfl:=hw.symm
   clear hw
   rw [(unhide HF).1] at hv1
   have HV1:=hide hv1
   have HSB:=hide hsb
   clear hsb
   have er:Hid (rN=R):=by show _=_;rw [unhide HR];exact (unhide HF).2
   clear hv1
   go_wp2
   go_ret2
   exact ⟨v1,by rw [← unhide er];rfl,unhide HV1,(unhide HI).2.1,fresh_of (unhide HSB) (Nat.le_refl _)⟩
  ·obtain ⟨i,rfl⟩:∃ i,k=i+1:=⟨k-1,by omega⟩
   obtain ⟨b,off,rfl,hci⟩:=unhide HC i (by omega)
   have cx:=(unhide HI).2.1.cell_some hci (by simp)
   have hxB:xs[i]?.getD 0 < 18446744073709551616:=mem_getD (unhide MM) (by omega) i
   obtain ⟨cr,fr⟩:=(unhide HI).2.2 i (by omega)
   rw [Nat.zero_add] at cr fr
   obtain ⟨q,hq⟩:∃ q,(rN * 18446744073709551616+xs[i]?.getD 0)/d=q:=⟨_,rfl⟩
   obtain ⟨r',hr'⟩:∃ r',(rN * 18446744073709551616+xs[i]?.getD 0)%d=r':=⟨_,rfl⟩
   obtain ⟨hqB,hst⟩:=(unhide HI).1.step (by omega) hxB q r' hq hr'
   have hr'd:r' < d:=hst.lt
   have ST:=hide hst
   have DV:=hide (div64_any rN (xs[i]?.getD 0) d hdB hxB hrN wr q r' hq hr')
   have hset:=(unhide HI).2.2.set i (by omega) q
   rw [Nat.zero_add] at hset
   have HSET:=hide hset
   clear hset hst hci hq hr'
   generalize xs[i]?.getD 0=x at *
   generalize rs[i]?.getD 0=r0 at cr
   rw [show (((i+1:Nat):Int)-1)=(i:Int) from by omega]
   go_wp2_with fail
   refine (unhide DV).mono ?_
   rintro e w1 ⟨rfl,n,rfl⟩
   go_wp2
   refine ⟨⟨i,r',rs.set i q,by omega,rfl,rfl,hr'd,by rw [List.length_set];exact hrl,unhide ST,((unhide HI).2.1.drewN n).setCell (.inr (Nat.le_refl _)) _,?_⟩,?_⟩
   ·exact unhide HSET
   ·simp [intOf]
end Go.Proofs.YtollloafckcogaaGreatDoor

namespace Go.Proofs.YtollloafckcogaaGreatDoor
open Go.RowKit
def OffB (vb vx:Value):Prop:=∀ k,vb.ownBlock=some k→∀ b off n c,vx=.slice (some ⟨b,off,none⟩) n c→b≠k
theorem OffB.grow {w w':World} {vb vb' vx:Value} {xs:List Nat} {o:Obj} (h:OffB vb vx) (hs:Sl .u64 w vx xs) (h0:0<xs.length) (hg:(w.alloc o).grownBy w' vb.ownBlock) (hb:vb'.ownBlock=vb.ownBlock∨∀ k,vb'.ownBlock=some k→(w.alloc o).heap.size≤k):Sl .u64 w' vx xs∧OffB vb' vx:=by
 constructor
 ·have h1:=hs.but_nil ((But.refl [] w).alloc o)
  cases hr:vb.ownBlock with
  | none=>rw [hr] at hg;exact h1.but_nil (grown_but_none hg)
  | some g=>rw [hr] at hg;exact h1.but (grown_but hg) (fun b off cap n e=>by have:=h g hr b off n cap e;simp;omega)
 ·intro k hk b off n c e
  rcases hb with hb | hb
  ·rw [hb] at hk;exact h k hk b off n c e
  ·have h1:=hb k hk
   have h2:=hs.lt h0 b off n c e
   simp at h1
   omega
theorem row_news {w:World} {g:Nat} {es:List UInt8} (h:Row .u8 w g (es.map UInt8.toNat)):∀ j u,(es.map u8v)[j]? = some u→w.cell? ((⟨g,0,none⟩:Addr).add j)=some u:=fun j u hj=>by
 rw [List.getElem?_map] at hj
 rcases Nat.lt_or_ge j es.length with hl | hl
 ·rw [List.getElem?_eq_getElem hl] at hj
  simp only [Option.map_some,Option.some.injEq] at hj
  have h1:=(h j (by rw [List.length_map];exact hl)).1
  rw [List.getElem?_map,List.getElem?_eq_getElem hl] at h1
  have e:(⟨g,0,none⟩:Addr).add j=⟨g,j,none⟩:=by by_cases h:j=0 <;> simp [Addr.add,h]
  rw [e,h1,← hj]
  rfl
 ·rw [List.getElem?_eq_none hl] at hj
  simp at hj
theorem ten19_lt {q:Nat} (h:1<(wd 18446744073709551616 q).length):10000000000000000000≤q:=by
 rcases Nat.lt_or_ge q 18446744073709551616 with h1 | h1
 ·have:=wd_length_le (B:=18446744073709551616) (by omega) q 1 (by rw [Nat.pow_one];exact h1)
  omega
 ·omega
end Go.Proofs.YtollloafckcogaaGreatDoor

namespace Go.Proofs.YtollloafckcogaaGreatDoor
open Go.RowKit
set_option maxHeartbeats 4000000
set_option maxRecDepth 100000
structure ShortAt (w:World) (n m:Nat) (ds:List UInt8) (vb vx:Value) (wr:World):Prop where
 words:Sl .u64 wr vx (wd 18446744073709551616 m)
 own:wr.ownsRow w.heap.size 5 1 vb ds.length (ds.map u8v)
 but:But [] w wr
 dig:rdig n=ds++rdig m
 pos:0<n→0<m
 len:(wd 18446744073709551616 m).length<1048576
theorem appendShort_any (base:Nat) (vo:Value) (ods:List UInt8) (v:Value) (X Wd:Nat) (w:World) (hv:Sl .u64 w v (wd 18446744073709551616 X)) (hX:0<X∨0<Wd) (hl:(wd 18446744073709551616 X).length<1048576) (hd:ods.length+(rdig X).length+Wd<1073741000) (ho:w.ownsRow base 5 1 vo ods.length (ods.map u8v)) (hn:vo=.slice none 0 0∨0<ods.length) (hbase:base≤w.heap.size) :
  Calls Tryz.prog 126 #[vo,v,.int .i64 (Wd:Int)] w fun e w'=>∃ v',e=.returned v'∧w'.ownsRow base 5 1 v' (ods++(wdig Wd X).reverse).length ((ods++(wdig Wd X).reverse).map u8v)∧Below base w w'∧Keep64 w w':=by
 have HO:=hide ho
 have HN:=hide hn
 have HBS:=hide hbase
 obtain ⟨oa,oc,rfl⟩:=owns_shape ho
 clear ho hn hbase
 have HV:=hide hv
 clear hv
 obtain ⟨xa,xc,rfl,-,-⟩:=unhide HV
 have HX:=hide hX
 have HD:=hide hd
 clear hX hd
 generalize hno:ods.length=no at *
 have HNO:=hide hno
 clear hno
 go_enter Tryz.func126,Tryz.ntmps126
 go_wp2
 go_loopg [7,1] X (fun m vb vx wr=>∃ ds:List UInt8,ShortAt w X m ds vb vx wr)
 case atStart=>exact ⟨[],⟨unhide HV,World.ownsRow_nil _ _ _ _,But.refl _ _,rfl,fun h=>h,hl⟩⟩
 case round =>
  obtain ⟨ds,hI⟩:=hrel
  rename World=>wr
  obtain ⟨hsl,hown,hbut,hdig,hpos,hlen⟩:=hI
  have hdl:ds.length<1073741000:=by have:=congrArg List.length hdig;have h2:=unhide HD;rw [List.length_append] at this;omega
  have HSL:=hide hsl
  obtain ⟨aa,ca,rfl,-,-⟩:=hsl
  have HDG:=hide hdig
  have HOWN:=hide hown
  have HBUT:=hide hbut
  clear hdig hown hbut
  by_cases hm:1<(wd 18446744073709551616 gk).length
  ·have h19:=ten19_lt hm
   obtain ⟨m',hm'⟩:∃ m',m'=gk/10000000000000000000:=⟨_,rfl⟩
   obtain ⟨r0,hr0⟩:∃ r0,r0=gk%10000000000000000000:=⟨_,rfl⟩
   have hmp:0<m':=by omega
   have hml:(wd 18446744073709551616 m').length≤(wd 18446744073709551616 gk).length:=wd_len_mono (by omega)
   have BW:=hide (byWord_fresh _ gk 10000000000000000000 wr (unhide HSL) (by omega) (by omega) (by omega))
   rw [← hm',← hr0] at BW
   have hDP:Hid (rdig gk=pdig 19 r0++rdig m'):=by
    show _=_
    have h:=rdig_part 19 gk (by exact h19)
    rw [← pdig_mod 19 gk] at h
    rw [hm',hr0]
    exact h
   have hr0l:r0<10000000000000000000:=by omega
   have hlt':m' < gk:=by rw [hm'];exact Nat.div_lt_self (by omega) (by omega)
   have HML:=hide hml
   clear hm' hr0 hml h19
   generalize hla:(wd 18446744073709551616 gk).length=la at *
   clear hla
   have hwl:Hid (0<(wd 18446744073709551616 m').length):=by show _<_;rw [Nat.pos_iff_ne_zero];intro e;rw [wd_len_zero (by omega)] at e;omega
   go_wp2_with fail
   refine (unhide BW).mono ?_
   rintro e w2 ⟨v2,rfl,hv2,hb2,hf2⟩
   have HV2:=hide hv2
   have HOWN2:=hide (owns_but (unhide HOWN) hb2)
   have HBUT2:Hid (But [] w w2):=(unhide HBUT).trans' hb2
   have HOFF:Hid (OffB u7 v2):=fun k hk b off n c e=>by
    have h1:=((unhide HOWN).lt k hk).2
    have h2:=hf2 b off n c e
    omega
   clear hv2 hb2 hf2
   go_wp2_with fail
   go_loopw [7,8,18] (fun vb rest c wq=>∃ j q:Nat,j≤19∧c=.int .i64 j∧rest=.int .u64 q∧q<10000000000000000000∧Hid (q=r0/10^j∧wq.ownsRow w.heap.size 5 1 vb (ds++pdig j r0).length ((ds++pdig j r0).map u8v)∧But [] w wq∧Sl .u64 wq v2 (wd 18446744073709551616 m')∧OffB vb v2)) (fun _ _ c _=>19-(intOf c).toNat)
   case atStart=>exact ⟨0,r0,by omega,rfl,rfl,hr0l,by simp,by simpa [pdig] using unhide HOWN2,unhide HBUT2,unhide HV2,unhide HOFF⟩
   case round =>
    obtain ⟨j,q,hj,rfl,rfl,hq,HI⟩:=hrel
    rename World=>wq
    by_cases hj19:j=19
    ·subst hj19
     have HIK:=hide (unhide HI).2
     clear HI
     go_wp2
     go_roundg m'
     case measure=>exact hlt'
     case rel =>
      obtain ⟨k1,k2,k3,-⟩:=unhide HIK
      refine ⟨ds++pdig 19 r0,k3,k1,k2,?_,fun _=>hmp,by have:=unhide HML;omega⟩
      rw [unhide HDG,unhide hDP,List.append_assoc]
    ·have hj2:j<19:=by omega
     obtain ⟨dg,hdg⟩:∃ dg,dg=q%10:=⟨_,rfl⟩
     obtain ⟨q',hq'⟩:∃ q',q'=q/10:=⟨_,rfl⟩
     have hd10:dg<10:=by omega
     have hq2:q' < 10000000000000000000:=by omega
     have e1:(q:Int)%10=(dg:Int):=by omega
     have e2:(q:Int)/10=(q':Int):=by omega
     have e3:(q:Int).tmod 10=(dg:Int):=by rw [Int.tmod_eq_emod_of_nonneg (by omega)];exact e1
     have e4:(q:Int).tdiv 10=(q':Int):=by rw [Int.tdiv_eq_ediv_of_nonneg (by omega)];exact e2
     have hqj:Hid (q'=r0/10^(j+1)∧pdig (j+1) r0=pdig j r0++[UInt8.ofNat (48+dg)]):=by
      constructor
      ·rw [hq',(unhide HI).1,Nat.div_div_eq_div_mul,Nat.pow_succ]
      ·rw [pdig_snoc,← (unhide HI).1,← hdg]
     have hld:(ds++pdig j r0).length<1073741824:=by rw [List.length_append,pdig_length];omega
     have hAB:=append_byte (wq.alloc (.cells #[.int .u8 (48+(dg:Int))] 5)) w.heap.size u7 (ds++pdig j r0) ((unhide HI).2.1.alloc _) ⟨wq.heap.size,0,none⟩ (UInt8.ofNat (48+dg)) (by rw [← u8v_digit dg hd10];simp) hld (by have:=(unhide HI).2.2.1.size;simp;omega)
     obtain ⟨v3,w3,hr3,ho3,hg3,hb3⟩:=hAB
     have hB3:But [] w w3:=((unhide HI).2.2.1.alloc _).grown hg3 (fun k hk=>((unhide HI).2.1.lt k hk).1)
     obtain ⟨hS3,hO3⟩:=(unhide HI).2.2.2.2.grow (unhide HI).2.2.2.1 (unhide hwl) hg3 hb3
     have ALL:=hide (And.intro ho3 (And.intro hB3 (And.intro hS3 hO3)))
     have HR3:=hide hr3
     clear ho3 hB3 hS3 hO3 hg3 hb3 hr3 hld hdg hq'
     go_wp2_with (at_builtin;refine wpList_app rfl _ _ 136 136 rfl _ _ v3 w3 rfl rfl (unhide HR3) ?_)
     refine ⟨⟨j+1,q',by omega,by go_num,rfl,hq2,(unhide hqj).1,?_,(unhide ALL).2.1,(unhide ALL).2.2.1,(unhide ALL).2.2.2⟩,?_⟩
     ·rw [(unhide hqj).2,← List.append_assoc];exact (unhide ALL).1
     ·simp [intOf];omega
  ·by_cases hg0:gk=0
   ·subst hg0
    have HOWNt:=HOWN
    have HBUTt:=HBUT
    rw [wd_zero,List.length_nil]
    have hdg:=unhide HDG
    rw [rdig_zero,List.append_nil] at hdg
    clear HSL hlen hpos hm HDG
    have hE:rdig X=ds:=hdg
    clear hdg
    have PAD0:Hid (wr.ownsRow w.heap.size 5 1 u7 (ds++List.replicate 0 48).length ((ds++List.replicate 0 48).map u8v)∧But [] w wr):=by
     rw [List.replicate_zero,List.append_nil];exact ⟨unhide HOWN,unhide HBUT⟩
    have HEX:=hide hE
    have hel2:ds.length+Wd<1073741000:=by have:=unhide HD;rw [hE] at this;omega
    clear hE
    go_wp2_with fail
    go_loopg [7] (Wd-ds.length) (fun k vb wp=>∃ j:Nat,j+k=Wd-ds.length∧Hid (wp.ownsRow w.heap.size 5 1 vb (ds++List.replicate j 48).length ((ds++List.replicate j 48).map u8v)∧But [] w wp))
    case atStart=>exact ⟨0,by omega,PAD0⟩
    case round =>
     clear PAD0
     obtain ⟨j,hjk,HP⟩:=hrel
     rename World=>wp
     obtain ⟨pa,pc,hpe⟩:=owns_shape (unhide HP).1
     have hpl:(ds++List.replicate j 48).length=ds.length+j:=by rw [List.length_append,List.length_replicate]
     by_cases hk0:gk=0
     ·subst hk0
      have hfs:ds++List.replicate j (48:UInt8)=wdig Wd X:=by rw [wdig,unhide HEX,show j=Wd-ds.length from by omega]
      have hfl:0<(wdig Wd X).length:=wdig_pos Wd X (unhide HX)
      have hown:=(unhide HP).1
      rw [hfs] at hown hpl
      obtain ⟨g,cg,hg7,hgb,hcg,hrow⟩:=owns_row hown hfl
      rw [hg7] at hpe
      subst hg7
      have HGB:=hide hgb
      have RV:=hide (reverse_any g cg ((wdig Wd X).map UInt8.toNat) wp hrow (by simpa using hfl) (by rw [List.length_map];omega))
      rw [List.length_map] at RV
      have BUT:=hide (unhide HP).2
      have hlw:(wdig Wd X).length<1073741000:=by omega
      have hwle:(Wd:Int)≤((wdig Wd X).length:Int):=by omega
      have HLW:Hid (no+(wdig Wd X).length<1073741000):=by
       have h1:=unhide HD
       have h2:=wdig_length Wd X
       show _<_
       omega
      clear hown hrow hgb hcg HP hfs hfl hpe hpl hjk
      generalize hne:(wdig Wd X).length=ne at *
      go_wp2_with fail
      refine (unhide RV).mono ?_
      rintro e w4 ⟨rfl,hr4,hb4⟩
      rw [← List.map_reverse] at hr4
      obtain ⟨i0,hi,hz0,hz1,hz2⟩:=info_u8
      have hB4:But [] w w4:=(unhide BUT).trans hb4 (fun x hx=>by simp at hx;subst hx;exact .inr (unhide HGB))
      have hO4:=owns_but (unhide HO) hB4
      have hbs:=unhide HBS
      have hlw2:=unhide HLW
      obtain ⟨v5,w5,hr5,ho5,hg5,-⟩:=run_append_own (P:=Tryz.prog) w4 base 136 136 5 i0 (.int .u8 0) 1 1 Tryz.underlying136 hi hz0 hz1 hz2 rfl (by decide) (.slice oa no oc) no (ods.map u8v) hO4 ⟨g,0,none⟩ ne cg ((wdig Wd X).reverse.map u8v) (by rw [List.length_map,List.length_reverse,hne,Nat.mul_one]) (row_news hr4) (fun u hu=>by obtain ⟨x,-,rfl⟩:=List.mem_map.1 hu;rfl) (by unfold maxLen;omega) (by omega) (Nat.le_trans hbs hB4.size)
      have hK:Keep64 w w5:=(Keep64.of_but hB4).trans (keep_grown (ods:=ods) (by rw [unhide HNO];exact hO4) (by rw [unhide HNO];exact unhide HN) hg5)
      have hBe:Below base w w5:=below_trans (hB4.below_of hbs) (below_grown hO4 (Nat.le_trans hbs hB4.size) hg5)
      have ALL:=hide (And.intro ho5 (And.intro hBe hK))
      have HR5:=hide hr5
      clear ho5 hBe hK hr5 hg5 hr4 hb4 hB4 hO4 hi hz0 hz1 hz2 hbs hlw2
      go_wp2_with (at_builtin;refine wpList_app rfl _ _ 136 136 rfl _ _ v5 w5 rfl rfl (unhide HR5) ?_)
      go_ret
      refine ⟨v5,rfl,?_,(unhide ALL).2.1,(unhide ALL).2.2⟩
      rw [List.length_append,List.length_reverse,hne,unhide HNO,List.map_append]
      exact (unhide ALL).1
     ·have hAB:=append_byte (wp.alloc (.cells #[.int .u8 48] 5)) w.heap.size u7 (ds++List.replicate j 48) ((unhide HP).1.alloc _) ⟨wp.heap.size,0,none⟩ 48 (by simp [u8v]) (by omega) (by have:=(unhide HP).2.size;simp;omega)
      obtain ⟨v3,w3,hr3,ho3,hg3,-⟩:=hAB
      have hB3:But [] w w3:=((unhide HP).2.alloc _).grown hg3 (fun k hk=>((unhide HP).1.lt k hk).1)
      rw [List.append_assoc,← List.replicate_succ'] at ho3
      have ALL:=hide (And.intro ho3 hB3)
      rw [hpe] at hr3
      have HR3:=hide hr3
      subst hpe
      have hlt:((ds++List.replicate j (48:UInt8)).length:Int)<(Wd:Int):=by omega
      have hrl:j+1+(gk-1)=Wd-ds.length:=by omega
      have HRL:=hide hrl
      clear ho3 hB3 hg3 hr3 hjk hpl HP hrl
      generalize (ds++List.replicate j (48:UInt8)).length=np at *
      go_wp2_with (at_builtin;refine wpList_app rfl _ _ 136 136 rfl _ _ v3 w3 rfl rfl (unhide HR3) ?_)
      go_roundg (gk-1)
      case measure=>omega
      case rel=>exact ⟨j+1,unhide HRL,unhide ALL⟩
   have hpos:0<gk:=by omega
   have hl1:(wd 18446744073709551616 gk).length=1:=by
    have:(wd 18446744073709551616 gk).length≠0:=by intro e;rw [wd_len_zero (by omega)] at e;omega
    omega
   have hgB:gk < 18446744073709551616:=by
    have:=lt_of_wd_length (B:=18446744073709551616) (by omega) gk 1 (by omega)
    rw [Nat.pow_one] at this;exact this
   have hcell:∃ b off,aa=some ⟨b,off,none⟩∧wr.cell? ⟨b,off,none⟩=some (.int .u64 (gk:Int)):=by
    rcases (unhide HSL).open with ⟨e,-⟩ | ⟨-,b,off,c,e,-,-,hc⟩
    ·rw [e] at hl1;simp at hl1
    ·simp only [Value.slice.injEq] at e
     have h:=hc 0 (by omega)
     rw [Nat.add_zero,wd_word gk hpos hgB] at h
     exact ⟨b,off,e.1,h⟩
   obtain ⟨b,off,rfl,hc0⟩:=hcell
   have HCUR:=hide hpos
   rw [hl1]
   clear hm hl1 hlen HSL
   go_wp2
   go_loopg [7,9] gk (fun m vb rest wq=>∃ es:List UInt8,rest=.int .u64 (m:Int)∧m < 18446744073709551616∧Hid (rdig X=es++rdig m∧wq.ownsRow w.heap.size 5 1 vb es.length (es.map u8v)∧But [] w wq))
   case atStart=>exact ⟨ds,rfl,hgB,unhide HDG,unhide HOWN,unhide HBUT⟩
   case round =>
    obtain ⟨es,rfl,hmB,HI⟩:=hrel
    rename World=>wq
    clear hc0
    have hel:es.length<1073741000:=by have:=congrArg List.length (unhide HI).1;have h2:=unhide HD;rw [List.length_append] at this;omega
    by_cases h0:gk=0
    ·subst h0
     have hE0:rdig X=es:=by have:=(unhide HI).1;rw [rdig_zero,List.append_nil] at this;exact this
     have hE:rdig X=es:=hE0
     clear hE0
     have PAD0:Hid (wq.ownsRow w.heap.size 5 1 u7 (es++List.replicate 0 48).length ((es++List.replicate 0 48).map u8v)∧But [] w wq):=by
      rw [List.replicate_zero,List.append_nil];exact ⟨(unhide HI).2.1,(unhide HI).2.2⟩
     have HEX:=hide hE
     have hel2:es.length+Wd<1073741000:=by have:=unhide HD;rw [hE] at this;omega
     clear hE
     go_wp2_with fail
     go_loopg [7] (Wd-es.length) (fun k vb wp=>∃ j:Nat,j+k=Wd-es.length∧Hid (wp.ownsRow w.heap.size 5 1 vb (es++List.replicate j 48).length ((es++List.replicate j 48).map u8v)∧But [] w wp))
     case atStart=>exact ⟨0,by omega,PAD0⟩
     case round =>
      clear PAD0
      obtain ⟨j,hjk,HP⟩:=hrel
      rename World=>wp
      obtain ⟨pa,pc,hpe⟩:=owns_shape (unhide HP).1
      have hpl:(es++List.replicate j 48).length=es.length+j:=by rw [List.length_append,List.length_replicate]
      by_cases hk0:gk=0
      ·subst hk0
       have hfs:es++List.replicate j (48:UInt8)=wdig Wd X:=by rw [wdig,unhide HEX,show j=Wd-es.length from by omega]
       have hfl:0<(wdig Wd X).length:=wdig_pos Wd X (unhide HX)
       have hown:=(unhide HP).1
       rw [hfs] at hown hpl
       obtain ⟨g,cg,hg7,hgb,hcg,hrow⟩:=owns_row hown hfl
       rw [hg7] at hpe
       subst hg7
       have HGB:=hide hgb
       have RV:=hide (reverse_any g cg ((wdig Wd X).map UInt8.toNat) wp hrow (by simpa using hfl) (by rw [List.length_map];omega))
       rw [List.length_map] at RV
       have BUT:=hide (unhide HP).2
       have hlw:(wdig Wd X).length<1073741000:=by omega
       have hwle:(Wd:Int)≤((wdig Wd X).length:Int):=by omega
       have HLW:Hid (no+(wdig Wd X).length<1073741000):=by
        have h1:=unhide HD
        have h2:=wdig_length Wd X
        show _<_
        omega
       clear hown hrow hgb hcg HP hfs hfl hpe hpl hjk
       generalize hne:(wdig Wd X).length=ne at *
       go_wp2_with fail
       refine (unhide RV).mono ?_
       rintro e w4 ⟨rfl,hr4,hb4⟩
       rw [← List.map_reverse] at hr4
       obtain ⟨i0,hi,hz0,hz1,hz2⟩:=info_u8
       have hB4:But [] w w4:=(unhide BUT).trans hb4 (fun x hx=>by simp at hx;subst hx;exact .inr (unhide HGB))
       have hO4:=owns_but (unhide HO) hB4
       have hbs:=unhide HBS
       have hlw2:=unhide HLW
       obtain ⟨v5,w5,hr5,ho5,hg5,-⟩:=run_append_own (P:=Tryz.prog) w4 base 136 136 5 i0 (.int .u8 0) 1 1 Tryz.underlying136 hi hz0 hz1 hz2 rfl (by decide) (.slice oa no oc) no (ods.map u8v) hO4 ⟨g,0,none⟩ ne cg ((wdig Wd X).reverse.map u8v) (by rw [List.length_map,List.length_reverse,hne,Nat.mul_one]) (row_news hr4) (fun u hu=>by obtain ⟨x,-,rfl⟩:=List.mem_map.1 hu;rfl) (by unfold maxLen;omega) (by omega) (Nat.le_trans hbs hB4.size)
       have hK:Keep64 w w5:=(Keep64.of_but hB4).trans (keep_grown (ods:=ods) (by rw [unhide HNO];exact hO4) (by rw [unhide HNO];exact unhide HN) hg5)
       have hBe:Below base w w5:=below_trans (hB4.below_of hbs) (below_grown hO4 (Nat.le_trans hbs hB4.size) hg5)
       have ALL:=hide (And.intro ho5 (And.intro hBe hK))
       have HR5:=hide hr5
       clear ho5 hBe hK hr5 hg5 hr4 hb4 hB4 hO4 hi hz0 hz1 hz2 hbs hlw2
       go_wp2_with (at_builtin;refine wpList_app rfl _ _ 136 136 rfl _ _ v5 w5 rfl rfl (unhide HR5) ?_)
       go_ret
       refine ⟨v5,rfl,?_,(unhide ALL).2.1,(unhide ALL).2.2⟩
       rw [List.length_append,List.length_reverse,hne,unhide HNO,List.map_append]
       exact (unhide ALL).1
      ·have hAB:=append_byte (wp.alloc (.cells #[.int .u8 48] 5)) w.heap.size u7 (es++List.replicate j 48) ((unhide HP).1.alloc _) ⟨wp.heap.size,0,none⟩ 48 (by simp [u8v]) (by omega) (by have:=(unhide HP).2.size;simp;omega)
       obtain ⟨v3,w3,hr3,ho3,hg3,-⟩:=hAB
       have hB3:But [] w w3:=((unhide HP).2.alloc _).grown hg3 (fun k hk=>((unhide HP).1.lt k hk).1)
       rw [List.append_assoc,← List.replicate_succ'] at ho3
       have ALL:=hide (And.intro ho3 hB3)
       rw [hpe] at hr3
       have HR3:=hide hr3
       subst hpe
       have hlt:((es++List.replicate j (48:UInt8)).length:Int)<(Wd:Int):=by omega
       have hrl:j+1+(gk-1)=Wd-es.length:=by omega
       have HRL:=hide hrl
       clear ho3 hB3 hg3 hr3 hjk hpl HP hrl
       generalize (es++List.replicate j (48:UInt8)).length=np at *
       go_wp2_with (at_builtin;refine wpList_app rfl _ _ 136 136 rfl _ _ v3 w3 rfl rfl (unhide HR3) ?_)
       go_roundg (gk-1)
       case measure=>omega
       case rel=>exact ⟨j+1,unhide HRL,unhide ALL⟩
    ·have hp:0<gk:=by omega
     obtain ⟨dg,hdg⟩:∃ dg,dg=gk%10:=⟨_,rfl⟩
     obtain ⟨q',hq'⟩:∃ q',q'=gk/10:=⟨_,rfl⟩
     have hd10:dg<10:=by omega
     have hq2:q' < 18446744073709551616:=by omega
     have hlt':q' < gk:=by omega
     have e0:((gk:Int) != 0)=true:=by simp;omega
     have e1:(gk:Int)%10=(dg:Int):=by omega
     have e2:(gk:Int)/10=(q':Int):=by omega
     have e3:(gk:Int).tmod 10=(dg:Int):=by rw [Int.tmod_eq_emod_of_nonneg (by omega)];exact e1
     have e4:(gk:Int).tdiv 10=(q':Int):=by rw [Int.tdiv_eq_ediv_of_nonneg (by omega)];exact e2
     have hqj:Hid (rdig X=(es++[UInt8.ofNat (48+dg)])++rdig q'):=by
      show _=_
      rw [(unhide HI).1,rdig_pos hp,← hdg,← hq',List.append_assoc];rfl
     have hAB:=append_byte (wq.alloc (.cells #[.int .u8 (48+(dg:Int))] 5)) w.heap.size u7 es ((unhide HI).2.1.alloc _) ⟨wq.heap.size,0,none⟩ (UInt8.ofNat (48+dg)) (by rw [← u8v_digit dg hd10];simp) (by omega) (by have:=(unhide HI).2.2.size;simp;omega)
     obtain ⟨v3,w3,hr3,ho3,hg3,-⟩:=hAB
     have hB3:But [] w w3:=((unhide HI).2.2.alloc _).grown hg3 (fun k hk=>((unhide HI).2.1.lt k hk).1)
     have ALL:=hide (And.intro ho3 hB3)
     have HR3:=hide hr3
     clear ho3 hB3 hg3 hr3 hdg hq'
     go_wp2_with (at_builtin;refine wpList_app rfl _ _ 136 136 rfl _ _ v3 w3 rfl rfl (unhide HR3) ?_)
     go_roundg q'
     case measure=>exact hlt'
     case rel=>exact ⟨_,rfl,hq2,unhide hqj,(unhide ALL).1,(unhide ALL).2⟩
end Go.Proofs.YtollloafckcogaaGreatDoor
