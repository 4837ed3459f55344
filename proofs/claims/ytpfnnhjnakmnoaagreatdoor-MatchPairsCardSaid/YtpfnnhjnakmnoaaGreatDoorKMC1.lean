/- A whole number is divided by a word: the -/
import Derived.Lib.ItoaMem
import Derived.Laws.IdiomStrings
import Derived.Lib.AppendIntMem
import Derived.Test.YtpfnnhjnakmnoaaGreatDoorKMG0
namespace Go.Proofs.YtpfnnhjnakmnoaaGreatDoor
open Go.RowKit
set_option maxHeartbeats 2000000
set_option maxRecDepth 100000
theorem byWord_fresh (v:Value) (X d:Nat) (w:World) (hv:Sl .u64 w v (wd 18446744073709551616 X)) (hl:(wd 18446744073709551616 X).length<1073741824) (hd:0<d) (hdB:d < 18446744073709551616) :
  Calls Tryz.prog 165 #[v,.int .u64 (d:Int)] w fun e w'=>∃ v',e=.returned (.tuple #[v',.int .u64 ((X%d:Nat):Int)])∧Sl .u64 w' v' (wd 18446744073709551616 (X/d))∧But [] w w'∧Fresh w.heap.size v':=by
 have mm:=wd_mem (B:=18446744073709551616) (by omega) X
 have em:=vl_wd (B:=18446744073709551616) (by omega) X
 obtain ⟨a,c,rfl,hc,hcell,-⟩:=hv
 generalize wd 18446744073709551616 X=xs at *
 subst em
 obtain ⟨R,hR⟩:∃ R,R=vl 18446744073709551616 xs%d:=⟨_,rfl⟩
 rw [← hR]
 have HR:=hide hR
 have hmk:=fun wx=>run_make64 wx xs.length (by omega)
 have HC:=hide hcell
 have MM:=hide mm
 clear hcell mm hR
 go_enter Tryz.func165,Tryz.ntmps165
 go_wp2
 go_loopw [7,8] (fun r i wr=>∃ (k rN:Nat) (rs:List Nat),k≤xs.length∧i=.int .i64 ((k:Int)-1)∧r=.int .u64 rN∧rN<d∧rs.length=xs.length∧Hid (ByInv xs rs d k rN∧But [] w wr∧Seg wr w.heap.size 0 rs)) (fun _ i _=>(intOf i+1).toNat)
 case atStart=>exact ⟨xs.length,0,List.replicate xs.length 0,Nat.le_refl _,rfl,rfl,hd,by simp,ByInv.start xs d hd,(But.refl _ _).alloc _,Seg.made _ _ _⟩
 case round =>
  obtain ⟨k,rN,rs,hk,rfl,rfl,hrN,hrl,HI⟩:=hrel
  rename World=>wr
  by_cases hk0:k=0
  ·subst hk0
   have hsl:=(unhide HI).2.2.sl xs.length (by omega)
   rw [hrl] at hsl
   have HSL:=hide hsl
   have HF:=hide (unhide HI).1.fin
   have hln:rs.length<2147483648:=by omega
   clear hsl HC
   go_wp2_with fail
   refine (trimmed_any _ rs _ (unhide HSL) (unhide HI).1.mem hln).mono ?_
   rintro e w1 ⟨v1,rfl,hv1,hw,hsb⟩
   obtain rfl:=hw.symm
   clear hw
   rw [(unhide HF).1] at hv1
   have HV1:=hide hv1
   have HSB:=hide hsb
   clear hsb
   have er:Hid (rN=R):=by show _=_;rw [unhide HR];exact (unhide HF).2
   clear hv1
   go_wp2
   go_ret2
   exact ⟨v1,by rw [← unhide er];rfl,unhide HV1,(unhide HI).2.1,fresh_of (unhide HSB) (Nat.le_refl _)⟩
  ·obtain ⟨i,rfl⟩:∃ i,k=i+1:=⟨k-1,by omega⟩
   obtain ⟨b,off,rfl,hci⟩:=unhide HC i (by omega)
   have cx:=(unhide HI).2.1.cell_some hci (by simp)
   have hxB:xs[i]?.getD 0 < 18446744073709551616:=mem_getD (unhide MM) (by omega) i
   obtain ⟨cr,fr⟩:=(unhide HI).2.2 i (by omega)
   rw [Nat.zero_add] at cr fr
   obtain ⟨q,hq⟩:∃ q,(rN * 18446744073709551616+xs[i]?.getD 0)/d=q:=⟨_,rfl⟩
   obtain ⟨r',hr'⟩:∃ r',(rN * 18446744073709551616+xs[i]?.getD 0)%d=r':=⟨_,rfl⟩
   obtain ⟨hqB,hst⟩:=(unhide HI).1.step (by omega) hxB q r' hq hr'
   have hr'd:r' < d:=hst.lt
   have ST:=hide hst
   have DV:=hide (div64_any rN (xs[i]?.getD 0) d hdB hxB hrN wr q r' hq hr')
   have hset:=(unhide HI).2.2.set i (by omega) q
   rw [Nat.zero_add] at hset
   have HSET:=hide hset
   clear hset hst hci hq hr'
   generalize xs[i]?.getD 0=x at *
   generalize rs[i]?.getD 0=r0 at cr
   rw [show (((i+1:Nat):Int)-1)=(i:Int) from by omega]
   go_wp2_with fail
   refine (unhide DV).mono ?_
   rintro e w1 ⟨rfl,n,rfl⟩
   go_wp2
   refine ⟨⟨i,r',rs.set i q,by omega,rfl,rfl,hr'd,by rw [List.length_set];exact hrl,unhide ST,((unhide HI).2.1.drewN n).setCell (.inr (Nat.le_refl _)) _,?_⟩,?_⟩
   ·exact unhide HSET
   ·simp [intOf]
end Go.Proofs.YtpfnnhjnakmnoaaGreatDoor

namespace Go.Proofs.YtpfnnhjnakmnoaaGreatDoor
open Go.RowKit
def OffB (vb vx:Value):Prop:=∀ k,vb.ownBlock=some k→∀ b off n c,vx=.slice (some ⟨b,off,none⟩) n c→b≠k
theorem OffB.grow {w w':World} {vb vb' vx:Value} {xs:List Nat} {o:Obj} (h:OffB vb vx) (hs:Sl .u64 w vx xs) (h0:0<xs.length) (hg:(w.alloc o).grownBy w' vb.ownBlock) (hb:vb'.ownBlock=vb.ownBlock∨∀ k,vb'.ownBlock=some k→(w.alloc o).heap.size≤k):Sl .u64 w' vx xs∧OffB vb' vx:=by
 constructor
 ·have h1:=hs.but_nil ((But.refl [] w).alloc o)
  cases hr:vb.ownBlock with
  | none=>rw [hr] at hg;exact h1.but_nil (grown_but_none hg)
  | some g=>rw [hr] at hg;exact h1.but (grown_but hg) (fun b off cap n e=>by have:=h g hr b off n cap e;simp;omega)
 ·intro k hk b off n c e
  rcases hb with hb | hb
  ·rw [hb] at hk;exact h k hk b off n c e
  ·have h1:=hb k hk
   have h2:=hs.lt h0 b off n c e
   simp at h1
   omega
theorem row_news {w:World} {g:Nat} {es:List UInt8} (h:Row .u8 w g (es.map UInt8.toNat)):∀ j u,(es.map u8v)[j]? = some u→w.cell? ((⟨g,0,none⟩:Addr).add j)=some u:=fun j u hj=>by
 rw [List.getElem?_map] at hj
 rcases Nat.lt_or_ge j es.length with hl | hl
 ·rw [List.getElem?_eq_getElem hl] at hj
  simp only [Option.map_some,Option.some.injEq] at hj
  have h1:=(h j (by rw [List.length_map];exact hl)).1
  rw [List.getElem?_map,List.getElem?_eq_getElem hl] at h1
  have e:(⟨g,0,none⟩:Addr).add j=⟨g,j,none⟩:=by by_cases h:j=0 <;> simp [Addr.add,h]
  rw [e,h1,← hj]
  rfl
 ·rw [List.getElem?_eq_none hl] at hj
  simp at hj
theorem ten19_lt {q:Nat} (h:1<(wd 18446744073709551616 q).length):10000000000000000000≤q:=by
 rcases Nat.lt_or_ge q 18446744073709551616 with h1 | h1
 ·have:=wd_length_le (B:=18446744073709551616) (by omega) q 1 (by rw [Nat.pow_one];exact h1)
  omega
 ·omega
end Go.Proofs.YtpfnnhjnakmnoaaGreatDoor

namespace Go.Proofs.YtpfnnhjnakmnoaaGreatDoor
open Go.RowKit
set_option maxHeartbeats 4000000
set_option maxRecDepth 100000
structure ShortAt (w:World) (n m:Nat) (ds:List UInt8) (vb vx:Value) (wr:World):Prop where
 words:Sl .u64 wr vx (wd 18446744073709551616 m)
 own:wr.ownsRow w.heap.size 5 1 vb ds.length (ds.map u8v)
 but:But [] w wr
 dig:rdig n=ds++rdig m
 pos:0<n→0<m
 len:(wd 18446744073709551616 m).length<1048576
theorem appendShort_any (base:Nat) (vo:Value) (ods:List UInt8) (v:Value) (X Wd:Nat) (w:World) (hv:Sl .u64 w v (wd 18446744073709551616 X)) (hX:0<X∨0<Wd) (hl:(wd 18446744073709551616 X).length<1048576) (hd:ods.length+(rdig X).length+Wd<1073741000) (ho:w.ownsRow base 5 1 vo ods.length (ods.map u8v)) (hn:vo=.slice none 0 0∨0<ods.length) (hbase:base≤w.heap.size) :
  Calls Tryz.prog 133 #[vo,v,.int .i64 (Wd:Int)] w fun e w'=>∃ v',e=.returned v'∧w'.ownsRow base 5 1 v' (ods++(wdig Wd X).reverse).length ((ods++(wdig Wd X).reverse).map u8v)∧Below base w w'∧Keep64 w w':=by
 have HO:=hide ho
 have HN:=hide hn
 have HBS:=hide hbase
 obtain ⟨oa,oc,rfl⟩:=owns_shape ho
 clear ho hn hbase
 have HV:=hide hv
 clear hv
 obtain ⟨xa,xc,rfl,-,-⟩:=unhide HV
 have HX:=hide hX
 have HD:=hide hd
 clear hX hd
 generalize hno:ods.length=no at *
 have HNO:=hide hno
 clear hno
 go_enter Tryz.func133,Tryz.ntmps133
 go_wp2
 go_loopg [7,1] X (fun m vb vx wr=>∃ ds:List UInt8,ShortAt w X m ds vb vx wr)
 case atStart=>exact ⟨[],⟨unhide HV,World.ownsRow_nil _ _ _ _,But.refl _ _,rfl,fun h=>h,hl⟩⟩
 case round =>
  obtain ⟨ds,hI⟩:=hrel
  rename World=>wr
  obtain ⟨hsl,hown,hbut,hdig,hpos,hlen⟩:=hI
  have hdl:ds.length<1073741000:=by have:=congrArg List.length hdig;have h2:=unhide HD;rw [List.length_append] at this;omega
  have HSL:=hide hsl
  obtain ⟨aa,ca,rfl,-,-⟩:=hsl
  have HDG:=hide hdig
  have HOWN:=hide hown
  have HBUT:=hide hbut
  clear hdig hown hbut
  by_cases hm:1<(wd 18446744073709551616 gk).length
  ·have h19:=ten19_lt hm
   obtain ⟨m',hm'⟩:∃ m',m'=gk/10000000000000000000:=⟨_,rfl⟩
   obtain ⟨r0,hr0⟩:∃ r0,r0=gk%10000000000000000000:=⟨_,rfl⟩
   have hmp:0<m':=by omega
   have hml:(wd 18446744073709551616 m').length≤(wd 18446744073709551616 gk).length:=wd_len_mono (by omega)
   have BW:=hide (byWord_fresh _ gk 10000000000000000000 wr (unhide HSL) (by omega) (by omega) (by omega))
   rw [← hm',← hr0] at BW
   have hDP:Hid (rdig gk=pdig 19 r0++rdig m'):=by
    show _=_
    have h:=rdig_part 19 gk (by exact h19)
    rw [← pdig_mod 19 gk] at h
    rw [hm',hr0]
    exact h
   have hr0l:r0<10000000000000000000:=by omega
   have hlt':m' < gk:=by rw [hm'];exact Nat.div_lt_self (by omega) (by omega)
   have HML:=hide hml
   clear hm' hr0 hml h19
   generalize hla:(wd 18446744073709551616 gk).length=la at *
   clear hla
   have hwl:Hid (0<(wd 18446744073709551616 m').length):=by show _<_;rw [Nat.pos_iff_ne_zero];intro e;rw [wd_len_zero (by omega)] at e;omega
   go_wp2_with fail
   refine (unhide BW).mono ?_
   rintro e w2 ⟨v2,rfl,hv2,hb2,hf2⟩
   have HV2:=hide hv2
   have HOWN2:=hide (owns_but (unhide HOWN) hb2)
   have HBUT2:Hid (But [] w w2):=(unhide HBUT).trans' hb2
   have HOFF:Hid (OffB u7 v2):=fun k hk b off n c e=>by
    have h1:=((unhide HOWN).lt k hk).2
    have h2:=hf2 b off n c e
    omega
   clear hv2 hb2 hf2
   go_wp2_with fail
   go_loopw [7,8,18] (fun vb rest c wq=>∃ j q:Nat,j≤19∧c=.int .i64 j∧rest=.int .u64 q∧q<10000000000000000000∧Hid (q=r0/10^j∧wq.ownsRow w.heap.size 5 1 vb (ds++pdig j r0).length ((ds++pdig j r0).map u8v)∧But [] w wq∧Sl .u64 wq v2 (wd 18446744073709551616 m')∧OffB vb v2)) (fun _ _ c _=>19-(intOf c).toNat)
   case atStart=>exact ⟨0,r0,by omega,rfl,rfl,hr0l,by simp,by simpa [pdig] using unhide HOWN2,unhide HBUT2,unhide HV2,unhide HOFF⟩
   case round =>
    obtain ⟨j,q,hj,rfl,rfl,hq,HI⟩:=hrel
    rename World=>wq
    by_cases hj19:j=19
    ·subst hj19
     have HIK:=hide (unhide HI).2
     clear HI
     go_wp2
     go_roundg m'
     case measure=>exact hlt'
     case rel =>
      obtain ⟨k1,k2,k3,-⟩:=unhide HIK
      refine ⟨ds++pdig 19 r0,k3,k1,k2,?_,fun _=>hmp,by have:=unhide HML;omega⟩
      rw [unhide HDG,unhide hDP,List.append_assoc]
    ·have hj2:j<19:=by omega
     obtain ⟨dg,hdg⟩:∃ dg,dg=q%10:=⟨_,rfl⟩
     obtain ⟨q',hq'⟩:∃ q',q'=q/10:=⟨_,rfl⟩
     have hd10:dg<10:=by omega
     have hq2:q' < 10000000000000000000:=by omega
     have e1:(q:Int)%10=(dg:Int):=by omega
     have e2:(q:Int)/10=(q':Int):=by omega
     have e3:(q:Int).tmod 10=(dg:Int):=by rw [Int.tmod_eq_emod_of_nonneg (by omega)];exact e1
     have e4:(q:Int).tdiv 10=(q':Int):=by rw [Int.tdiv_eq_ediv_of_nonneg (by omega)];exact e2
     have hqj:Hid (q'=r0/10^(j+1)∧pdig (j+1) r0=pdig j r0++[UInt8.ofNat (48+dg)]):=by
      constructor
      ·rw [hq',(unhide HI).1,Nat.div_div_eq_div_mul,Nat.pow_succ]
      ·rw [pdig_snoc,← (unhide HI).1,← hdg]
     have hld:(ds++pdig j r0).length<1073741824:=by rw [List.length_append,pdig_length];omega
     have hAB:=append_byte (wq.alloc (.cells #[.int .u8 (48+(dg:Int))] 5)) w.heap.size u7 (ds++pdig j r0) ((unhide HI).2.1.alloc _) ⟨wq.heap.size,0,none⟩ (UInt8.ofNat (48+dg)) (by rw [← u8v_digit dg hd10];simp) hld (by have:=(unhide HI).2.2.1.size;simp;omega)
     obtain ⟨v3,w3,hr3,ho3,hg3,hb3⟩:=hAB
     have hB3:But [] w w3:=((unhide HI).2.2.1.alloc _).grown hg3 (fun k hk=>((unhide HI).2.1.lt k hk).1)
     obtain ⟨hS3,hO3⟩:=(unhide HI).2.2.2.2.grow (unhide HI).2.2.2.1 (unhide hwl) hg3 hb3
     have ALL:=hide (And.intro ho3 (And.intro hB3 (And.intro hS3 hO3)))
     have HR3:=hide hr3
     clear ho3 hB3 hS3 hO3 hg3 hb3 hr3 hld hdg hq'
     go_wp2_with (at_builtin;refine wpList_app rfl _ _ 133 133 rfl _ _ v3 w3 rfl rfl (unhide HR3) ?_)
     refine ⟨⟨j+1,q',by omega,by go_num,rfl,hq2,(unhide hqj).1,?_,(unhide ALL).2.1,(unhide ALL).2.2.1,(unhide ALL).2.2.2⟩,?_⟩
     ·rw [(unhide hqj).2,← List.append_assoc];exact (unhide ALL).1
     ·simp [intOf];omega
  ·by_cases hg0:gk=0
   ·subst hg0
    have HOWNt:=HOWN
    have HBUTt:=HBUT
    rw [wd_zero,List.length_nil]
    have hdg:=unhide HDG
    rw [rdig_zero,List.append_nil] at hdg
    clear HSL hlen hpos hm HDG
    have hE:rdig X=ds:=hdg
    clear hdg
    have PAD0:Hid (wr.ownsRow w.heap.size 5 1 u7 (ds++List.replicate 0 48).length ((ds++List.replicate 0 48).map u8v)∧But [] w wr):=by
     rw [List.replicate_zero,List.append_nil];exact ⟨unhide HOWN,unhide HBUT⟩
    have HEX:=hide hE
    have hel2:ds.length+Wd<1073741000:=by have:=unhide HD;rw [hE] at this;omega
    clear hE
    go_wp2_with fail
    go_loopg [7] (Wd-ds.length) (fun k vb wp=>∃ j:Nat,j+k=Wd-ds.length∧Hid (wp.ownsRow w.heap.size 5 1 vb (ds++List.replicate j 48).length ((ds++List.replicate j 48).map u8v)∧But [] w wp))
    case atStart=>exact ⟨0,by omega,PAD0⟩
    case round =>
     clear PAD0
     obtain ⟨j,hjk,HP⟩:=hrel
     rename World=>wp
     obtain ⟨pa,pc,hpe⟩:=owns_shape (unhide HP).1
     have hpl:(ds++List.replicate j 48).length=ds.length+j:=by rw [List.length_append,List.length_replicate]
     by_cases hk0:gk=0
     ·subst hk0
      have hfs:ds++List.replicate j (48:UInt8)=wdig Wd X:=by rw [wdig,unhide HEX,show j=Wd-ds.length from by omega]
      have hfl:0<(wdig Wd X).length:=wdig_pos Wd X (unhide HX)
      have hown:=(unhide HP).1
      rw [hfs] at hown hpl
      obtain ⟨g,cg,hg7,hgb,hcg,hrow⟩:=owns_row hown hfl
      rw [hg7] at hpe
      subst hg7
      have HGB:=hide hgb
      have RV:=hide (reverse_any g cg ((wdig Wd X).map UInt8.toNat) wp hrow (by simpa using hfl) (by rw [List.length_map];omega))
      rw [List.length_map] at RV
      have BUT:=hide (unhide HP).2
      have hlw:(wdig Wd X).length<1073741000:=by omega
      have hwle:(Wd:Int)≤((wdig Wd X).length:Int):=by omega
      have HLW:Hid (no+(wdig Wd X).length<1073741000):=by
       have h1:=unhide HD
       have h2:=wdig_length Wd X
       show _<_
       omega
      clear hown hrow hgb hcg HP hfs hfl hpe hpl hjk
      generalize hne:(wdig Wd X).length=ne at *
      go_wp2_with fail
      refine (unhide RV).mono ?_
      rintro e w4 ⟨rfl,hr4,hb4⟩
      rw [← List.map_reverse] at hr4
      obtain ⟨i0,hi,hz0,hz1,hz2⟩:=info_u8
      have hB4:But [] w w4:=(unhide BUT).trans hb4 (fun x hx=>by simp at hx;subst hx;exact .inr (unhide HGB))
      have hO4:=owns_but (unhide HO) hB4
      have hbs:=unhide HBS
      have hlw2:=unhide HLW
      obtain ⟨v5,w5,hr5,ho5,hg5,-⟩:=run_append_own (P:=Tryz.prog) w4 base 133 133 5 i0 (.int .u8 0) 1 1 Tryz.underlying133 hi hz0 hz1 hz2 rfl (by decide) (.slice oa no oc) no (ods.map u8v) hO4 ⟨g,0,none⟩ ne cg ((wdig Wd X).reverse.map u8v) (by rw [List.length_map,List.length_reverse,hne,Nat.mul_one]) (row_news hr4) (fun u hu=>by obtain ⟨x,-,rfl⟩:=List.mem_map.1 hu;rfl) (by unfold maxLen;omega) (by omega) (Nat.le_trans hbs hB4.size)
      have hK:Keep64 w w5:=(Keep64.of_but hB4).trans (keep_grown (ods:=ods) (by rw [unhide HNO];exact hO4) (by rw [unhide HNO];exact unhide HN) hg5)
      have hBe:Below base w w5:=below_trans (hB4.below_of hbs) (below_grown hO4 (Nat.le_trans hbs hB4.size) hg5)
      have ALL:=hide (And.intro ho5 (And.intro hBe hK))
      have HR5:=hide hr5
      clear ho5 hBe hK hr5 hg5 hr4 hb4 hB4 hO4 hi hz0 hz1 hz2 hbs hlw2
      go_wp2_with (at_builtin;refine wpList_app rfl _ _ 133 133 rfl _ _ v5 w5 rfl rfl (unhide HR5) ?_)
      go_ret
      refine ⟨v5,rfl,?_,(unhide ALL).2.1,(unhide ALL).2.2⟩
      rw [List.length_append,List.length_reverse,hne,unhide HNO,List.map_append]
      exact (unhide ALL).1
     ·have hAB:=append_byte (wp.alloc (.cells #[.int .u8 48] 5)) w.heap.size u7 (ds++List.replicate j 48) ((unhide HP).1.alloc _) ⟨wp.heap.size,0,none⟩ 48 (by simp [u8v]) (by omega) (by have:=(unhide HP).2.size;simp;omega)
      obtain ⟨v3,w3,hr3,ho3,hg3,-⟩:=hAB
      have hB3:But [] w w3:=((unhide HP).2.alloc _).grown hg3 (fun k hk=>((unhide HP).1.lt k hk).1)
      rw [List.append_assoc,← List.replicate_succ'] at ho3
      have ALL:=hide (And.intro ho3 hB3)
      rw [hpe] at hr3
      have HR3:=hide hr3
      subst hpe
      have hlt:((ds++List.replicate j (48:UInt8)).length:Int)<(Wd:Int):=by omega
      have hrl:j+1+(gk-1)=Wd-ds.length:=by omega
      have HRL:=hide hrl
      clear ho3 hB3 hg3 hr3 hjk hpl HP hrl
      generalize (ds++List.replicate j (48:UInt8)).length=np at *
      go_wp2_with (at_builtin;refine wpList_app rfl _ _ 133 133 rfl _ _ v3 w3 rfl rfl (unhide HR3) ?_)
      go_roundg (gk-1)
      case measure=>omega
      case rel=>exact ⟨j+1,unhide HRL,unhide ALL⟩
   have hpos:0<gk:=by omega
   have hl1:(wd 18446744073709551616 gk).length=1:=by
    have:(wd 18446744073709551616 gk).length≠0:=by intro e;rw [wd_len_zero (by omega)] at e;omega
    omega
   have hgB:gk < 18446744073709551616:=by
    have:=lt_of_wd_length (B:=18446744073709551616) (by omega) gk 1 (by omega)
    rw [Nat.pow_one] at this;exact this
   have hcell:∃ b off,aa=some ⟨b,off,none⟩∧wr.cell? ⟨b,off,none⟩=some (.int .u64 (gk:Int)):=by
    rcases (unhide HSL).open with ⟨e,-⟩ | ⟨-,b,off,c,e,-,-,hc⟩
    ·rw [e] at hl1;simp at hl1
    ·simp only [Value.slice.injEq] at e
     have h:=hc 0 (by omega)
     rw [Nat.add_zero,wd_word gk hpos hgB] at h
     exact ⟨b,off,e.1,h⟩
   obtain ⟨b,off,rfl,hc0⟩:=hcell
   have HCUR:=hide hpos
   rw [hl1]
   clear hm hl1 hlen HSL
   go_wp2
   go_loopg [7,9] gk (fun m vb rest wq=>∃ es:List UInt8,rest=.int .u64 (m:Int)∧m < 18446744073709551616∧Hid (rdig X=es++rdig m∧wq.ownsRow w.heap.size 5 1 vb es.length (es.map u8v)∧But [] w wq))
   case atStart=>exact ⟨ds,rfl,hgB,unhide HDG,unhide HOWN,unhide HBUT⟩
   case round =>
    obtain ⟨es,rfl,hmB,HI⟩:=hrel
    rename World=>wq
    clear hc0
    have hel:es.length<1073741000:=by have:=congrArg List.length (unhide HI).1;have h2:=unhide HD;rw [List.length_append] at this;omega
    by_cases h0:gk=0
    ·subst h0
     have hE0:rdig X=es:=by have:=(unhide HI).1;rw [rdig_zero,List.append_nil] at this;exact this
     have hE:rdig X=es:=hE0
     clear hE0
     have PAD0:Hid (wq.ownsRow w.heap.size 5 1 u7 (es++List.replicate 0 48).length ((es++List.replicate 0 48).map u8v)∧But [] w wq):=by
      rw [List.replicate_zero,List.append_nil];exact ⟨(unhide HI).2.1,(unhide HI).2.2⟩
     have HEX:=hide hE
     have hel2:es.length+Wd<1073741000:=by have:=unhide HD;rw [hE] at this;omega
     clear hE
     go_wp2_with fail
     go_loopg [7] (Wd-es.length) (fun k vb wp=>∃ j:Nat,j+k=Wd-es.length∧Hid (wp.ownsRow w.heap.size 5 1 vb (es++List.replicate j 48).length ((es++List.replicate j 48).map u8v)∧But [] w wp))
     case atStart=>exact ⟨0,by omega,PAD0⟩
     case round =>
      clear PAD0
      obtain ⟨j,hjk,HP⟩:=hrel
      rename World=>wp
      obtain ⟨pa,pc,hpe⟩:=owns_shape (unhide HP).1
      have hpl:(es++List.replicate j 48).length=es.length+j:=by rw [List.length_append,List.length_replicate]
      by_cases hk0:gk=0
      ·subst hk0
       have hfs:es++List.replicate j (48:UInt8)=wdig Wd X:=by rw [wdig,unhide HEX,show j=Wd-es.length from by omega]
       have hfl:0<(wdig Wd X).length:=wdig_pos Wd X (unhide HX)
       have hown:=(unhide HP).1
       rw [hfs] at hown hpl
       obtain ⟨g,cg,hg7,hgb,hcg,hrow⟩:=owns_row hown hfl
       rw [hg7] at hpe
       subst hg7
       have HGB:=hide hgb
       have RV:=hide (reverse_any g cg ((wdig Wd X).map UInt8.toNat) wp hrow (by simpa using hfl) (by rw [List.length_map];omega))
       rw [List.length_map] at RV
       have BUT:=hide (unhide HP).2
       have hlw:(wdig Wd X).length<1073741000:=by omega
       have hwle:(Wd:Int)≤((wdig Wd X).length:Int):=by omega
       have HLW:Hid (no+(wdig Wd X).length<1073741000):=by
        have h1:=unhide HD
        have h2:=wdig_length Wd X
        show _<_
        omega
       clear hown hrow hgb hcg HP hfs hfl hpe hpl hjk
       generalize hne:(wdig Wd X).length=ne at *
       go_wp2_with fail
       refine (unhide RV).mono ?_
       rintro e w4 ⟨rfl,hr4,hb4⟩
       rw [← List.map_reverse] at hr4
       obtain ⟨i0,hi,hz0,hz1,hz2⟩:=info_u8
       have hB4:But [] w w4:=(unhide BUT).trans hb4 (fun x hx=>by simp at hx;subst hx;exact .inr (unhide HGB))
       have hO4:=owns_but (unhide HO) hB4
       have hbs:=unhide HBS
       have hlw2:=unhide HLW
       obtain ⟨v5,w5,hr5,ho5,hg5,-⟩:=run_append_own (P:=Tryz.prog) w4 base 133 133 5 i0 (.int .u8 0) 1 1 Tryz.underlying133 hi hz0 hz1 hz2 rfl (by decide) (.slice oa no oc) no (ods.map u8v) hO4 ⟨g,0,none⟩ ne cg ((wdig Wd X).reverse.map u8v) (by rw [List.length_map,List.length_reverse,hne,Nat.mul_one]) (row_news hr4) (fun u hu=>by obtain ⟨x,-,rfl⟩:=List.mem_map.1 hu;rfl) (by unfold maxLen;omega) (by omega) (Nat.le_trans hbs hB4.size)
       have hK:Keep64 w w5:=(Keep64.of_but hB4).trans (keep_grown (ods:=ods) (by rw [unhide HNO];exact hO4) (by rw [unhide HNO];exact unhide HN) hg5)
       have hBe:Below base w w5:=below_trans (hB4.below_of hbs) (below_grown hO4 (Nat.le_trans hbs hB4.size) hg5)
       have ALL:=hide (And.intro ho5 (And.intro hBe hK))
       have HR5:=hide hr5
       clear ho5 hBe hK hr5 hg5 hr4 hb4 hB4 hO4 hi hz0 hz1 hz2 hbs hlw2
       go_wp2_with (at_builtin;refine wpList_app rfl _ _ 133 133 rfl _ _ v5 w5 rfl rfl (unhide HR5) ?_)
       go_ret
       refine ⟨v5,rfl,?_,(unhide ALL).2.1,(unhide ALL).2.2⟩
       rw [List.length_append,List.length_reverse,hne,unhide HNO,List.map_append]
       exact (unhide ALL).1
      ·have hAB:=append_byte (wp.alloc (.cells #[.int .u8 48] 5)) w.heap.size u7 (es++List.replicate j 48) ((unhide HP).1.alloc _) ⟨wp.heap.size,0,none⟩ 48 (by simp [u8v]) (by omega) (by have:=(unhide HP).2.size;simp;omega)
       obtain ⟨v3,w3,hr3,ho3,hg3,-⟩:=hAB
       have hB3:But [] w w3:=((unhide HP).2.alloc _).grown hg3 (fun k hk=>((unhide HP).1.lt k hk).1)
       rw [List.append_assoc,← List.replicate_succ'] at ho3
       have ALL:=hide (And.intro ho3 hB3)
       rw [hpe] at hr3
       have HR3:=hide hr3
       subst hpe
       have hlt:((es++List.replicate j (48:UInt8)).length:Int)<(Wd:Int):=by omega
       have hrl:j+1+(gk-1)=Wd-es.length:=by omega
       have HRL:=hide hrl
       clear ho3 hB3 hg3 hr3 hjk hpl HP hrl
       generalize (es++List.replicate j (48:UInt8)).length=np at *
       go_wp2_with (at_builtin;refine wpList_app rfl _ _ 133 133 rfl _ _ v3 w3 rfl rfl (unhide HR3) ?_)
       go_roundg (gk-1)
       case measure=>omega
       case rel=>exact ⟨j+1,unhide HRL,unhide ALL⟩
    ·have hp:0<gk:=by omega
     obtain ⟨dg,hdg⟩:∃ dg,dg=gk%10:=⟨_,rfl⟩
     obtain ⟨q',hq'⟩:∃ q',q'=gk/10:=⟨_,rfl⟩
     have hd10:dg<10:=by omega
     have hq2:q' < 18446744073709551616:=by omega
     have hlt':q' < gk:=by omega
     have e0:((gk:Int) != 0)=true:=by simp;omega
     have e1:(gk:Int)%10=(dg:Int):=by omega
     have e2:(gk:Int)/10=(q':Int):=by omega
     have e3:(gk:Int).tmod 10=(dg:Int):=by rw [Int.tmod_eq_emod_of_nonneg (by omega)];exact e1
     have e4:(gk:Int).tdiv 10=(q':Int):=by rw [Int.tdiv_eq_ediv_of_nonneg (by omega)];exact e2
     have hqj:Hid (rdig X=(es++[UInt8.ofNat (48+dg)])++rdig q'):=by
      show _=_
      rw [(unhide HI).1,rdig_pos hp,← hdg,← hq',List.append_assoc];rfl
     have hAB:=append_byte (wq.alloc (.cells #[.int .u8 (48+(dg:Int))] 5)) w.heap.size u7 es ((unhide HI).2.1.alloc _) ⟨wq.heap.size,0,none⟩ (UInt8.ofNat (48+dg)) (by rw [← u8v_digit dg hd10];simp) (by omega) (by have:=(unhide HI).2.2.size;simp;omega)
     obtain ⟨v3,w3,hr3,ho3,hg3,-⟩:=hAB
     have hB3:But [] w w3:=((unhide HI).2.2.alloc _).grown hg3 (fun k hk=>((unhide HI).2.1.lt k hk).1)
     have ALL:=hide (And.intro ho3 hB3)
     have HR3:=hide hr3
     clear ho3 hB3 hg3 hr3 hdg hq'
     go_wp2_with (at_builtin;refine wpList_app rfl _ _ 133 133 rfl _ _ v3 w3 rfl rfl (unhide HR3) ?_)
     go_roundg q'
     case measure=>exact hlt'
     case rel=>exact ⟨_,rfl,hq2,unhide hqj,(unhide ALL).1,(unhide ALL).2⟩
end Go.Proofs.YtpfnnhjnakmnoaaGreatDoor

namespace Go.Proofs.YtpfnnhjnakmnoaaGreatDoor
open Go.RowKit Go.Sort Go.Lib
set_option maxHeartbeats 4000000
set_option maxRecDepth 100000
theorem holds_zero0 (w:World) (T:TypeId) (nd:Nat) (hs:nd≤24):Holds (fun (b:UInt8)=>Value.int .u8 (b.toNat:Int)) (w.alloc (.cells zeros24 T)) w.heap.size 0 (Array.replicate nd (0:UInt8)):=fun j hj=>by
 rw [Array.size_replicate] at hj
 refine ⟨?_,by simp⟩
 rw [World.cell?_alloc_new,zeros24_at _ (by omega),getElem!_pos _ j (by rw [Array.size_replicate];exact hj)]
 simp
theorem formatUint_any (u:Nat) (hu:u<18446744073709551616) (w:World) (htab:Lib.TabIs Tryz.prog w "internal/strconv.uint64pow10" .u64 Lib.pow10Tab) (t:ByteArray) (ht:Hid (t=⟨(Lib.decDigits u).toArray⟩)) :
  Calls Tryz.prog 132 #[.int .u64 u,.int .i64 10] w fun e w'=>e=.returned (.string t)∧But [] w w':=by
 by_cases hs:u<100
 ·have H:=hide htab
  clear htab
  go_enter Tryz.func132,Tryz.ntmps132
  go_wp2_with fail
  refine (Tryz.internal_strconv_small u hs _).mono ?_
  rintro e w1 ⟨rfl,hw⟩
  obtain rfl:=hw.symm
  clear hw
  rw [← unhide ht]
  clear ht
  go_wp2
  go_ret
  exact ⟨rfl,But.refl _ _⟩
 ·have hu1:1≤u:=by omega
  have hnd20:Lib.nDigits u≤20:=by have:=Lib.numDigits_eq u hu1 hu;split at this <;> omega
  have H:=hide htab
  clear htab
  go_enter Tryz.func132,Tryz.ntmps132
  go_wp2_with fail
  refine (Tryz.internal_strconv_numDigits u hu1 hu _ (Lib.tabIs_alloc (unhide H) _)).mono ?_
  rintro e w1 ⟨rfl,hw⟩
  obtain rfl:=hw.symm
  clear hw
  have hH0:=holds_zero0 w 220 (Lib.nDigits u) (by omega)
  have hfmt:=hide (Tryz.internal_strconv_formatBase10 w.heap.size 0 24 u (Array.replicate (Lib.nDigits u) 0) (w.alloc (.cells Lib.zeros24 220)) hH0 (by rw [Array.size_replicate];exact Lib.lt_pow_nDigits u) hu (by rw [Array.size_replicate];omega))
  rw [Array.size_replicate] at hfmt
  have HH:=hide hH0
  clear hH0
  have hnl:=Lib.decDigits_length u
  have HND:=hide hnl
  clear hnl
  generalize hndd:Lib.nDigits u=nd at *
  have HE:=hide hndd
  clear hndd
  have hal:Tryz.prog.arrayLen 220 = 24:=by kernel_rfl
  have hsl:∀ W,(Instr.sliceAt 220 (.pointer (some ⟨w.heap.size,0,none⟩)) none (some (.int .i64 (nd:Int))) none).run Tryz.prog W=.ok (.slice (some ⟨w.heap.size,0,none⟩) nd 24) W:=fun W=>by
   rw [run_sliceAt_array_h W 220 ⟨w.heap.size,0,none⟩ (by kernel_rfl) .i64 (nd:Int) (by omega) (by rw [hal];omega)]
   go_simp
  go_wp2_with fail
  refine (unhide hfmt).mono ?_
  rintro e w1 ⟨rfl,k,v',dk,hw1,hF⟩
  have hF':FmtInv (Lib.nDigits u) u 0 v' dk:=by rw [unhide HE];exact hF
  have hcv:(convert 133 9 (.slice (some ⟨w.heap.size,0,none⟩) nd 24)).run Tryz.prog w1=.ok (.string t) w1:=by
   have h:=run_convert_bytes_back (P:=Tryz.prog) w1 133 9 5 ⟨w.heap.size,0,none⟩ 24 (Lib.decDigits u) Tryz.underlying133 Tryz.underlying5 Tryz.underlying9 (fun j hj=>by
    rw [Lib.row_is_numeral hF' j hj,Lib.add_plain,hw1,World.cell?_drewN]
    exact cell?_putRow (fun (b:UInt8)=>Value.int .u8 (b.toNat:Int)) _ w.heap.size 0 _ dk (unhide HH) (by rw [hF.size,Array.size_replicate]) j (by rw [hF.size];rw [unhide HND] at hj;exact hj))
   rw [unhide HND,← unhide ht] at h
   exact h
  have hB:But [] w w1:=by
   rw [hw1,alloc_eq_grow]
   obtain ⟨os',_,e⟩:=putRow_grow_new (fun (b:UInt8)=>Value.int .u8 (b.toNat:Int)) w #[.cells Lib.zeros24 220] w.heap.size 0 dk (Nat.le_refl _)
   rw [e]
   have hg:But [] w (grow w os'):=⟨rfl,rfl,rfl,by show w.heap.size≤(w.heap++os').size;rw [Array.size_append];omega,fun k hk _=>Array.getElem?_append_left hk⟩
   exact hg.drewN k
  clear hw1 hF hF' HH HND HE hfmt
  go_wp2
  go_ret
  exact ⟨rfl,hB⟩
theorem strconvFormatUint_any (u:Nat) (hu:u<18446744073709551616) (w:World) (htab:Lib.TabIs Tryz.prog w "internal/strconv.uint64pow10" .u64 Lib.pow10Tab) (t:ByteArray) (ht:Hid (t=⟨(Lib.decDigits u).toArray⟩)) :
  Calls Tryz.prog 77 #[.int .u64 u,.int .i64 10] w fun e w'=>e=.returned (.string t)∧But [] w w':=by
 have H:=hide htab
 clear htab
 go_enter Tryz.func77,Tryz.ntmps77
 go_wp2_with fail
 refine (formatUint_any u hu _ (unhide H) t ht).mono ?_
 rintro e w1 ⟨rfl,hb⟩
 go_wp2
 go_ret
 exact ⟨rfl,hb⟩
end Go.Proofs.YtpfnnhjnakmnoaaGreatDoor

namespace Go.Proofs.YtpfnnhjnakmnoaaGreatDoor
open Go.RowKit
theorem TabIs.but {w w':World} (h:Lib.TabIs Tryz.prog w "internal/strconv.uint64pow10" .u64 Lib.pow10Tab) (hb:But [] w w'):Lib.TabIs Tryz.prog w' "internal/strconv.uint64pow10" .u64 Lib.pow10Tab :=
 Go.Lib.tabBelow_of_tabIs h w' hb.below
end Go.Proofs.YtpfnnhjnakmnoaaGreatDoor

namespace Go.Proofs.YtpfnnhjnakmnoaaGreatDoor
open Go.RowKit
set_option maxHeartbeats 8000000
set_option maxRecDepth 100000
structure Powers (w:World) (vp:Value) (us:List Value):Prop where
 form:∃ a c,vp=.slice a us.length c∧us.length≤c∧∀ j u,us[j]? = some u→∃ g o,a=some ⟨g,o,none⟩∧g<w.heap.size∧w.cell? ⟨g,o+j,none⟩=some u
 all:∀ j u,us[j]? = some u→Sl .u64 w u (wd 18446744073709551616 (tenP j))
theorem powers_of {w:World} {base:Nat} {vp:Value} {us:List Value} (h:w.ownsRow base 71 1 vp us.length us) (ha:∀ j u,us[j]? = some u→Sl .u64 w u (wd 18446744073709551616 (tenP j))):Powers w vp us:=by
 refine ⟨?_,ha⟩
 rcases h.2 with ⟨rfl,h0⟩ | ⟨g,cap,cur,rfl,h2,h3,h4,-⟩
 ·exact ⟨none,0,by rw [h0],by omega,fun j u hj=>by have:=(List.getElem?_eq_some_iff.1 hj).1;omega⟩
 ·refine ⟨_,cap,rfl,h4,fun j u hj=>⟨g,0,rfl,(h.lt g rfl).2,?_⟩⟩
  have:=h.cells (g:=g) rfl j u hj
  rw [addr_add] at this
  exact this
def LongOK (L:Nat):Prop:=∀ (base:Nat) (w0:World) (vp:Value) (us:List Value) (vo:Value) (ods:List UInt8) (v:Value) (X Wd:Nat) (w:World),base=w0.heap.size→Powers w0 vp us→us.length=L→Below base w0 w →
 Sl .u64 w v (wd 18446744073709551616 X)→X<tenP L→(Wd=0∧0<X∨Wd=608*2^L)→(wd 18446744073709551616 X).length≤1000000→ods.length+(rdig X).length+2*(608*2^L)<1073741000→w.ownsRow base 5 1 vo ods.length (ods.map u8v)→(vo=.slice none 0 0∨0<ods.length)→(∀ j u,us[j]? = some u→Sl .u64 w u (wd 18446744073709551616 (tenP j))) →
 Calls Tryz.prog 78 #[vo,v,.int .i64 (Wd:Int),vp] w fun e w'=>∃ v',e=.returned v'∧w'.ownsRow base 5 1 v' (ods++(wdig Wd X).reverse).length ((ods++(wdig Wd X).reverse).map u8v)∧Below base w w'∧Keep64 w w'
theorem appendLong_zero:LongOK 0:=by
 intro base w0 vp us vo ods v X Wd w hbase hP hL hB hv hX hW hl hd ho hn _
 have hbs:base≤w.heap.size:=by rw [hbase];exact hB.size
 have h608:608*2^0=608:=by decide
 rw [h608] at hW hd
 have AS:=hide (appendShort_any base vo ods v X Wd w hv (by rcases hW with h | h <;> omega) (by omega) (by rcases hW with h | h <;> omega) ho hn hbs)
 obtain ⟨a,c,e,-,-⟩:=hP.form
 rw [hL] at e
 subst e
 obtain ⟨xa,xc,rfl,-,-⟩:=hv
 obtain ⟨oa,oc,rfl⟩:=owns_shape ho
 clear hX hW hP hL ho hn hB
 generalize (wd 18446744073709551616 X).length=n at *
 generalize ods.length=no at *
 go_enter Tryz.func78,Tryz.ntmps78
 go_wp2_with fail
 refine (unhide AS).mono ?_
 rintro e w1 ⟨v1,rfl,ho,hb,hk⟩
 have HO:=hide (And.intro ho (And.intro hb hk))
 clear ho hb hk
 go_wp2
 go_ret
 exact ⟨v1,rfl,(unhide HO).1,(unhide HO).2.1,(unhide HO).2.2⟩
theorem tenP_len (L:Nat):(wd 18446744073709551616 (tenP L)).length≤38*2^L:=by
 refine wd_length_le (by omega) _ _ ?_
 have e:(18446744073709551616:Nat)^(38*2^L)=16^(608*2^L):=by
  rw [show (18446744073709551616:Nat)=16^16 from by decide,← Nat.pow_mul,← Nat.mul_assoc]
 rw [e]
 exact Nat.pow_lt_pow_left (by omega) (by have:0<2^L:=Nat.pow_pos (by omega);omega)
theorem below_cell {n:Nat} {w w':World} (h:Below n w w') {g i:Nat} {u:Value} (hg:g<n) (hc:w.cell? ⟨g,i,none⟩=some u):w'.cell? ⟨g,i,none⟩=some u:=(World.cell?_of_block (w:=w) (h.block g hg)).trans hc
theorem Powers.take {w:World} {g o c L:Nat} {us:List Value} (h:Powers w (.slice (some ⟨g,o,none⟩) us.length c) us) (hL:L≤us.length):Powers w (.slice (some ⟨g,o,none⟩) L c) (us.take L):=by
 have hl:(us.take L).length=L:=by rw [List.length_take];omega
 have hsub:∀ j u,(us.take L)[j]? = some u→us[j]? = some u:=fun j u hj=>by
  have hlt:j<L:=by have:=(List.getElem?_eq_some_iff.1 hj).1;omega
  rw [List.getElem?_take_of_lt hlt] at hj
  exact hj
 obtain ⟨a,c',e,h1,h2⟩:=h.form
 simp only [Value.slice.injEq] at e
 obtain ⟨rfl,-,rfl⟩:=e
 exact ⟨⟨_,c,by rw [hl],by omega,fun j u hj=>h2 j u (hsub j u hj)⟩,fun j u hj=>h.all j u (hsub j u hj)⟩
theorem wdig_halves (L X Wd:Nat) (hX:X<tenP (L+1)) (hW:(Wd=0∧0<X)∨Wd=608*2^(L+1)) (hne:¬ (X/tenP L=0∧Wd=0)) :
  (wdig Wd X).reverse=(wdig (Wd-608*2^L) (X/tenP L)).reverse++(wdig (608*2^L) (X%tenP L)).reverse∧((Wd-608*2^L=0∧0<X/tenP L)∨Wd-608*2^L=608*2^L):=by
 have hp:=tenP_pos L
 have e2:608*2^(L+1)=608*2^L+608*2^L:=by rw [Nat.pow_succ];omega
 rcases hW with ⟨rfl,h0⟩ | h
 ·have h1:0<X/tenP L:=by
   rcases Nat.eq_zero_or_pos (X/tenP L) with h | h
   ·exact absurd ⟨h,rfl⟩ hne
   ·exact h
  have h2:tenP L≤X:=by
   rcases Nat.lt_or_ge X (tenP L) with h | h
   ·rw [Nat.div_eq_of_lt h] at h1;omega
   ·exact h
  rw [Nat.zero_sub]
  refine ⟨?_,.inl ⟨rfl,h1⟩⟩
  rw [wdig_long (608*2^L) X h2,List.reverse_append];rfl
 ·rw [h,e2,Nat.add_sub_cancel]
  refine ⟨?_,.inr rfl⟩
  rw [wdig_wide (608*2^L) X (by rw [← e2];exact hX),List.reverse_append];rfl
theorem appendLong_succ (L:Nat) (IH:LongOK L) (hL20:L<20):LongOK (L+1):=by
 intro base w0 vp us vo ods v X Wd w hbase hP hL hB hv hX hW hl hd ho hn hall
 have hp:=tenP_pos L
 have e2:608*2^(L+1)=608*2^L+608*2^L:=by rw [Nat.pow_succ];omega
 have hh:X/tenP L<tenP L:=by rw [Nat.div_lt_iff_lt_mul hp,← tenP_succ];exact hX
 have hlo:X%tenP L<tenP L:=Nat.mod_lt _ hp
 obtain ⟨u,hu⟩:∃ u,us[L]? = some u:=⟨us[L],List.getElem?_eq_getElem (by omega)⟩
 obtain ⟨a,c,rfl,hc1,hcell⟩:=hP.form
 obtain ⟨g,o,rfl,hg,hcu⟩:=hcell L u hu
 rw [hbase.symm] at hg
 have cu:=below_cell hB hg hcu
 have hPT:Powers w0 (.slice (some ⟨g,o,none⟩) L c) (us.take L):=hP.take (by omega)
 have hTL:(us.take L).length=L:=by rw [List.length_take];omega
 have hsub:∀ j u,(us.take L)[j]? = some u→us[j]? = some u:=fun j u hj=>by
  have hlt:j<L:=by have:=(List.getElem?_eq_some_iff.1 hj).1;omega
  rw [List.getElem?_take_of_lt hlt] at hj
  exact hj
 obtain ⟨D,hD⟩:∃ D,D=608*2^L:=⟨_,rfl⟩
 have rh:(rdig (X/tenP L)).length≤D:=rdig_length _ _ (by rw [hD];exact hh)
 have rl:(rdig (X%tenP L)).length≤D:=rdig_length _ _ (by rw [hD];exact hlo)
 have lh:(wd 18446744073709551616 (X/tenP L)).length≤1000000:=Nat.le_trans (wd_len_mono (Nat.div_le_self _ _)) hl
 have ll:(wd 18446744073709551616 (X%tenP L)).length≤1000000:=Nat.le_trans (wd_len_mono (Nat.mod_le _ _)) hl
 have lu:=hall L u hu
 have QR:=hide (natQuoRem_any v u X (tenP L) w hv lu hp (by omega) (by
  have:=tenP_len L
  have h19:2^L≤2^19:=Nat.pow_le_pow_right (by omega) (by omega)
  omega) (Short.of _ _ hl))
 have hDB:D<1073741000:=by rw [hD];omega
 have hbs:base≤w.heap.size:=by rw [hbase];exact hB.size
 have HDW:Hid (wrap64 (608*2^L)=(D:Int)):=by
  have e:(608:Int)*2^L=(D:Int):=by rw [hD];simp
  show _=_
  rw [e];unfold wrap64;omega
 have hLc:L<c:=by omega
 have i1:(0:Int)≤(L:Int):=by omega
 have i2:(L:Int)≤(c:Int):=by omega
 have i3:(L:Int)≤(L:Int)+1:=by omega
 have HALL:=hide hall
 have HO:=hide (And.intro ho hn)
 have HB:=hide hB
 have IHA:=hide (fun ods' vo' v' X' W' W (h1:Below base w0 W) (h2:Sl .u64 W v' (wd 18446744073709551616 X')) (h3:X' < tenP L) (h4:W'=0∧0<X'∨W'=608*2^L) (h5:(wd 18446744073709551616 X').length≤1000000) h6 h7 h8 (h9:∀ j u,us[j]? = some u→Sl .u64 W u (wd 18446744073709551616 (tenP j)))=>IH base w0 _ _ vo' ods' v' X' W' W hbase hPT hTL h1 h2 h3 h4 h5 h6 h7 h8 (fun j u hj=>h9 j u (hsub j u hj)))
 have HX:=hide hX
 have HW:=hide hW
 have HD2:=hide (And.intro hD (And.intro rh (And.intro rl (And.intro lh (And.intro ll (And.intro hh hlo))))))
 clear hDB
 have HDD:Hid (ods.length+4*D<1073741000):=by show _<_;rw [hD];omega
 obtain ⟨xa,xc,rfl,-,-⟩:=hv
 obtain ⟨oa,oc,rfl⟩:=owns_shape ho
 rw [hL]
 clear hX hW hP hL ho hn hB IH hPT hTL hsub hall hcell hcu hu hp hc1 hbase hd rh rl lh ll hh hlo e2 hD
 generalize (wd 18446744073709551616 X).length=n at *
 generalize hno:ods.length=no at *
 go_enter Tryz.func78,Tryz.ntmps78
 go_wp2_with fail
 refine (unhide QR).mono ?_
 rw [unhide HDW]
 rintro e1 w1 ⟨v1,v2,rfl,hv1,hv2,hb1,-⟩
 have HV1:=hide hv1
 have HV2:=hide hv2
 have B1:=hide hb1
 have HB1:=hide (below_trans (unhide HB) (hb1.below_of hbs))
 obtain ⟨ha,hc,rfl,-,-⟩:=hv1
 clear hv2 hb1 QR
 by_cases h0:X/tenP L=0∧Wd=0
 ·obtain ⟨hq0,hw0⟩:=h0
  have hXL:X%tenP L=X:=by
   have:=Nat.div_add_mod X (tenP L)
   rw [hq0,Nat.mul_zero,Nat.zero_add] at this
   exact this
  have hX0:0<X:=by
   have hDp:0<608*2^(L+1):=Nat.mul_pos (by omega) (Nat.pow_pos (by omega))
   rcases unhide HW with h | h
   ·exact h.2
   ·omega
  have HXL:=hide hXL
  have A:=hide (unhide IHA ods (.slice oa no oc) v2 (X%tenP L) 0 w1 (unhide HB1) (unhide HV2) (unhide HD2).2.2.2.2.2.2 (.inl ⟨rfl,by rw [hXL];exact hX0⟩) (unhide HD2).2.2.2.2.1 (by have h1:=(unhide HD2).2.2.1;have h2:=(unhide HD2).1;have h3:=unhide HDD;omega) (by rw [hno];exact owns_but (unhide HO).1 (unhide B1)) (by rw [hno];exact (unhide HO).2) (fun j u hj=>(unhide HALL j u hj).but_nil (unhide B1)))
  rw [hq0,wd_zero,List.length_nil]
  subst hw0
  clear hq0 hXL hX0 IHA HV1 HD2 HX HW HALL HO
  go_wp2_with fail
  refine (unhide A).mono ?_
  rintro e2 w2 ⟨v3,rfl,ho2,hb2,hk2⟩
  have FIN:=hide (And.intro ho2 (And.intro (below_trans ((unhide B1).below_of hbs) hb2) ((Keep64.of_but (unhide B1)).trans hk2)))
  rw [unhide HXL] at FIN
  clear ho2 hb2 hk2 A
  go_wp2
  go_ret
  exact ⟨v3,rfl,(unhide FIN).1,(unhide FIN).2.1,(unhide FIN).2.2⟩
 ·obtain ⟨f1,f2⟩:=wdig_halves L X Wd (unhide HX) (unhide HW) h0
  rw [← (unhide HD2).1] at f1 f2
  obtain ⟨W',hW'⟩:∃ W',W'=Wd-D:=⟨_,rfl⟩
  rw [← hW'] at f1 f2
  have hmax:max ((Wd:Int)-(D:Int)) 0=(W':Int):=by omega
  have hWl:W'≤D:=by omega
  have hWdl:Wd≤2*D:=by
   have e2:608*2^(L+1)=608*2^L+608*2^L:=by rw [Nat.pow_succ];omega
   have:=(unhide HD2).1
   rcases unhide HW with h | h <;> omega
  have A:=hide (unhide IHA ods (.slice oa no oc) (.slice ha (wd 18446744073709551616 (X/tenP L)).length hc) (X/tenP L) W' w1 (unhide HB1) (unhide HV1) (unhide HD2).2.2.2.2.2.1 (by rw [← (unhide HD2).1];exact f2) (unhide HD2).2.2.2.1 (by have h1:=(unhide HD2).2.1;have h2:=(unhide HD2).1;have h3:=unhide HDD;omega) (by rw [hno];exact owns_but (unhide HO).1 (unhide B1)) (by rw [hno];exact (unhide HO).2) (fun j u hj=>(unhide HALL j u hj).but_nil (unhide B1)))
  have F1:=hide f1
  have WL:Hid (0<(wdig W' (X/tenP L)).length∧(wdig W' (X/tenP L)).length≤D):=by
   refine ⟨wdig_pos _ _ (by have hDp:0<608*2^L:=Nat.mul_pos (by omega) (Nat.pow_pos (by omega));have:=(unhide HD2).1;rcases f2 with h | h <;> omega),?_⟩
   rw [wdig_length]
   have:=(unhide HD2).2.1
   omega
  have hh0:((((wd 18446744073709551616 (X/tenP L)).length:Int)==0)=true→((Wd:Int)==0)=false):=fun h=>by
   have h1:(wd 18446744073709551616 (X/tenP L)).length=0:=by have:=beq_iff_eq.1 h;omega
   rw [wd_len_zero (by omega)] at h1
   rw [beq_eq_false_iff_ne]
   intro h2
   exact h0 ⟨h1,by omega⟩
  clear f1 f2 h0 hW'
  generalize (wd 18446744073709551616 (X/tenP L)).length=nh at *
  have hsub64:wrap64 ((Wd:Int)-(D:Int))=(Wd:Int)-(D:Int):=by have:=unhide HDD;unfold wrap64;omega
  by_cases hn0:nh=0
  ·have hne:((Wd:Int)==0)=false:=hh0 (by simp [hn0])
   subst hn0
   clear hh0
   go_wp2_with fail
   refine (unhide A).mono ?_
   rintro e2 w2 ⟨v3,rfl,ho2,hb2,hk2⟩
   have HB2:=hide (below_trans (unhide HB1) hb2)
   have HV22:=hide (hk2 _ _ (unhide HV2))
   obtain ⟨oa2,oc2,rfl⟩:=owns_shape ho2
   have hol:(ods++(wdig W' (X/tenP L)).reverse).length=no+(wdig W' (X/tenP L)).length:=by rw [List.length_append,List.length_reverse,hno]
   have A2:=hide (unhide IHA (ods++(wdig W' (X/tenP L)).reverse) (.slice oa2 (ods++(wdig W' (X/tenP L)).reverse).length oc2) v2 (X%tenP L) D w2 (unhide HB2) (unhide HV22) (unhide HD2).2.2.2.2.2.2 (.inr (unhide HD2).1) (unhide HD2).2.2.2.2.1 (by have h1:=(unhide HD2).2.2.1;have h2:=(unhide HD2).1;have h3:=unhide HDD;have h4:=(unhide WL).2;omega) ho2 (.inr (by have h4:=(unhide WL).1;omega)) (fun j u hj=>hk2 _ _ ((unhide HALL j u hj).but_nil (unhide B1))))
   have K2:=hide (And.intro hb2 hk2)
   clear ho2 hb2 hk2 A hol IHA HALL HV22 HB2
   generalize (ods++(wdig W' (X/tenP L)).reverse).length=no2 at *
   go_wp2_with fail
   refine (unhide A2).mono ?_
   rintro e3 w3 ⟨v4,rfl,ho3,hb3,hk3⟩
   have FIN:=hide (And.intro ho3 (And.intro (below_trans ((unhide B1).below_of hbs) (below_trans (unhide K2).1 hb3)) (((Keep64.of_but (unhide B1)).trans (unhide K2).2).trans hk3)))
   rw [List.append_assoc,← unhide F1] at FIN
   clear ho3 hb3 hk3 A2
   go_wp2
   go_ret
   exact ⟨v4,rfl,(unhide FIN).1,(unhide FIN).2.1,(unhide FIN).2.2⟩
  ·have hne:((nh:Int)==0)=false:=beq_eq_false_iff_ne.2 (by omega)
   clear hh0
   go_wp2_with fail
   refine (unhide A).mono ?_
   rintro e2 w2 ⟨v3,rfl,ho2,hb2,hk2⟩
   have HB2:=hide (below_trans (unhide HB1) hb2)
   have HV22:=hide (hk2 _ _ (unhide HV2))
   obtain ⟨oa2,oc2,rfl⟩:=owns_shape ho2
   have hol:(ods++(wdig W' (X/tenP L)).reverse).length=no+(wdig W' (X/tenP L)).length:=by rw [List.length_append,List.length_reverse,hno]
   have A2:=hide (unhide IHA (ods++(wdig W' (X/tenP L)).reverse) (.slice oa2 (ods++(wdig W' (X/tenP L)).reverse).length oc2) v2 (X%tenP L) D w2 (unhide HB2) (unhide HV22) (unhide HD2).2.2.2.2.2.2 (.inr (unhide HD2).1) (unhide HD2).2.2.2.2.1 (by have h1:=(unhide HD2).2.2.1;have h2:=(unhide HD2).1;have h3:=unhide HDD;have h4:=(unhide WL).2;omega) ho2 (.inr (by have h4:=(unhide WL).1;omega)) (fun j u hj=>hk2 _ _ ((unhide HALL j u hj).but_nil (unhide B1))))
   have K2:=hide (And.intro hb2 hk2)
   clear ho2 hb2 hk2 A hol IHA HALL HV22 HB2
   generalize (ods++(wdig W' (X/tenP L)).reverse).length=no2 at *
   go_wp2_with fail
   refine (unhide A2).mono ?_
   rintro e3 w3 ⟨v4,rfl,ho3,hb3,hk3⟩
   have FIN:=hide (And.intro ho3 (And.intro (below_trans ((unhide B1).below_of hbs) (below_trans (unhide K2).1 hb3)) (((Keep64.of_but (unhide B1)).trans (unhide K2).2).trans hk3)))
   rw [List.append_assoc,← unhide F1] at FIN
   clear ho3 hb3 hk3 A2
   go_wp2
   go_ret
   exact ⟨v4,rfl,(unhide FIN).1,(unhide FIN).2.1,(unhide FIN).2.2⟩
theorem appendLong_all (L:Nat) (h:L≤20):LongOK L:=by
 induction L with
 | zero=>exact appendLong_zero
 | succ L ih=>exact appendLong_succ L (ih (by omega)) (by omega)
theorem dig_len (X n:Nat) (h:(wd 18446744073709551616 X).length≤n):(rdig X).length≤20*n:=by
 refine rdig_length X _ (Nat.lt_of_lt_of_le (lt_of_wd_length (B:=18446744073709551616) (by omega) X n h) ?_)
 rw [Nat.pow_mul]
 exact Nat.pow_le_pow_left (by decide) _
theorem natText_all (v:Value) (X:Nat) (w:World) (hv:Sl .u64 w v (wd 18446744073709551616 X)) (hl:(wd 18446744073709551616 X).length≤1000000) (htab:Lib.TabIs Tryz.prog w "internal/strconv.uint64pow10" .u64 Lib.pow10Tab) (t:ByteArray) (ht:Hid (t=⟨(Lib.decDigits X).toArray⟩)) :
  Calls Tryz.prog 31 #[v] w fun e w'=>e=.returned (.string t)∧But [] w w':=by
 by_cases hu:X < 18446744073709551616
 ·have H:=hide htab
  have HW:=hide (natWord_any v X hu w hv)
  obtain ⟨xa,xc,rfl,-,-⟩:=hv
  clear htab
  generalize (wd 18446744073709551616 X).length=n at *
  go_enter Tryz.func31,Tryz.ntmps31
  go_wp2_with fail
  refine (unhide HW).mono ?_
  rintro e w1 ⟨rfl,hw⟩
  obtain rfl:=hw.symm
  clear hw
  go_wp2_with fail
  refine (strconvFormatUint_any X hu _ (unhide H) t ht).mono ?_
  rintro e w1 ⟨rfl,hb⟩
  go_wp2
  go_ret
  exact ⟨rfl,hb⟩
 ·have hp:0<X:=by omega
  have HW:=hide (natWord_long v X (by omega) w hv (by omega))
  have PF:=hide (powersFor_any v X w hv hl)
  have HV:=hide hv
  have hdl:=dig_len X _ (Nat.le_refl _)
  have AL:Hid (∀ vo us W,W.ownsRow w.heap.size 71 1 vo us.length us→(∀ j u,us[j]? = some u→Sl .u64 W u (wd 18446744073709551616 (tenP j)))→But [] w W→(∀ j,j<us.length→tenP j≤X)→X<tenP us.length →
   Calls Tryz.prog 78 #[.slice none 0 0,v,.int .i64 0,vo] W fun e w'=>∃ v',e=.returned v'∧w'.ownsRow W.heap.size 5 1 v' (rdig X).reverse.length ((rdig X).reverse.map u8v)∧But [] W w'):=fun vo us W h1 h2 h3 h4 h5=>by
   have hL:1824*2^us.length<128*1000000+3648:=by
    rcases Nat.eq_zero_or_pos us.length with h0 | h0
    ·rw [h0];omega
    ·obtain ⟨j,hj⟩:∃ j,us.length=j+1:=⟨us.length-1,by omega⟩
     have:=tenP_below X j 1000000 hl (h4 j (by omega))
     rw [hj,Nat.pow_succ]
     omega
   have hL20:us.length≤20:=by
    rcases Nat.lt_or_ge 20 us.length with h | h
    ·have:2^21≤2^us.length:=Nat.pow_le_pow_right (by omega) h
     omega
    ·exact h
   have:=appendLong_all us.length hL20 W.heap.size W vo us (.slice none 0 0) [] v X 0 W rfl (powers_of h1 h2) rfl (But.refl [] W).below (hv.but_nil h3) h5 (.inl ⟨rfl,hp⟩) hl (by simp only [List.length_nil];omega) (World.ownsRow_nil _ _ _ _) (.inl rfl) h2
   rw [wdig_zero] at this
   refine this.mono fun e w' ⟨v',e1,e2,e3,_⟩=>⟨v',e1,by simpa using e2,But.of_below e3⟩
  have hrl:0<(rdig X).reverse.length:=by rw [List.length_reverse,rdig_pos hp];simp
  have HRR:=hide (rdig_rev X hp)
  have hrb:(rdig X).reverse.length≤20000000:=by rw [List.length_reverse];omega
  obtain ⟨xa,xc,rfl,-,-⟩:=hv
  clear htab hu hl hdl
  generalize (wd 18446744073709551616 X).length=n at *
  go_enter Tryz.func31,Tryz.ntmps31
  go_wp2_with fail
  refine (unhide HW).mono ?_
  rintro e w1 ⟨rfl,hw⟩
  obtain rfl:=hw.symm
  clear hw
  go_wp2_with fail
  refine (unhide PF).mono ?_
  rintro e w1 ⟨vo,us,rfl,h1,h2,h3,h4,h5⟩
  have B1:=hide h3
  have A1:=hide (unhide AL vo us w1 h1 h2 h3 h4 h5)
  clear h1 h2 h3 h4 h5 AL PF
  go_wp2_with fail
  refine (unhide A1).mono ?_
  rintro e w2 ⟨v2,rfl,ho2,hb2⟩
  have hB2:But [] w w2:=(unhide B1).trans' hb2
  obtain ⟨g,cg,rfl,hg,hcg,hrow⟩:=owns_row ho2 hrl
  have hcv:=run_convert_bytes_back (P:=Tryz.prog) w2 133 9 5 ⟨g,0,none⟩ cg (rdig X).reverse Tryz.underlying133 Tryz.underlying5 Tryz.underlying9 (fun j hj=>row_news hrow j _ (by rw [List.getElem?_map,List.getElem?_eq_getElem hj];rfl))
  rw [unhide HRR,← unhide ht] at hcv
  rw [unhide HRR]
  have HB2:=hide hB2
  clear ho2 hb2 hrow hB2 hrl
  generalize (Lib.decDigits X).length=m at *
  go_wp2
  go_ret
  exact ⟨rfl,unhide HB2⟩
end Go.Proofs.YtpfnnhjnakmnoaaGreatDoor
