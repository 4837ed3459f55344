/- zti division of words, as the Go text o -/
import Derived.Deep.CutBlock
import Derived.Deep.DeepCutAuto
import Derived.Deep.RegionWith
import Derived.Deep.LoopGhost
import Derived.Deep.RegionHeld
import Derived.Test.YtagmkkiagjmimaaGreatDoorXG0
import Derived.Test.YtagmkkiagjmimaaGreatDoorXH3
import Derived.Test.YtagmkkiagjmimaaGreatDoorXH5
namespace Go.Proofs.YtagmkkiagjmimaaGreatDoor
set_option linter.unusedVariables false
open Go.Proofs.Tryz
open Go.RowKit
set_option maxHeartbeats 32000000
set_option maxRecDepth 100000
theorem qdp (us vs:List Nat) (j n:Nat) (h2:2≤n) (hn:vs.length=n) (hj:j+n<us.length) (hu:∀ x ∈ us,x<4294967296) (hv:∀ x ∈ vs,x<4294967296) (hlt:vl 4294967296 us<vl 4294967296 vs*4294967296^j*4294967296) (hhi:2147483648≤vs[n-1]?.getD 0) :
   zhx (vl 4294967296 us) (vl 4294967296 vs*4294967296^j) (4294967296^(j+(n-2))) (us[j+n]?.getD 0) (us[j+n-1]?.getD 0) (us[j+n-2]?.getD 0) (vs[n-1]?.getD 0) (vs[n-2]?.getD 0):=by(
 obtain⟨k,rfl⟩:∃ k,n=k+2:=⟨n-2,by omega⟩
 have:=qdo us vs j k hn hj hu hv hlt (by rw[show k+2-1=k+1 from by omega] at hhi;exact hhi)
 rw[show k+2-1=k+1 from by omega,show k+2-2=k from by omega]
 exact this)
structure zfr (W:World) (A V gu gq:Nat) (us qs:List Nat) (t:Nat) (wr:World):Prop where
 long:zti A V us qs t
 but:But [gu,gq] W wr
 row:xw .u32 wr gu us
 qrow:xw .u32 wr gq qs
theorem Sl.zzm {w w':World} {b off n c:Nat} {xs:List Nat} {l:List Nat} (h:Sl .u32 w (.slice (some ⟨b,off,none⟩) n c) xs) (hb:But l w w') (hn:b ∉ l):∀ i,i<n→w'.cell? ⟨b,off+i,none⟩=some (.int .u32 (xs[i]?.getD 0:Nat)):=fun i hi=>by
 obtain⟨a,cap,e,-,hc,-⟩:=h
 simp only[Value.slice.injEq] at e
 obtain⟨rfl,rfl,-⟩:=e
 obtain⟨b2,o2,e2,h2⟩:=hc i hi
 simp only[Option.some.injEq,Addr.mk.injEq] at e2
 obtain⟨rfl,rfl,-⟩:=e2
 exact hb.ag h2 hn
theorem zvf (A V la n:Nat) (xs:List Nat) (hx:∀ x ∈ xs,x<4294967296) (hxv:vl 4294967296 xs=A) (_hxl:xs.length≤la+2) (hA:A<4294967296^(la+1)) (hV:2147483648*4294967296^(n-1)≤V) (hn:1≤n) (hnl:n≤la+1) :
   zti A V (xs++(List.replicate (la+2) 0).drop xs.length) (List.replicate (la+2-n) 0) (la+2-n):=by(
 refine⟨fun x h=>?_,fun x h=>by rw[List.mem_replicate] at h;omega,?_,fun j _=>by rw[List.getElem?_replicate];split <;> rfl,?_⟩
 ·(
 rcases List.mem_append.1 h with h1 | h1
 ·exact hx x h1
 ·have:=List.mem_of_mem_drop h1
  rw[List.mem_replicate] at this
  omega)
 ·(
 rw[qg,List.drop_replicate,jd,Nat.mul_zero,Nat.add_zero,hxv]
 refine Nat.lt_of_lt_of_le hA ?_
 have h1:4294967296^(la+1)=4294967296^(n-1)*4294967296^(la+2-n):=by rw[← Nat.pow_add];congr 1;omega
 rw[h1]
 refine Nat.mul_le_mul_right _ (Nat.le_trans ?_ hV)
 omega)
 ·rw[qg,List.drop_replicate,jd,jd,Nat.mul_zero,Nat.mul_zero,Nat.add_zero,hxv])
theorem qck (va vb:Value) (A0 B0:Nat) (w:World) (ha:Sl .u32 w va (wd 4294967296 A0)) (hb:Sl .u32 w vb (wd 4294967296 B0)) (hle:B0≤A0) (h3:3≤(wd 4294967296 A0).length) (h2:2≤(wd 4294967296 B0).length) (hl:(wd 4294967296 A0).length<8388608) :
   Calls prog 198 #[va,vb] w fun e w'=>∃ v1 v2,e=.returned (.tuple #[v1,v2])∧Sl .u32 w' v1 (wd 4294967296 (A0/B0))∧Sl .u32 w' v2 (wd 4294967296 (A0%B0))∧But [] w w':=by(
 have hB0:0<B0:=by
  rcases Nat.eq_zero_or_pos B0 with h | h
  ·subst h;rw[zq] at h2;simp at h2
  ·exact h
 have hlen:(wd 4294967296 B0).length≤(wd 4294967296 A0).length:=aj (by omega) B0 _ (Nat.lt_of_le_of_lt hle (am (by omega) A0 _ (Nat.le_refl _)))
 have CM:=af (zdz va vb A0 B0 w ha hb (by omega) (by omega))
 have hc0:=zbb hle
 generalize zz A0 B0=r at *
 have hr:decide (r<0)=false:=by simp;omega
 have LEN:=af (fun W (h:Sl .u32 W vb (wd 4294967296 B0))=>zvg vb B0 W h hB0 (by omega))
 have LB:=af (fun W s (hs:s≤31) (h:Sl .u32 W vb (wd 4294967296 B0))=>znq vb B0 s W h hs (by omega))
 have LA:=af (fun W s (hs:s≤31) (h:Sl .u32 W va (wd 4294967296 A0))=>znq va A0 s W h hs (by omega))
 have HA:=af ha
 have HB:=af hb
 have NF:=af (fun n h1 h2 h3 h4=>zuw B0 n hB0 h1 h2 h3 h4)
 obtain⟨aa,ca,rfl,-,-⟩:=ha
 obtain⟨ab,cb,rfl,-,-⟩:=hb
 have HL:=af (And.intro hle hB0)
 have HA1:Hid (A0<4294967296^(wd 4294967296 A0).length):=am (by omega) A0 _ (Nat.le_refl _)
 clear hle hB0
 generalize hla:(wd 4294967296 A0).length=la at *
 generalize hn:(wd 4294967296 B0).length=n at *
 have LN:=af (And.intro hla hn)
 clear hla hn
 have n0:((n:Int)==0)=false:=beq_eq_false_iff_ne.2 (by omega)
 have n1:((n:Int)==1)=false:=beq_eq_false_iff_ne.2 (by omega)
 have hmk:=fun wx=>zqz wx la (by omega)
 go_enter func198,ntmps198
 go_wp2_with fail
 refine (ae CM).mono ?_
 rintro e w1 ⟨rfl,q,rfl⟩
 obtain⟨W1,hW1⟩:∃ W1,W1=w.drewN q:=⟨_,rfl⟩
 have B1:Hid (But [] w W1):=by rw[hW1];exact (But.refl _ _).drewN q
 rw[← hW1]
 clear hW1 CM
 go_wp2_with fail
 refine (ae LEN _ ((ae HB).ah (ae B1))).mono ?_
 rintro e w2 ⟨nb,rfl,hw,f1,f2,f3,f4⟩
 obtain rfl:=hw.symm
 clear hw
 obtain⟨g1,g2⟩:=ae NF nb f1 f2 f3 f4
 have GF:=af (And.intro g1 g2)
 clear f3 f4 g1 g2 NF LEN
 obtain⟨s,hs⟩:∃ s,s=32-nb:=⟨_,rfl⟩
 rw[← hs] at GF
 have hs31:s≤31:=by omega
 have SE:Hid (32-((((n:Int)-1)*32+(nb:Int))-1)%32-1=(s:Int)):=by show _=_;omega
 have HNB:=af (And.intro hs f1)
 clear hs
 go_wp2_with fail
 rw[ae SE]
 refine (ae LB _ s hs31 ((ae HB).ah (ae B1))).mono ?_
 rintro e w2 ⟨v1,rfl,hv1,hb2,-⟩
 have B2:Hid (But [] w w2):=(ae B1).trans' hb2
 obtain⟨V,hV⟩:∃ V,V=B0*2^s:=⟨_,rfl⟩
 obtain⟨A,hA⟩:∃ A,A=A0*2^s:=⟨_,rfl⟩
 rw[← hV] at hv1 GF
 have hvl:=(ae GF).1
 rcases hv1.open with ⟨e,-⟩|⟨-,bv,ov,cv,rfl,hcv,hbv,-⟩
 ·rw[e] at hvl;simp at hvl;omega
 rw[hvl] at hcv
 rw[hvl] at hv1 ⊢
 have HV1:=af hv1
 obtain⟨Wu,hWu⟩:∃ Wu,Wu=w2.alloc (.cells (madeCells #[.int .u32 0] (la+2)) 238):=⟨_,rfl⟩
 have bU:But [] w2 Wu:=by rw[hWu];exact (But.refl _ _).alloc _
 have rU:xw .u32 Wu w2.heap.size (List.replicate (la+2) 0):=by rw[hWu];exact xw.made _ _ _ _
 have sU:w2.heap.size<Wu.heap.size:=by rw[hWu];simp
 have BU:=af bU
 have RU:=af rU
 have SU:=af sU
 have HWU:=af hWu
 clear hv1 hb2 hvl bU rU sU hWu B1 LB SE f1 f2
 go_wp2_with fail
 rw[← ae HWU]
 refine (ae LA _ s hs31 ((ae HA).ah ((ae B2).trans' (ae BU)))).mono ?_
 rintro e w4 ⟨v2,rfl,hv2,hb4,-⟩
 rw[← hA] at hv2
 have hAlt:A<4294967296^(la+1):=by
  rw[hA,Nat.pow_succ]
  have h1:=ae HA1
  have h2:2^s≤2^31:=Nat.pow_le_pow_right (by omega) hs31
  exact Nat.lt_of_lt_of_le (Nat.mul_lt_mul_of_pos_right h1 (Nat.pow_pos (by omega))) (Nat.mul_le_mul_left _ (by omega))
 have hAl:(wd 4294967296 A).length≤la+1:=aj (by omega) A _ hAlt
 have hVge:2147483648*4294967296^(n-1)≤V:=by
  have e1:=pq (wd 4294967296 V) (n-1) (by rw[(ae GF).1];omega)
  rw[kg _ _ (n-1) (by rw[(ae GF).1];omega),ja (by omega)] at e1
  have e2:(wd 4294967296 V)[n-1]?.getD 0=zad V:=by unfold zad;rw[(ae GF).1]
  rw[e2] at e1
  have e3:4294967296^(n-1)*2147483648≤4294967296^(n-1)*(zad V+4294967296*vl 4294967296 ((wd 4294967296 V).drop (n-1+1))):=Nat.mul_le_mul_left _ (by have:=(ae GF).2;omega)
  rw[Nat.mul_comm]
  omega
 obtain⟨w5,hcp,HC⟩:=zuh w4 w2.heap.size (la+2) v2 (List.replicate (la+2) 0) (wd 4294967296 A) ((ae RU).but hb4 (by simp)) hv2 (by rw[List.length_replicate];omega)
 rw[List.length_replicate] at hcp
 have hL0:=zvf A V la n (wd 4294967296 A) (zt (by omega) A) (ja (by omega) A) (by omega) hAlt hVge (by omega) (by omega)
 obtain⟨us0,hus0⟩:∃ us0,us0=wd 4294967296 A++(List.replicate (la+2) 0).drop (wd 4294967296 A).length:=⟨_,rfl⟩
 rw[← hus0] at hL0 HC
 have hul0:us0.length=la+2:=by rw[hus0];simp;omega
 have B5:Hid (But [] w w5):=((ae B2).trans' ((ae BU).trans' hb4)).trans (ae HC).2 (fun x hx=>by simp at hx;subst hx;exact .inr (ae B2).size)
 have bv5:But [w2.heap.size] w2 w5:=(But.of_nil ((ae BU).trans' hb4)).trans (ae HC).2 (fun x hx=>.inl hx)
 have hg5:w2.heap.size<w5.heap.size:=Nat.lt_of_lt_of_le (ae SU) (Nat.le_trans hb4.size (ae HC).2.size)
 obtain⟨mm,hmm⟩:∃ mm,la+2-n=mm+1:=⟨la+1-n,by omega⟩
 rw[hmm] at hL0
 obtain⟨W,hW⟩:∃ W,W=w5.alloc (.cells (madeCells #[.int .u32 0] (mm+1)) 238):=⟨_,rfl⟩
 have bW:But [] w5 W:=by rw[hW];exact (But.refl _ _).alloc _
 have KA0:Hid (zfr W A V w2.heap.size w5.heap.size us0 (List.replicate (mm+1) 0) (mm+1) W):=⟨hL0,But.refl _ _,(ae HC).1.but bW (by simp),by rw[hW];exact xw.made _ _ _ _⟩
 have HVC:Hid (∀ wr,But [w2.heap.size,w5.heap.size] W wr→∀ i,i<n→wr.cell? ⟨bv,ov+i,none⟩=some (.int .u32 ((wd 4294967296 V)[i]?.getD 0:Nat))):=fun wr hb i hi=>by
  have h1:=(ae HV1).zzm bv5 (by simp;omega) i hi
  have h2:=bW.ag h1 (by simp)
  exact hb.ag h2 (by simp;omega)
 have BW:Hid (But [] w W):=(ae B5).trans' bW
 have hmkq:=fun wx=>zem wx mm (by omega)
 have em:(la:Int)+2-(n:Int)-1=(mm:Int):=by omega
 have HMM:=af hmm
 have HW:=af hW
 have HG5:=af (And.intro hg5 (ae B2).size)
 have VC1:=ae HVC W (But.refl _ _) (n-1) (by omega)
 have VC2:=ae HVC W (But.refl _ _) (n-2) (by omega)
 have hmn:mm+1+n=la+2:=by omega
 clear hv2 hb4 hL0 HC hcv bv5 hg5 bW hW hmm hus0 hAlt hAl hVge HWU
 have hv1B:(wd 4294967296 V)[n-1]?.getD 0<4294967296:=cf (zt (by omega) V) (by omega) _
 have hv2B:(wd 4294967296 V)[n-2]?.getD 0<4294967296:=cf (zt (by omega) V) (by omega) _
 obtain⟨x1,hx1⟩:∃ x1,x1=(wd 4294967296 V)[n-1]?.getD 0:=⟨_,rfl⟩
 obtain⟨x2,hx2⟩:∃ x2,x2=(wd 4294967296 V)[n-2]?.getD 0:=⟨_,rfl⟩
 rw[← hx1] at VC1 hv1B
 rw[← hx2] at VC2 hv2B
 have HX:=af (And.intro hx1 hx2)
 clear hx1 hx2
 go_wp2_with fail
 rw[← ae HW]
 go_quiet (fail)
 obtain⟨Wd,hWd⟩:∃ Wd,Wd=W.drewN nq:=⟨_,rfl⟩
 have KA:Hid (zfr W A V w2.heap.size w5.heap.size us0 (List.replicate (mm+1) 0) (mm+1) Wd):=by
  rw[hWd]
  exact⟨(ae KA0).long,(ae KA0).but.drewN nq,(ae KA0).row.drewN nq,(ae KA0).qrow.drewN nq⟩
 rw[← hWd]
 clear hWd KA0 VC1 VC2
 go_wp2_with fail
 have hu0:0<la:=by omega
 go_loopw [18] (fun jv wr=>∃ (t:Nat) (us qs:List Nat),t≤mm+1∧jv=.int .i64 ((t:Int)-1)∧us.length=la+2∧qs.length=mm+1∧Hid (zfr W A V w2.heap.size w5.heap.size us qs t wr)) (fun jv _=>(intOf jv+1).toNat)
 case atStart=>exact⟨mm+1,us0,List.replicate (mm+1) 0,Nat.le_refl _,by congr 1;omega,hul0,by simp,KA⟩
 case round =>(
 clear KA
 obtain⟨t,us,qs,ht,rfl,hul,hql,HK⟩:=hrel
 rename World=>wr
 by_cases ht0:t=0
 ·(
 subst ht0
 obtain⟨q1,q2⟩:=(ae HK).long.fin
 have hp:0<2^s:=Nat.pow_pos (by omega)
 rw[hA,hV,Nat.mul_div_mul_right _ _ hp] at q1
 rw[hA,hV,Nat.mul_mod_mul_right] at q2
 have sq:=(ae HK).qrow.sl (mm+1) (by omega)
 rw[hql] at sq
 have su:=(ae HK).row.sl (la+2) (by omega)
 rw[hul] at su
 have TQ:=af (zgr _ qs wr sq (ae HK).long.qm (by omega))
 have TU:=af (zgr _ us wr su (ae HK).long.um (by omega))
 rw[q1] at TQ
 rw[q2] at TU
 have hrl:(wd 4294967296 (A0%B0*2^s)).length<1073741824:=by
  have h9:A0%B0*2^s<4294967296^(la+2):=by rw[← q2];have:=mg (by omega:0<4294967296) us (ae HK).long.um;rw[hul] at this;exact this
  have:=aj (B:=4294967296) (by omega) _ _ h9
  omega
 have RR:=af (fun W' v' (h9:Sl .u32 W' v' (wd 4294967296 (A0%B0*2^s)))=>zuk v' _ s W' h9 hs31 hrl)
 rw[Nat.mul_div_cancel _ hp] at RR
 have BF:Hid (But [] w wr):=(ae BW).trans (ae HK).but (fun x hx=>.inr (by have h9:=ae HG5;have h8:=(ae BW).size;simp at hx;omega))
 clear HK q1 q2 hp sq su hrl
 go_wp2_with fail
 refine (ae TQ).mono ?_
 rintro e1 w6 ⟨v6,rfl,hv6,hw⟩
 obtain rfl:=hw.symm
 clear hw
 have HV6:=af hv6
 clear hv6 TQ
 go_wp2_with fail
 refine (ae TU).mono ?_
 rintro e2 w7 ⟨v7,rfl,hv7,hw⟩
 obtain rfl:=hw.symm
 clear hw
 have HV7:=af hv7
 clear hv7 TU
 go_wp2_with fail
 refine (ae RR _ _ (ae HV7)).mono ?_
 rintro e3 w8 ⟨v8,rfl,hv8,hb8,-⟩
 have FIN:=af (And.intro ((ae HV6).ah hb8) (And.intro hv8 ((ae BF).trans' hb8)))
 clear hv8 hb8 RR HV6 HV7
 go_wp2
 go_ret2
 exact⟨_,_,rfl,(ae FIN).1,(ae FIN).2.1,(ae FIN).2.2⟩)
 ·(
 obtain⟨j,rfl⟩:∃ j,t=j+1:=⟨t-1,by omega⟩
 rw[show (((j+1:Nat):Int)-1)=(j:Int) from by omega]
 have hVv:vl 4294967296 (wd 4294967296 V)=V:=ja (by omega) V
 have TP:=af (qdp us (wd 4294967296 V) j n h2 (ae GF).1 (by omega) (ae HK).long.um (zt (by omega) V) (by rw[hVv];have:=(ae HK).long.lt;rw[Nat.pow_succ,← Nat.mul_assoc] at this;exact this) (by have h:=(ae GF).2;unfold zad at h;rw[(ae GF).1] at h;exact h))
 rw[hVv,← (ae HX).1,← (ae HX).2] at TP
 clear hVv
 have r0:=(ae HK).row.row (j+n) (by omega)
 have r1:=(ae HK).row.row (j+n-1) (by omega)
 have r2:=(ae HK).row.row (j+n-2) (by omega)
 have c0:=r0.1
 have c1:=r1.1
 have c2:=r2.1
 have hu1:=(ae TP).hu1
 have hu2:=(ae TP).hu2
 have hu0B:us[j+n]?.getD 0<4294967296:=cf (ae HK).long.um (by omega) _
 obtain⟨y0,hy0⟩:∃ y0,y0=us[j+n]?.getD 0:=⟨_,rfl⟩
 obtain⟨y1,hy1⟩:∃ y1,y1=us[j+n-1]?.getD 0:=⟨_,rfl⟩
 obtain⟨y2,hy2⟩:∃ y2,y2=us[j+n-2]?.getD 0:=⟨_,rfl⟩
 rw[← hy0,← hy1,← hy2] at TP
 rw[← hy0] at c0 hu0B
 rw[← hy1] at c1 hu1
 rw[← hy2] at c2 hu2
 have HY:=af (And.intro hy0 (And.intro hy1 hy2))
 clear hy0 hy1 hy2 r0 r1 r2
 have OR1:=or_hi y1 y0 hu1 hu0B
 have hx1p:2147483648≤x1:=(ae TP).hi
 have xz:((x1:Int)==0)=false:=beq_eq_false_iff_ne.2 (by omega)
 obtain⟨num,hh⟩:∃ num,num=y1+y0*4294967296:=⟨_,rfl⟩
 rw[← hh] at OR1
 have hhB:num<18446744073709551616:=by omega
 have GS:=af (zam.start (ae TP))
 rw[show y0*4294967296+y1=num from by omega] at GS
 have HH:=af hh
 clear hh
 obtain⟨g0,hg0⟩:∃ g0,g0=num/x1:=⟨_,rfl⟩
 obtain⟨r0,hr0⟩:∃ r0,r0=num%x1:=⟨_,rfl⟩
 rw[← hg0,← hr0] at GS
 have q1:(num:Int)/(x1:Int)=(g0:Int):=by rw[hg0,Int.natCast_ediv]
 have q2:(num:Int)%(x1:Int)=(r0:Int):=by rw[hr0,Int.natCast_emod]
 have q3:(num:Int).tdiv (x1:Int)=(g0:Int):=by rw[Int.tdiv_eq_ediv_of_nonneg (by omega)];exact q1
 have q4:(num:Int).tmod (x1:Int)=(r0:Int):=by rw[Int.tmod_eq_emod_of_nonneg (by omega)];exact q2
 have hr0x:r0<x1:=by rw[hr0];exact Nat.mod_lt _ (by omega)
 have hg0B:g0≤4294967297:=(ae GS).le
 clear hg0 hr0
 go_wp2_with fail
 go_quiet (fail)
 obtain⟨Wa,hWa⟩:∃ Wa,Wa=wr.drewN nq:=⟨_,rfl⟩
 rw[← hWa]
 go_wp2_with fail
 go_quiet (fail)
 obtain⟨Wb,hWb⟩:∃ Wb,Wb=Wa.drewN nq:=⟨_,rfl⟩
 have KB:Hid (zfr W A V w2.heap.size w5.heap.size us qs (j+1) Wb):=by
  rw[hWb,hWa]
  exact⟨(ae HK).long,((ae HK).but.drewN _).drewN nq,((ae HK).row.drewN _).drewN nq,((ae HK).qrow.drewN _).drewN nq⟩
 rw[← hWb]
 have cb2:Wb.cell? ⟨w2.heap.size,j+n-2,none⟩=some (.int .u32 (y2:Int)):=by rw[hWb,hWa];exact c2
 clear hWb hWa HK c0 c1 c2 q1 q2 q3 q4 OR1
 go_upto_block 2 with fail
 go_cut [20] (fun s20 wx=>∃ gF:Nat,s20=.int .u64 (gF:Int)∧wx=Wb∧Hid (gF≤4294967295∧(gF=vl 4294967296 us/(V*4294967296^j)∨gF=vl 4294967296 us/(V*4294967296^j)+1)))
 case first =>(
 go_wp2_with fail
 go_loop [20,21] (fun gv rv=>∃ gN rN:Nat,gv=.int .u64 (gN:Int)∧rv=.int .u64 (rN:Int)∧gN≤4294967297∧rN<4294967296∧Hid (zam (vl 4294967296 us) (V*4294967296^j) y0 y1 x1 gN rN)) (fun gv _=>(intOf gv).toNat)
 case atStart=>exact⟨g0,r0,rfl,rfl,hg0B,by omega,ae GS⟩
 case round =>(
 obtain⟨gN,rN,rfl,rfl,hgN,hrN,HG⟩:=hrel
 have OR2:=or_hi y2 rN hu2 hrN
 obtain⟨z,hz⟩:∃ z,z=y2+rN*4294967296:=⟨_,rfl⟩
 rw[← hz] at OR2
 obtain⟨pp,hpp⟩:∃ pp,pp=gN*x2:=⟨_,rfl⟩
 have hzB:z<18446744073709551616:=by omega
 have hpi:(gN:Int)*(x2:Int)=(pp:Int):=by rw[hpp,Int.natCast_mul]
 have hppB:gN≤4294967295→pp<18446744073709551616:=fun h9=>by
  have:gN*x2≤4294967295*4294967295:=Nat.mul_le_mul h9 (by omega)
  omega
 have NXT:(4294967295<gN∨z<pp)→0<gN∧Hid (zam (vl 4294967296 us) (V*4294967296^j) y0 y1 x1 (gN-1) (rN+x1)):=fun h9=>by
  have:=zam.next (ae TP) (ae HG) (by rcases h9 with h9 | h9;exact .inl h9;exact .inr (by omega))
  exact⟨this.1,this.2⟩
 have FINB:∀ g,Hid (zam (vl 4294967296 us) (V*4294967296^j) y0 y1 x1 g (rN+x1))→4294967296≤rN+x1→Hid (g≤4294967295∧(g=vl 4294967296 us/(V*4294967296^j)∨g=vl 4294967296 us/(V*4294967296^j)+1)):=fun g h8 h9=>by
  obtain⟨k1,k2⟩:=zam.small (ae TP) (ae h8) h9
  exact⟨k1,zam.fin (ae TP) (ae h8) k1 k2⟩
 have CASES:(4294967295<gN∧rN+x1<4294967296)∨(gN≤4294967295∧pp<18446744073709551616∧z<pp∧rN+x1<4294967296) ∨
   (∃ gF:Nat,(gN:Int)-1=(gF:Int)∧4294967295<gN∧4294967295<gN∧4294967296≤rN+x1∧0<gN∧Hid (gF≤4294967295∧(gF=vl 4294967296 us/(V*4294967296^j)∨gF=vl 4294967296 us/(V*4294967296^j)+1))) ∨
   (∃ gF:Nat,(gN:Int)-1=(gF:Int)∧gN≤4294967295∧z<pp∧4294967296≤rN+x1∧pp<18446744073709551616∧Hid (gF≤4294967295∧(gF=vl 4294967296 us/(V*4294967296^j)∨gF=vl 4294967296 us/(V*4294967296^j)+1))) ∨
   (∃ gF:Nat,gF=gN∧gF≤4294967295∧pp≤z∧pp≤z∧pp<18446744073709551616∧Hid (gF≤4294967295∧(gF=vl 4294967296 us/(V*4294967296^j)∨gF=vl 4294967296 us/(V*4294967296^j)+1))):=by
  rcases Nat.lt_or_ge 4294967295 gN with k1 | k1
  ·obtain⟨k2,k3⟩:=NXT (.inl k1)
   rcases Nat.lt_or_ge (rN+x1) 4294967296 with k4 | k4
   ·exact .inl ⟨k1,k4⟩
   ·exact .inr (.inr (.inl ⟨gN-1,by omega,k1,k1,k4,k2,FINB _ k3 k4⟩))
  ·rcases Nat.lt_or_ge z pp with k5 | k5
   ·obtain⟨k2,k3⟩:=NXT (.inr k5)
    rcases Nat.lt_or_ge (rN+x1) 4294967296 with k4 | k4
    ·exact .inr (.inl ⟨k1,hppB k1,k5,k4⟩)
    ·exact .inr (.inr (.inr (.inl ⟨gN-1,by omega,k1,k5,k4,hppB k1,FINB _ k3 k4⟩)))
   ·exact .inr (.inr (.inr (.inr ⟨gN,rfl,k1,k5,k5,hppB k1,k1,zam.fin (ae TP) (ae HG) k1 (by omega)⟩)))
 have HNXT:=af NXT
 clear NXT FINB HG hppB hpp hz
 rcases CASES with ⟨k1,k4⟩|⟨k1,k2,k5,k4⟩|⟨gF,eF,k1,k2,k3,k4,GFIN⟩|⟨gF,eF,k1,k2,k3,k4,GFIN⟩|⟨gF,rfl,k1,k2,k3,k4,GFIN⟩
 ·(
 obtain⟨m1,m2⟩:=ae HNXT (.inl k1)
 obtain⟨gF,hgF⟩:∃ gF,gF=gN-1:=⟨_,rfl⟩
 rw[← hgF] at m2
 have eF:(gN:Int)-1=(gF:Int):=by omega
 have hlF:gF<gN:=by omega
 clear hgF HNXT
 go_wp2
 refine⟨⟨gF,rN+x1,rfl,by simp,by omega,k4,m2⟩,?_⟩
 simp[intOf];omega)
 ·(
 obtain⟨m1,m2⟩:=ae HNXT (.inr k5)
 obtain⟨gF,hgF⟩:∃ gF,gF=gN-1:=⟨_,rfl⟩
 rw[← hgF] at m2
 have eF:(gN:Int)-1=(gF:Int):=by omega
 have hlF:gF<gN:=by omega
 clear hgF HNXT
 go_wp2
 refine⟨⟨gF,rN+x1,rfl,by simp,by omega,k4,m2⟩,?_⟩
 simp[intOf];omega)
 all_goals(
 clear HNXT
 go_wp2_with fail
 go_meet
 exact⟨gF,rfl,rfl,GFIN⟩)))
 case rest =>(
 obtain⟨gF,rfl,hw9,GFIN⟩:=hcut
 obtain rfl:=hw9.symm
 clear hw9
 go_wp2_with fail
 have hgF:gF≤4294967295:=(ae GFIN).1
 have TK0:Hid (Taken us us (wd 4294967296 V) j 0 0 0 gF∧But [w2.heap.size] Wb Wb∧xw .u32 Wb w2.heap.size us):=⟨Taken.start us _ j gF (ae KB).long.um,But.refl _ _,(ae KB).row⟩
 go_loopw [22,23,24] (fun c d iv wq=>∃ (k cN dN:Nat) (uq:List Nat),k≤n∧c=.int .u64 (cN:Int)∧d=.int .u64 (dN:Int)∧iv=.int .i64 (k:Int)∧cN<4294967296∧dN≤1∧uq.length=la+2∧Hid (Taken us uq (wd 4294967296 V) j k cN dN gF∧But [w2.heap.size] Wb wq∧xw .u32 wq w2.heap.size uq)) (fun _ _ iv _=>n-(intOf iv).toNat)
 case atStart=>exact⟨0,0,0,us,Nat.zero_le _,rfl,rfl,rfl,by omega,by omega,hul,TK0⟩
 case round =>(
 clear TK0
 obtain⟨k,cN,dN,uq,hk,rfl,rfl,rfl,hcN,hdN,huq,HT⟩:=hrel
 rename World=>wq
 have bq:But [w2.heap.size,w5.heap.size] W wq:=(ae KB).but.trans (ae HT).2.1 (fun x hx=>.inl (by simp at hx;simp[hx]))
 by_cases hkn:k<n
 ·(
 have cv1:=ae HVC wq bq k hkn
 have hvB:(wd 4294967296 V)[k]?.getD 0<4294967296:=cf (zt (by omega) V) (by omega) k
 obtain⟨cu,fu⟩:=(ae HT).2.2.row (j+k) (by omega)
 have huB:uq[j+k]?.getD 0<4294967296:=cf (ae HT).1.mem (by omega) _
 obtain⟨c1,hc1⟩:∃ c1,c1=cN+gF*(wd 4294967296 V)[k]?.getD 0:=⟨_,rfl⟩
 obtain⟨lo,hlo⟩:∃ lo,lo=c1%4294967296:=⟨_,rfl⟩
 obtain⟨hi,hhi⟩:∃ hi,hi=c1/4294967296:=⟨_,rfl⟩
 obtain⟨d',hd'⟩:∃ d',d'=if uq[j+k]?.getD 0<lo+dN then 1 else 0:=⟨_,rfl⟩
 obtain⟨sN,hsN⟩:∃ sN,sN=uq[j+k]?.getD 0+4294967296*d' - (lo+dN):=⟨_,rfl⟩
 have hd1:d'≤1:=by rw[hd'];split <;> omega
 have hs1:sN<4294967296∧sN+lo+dN=uq[j+k]?.getD 0+4294967296*d':=by rw[hsN,hd'];split <;> omega
 have ST:=af ((ae HT).1.step (by rw[hul];omega) hvB hgF c1 sN d' hc1 hs1.1 hd1 (by rw[← hlo];exact hs1.2))
 rw[← hhi] at ST
 have hcc:hi<4294967296:=(ae ST).car
 have HSET:=af ((ae HT).2.2.set (j+k) (by omega) sN)
 have HB9:=af ((ae HT).2.1.setCell (p:=⟨w2.heap.size,j+k,none⟩) (.inl (by simp)) (.int .u32 (sN:Int)))
 obtain⟨pv,hpv⟩:∃ pv,pv=gF*(wd 4294967296 V)[k]?.getD 0:=⟨_,rfl⟩
 have hpvB:pv≤18446744065119617025:=by
  rw[hpv]
  have:gF*(wd 4294967296 V)[k]?.getD 0≤4294967295*4294967295:=Nat.mul_le_mul hgF (by omega)
  omega
 have ep:(gF:Int)*(((wd 4294967296 V)[k]?.getD 0:Nat):Int)=(pv:Int):=by rw[hpv,Int.natCast_mul]
 have ec:(cN:Int)+(pv:Int)=(c1:Int):=by rw[hc1,← hpv];omega
 have hc1B:c1<18446744073709551616:=by omega
 have el:(c1:Int)%4294967296=(lo:Int):=by omega
 have eh:(c1:Int)/4294967296=(hi:Int):=by omega
 clear HT hpv hc1
 rw[Nat.add_comm j k] at cu fu
 rw[Nat.add_comm j k] at huB hd' hs1
 generalize uq[k+j]?.getD 0=u0 at *
 generalize (wd 4294967296 V)[k]?.getD 0=vk at *
 obtain⟨m1,m2⟩:=hs1
 obtain⟨D,hD⟩:∃ D:Int,D=(u0:Int)-(lo:Int)-(dN:Int)+18446744073709551616*(d':Int):=⟨_,rfl⟩
 have hloB:lo<4294967296:=by omega
 have g1:IntKind.u64.wrap (IntKind.u64.wrap ((u0:Int)-(lo:Int))-(dN:Int))=D:=by rw[IntKind.wrap_u64,IntKind.wrap_u64];rw[hd'] at hD;split at hD <;> omega
 have g2:D%4294967296=(sN:Int):=by rw[hD];omega
 have g3:D/9223372036854775808=(d':Int):=by rw[hD];rw[hd'] at m2 ⊢;split <;> split at m2 <;> omega
 have d0:0≤D:=by rw[hD];omega
 clear hd' hsN hD m2 hlo hhi
 go_wp2
 rw[Nat.add_comm j k] at HSET HB9 ST
 refine⟨⟨k+1,hi,d',uq.set (k+j) sN,by omega,rfl,rfl,by go_num,hcc,hd1,by rw[List.length_set];exact huq,ae ST,ae HB9,ae HSET⟩,?_⟩
 simp[intOf];omega)
 ·(
 have hke:n=k:=by omega
 subst hke
 obtain⟨cu,fu⟩:=(ae HT).2.2.row (j+n) (by omega)
 have hsame:uq[j+n]?.getD 0=y0:=by rw[(ae HT).1.same (j+n) (Nat.le_refl _),← (ae HY).1]
 rw[hsame] at cu
 have hVv:vl 4294967296 (wd 4294967296 V)=V:=ja (by omega) V
 have hVl:=(ae GF).1
 have hSV:=(ae KB).long.lt
 have hVp:0<V:=by
  rcases Nat.eq_zero_or_pos V with h9 | h9
  ·rw[h9,Nat.zero_mul] at hSV;omega
  ·exact h9
 have hVB:V<4294967296^n:=by have:=am (B:=4294967296) (by omega) V n (by omega);exact this
 have hWp:0<vl 4294967296 (wd 4294967296 V)*4294967296^j:=by rw[hVv];exact Nat.mul_pos hVp (Nat.pow_pos (by omega))
 have hSlt:vl 4294967296 us<4294967296^(j+n+1):=by
  refine Nat.lt_of_lt_of_le hSV ?_
  rw[show 4294967296^(j+n+1)=4294967296^n*4294967296^(j+1) from by rw[← Nat.pow_add];congr 1;omega]
  exact Nat.mul_le_mul_right _ (Nat.le_of_lt hVB)
 obtain⟨cq,fq⟩:=((ae KB).qrow.but (ae HT).2.1 (by simp;have:=(ae HG5).1;omega)).row j (by omega)
 have hqrow:=(ae KB).qrow.but (ae HT).2.1 (by simp;have:=(ae HG5).1;omega)
 have hne5:w5.heap.size≠w2.heap.size:=by have:=(ae HG5).1;omega
 have hne6:w2.heap.size≠w5.heap.size:=by omega
 by_cases hfit:cN+dN≤y0
 ·(
 obtain⟨e1,e2⟩:=zto (ae HT).1 hVl (by omega) hsame hfit (by rw[hVv];have:=(ae GFIN).2;generalize vl 4294967296 us/(V*4294967296^j)=Q at *;omega) hWp
 rw[hVv] at e1 e2
 obtain⟨yy,hyy⟩:∃ yy,yy=y0-cN-dN:=⟨_,rfl⟩
 rw[← hyy] at e2
 have hyB:yy<4294967296:=by omega
 have LS:=(ae KB).long.step (us':=uq.set (j+n) yy) (by omega) e1 hVp (mem_set (ae HT).1.mem _ _ hyB) e2
 have KN:Hid (zfr W A V w2.heap.size w5.heap.size (uq.set (j+n) yy) (qs.set j gF) j ((wq.setCell ⟨w2.heap.size,j+n,none⟩ (.int .u32 (yy:Int))).setCell ⟨w5.heap.size,j,none⟩ (.int .u32 (gF:Int)))) :=
  ⟨LS,(bq.setCell (p:=⟨w2.heap.size,j+n,none⟩) (.inl (by simp)) _).setCell (p:=⟨w5.heap.size,j,none⟩) (.inl (by simp)) _,
  ((ae HT).2.2.set (j+n) (by omega) yy).but ((But.refl [w5.heap.size] _).setCell (p:=⟨w5.heap.size,j,none⟩) (.inl (by simp)) _) (by simp;omega),
  (hqrow.but ((But.refl [w2.heap.size] _).setCell (p:=⟨w2.heap.size,j+n,none⟩) (.inl (by simp)) _) (by simp;omega)).set j (by omega) gF⟩
 have EY:Hid ((y0:Int)-(cN:Int)-(dN:Int)=(yy:Int)):=by show _=_;omega
 have g1:IntKind.u64.wrap (IntKind.u64.wrap ((y0:Int)-(cN:Int))-(dN:Int))=(yy:Int):=by rw[IntKind.wrap_u64,IntKind.wrap_u64];omega
 have g2:(yy:Int)%4294967296=(yy:Int):=by omega
 have g3:(yy:Int)/9223372036854775808=0:=by omega
 have g4:(gF:Int)%4294967296=(gF:Int):=by omega
 clear HT e1 e2 LS hyy hWp hSlt hSV hVB hVp hqrow hsame hVv bq
 generalize qs[j]?.getD 0=qj at *
 go_wp2
 try rw[ae EY]
 refine⟨⟨j,uq.set (j+n) yy,qs.set j gF,by omega,rfl,by rw[List.length_set];exact huq,by rw[List.length_set];exact hql,KN⟩,?_⟩
 simp[intOf])
 ·(
 obtain⟨e1,e2,e3,e4⟩:=ztn (ae HT).1 hVl (by omega) hsame (by omega) (by rw[hVv];exact (ae GFIN).2) hSlt
 rw[hVv] at e1 e2
 obtain⟨yy,hyy⟩:∃ yy,yy=y0+4294967296-(cN+dN):=⟨_,rfl⟩
 rw[← hyy] at e2 e3 e4
 have hyB:yy<4294967296:=by omega
 obtain⟨gE,hgE⟩:∃ gE,gE=vl 4294967296 us/(V*4294967296^j):=⟨_,rfl⟩
 rw[← hgE] at e1
 obtain⟨Wc,hWc⟩:∃ Wc,Wc=wq.setCell ⟨w2.heap.size,j+n,none⟩ (.int .u32 (yy:Int)):=⟨_,rfl⟩
 obtain⟨uc,huc⟩:∃ uc,uc=uq.set (j+n) yy:=⟨_,rfl⟩
 rw[← huc] at e2 e3 e4
 have rc:xw .u32 Wc w2.heap.size uc:=by rw[hWc,huc];exact (ae HT).2.2.set (j+n) (by omega) yy
 have hucl:uc.length=la+2:=by rw[huc,List.length_set];exact huq
 have bc:But [w2.heap.size,w5.heap.size] W Wc:=by rw[hWc];exact bq.setCell (p:=⟨w2.heap.size,j+n,none⟩) (.inl (by simp)) _
 have qc:xw .u32 Wc w5.heap.size qs:=by rw[hWc];exact hqrow.but ((But.refl [w2.heap.size] _).setCell (p:=⟨w2.heap.size,j+n,none⟩) (.inl (by simp)) _) (by simp;omega)
 have BK0:Hid (zqi uc uc (wd 4294967296 V) j 0 0∧But [w2.heap.size] Wc Wc∧xw .u32 Wc w2.heap.size uc):=⟨zqi.start uc _ j e3,But.refl _ _,rc⟩
 have HE:=af (And.intro e2 (And.intro e3 (And.intro e4 hgE)))
 have HVV:=af (And.intro hVv (And.intro hVp hVB))
 have HCC:=af (And.intro bc qc)
 have hWcS:=af hWc
 have g1:IntKind.u64.wrap (IntKind.u64.wrap ((y0:Int)-(cN:Int))-(dN:Int))=18446744073709551616+(y0:Int)-(cN:Int)-(dN:Int):=by rw[IntKind.wrap_u64,IntKind.wrap_u64];omega
 have g2:(18446744073709551616+(y0:Int)-(cN:Int)-(dN:Int))%4294967296=(yy:Int):=by omega
 have g3:(18446744073709551616+(y0:Int)-(cN:Int)-(dN:Int))/9223372036854775808=1:=by omega
 have g4:(gF:Int)-1=(gE:Int):=by omega
 have hgEB:gE<4294967296:=by omega
 clear HT e2 e3 e4 hgE hyy hWp hSlt hSV hVB hVp hqrow hsame hVv bq rc bc qc hWc huc cq fq
 go_wp2_with fail
 rw[← ae hWcS]
 go_loopw [22,27] (fun c iv wx=>∃ (k cK:Nat) (ux:List Nat),k≤n∧c=.int .u64 (cK:Int)∧iv=.int .i64 (k:Int)∧cK≤1∧ux.length=la+2∧Hid (zqi uc ux (wd 4294967296 V) j k cK∧But [w2.heap.size] Wc wx∧xw .u32 wx w2.heap.size ux)) (fun _ iv _=>n-(intOf iv).toNat)
 case atStart=>exact⟨0,0,uc,Nat.zero_le _,rfl,rfl,by omega,hucl,BK0⟩
 case round =>(
 clear BK0 g1 g2 g3 g4
 obtain⟨k,cK,ux,hk,rfl,rfl,hcK,hux,HT⟩:=hrel
 rename World=>wx
 have bx:But [w2.heap.size,w5.heap.size] W wx:=(ae HCC).1.trans (ae HT).2.1 (fun x hx=>.inl (by simp at hx;simp[hx]))
 by_cases hkn:k<n
 ·(
 have cv1:=ae HVC wx bx k hkn
 have hvB:(wd 4294967296 V)[k]?.getD 0<4294967296:=cf (zt (by omega) V) (by omega) k
 obtain⟨cu,fu⟩:=(ae HT).2.2.row (j+k) (by omega)
 have huB:ux[j+k]?.getD 0<4294967296:=cf (ae HT).1.mem (by omega) _
 obtain⟨c1,hc1⟩:∃ c1,c1=cK+(ux[j+k]?.getD 0+(wd 4294967296 V)[k]?.getD 0):=⟨_,rfl⟩
 obtain⟨lo,hlo⟩:∃ lo,lo=c1%4294967296:=⟨_,rfl⟩
 obtain⟨hi,hhi⟩:∃ hi,hi=c1/4294967296:=⟨_,rfl⟩
 have ST:=af ((ae HT).1.step (by omega) hvB huB c1 hc1)
 rw[← hlo,← hhi] at ST
 have hcc:hi≤1:=(ae ST).car
 have HR:=af (ae HT).2.2
 have HB9:=af (ae HT).2.1
 have ec:(cK:Int)+(((ux[j+k]?.getD 0:Nat):Int)+(((wd 4294967296 V)[k]?.getD 0:Nat):Int))=(c1:Int):=by rw[hc1];omega
 have hc1B:c1<18446744073709551616:=by omega
 have el:(c1:Int)%4294967296=(lo:Int):=by omega
 have eh:(c1:Int)/4294967296=(hi:Int):=by omega
 clear HT hc1 hlo hhi bx
 rw[Nat.add_comm j k] at cu fu ST ec huB
 generalize ux[k+j]?.getD 0=u0 at *
 generalize (wd 4294967296 V)[k]?.getD 0=vk at *
 go_wp2_with fail
 go_quiet (fail)
 go_wp2
 refine⟨⟨k+1,hi,ux.set (k+j) lo,by omega,rfl,by go_num,hcc,by rw[List.length_set];exact hux,ae ST,((ae HB9).drewN nq).setCell (p:=⟨w2.heap.size,k+j,none⟩) (.inl (by simp)) _,((ae HR).drewN nq).set (k+j) (by omega) lo⟩,?_⟩
 simp[intOf];omega)
 ·(
 have hke:n=k:=by omega
 subst hke
 obtain⟨hVv,hVp,hVB⟩:=ae HVV
 obtain⟨e2,e3,e4,hgE⟩:=ae HE
 obtain⟨cu,fu⟩:=(ae HT).2.2.row (j+n) (by omega)
 have hWp:0<V*4294967296^j:=Nat.mul_pos hVp (Nat.pow_pos (by omega))
 obtain⟨b1,b2⟩:=qcy (R:=vl 4294967296 us%(V*4294967296^j)) (W:=V*4294967296^j) (ae HT).1 hVl (by omega) e4 (by rw[hVv]) (by rw[Nat.add_comm j n,Nat.pow_add];exact Nat.mul_le_mul_right _ (Nat.le_of_lt hVB)) (Nat.mod_lt _ hWp) e2
 have qx:=(ae HCC).2.but (ae HT).2.1 (by simp;omega)
 obtain⟨cq,fq⟩:=qx.row j (by omega)
 have LS:=(ae KB).long.step (us':=ux.set (j+n) 0) (by omega) hgE hVp (mem_set (ae HT).1.mem _ _ (by omega)) b2
 have KN:Hid (zfr W A V w2.heap.size w5.heap.size (ux.set (j+n) 0) (qs.set j gE) j ((wx.setCell ⟨w2.heap.size,j+n,none⟩ (.int .u32 0)).setCell ⟨w5.heap.size,j,none⟩ (.int .u32 (gE:Int)))) :=
  ⟨LS,(bx.setCell (p:=⟨w2.heap.size,j+n,none⟩) (.inl (by simp)) _).setCell (p:=⟨w5.heap.size,j,none⟩) (.inl (by simp)) _,
  ((ae HT).2.2.set (j+n) (by omega) 0).but ((But.refl [w5.heap.size] _).setCell (p:=⟨w5.heap.size,j,none⟩) (.inl (by simp)) _) (by simp;omega),
  (qx.but ((But.refl [w2.heap.size] _).setCell (p:=⟨w2.heap.size,j+n,none⟩) (.inl (by simp)) _) (by simp;omega)).set j (by omega) gE⟩
 have w32:IntKind.u32.wrap (((ux[j+n]?.getD 0:Nat):Int)+(cK:Int))=0:=by
  rw[← Int.natCast_add,b1,IntKind.wrap_u32'];rfl
 have hucB:ux[j+n]?.getD 0<4294967296:=cf (ae HT).1.mem (by omega) _
 have h64:(cK:Int)%4294967296=(cK:Int):=by omega
 have g4:(gE:Int)%4294967296=(gE:Int):=by omega
 clear HT e2 e3 e4 hgE b1 b2 LS hWp hVB hVp hVv bx qx
 generalize ux[j+n]?.getD 0=tt at *
 generalize qs[j]?.getD 0=qj at *
 go_wp2
 refine⟨⟨j,ux.set (j+n) 0,qs.set j gE,by omega,rfl,by rw[List.length_set];exact hux,by rw[List.length_set];exact hql,KN⟩,?_⟩
 simp[intOf])))))))))
theorem dh (m:Nat) (h:m<18446744073709551616):(wd 4294967296 m).length≤2:=aj (by omega) m 2 (by omega)
theorem zaa (m:Nat) (h:(wd 4294967296 m).length≤2):m<18446744073709551616:=by have:=am (B:=4294967296) (by omega) m 2 h;omega
theorem zzg (va vb:Value) (m n:Nat) (w:World) (ha:Sl .u32 w va (wd 4294967296 m)) (hb:Sl .u32 w vb (wd 4294967296 n)) (hm:m<18446744073709551616) (hn:n<18446744073709551616) (hn0:0<n) :
   Calls prog 198 #[va,vb] w fun e w'=>∃ v1 v2,e=.returned (.tuple #[v1,v2])∧Sl .u32 w' v1 (wd 4294967296 (m/n))∧Sl .u32 w' v2 (wd 4294967296 (m%n))∧But [] w w':=by(
 have hla:=dh m hm
 have hlb:=dh n hn
 have hl0:0<(wd 4294967296 n).length:=by
  have:=zo (B:=4294967296) (by omega) n
  omega
 have HC:=af (zdz va vb m n w ha hb (by omega) (by omega))
 have HT:=af (fun k=>zei va (wd 4294967296 m) (w.drewN k) ha (by omega))
 have PA:=af (fun k=>zbf va m (w.drewN k) ha hm)
 have PB:=af (fun k=>zbf vb n (w.drewN k) hb hn)
 obtain⟨a,cap,rfl,-,-⟩:=ha
 obtain⟨b,cap',rfl,-,-⟩:=hb
 have n0:(((wd 4294967296 n).length:Int)==0)=false:=by simp;intro h;simp[h] at hl0
 generalize (wd 4294967296 m).length=la at *
 generalize (wd 4294967296 n).length=lb at *
 by_cases hlt:m<n
 ·(
 have hc:Hid (zz m n=-1):=by show _=_;simp[zz,hlt]
 go_enter func198,ntmps198
 go_wp2_with fail
 refine (ae HC).mono ?_
 rintro e w1 ⟨rfl,k,rfl⟩
 rw[ae hc]
 go_wp2_with fail
 refine (ae HT k).mono ?_
 rintro e w1 ⟨v',rfl,hs,hb1,-⟩
 go_wp2
 go_ret2
 refine⟨_,v',rfl,?_,?_,((But.refl _ _).drewN k).trans' hb1⟩
 ·rw[Nat.div_eq_of_lt hlt,zq];exact Sl.nil _ _
 ·rw[Nat.mod_eq_of_lt hlt];exact hs)
 ·(
 have hc:Hid (0≤zz m n):=by show _≤_;simp only[zz];rw[if_neg hlt];split <;> omega
 go_enter func198,ntmps198
 go_wp2_with fail
 refine (ae HC).mono ?_
 rintro e w1 ⟨rfl,k,rfl⟩
 have hc0:=ae hc
 generalize zz m n=c at *
 go_wp2_with fail
 refine (ae PA k).mono ?_
 rintro e w1 ⟨rfl,hw1⟩
 obtain rfl:=hw1.symm
 go_wp2_with fail
 refine (ae PB k).mono ?_
 rintro e w1 ⟨rfl,hw1⟩
 obtain rfl:=hw1.symm
 clear hw1 HC HT PA PB hc
 obtain⟨W,hW⟩:∃ W,W=w.drewN k:=⟨_,rfl⟩
 rw[← hW]
 have HW:=af hW
 clear hW
 have hq0:((n:Int)==0)=false:=by simp;omega
 obtain⟨q,hq⟩:∃ q:Nat,q=m/n:=⟨_,rfl⟩
 obtain⟨r,hr⟩:∃ r:Nat,r=m%n:=⟨_,rfl⟩
 have hq64:q<18446744073709551616:=by rw[hq];exact Nat.lt_of_le_of_lt (Nat.div_le_self _ _) hm
 have hr64:r<18446744073709551616:=by rw[hr];exact Nat.lt_trans (Nat.mod_lt _ hn0) hn
 have e1:(m:Int)/(n:Int)=(q:Int):=by rw[hq,Int.natCast_ediv]
 have e2:(m:Int)%(n:Int)=(r:Int):=by rw[hr,Int.natCast_emod]
 have e3:(m:Int).tdiv (n:Int)=(q:Int):=by rw[Int.tdiv_eq_ediv_of_nonneg (by omega)];exact e1
 have e4:(m:Int).tmod (n:Int)=(r:Int):=by rw[Int.tmod_eq_emod_of_nonneg (by omega)];exact e2
 have e5:IntKind.u64.wrap (q:Int)=(q:Int):=by rw[IntKind.wrap_u64];omega
 have HQ:=af hq
 have HR:=af hr
 clear hq hr
 go_wp2
 go_region_with (first
  | (go_at_call_of 201 (Value.int IntKind.u64 (q:Int));refine (zbd q _ hq64).mono ?_;rintro e wq ⟨vq,rfl,hvq,hbq,-⟩)
  | (go_at_call_of 201 (Value.int IntKind.u64 (r:Int));refine (zbd r _ hr64).mono ?_;rintro e wr ⟨vr,rfl,hvr,hbr,-⟩))
 all_goals go_wp2
 all_goals go_ret2
 all_goals rw[← ae HQ,← ae HR]
 all_goals have h1:But [] w W:=by rw[ae HW];exact (But.refl _ _).drewN k
 all_goals first
  | exact⟨vq,vr,rfl,hvq.ah hbr,hvr,(h1.drew.trans' hbq).trans' hbr⟩
  | exact⟨vq,vr,rfl,hvq,hvr.ah hbq,(h1.drew.trans' hbr).trans' hbq⟩))
theorem qcl (va vb:Value) (m n:Nat) (w:World) (ha:Sl .u32 w va (wd 4294967296 m)) (hb:Sl .u32 w vb (wd 4294967296 n)) (hlt:m<n) (hl:(wd 4294967296 n).length<1073741824) :
   Calls prog 198 #[va,vb] w fun e w'=>∃ v1 v2,e=.returned (.tuple #[v1,v2])∧Sl .u32 w' v1 (wd 4294967296 (m/n))∧Sl .u32 w' v2 (wd 4294967296 (m%n))∧But [] w w':=by(
 have hlen:(wd 4294967296 m).length≤(wd 4294967296 n).length:=aj (by omega) m _ (Nat.lt_trans hlt (am (by omega) n _ (Nat.le_refl _)))
 have hl0:0<(wd 4294967296 n).length:=by
  have:=zo (B:=4294967296) (by omega) n
  omega
 have HC:=af (zdz va vb m n w ha hb (by omega) (by omega))
 have HT:=af (fun k=>zei va (wd 4294967296 m) (w.drewN k) ha (by omega))
 obtain⟨a,cap,rfl,-,-⟩:=ha
 obtain⟨b,cap',rfl,-,-⟩:=hb
 have n0:(((wd 4294967296 n).length:Int)==0)=false:=by simp;intro h;simp[h] at hl0
 generalize (wd 4294967296 m).length=la at *
 generalize (wd 4294967296 n).length=lb at *
 have hc:Hid (zz m n=-1):=by show _=_;simp[zz,hlt]
 go_enter func198,ntmps198
 go_wp2_with fail
 refine (ae HC).mono ?_
 rintro e w1 ⟨rfl,k,rfl⟩
 rw[ae hc]
 go_wp2_with fail
 refine (ae HT k).mono ?_
 rintro e w1 ⟨v',rfl,hs,hb1,-⟩
 go_wp2
 go_ret2
 refine⟨_,v',rfl,?_,?_,((But.refl _ _).drewN k).trans' hb1⟩
 ·rw[Nat.div_eq_of_lt hlt,zq];exact Sl.nil _ _
 ·rw[Nat.mod_eq_of_lt hlt];exact hs)
theorem qcj (va vb:Value) (m n:Nat) (w:World) (ha:Sl .u32 w va (wd 4294967296 m)) (hb:Sl .u32 w vb (wd 4294967296 n)) (hle:n≤m) (h3:3≤(wd 4294967296 m).length) (h1:(wd 4294967296 n).length=1) (hl:(wd 4294967296 m).length<1073741824) :
   Calls prog 198 #[va,vb] w fun e w'=>∃ v1 v2,e=.returned (.tuple #[v1,v2])∧Sl .u32 w' v1 (wd 4294967296 (m/n))∧Sl .u32 w' v2 (wd 4294967296 (m%n))∧But [] w w':=by(
 have hn0:0<n:=by
  rcases Nat.eq_zero_or_pos n with h | h
  ·subst h;rw[zq] at h1;simp at h1
  ·exact h
 have hnB:n<4294967296:=by have:=am (B:=4294967296) (by omega) n 1 (by omega);simpa using this
 have HC:=af (zdz va vb m n w ha hb (by omega) (by omega))
 have hc0:=zbb hle
 generalize zz m n=c at *
 have hr:decide (c<0)=false:=by simp;omega
 have hwn:wd 4294967296 n=[n]:=by
  rcases zzp n (by omega) with ⟨h,-⟩|⟨-,-,h⟩|⟨h,-⟩
  ·omega
  ·exact h
  ·omega
 rcases hb.open with ⟨e,-⟩|⟨-,b,off,cap',rfl,hcc,hbl,hcell⟩
 ·rw[e] at h1;simp at h1
 have cx:=hcell 0 (by omega)
 rw[hwn] at cx
 simp only[List.getElem?_cons_zero,Option.getD_some,Nat.add_zero] at cx
 have SM:=af (fun W (h:Sl .u32 W va (wd 4294967296 m))=>zxr va m n W h hn0 hnB hl)
 have HA:=af ha
 obtain⟨a,cap,rfl,-,-⟩:=ha
 rw[h1] at HC
 rw[h1]
 have HRB:Hid (m%n<4294967296):=Nat.lt_trans (Nat.mod_lt _ hn0) hnB
 obtain⟨rr,hrr⟩:∃ rr,rr=m%n:=⟨_,rfl⟩
 rw[← hrr] at HRB SM
 have HRR:=af hrr
 clear hrr
 clear hcell hb hwn h1 hcc hle
 generalize (wd 4294967296 m).length=la at *
 go_enter func198,ntmps198
 go_wp2_with fail
 refine (ae HC).mono ?_
 rintro e w1 ⟨rfl,q,rfl⟩
 go_wp2_with fail
 refine (ae SM _ ((ae HA).ah ((But.refl _ _).drewN q))).mono ?_
 rintro e w2 ⟨v1,rfl,hv1,hb1⟩
 have B2:Hid (But [] w w2):=((But.refl [] _).drewN q).trans' hb1
 have HV1:=af hv1
 clear hv1 hb1 SM HC
 have h0:Sl .u32 (w2.alloc (.cells #[.int .u32 (rr:Int)] 238)) (.slice (some ⟨w2.heap.size,0,none⟩) 1 1) [rr] :=
  Sl.mk (xs:=[rr]) w2.heap.size 0 1 (by simp) (fun i hi=>by
   match i,hi with
   | 0,_=>simp) (fun _ i v hv=>by
   rw[World.cell?_alloc_new] at hv
   match i,hv with
   | 0,hv=>exact⟨_,(by simpa using hv.symm)⟩
   | i+1,hv=>simp at hv)
 have TR:=af (zgr _ [rr] _ h0 (fun x hx=>by simp at hx;have:=ae HRB;omega) (by simp))
 rw[show vl 4294967296 [rr]=rr from by simp[vl]] at TR
 clear h0
 go_wp2_with fail
 refine (ae TR).mono ?_
 rintro e w3 ⟨v2,rfl,hv2,hw⟩
 obtain rfl:=hw.symm
 clear hw
 have FIN:=af hv2
 clear hv2 TR
 go_wp2
 go_ret2
 exact⟨_,_,rfl,(ae HV1).ah ((But.refl _ _).alloc _),by rw[← ae HRR];exact ae FIN,(ae B2).alloc _⟩)
theorem zhq (va vb:Value) (m n:Nat) (w:World) (ha:Sl .u32 w va (wd 4294967296 m)) (hb:Sl .u32 w vb (wd 4294967296 n)) (hn0:0<n) (hla:(wd 4294967296 m).length<8388608) (hlb:(wd 4294967296 n).length<8388608) :
   Calls prog 198 #[va,vb] w fun e w'=>∃ v1 v2,e=.returned (.tuple #[v1,v2])∧Sl .u32 w' v1 (wd 4294967296 (m/n))∧Sl .u32 w' v2 (wd 4294967296 (m%n))∧But [] w w':=by(
 rcases Nat.lt_or_ge m n with hlt | hle
 ·exact qcl va vb m n w ha hb hlt (by omega)
 ·(
 have hlen:(wd 4294967296 n).length≤(wd 4294967296 m).length:=aj (by omega) n _ (Nat.lt_of_le_of_lt hle (am (by omega) m _ (Nat.le_refl _)))
 by_cases h2:(wd 4294967296 m).length≤2
 ·exact zzg va vb m n w ha hb (zaa m h2) (zaa n (by omega)) hn0
 ·have h0:(wd 4294967296 n).length≠0:=fun e=>by rw[zo (by omega)] at e;omega
  by_cases h1:(wd 4294967296 n).length=1
  ·exact qcj va vb m n w ha hb hle (by omega) h1 (by omega)
  ·exact qck va vb m n w ha hb hle (by omega) (by omega) hla))
theorem zdx (m k:Nat):Nat.gcd k (m%k)=Nat.gcd m k:=by rw[Nat.gcd_comm m k,Nat.gcd_rec k m,Nat.gcd_comm]
theorem zta (va vb:Value) (M N:Nat) (w:World) (ha:Sl .u32 w va (wd 4294967296 M)) (hb:Sl .u32 w vb (wd 4294967296 N)) (hla:(wd 4294967296 M).length<8388608) (hlb:(wd 4294967296 N).length<8388608) :
   Calls prog 197 #[va,vb] w fun e w'=>∃ v',e=.returned v'∧Sl .u32 w' v' (wd 4294967296 (Nat.gcd M N))∧But [] w w':=by(
 have A0:Hid (∃ m,Sl .u32 w va (wd 4294967296 m)∧Sl .u32 w vb (wd 4294967296 N)∧Nat.gcd m N=Nat.gcd M N∧But [] w w∧(wd 4294967296 m).length<8388608∧(wd 4294967296 N).length<8388608):=⟨M,ha,hb,rfl,But.refl _ _,hla,hlb⟩
 obtain⟨aa,ca,rfl,-,-⟩:=ha
 obtain⟨ab,cb,rfl,-,-⟩:=hb
 generalize (wd 4294967296 M).length=l1 at *
 generalize hl2:(wd 4294967296 N).length=l2 at *
 have HN2:=af hl2
 clear hl2
 go_enter func197,ntmps197
 go_wp2_with fail
 go_loopg [0,1] N (fun k p1 p2 wr=>Hid (∃ m,Sl .u32 wr p1 (wd 4294967296 m)∧Sl .u32 wr p2 (wd 4294967296 k)∧Nat.gcd m k=Nat.gcd M N∧But [] w wr∧(wd 4294967296 m).length<8388608∧(wd 4294967296 k).length<8388608))
 case atStart =>
  obtain⟨m,h1,h2,h3,h4,h5,h6⟩:=ae A0
  exact⟨m,h1,h2,h3,h4,h5,by rw[ae HN2];exact h6⟩
 case round =>(
 clear A0
 obtain⟨m,s1,s2,hg,hB,hm,hk⟩:=ae hrel
 clear hrel
 rename World=>wr
 by_cases hk2:2<(wd 4294967296 gk).length
 ·(
 have hk0:0<gk:=by
  rcases Nat.eq_zero_or_pos gk with h | h
  ·subst h;rw[zq] at hk2;simp at hk2
  ·exact h
 have DV:=af (zhq _ _ m gk wr s1 s2 hk0 hm hk)
 have hlr:(wd 4294967296 (m%gk)).length<8388608:=Nat.lt_of_le_of_lt (aj (by omega) _ _ (Nat.lt_trans (Nat.mod_lt _ hk0) (am (by omega) gk _ (Nat.le_refl _)))) hk
 have KP:=af (And.intro s2 (And.intro (by rw[zdx];exact hg:Nat.gcd gk (m%gk)=Nat.gcd M N) (And.intro hB (And.intro hk hlr))))
 have hlt:=Nat.mod_lt m hk0
 obtain⟨a1,c1,rfl,-,-⟩:=s1
 obtain⟨a2,c2,rfl,-,-⟩:=s2
 clear hg hB hlr hm hk
 generalize (wd 4294967296 m).length=n1 at *
 generalize hn2:(wd 4294967296 gk).length=n2 at *
 have HN3:=af hn2
 clear hn2
 go_wp2_with fail
 refine (ae DV).mono ?_
 rintro e w2 ⟨v1,v2,rfl,-,hv2,hb2⟩
 have R:Hid (∃ m',Sl .u32 w2 (.slice a2 n2 c2) (wd 4294967296 m')∧Sl .u32 w2 v2 (wd 4294967296 (m%gk))∧Nat.gcd m' (m%gk)=Nat.gcd M N∧But [] w w2∧(wd 4294967296 m').length<8388608∧(wd 4294967296 (m%gk)).length<8388608):=⟨gk,(ae KP).1.ah hb2,hv2,(ae KP).2.1,(ae KP).2.2.1.trans' hb2,by rw[ae HN3];exact (ae KP).2.2.2.1,(ae KP).2.2.2.2⟩
 clear hv2 hb2 DV KP
 go_wp2
 go_roundg (m%gk)
 case measure=>exact hlt
 case rel=>exact ae R)
 ·(
 have hkB:gk<18446744073709551616:=zaa gk (by omega)
 rcases Nat.eq_zero_or_pos gk with hz | hz
 ·(
 subst hz
 rw[Nat.gcd_zero_right] at hg
 rw[hg] at s1
 rw[zq] at s2
 have FIN:=af (And.intro s1 hB)
 obtain⟨a1,c1,rfl,-,-⟩:=s1
 obtain⟨a2,c2,rfl,-,-⟩:=s2
 clear hg hB hm hk hk2 hkB
 generalize (wd 4294967296 (Nat.gcd M N)).length=n1 at *
 go_wp2
 go_ret
 exact⟨_,rfl,(ae FIN).1,(ae FIN).2⟩)
 ·(
 have hl0:(wd 4294967296 gk).length≠0:=fun e=>by rw[zo (by omega)] at e;omega
 by_cases hm2:2<(wd 4294967296 m).length
 ·(
 have DV:=af (zhq _ _ m gk wr s1 s2 hz hm hk)
 have hrB:m%gk<18446744073709551616:=Nat.lt_trans (Nat.mod_lt _ hz) hkB
 have PB:=af (fun W v (h:Sl .u32 W v (wd 4294967296 gk))=>zbf v gk W h hkB)
 have PR:=af (fun W v (h:Sl .u32 W v (wd 4294967296 (m%gk)))=>zbf v (m%gk) W h hrB)
 have HS2:=af s2
 have HGB:=af (And.intro (by rw[zdx];exact hg:Nat.gcd gk (m%gk)=Nat.gcd M N) hB)
 obtain⟨a1,c1,rfl,-,-⟩:=s1
 obtain⟨a2,c2,rfl,-,-⟩:=s2
 clear hg hB hm hk
 generalize (wd 4294967296 m).length=n1 at *
 generalize (wd 4294967296 gk).length=n2 at *
 have n0:((n2:Int)==0)=false:=beq_eq_false_iff_ne.2 (by omega)
 go_wp2_with fail
 refine (ae DV).mono ?_
 rintro e w2 ⟨v1,v2,rfl,-,hv2,hb2⟩
 have HV2:=af hv2
 have HS3:=af ((ae HS2).ah hb2)
 have START:Hid (Nat.gcd gk (m%gk)=Nat.gcd M N∧But [] w w2):=⟨(ae HGB).1,(ae HGB).2.trans' hb2⟩
 clear hv2 hb2 DV HS2 HGB
 go_wp2_with fail
 refine (ae PB _ _ (ae HS3)).mono ?_
 rintro e w3 ⟨rfl,hw⟩
 obtain rfl:=hw.symm
 clear hw
 go_wp2_with fail
 refine (ae PR _ _ (ae HV2)).mono ?_
 rintro e w3 ⟨rfl,hw⟩
 obtain rfl:=hw.symm
 clear hw PB PR HV2 HS3
 go_wp2_with fail
 go_loopw [9,10] (fun x y w'=>∃ p q:Nat,x=.int .u64 p∧y=.int .u64 q∧p<18446744073709551616∧q<18446744073709551616∧Hid (Nat.gcd p q=Nat.gcd M N∧But [] w w')) (fun _ y _=>(intOf y).toNat)
 case atStart=>exact⟨gk,m%gk,rfl,rfl,hkB,hrB,START⟩
 case round =>(
 clear START
 obtain⟨p,q,rfl,rfl,hp,hq,HG⟩:=hrel
 rename World=>wq
 by_cases h0:q=0
 ·(
 subst h0
 have hgg:=(ae HG).1
 rw[Nat.gcd_zero_right] at hgg
 have HGG:=af hgg
 clear hgg
 go_wp2_with fail
 refine (zbd p _ hp).mono ?_
 rintro e w' ⟨v',rfl,hs,hb1,-⟩
 rw[ae HGG] at hs
 have FIN:=af (And.intro hs ((ae HG).2.trans' hb1))
 clear hs hb1
 go_wp2
 go_ret
 exact⟨v',rfl,(ae FIN).1,(ae FIN).2⟩)
 ·(
 have hbq:((q:Int)==0)=false:=by simp;exact h0
 have hlt:0<q:=Nat.pos_of_ne_zero h0
 go_wp2
 go_quiet (fail)
 go_roundw
 case rel =>(
 refine⟨_,_,_,_,_,_,_,_,⟨q,p%q,rfl,?_,hq,?_,?_⟩,rfl⟩
 ·rw[Int.natCast_emod]
 ·exact Nat.lt_trans (Nat.mod_lt _ (Nat.pos_of_ne_zero h0)) hq
 ·exact⟨by rw[zdx];exact (ae HG).1,(ae HG).2.drewN nq⟩)
 case measure =>(
 simp[intOf]
 have:=Nat.mod_lt p (Nat.pos_of_ne_zero h0)
 omega))))
 ·(
 have hmB:m<18446744073709551616:=zaa m (by omega)
 have PA:=af (zbf _ m wr s1 hmB)
 have PB:=af (zbf _ gk wr s2 hkB)
 have START:Hid (Nat.gcd m gk=Nat.gcd M N∧But [] w wr):=⟨hg,hB⟩
 obtain⟨a1,c1,rfl,-,-⟩:=s1
 obtain⟨a2,c2,rfl,-,-⟩:=s2
 clear hg hB hm hk
 generalize (wd 4294967296 m).length=n1 at *
 generalize (wd 4294967296 gk).length=n2 at *
 have n0:((n2:Int)==0)=false:=beq_eq_false_iff_ne.2 (by omega)
 go_wp2_with fail
 refine (ae PA).mono ?_
 rintro e w3 ⟨rfl,hw⟩
 obtain rfl:=hw.symm
 clear hw
 go_wp2_with fail
 refine (ae PB).mono ?_
 rintro e w3 ⟨rfl,hw⟩
 obtain rfl:=hw.symm
 clear hw PA PB
 go_wp2_with fail
 go_loopw [9,10] (fun x y w'=>∃ p q:Nat,x=.int .u64 p∧y=.int .u64 q∧p<18446744073709551616∧q<18446744073709551616∧Hid (Nat.gcd p q=Nat.gcd M N∧But [] w w')) (fun _ y _=>(intOf y).toNat)
 case atStart=>exact⟨m,gk,rfl,rfl,hmB,hkB,START⟩
 case round =>(
 clear START
 obtain⟨p,q,rfl,rfl,hp,hq,HG⟩:=hrel
 rename World=>wq
 by_cases h0:q=0
 ·(
 subst h0
 have hgg:=(ae HG).1
 rw[Nat.gcd_zero_right] at hgg
 have HGG:=af hgg
 clear hgg
 go_wp2_with fail
 refine (zbd p _ hp).mono ?_
 rintro e w' ⟨v',rfl,hs,hb1,-⟩
 rw[ae HGG] at hs
 have FIN:=af (And.intro hs ((ae HG).2.trans' hb1))
 clear hs hb1
 go_wp2
 go_ret
 exact⟨v',rfl,(ae FIN).1,(ae FIN).2⟩)
 ·(
 have hbq:((q:Int)==0)=false:=by simp;exact h0
 have hlt:0<q:=Nat.pos_of_ne_zero h0
 go_wp2
 go_quiet (fail)
 go_roundw
 case rel =>(
 refine⟨_,_,_,_,_,_,_,_,⟨q,p%q,rfl,?_,hq,?_,?_⟩,rfl⟩
 ·rw[Int.natCast_emod]
 ·exact Nat.lt_trans (Nat.mod_lt _ (Nat.pos_of_ne_zero h0)) hq
 ·exact⟨by rw[zdx];exact (ae HG).1,(ae HG).2.drewN nq⟩)
 case measure =>(
 simp[intOf]
 have:=Nat.mod_lt p (Nat.pos_of_ne_zero h0)
 omega))))))))
theorem Slot.drew {w:World} {b o:Nat} (h:Slot w b o):Slot w.drew b o:=⟨h.c0,h.c1,h.f0,h.f1⟩
structure zu (w:World) (b:Nat) (p q:Int):Prop where
 up:ze w b 0 p
 low:ze w b 2 q
 sa:Slot w b 0
 sb:Slot w b 2
theorem zu.but {w w':World} {b:Nat} {p q:Int} (h:zu w b p q) (hb:But [] w w'):zu w' b p q :=
 ⟨h.up.but hb,h.low.but hb,h.sa.but hb (by simp),h.sb.but hb (by simp)⟩
theorem zu.drew {w:World} {b:Nat} {p q:Int} (h:zu w b p q):zu w.drew b p q:=⟨h.up,h.low,h.sa.drew,h.sb.drew⟩
theorem zu.lt {w:World} {b:Nat} {p q:Int} (h:zu w b p q):b<w.heap.size:=h.sa.lt
theorem Sl.zqt {w:World} {v:Value} {n:Nat} (h:Sl .u32 w v (wd 4294967296 n)) (hn:0<n) (hl:(wd 4294967296 n).length<8388608) :
   ∃ b off l cap,v=.slice (some ⟨b,off,none⟩) l cap∧w.cell? ⟨b,off,none⟩=some (.int .u32 (n%4294967296:Nat))∧((l=1∧n<4294967296)∨((2≤l∧l<8388608)∧4294967296≤n)):=by(
 rcases h.open with ⟨e,-⟩|⟨h0,b,off,cap,rfl,-,-,hc⟩
 ·rw[wh (by omega)] at e;omega
 ·(
 have c0:=hc 0 h0
 rw[zbg (by omega) hn] at c0
 simp only[List.getElem?_cons_zero,Option.getD_some,Nat.add_zero] at c0
 refine⟨b,off,_,cap,rfl,c0,?_⟩
 rcases Nat.lt_or_ge n 4294967296 with h1 | h1
 ·have:=aj (B:=4294967296) (by omega) n 1 (by simpa using h1)
  exact .inl ⟨by omega,h1⟩
 ·(
 refine .inr ⟨⟨?_,hl⟩,h1⟩
 rcases Nat.lt_or_ge (wd 4294967296 n).length 2 with h2 | h2
 ·have:=am (B:=4294967296) (by omega) n 1 (by omega)
  simp at this
  omega
 ·exact h2)))
theorem qbr (m n:Nat) (hn:0<n) (hl:(wd 4294967296 n).length<8388608):(wd 4294967296 (Nat.gcd m n)).length<8388608 :=
 Nat.lt_of_le_of_lt (aj (by omega) _ _ (Nat.lt_of_le_of_lt (Nat.gcd_le_right _ hn) (am (by omega) n _ (Nat.le_refl _)))) hl
def zdb (p:Int) (n:Nat):Int:=if p<0 then -((p.natAbs/Nat.gcd p.natAbs n:Nat):Int) else ((p.natAbs/Nat.gcd p.natAbs n:Nat):Int)
def zdc (p:Int) (n:Nat):Int:=((n/Nat.gcd p.natAbs n:Nat):Int)
theorem zxz (n:Nat):zdb 0 n=0:=by simp[zdb]
theorem zya (n:Nat) (h:0<n):zdc 0 n=1:=by simp[zdc,Nat.div_self h]
theorem zla (p:Int) (n:Nat) (h:Nat.gcd p.natAbs n=1):zdb p n=p:=by rw[zdb,h];split <;> simp <;> omega
theorem zlb (p:Int) (n:Nat) (h:Nat.gcd p.natAbs n=1):zdc p n=n:=by rw[zdc,h];simp
theorem zrg (p:Int) (n:Nat):(zdb p n).natAbs=p.natAbs/Nat.gcd p.natAbs n:=by(
 rw[zdb]
 generalize p.natAbs/Nat.gcd p.natAbs n=k
 split <;> omega)
theorem qav (p:Int) (n:Nat):decide (zdb p n<0)=decide (p<0):=by(
 rw[zdb]
 by_cases h:p<0
 ·have:0<p.natAbs/Nat.gcd p.natAbs n:=Nat.div_pos (Nat.gcd_le_left _ (by omega)) (Nat.gcd_pos_of_pos_left _ (by omega))
  generalize p.natAbs/Nat.gcd p.natAbs n=k at *
  rw[if_pos h,decide_eq_true h,decide_eq_true]
  omega
 ·generalize p.natAbs/Nat.gcd p.natAbs n=k
  rw[if_neg h,decide_eq_false h,decide_eq_false]
  omega)
theorem zyb {w:World} {b:Nat} {p:Int} {n g:Nat} (h:zu w b p (n:Int)) (hg:Nat.gcd p.natAbs n=g) (v1 v2:Value) (h1:Sl .u32 w v1 (wd 4294967296 (p.natAbs/g))) (h2:Sl .u32 w v2 (wd 4294967296 (n/g))) :
   zu ((w.setCell ⟨b,1,none⟩ v1).setCell ⟨b,3,none⟩ v2) b (zdb p n) (zdc p n):=by(
 obtain⟨⟨a0,va,a1,hva⟩,⟨b0,vb,b1,hvb⟩,sa,sb⟩:=h
 obtain⟨x1,x2,x3,a1'⟩:=sa.c1
 obtain⟨y1,y2,y3,b1'⟩:=sb.c1
 simp only[Nat.zero_add] at a1 a1'
 simp only[Nat.reduceAdd] at b1 b1'
 have o1:∀ v,(w.setCell ⟨b,1,none⟩ v).cell? ⟨b,3,none⟩=w.cell? ⟨b,3,none⟩:=fun v=>World.cell?_setCell_other _ _ _ _ (by simp)
 have tr:∀ {v xs},Sl .u32 w v xs→Sl .u32 ((w.setCell ⟨b,1,none⟩ v1).setCell ⟨b,3,none⟩ v2) v xs:=fun h =>
  (h.setCell ⟨b,1,none⟩ rfl v1 _ a1' (by simp)).setCell ⟨b,3,none⟩ rfl v2 (.slice y1 y2 y3) (by rw[o1];exact b1') (by simp)
 have c1:((w.setCell ⟨b,1,none⟩ v1).setCell ⟨b,3,none⟩ v2).cell? ⟨b,1,none⟩=some v1:=by
  rw[World.cell?_setCell_other _ _ _ _ (by simp)];exact World.cell?_setCell_same _ _ _ a1
 have c3:((w.setCell ⟨b,1,none⟩ v1).setCell ⟨b,3,none⟩ v2).cell? ⟨b,3,none⟩=some v2 :=
  World.cell?_setCell_same _ _ _ (u:=vb) (by rw[o1];exact b1)
 have c0:((w.setCell ⟨b,1,none⟩ v1).setCell ⟨b,3,none⟩ v2).cell? ⟨b,0,none⟩=w.cell? ⟨b,0,none⟩:=by
  rw[World.cell?_setCell_other _ _ _ _ (by simp),World.cell?_setCell_other _ _ _ _ (by simp)]
 have c2:((w.setCell ⟨b,1,none⟩ v1).setCell ⟨b,3,none⟩ v2).cell? ⟨b,2,none⟩=w.cell? ⟨b,2,none⟩:=by
  rw[World.cell?_setCell_other _ _ _ _ (by simp),World.cell?_setCell_other _ _ _ _ (by simp)]
 obtain⟨z1,z2,z3,e1⟩:=h1.slice
 obtain⟨u1,u2,u3,e2⟩:=h2.slice
 obtain⟨s0,hs0⟩:=sa.c0
 obtain⟨t0,ht0⟩:=sb.c0
 refine⟨⟨by rw[c0,a0,qav],v1,c1,tr (by rw[zrg,hg];exact h1)⟩,⟨?_,v2,c3,tr (by rw[zdc,Int.natAbs_natCast,hg];exact h2)⟩,⟨⟨s0,by rw[c0];exact hs0⟩,⟨z1,z2,z3,by rw[← e1];exact c1⟩,by simp[sa.f0],by have:=sa.f1;simp at this ⊢;exact this⟩,⟨⟨t0,by rw[c2];exact ht0⟩,⟨u1,u2,u3,by rw[← e2];exact c3⟩,by simp[sb.f0],by have:=sb.f1;simp at this ⊢;exact this⟩⟩
 rw[c2,b0,zdc]
 rw[show decide ((n:Int)<0)=false from decide_eq_false (by omega),show decide (((n/Nat.gcd p.natAbs n:Nat):Int)<0)=false from decide_eq_false (Int.not_lt.2 (Int.natCast_nonneg _))])
theorem zyp (b:Nat) (p q:Int) (w:World) (h:zu w b p q) (hp:(wd 4294967296 p.natAbs).length<8388608) (hq:(wd 4294967296 q.natAbs).length<8388608) (hq0:q≠0) (N D:Int) (eN0:Hid (N=zdb (if q<0 then -p else p) q.natAbs)) (eD0:Hid (D=zdc p q.natAbs)) :
   Calls prog 152 #[.pointer (some ⟨b,0,none⟩)] w fun e w'=>e=.returned (.pointer (some ⟨b,0,none⟩))∧But [b] w w'∧zu w' b N D:=by(
 by_cases hneg:q<0
 case' pos =>(
 have h':=h
 obtain⟨⟨a0,va,a1,hva⟩,⟨b0,vb,b1,hvb⟩,sa,sb⟩:=h'
 simp only[Nat.zero_add] at a1
 simp only[Nat.reduceAdd] at b1
 obtain⟨bb,ob,lb,cb,rfl,cb0,hlb⟩:=hvb.zqt (by omega) hq
 have n0:((lb:Int)==0)=false:=by simp;omega
 have hlb1:1≤lb:=by omega
 clear hlb hvb hva
 have b0':w.cell? ⟨b,2,none⟩=some (.bool true):=by rw[b0,decide_eq_true hneg]
 clear b0
 go_enter func152,ntmps152
 go_wp2
 go_region_with (go_at_call 196;refine (zws b 0 b 0 p _ ?_ ?_ (by omega)).mono ?_;exact h.sa.drew;exact h.up;rintro e W1 ⟨rfl,H1⟩;have H1':=af H1;clear H1)
 obtain⟨h1,B1⟩:zu W1 b (-p) q∧But [b] w W1:=by
  obtain⟨w1,v1,hb1,hv1,rfl⟩:=ae H1'
  have hw:=h.drew.but hb1
  obtain⟨aa,na,ca,rfl⟩:=hv1.slice
  exact⟨⟨zcc hw.sa _ _ hv1,dz hw.sa _ _ hw.low (by omega),zep hw.sa _ _ _ _,yj _ _ hw.sb (by omega)⟩,((But.refl [b] w).drew.trans' hb1).trans (zcd ..) (by simp)⟩
 go_wp2
 go_region_with (go_at_call 196;refine (zws b 2 b 2 q _ ?_ ?_ (by omega)).mono ?_;exact h1.sb.drew;exact h1.low;rintro e W ⟨rfl,H2⟩;have H2':=af H2;clear H2)
 obtain⟨hR,hB⟩:zu W b (-p) (-q)∧But [b] w W:=by
  obtain⟨w1,v1,hb1,hv1,rfl⟩:=ae H2'
  have hw:=h1.drew.but hb1
  obtain⟨aa,na,ca,rfl⟩:=hv1.slice
  exact⟨⟨dz hw.sb _ _ hw.up (by omega),zcc hw.sb _ _ hv1,yj _ _ hw.sa (by omega),zep hw.sb _ _ _ _⟩,(B1.drew.trans' hb1).trans (zcd ..) (by simp)⟩
 clear H1' H2' h1 B1 a0 a1 b1 b0' sa sb h cb0 n0 hlb1
 obtain⟨p1,hp1⟩:∃ p1,p1=-p:=⟨_,rfl⟩
 obtain⟨n,hn⟩:∃ n:Nat,n=q.natAbs:=⟨_,rfl⟩
 have eN:Hid (N=zdb p1 n):=by show _=_;rw[ae eN0,if_pos hneg,hp1,hn]
 have eD:Hid (D=zdc p1 n):=by show _=_;rw[ae eD0,hn,hp1];simp[zdc]
 rw[← hp1,show -q=(n:Int) from by omega] at hR
 have hp64:(wd 4294967296 p1.natAbs).length<8388608:=by rw[hp1];first | exact hp | (rw[Int.natAbs_neg];exact hp)
 have hn64:(wd 4294967296 n).length<8388608:=by rw[hn];exact hq
 have hn0:0<n:=by omega
 clear hp hq hq0 hneg hp1 hn eN0 eD0)
 case' neg =>(
 obtain⟨n,hn⟩:∃ n:Nat,n=q.natAbs:=⟨_,rfl⟩
 obtain⟨p1,hp1⟩:∃ p1,p1=p:=⟨_,rfl⟩
 have eN:Hid (N=zdb p1 n):=by show _=_;rw[ae eN0,if_neg hneg,hp1,hn]
 have eD:Hid (D=zdc p1 n):=by show _=_;rw[ae eD0,hn,hp1]
 have hR:=h
 rw[← hp1,show q=(n:Int) from by omega] at hR
 have hp64:(wd 4294967296 p1.natAbs).length<8388608:=by rw[hp1];first | exact hp | (rw[Int.natAbs_neg];exact hp)
 have hn64:(wd 4294967296 n).length<8388608:=by rw[hn];exact hq
 have hn0:0<n:=by omega
 clear h hp hq hq0 hneg hp1 hn eN0 eD0
 refine (?_:∀ W,zu W b p1 n→But [b] w W→Calls prog 152 #[.pointer (some ⟨b,0,none⟩)] W fun e w'=>e=.returned (.pointer (some ⟨b,0,none⟩))∧But [b] w w'∧zu w' b N D) w hR (But.refl _ _)
 clear hR
 intro W hR hB
 go_enter func152,ntmps152)
 all_goals(
 have hR':=hR
 obtain⟨⟨a0,va,a1,hva⟩,⟨b0,vb,b1,hvb⟩,sa,sb⟩:=hR'
 simp only[Nat.zero_add] at a1
 simp only[Nat.reduceAdd] at b1
 rw[show decide ((n:Int)<0)=false from decide_eq_false (by omega)] at b0
 rw[Int.natAbs_natCast] at hvb
 have hvb':=hvb
 obtain⟨bb,ob,lb,cb,rfl,cb0,hlb⟩:=hvb'.zqt hn0 hn64
 have n0:((lb:Int)==0)=false:=by simp;omega
 by_cases hp0:p1=0
 ·(
 subst hp0
 simp only[Int.natAbs_zero,zq] at hva
 obtain⟨aa,ca,rfl,-,-⟩:=hva
 clear hlb hvb a0
 go_wp2_with fail
 refine (zgt b 2 1 _ (by omega) (by omega) sb).mono ?_
 rintro e W' ⟨rfl,H⟩
 have H':=af H
 clear H
 go_wp2
 go_ret
 rw[ae eN,ae eD,zxz,zya n hn0]
 obtain⟨w1,v1,hb1,hv1,rfl⟩:=ae H'
 have hw:=hR.but hb1
 obtain⟨aa,na,ca,rfl⟩:=hv1.slice
 exact⟨rfl,(hB.trans' hb1).trans (zcd ..) (by simp),dz hw.sb _ _ hw.up (by omega),zcc hw.sb _ 1 hv1,yj _ _ hw.sa (by omega),zep hw.sb _ _ _ _⟩)
 ·(
 have hva':=hva
 obtain⟨ba,oa,la,ca,rfl,ca0,hla⟩:=hva'.zqt (by omega) hp64
 have n0a:((la:Int)==0)=false:=by simp;omega
 clear ca0 hla
 by_cases hn1:n=1
 ·(
 subst hn1
 have hlb1:lb=1:=by omega
 subst hlb1
 simp only[Nat.reduceMod] at cb0
 clear hlb hva hvb
 go_wp2
 go_ret
 rw[ae eN,ae eD,zla _ _ (Nat.gcd_one_right _),zlb _ _ (Nat.gcd_one_right _)]
 exact⟨rfl,hB,hR⟩)
 ·(
 have hlb1:1≤lb:=by omega
 rcases hlb with ⟨hl,hlb⟩|⟨hl,hlb⟩
 case' inl=>have t1:((lb:Int)==1)=true:=by rw[hl];rfl
 case' inr=>have t1:((lb:Int)==1)=false:=beq_eq_false_iff_ne.2 (by omega)
 all_goals(
 have hlb2:lb<8388608:=by omega
 clear hl
 have g1:(((n%4294967296:Nat):Int)==1)=decide (n%4294967296=1):=by rw[Bool.eq_iff_iff];simp;omega
 go_wp2
 go_region_held (fun w'=>w'.cell? ⟨b,1,none⟩=some (.slice (some ⟨ba,oa,none⟩) la ca)∧w'.cell? ⟨b,3,none⟩=some (.slice (some ⟨bb,ob,none⟩) lb cb)) (go_keep) ((go_at_call 197;refine (zta _ _ p1.natAbs n _ ?_ ?_ hp64 hn64).mono ?_;exact hva;exact hvb;rintro e wg ⟨vg,rfl,hvg,hbg⟩;have hbW:But [] W wg:=(by first | exact hbg | exact (But.refl _ _).drew.trans' hbg);have k1:=hbW.ag a1 (by simp);have k3:=hbW.ag b1 (by simp)))
 have hRg:=hR.but hbW
 have hG0:0<Nat.gcd p1.natAbs n:=Nat.gcd_pos_of_pos_right _ hn0
 have hG64:=qbr p1.natAbs n hn0 hn64
 have hvag:=hva.ah hbW
 have hvbg:=hvb.ah hbW
 have hvg':=hvg
 obtain⟨bg,og,lg,cg,rfl,cg0,hlg⟩:=hvg'.zqt hG0 hG64
 have hBg:But [b] w wg:=hB.trans' hbW
 clear a0 a1 b0 b1 sa sb cb0 hva hvb hbg hbW
 have hlg1:1≤lg:=by omega
 by_cases hg1:Nat.gcd p1.natAbs n=1
 ·(
 rw[hg1] at cg0
 simp only[Nat.reduceMod] at cg0
 have t2:((lg:Int)==1)=true:=by simp;omega
 clear hlg hvg hvag hvbg hG0 hG64
 go_wp2
 go_ret
 rw[ae eN,ae eD,zla _ _ hg1,zlb _ _ hg1]
 exact⟨rfl,hBg,hRg⟩)
 ·(
 rcases hlg with ⟨hl,hlg⟩|⟨hl,hlg⟩
 case' inl=>have t2:((lg:Int)==1)=true:=by rw[hl];rfl
 case' inr=>have t2:((lg:Int)==1)=false:=beq_eq_false_iff_ne.2 (by omega)
 all_goals(
 have g2:(((Nat.gcd p1.natAbs n%4294967296:Nat):Int)==1)=decide (Nat.gcd p1.natAbs n%4294967296=1):=by rw[Bool.eq_iff_iff];simp;omega
 generalize hgd:Nat.gcd p1.natAbs n=g at *
 have HG:=af hgd
 clear hgd
 clear hl
 have C1:=af k1
 have C3:=af k3
 go_wp2_with fail
 refine (zhq _ _ p1.natAbs g wg hvag hvg hG0 hp64 hG64).mono ?_
 rintro e w1 ⟨q1,r1,rfl,hq1,hr1,hb1⟩
 have l3:=hb1.ag (ae C3) (by simp)
 go_wp2_with fail
 refine (zhq _ _ n g w1 (hvbg.ah hb1) (hvg.ah hb1) hG0 hn64 hG64).mono ?_
 rintro e w2 ⟨q2,r2,rfl,hq2,hr2,hb2⟩
 obtain⟨z1,z2,z3,rfl⟩:=hq1.slice
 obtain⟨u1,u2,u3,rfl⟩:=hq2.slice
 have hR2:=(hRg.but hb1).but hb2
 have m1:=hb2.ag (hb1.ag (ae C1) (by simp)) (by simp)
 have m3:=hb2.ag l3 (by simp)
 have f1:=hR2.sa.f1
 have f3:=hR2.sb.f1
 simp only[Nat.zero_add] at f1
 simp only[Nat.reduceAdd] at f3
 go_wp2
 go_ret
 rw[ae eN,ae eD]
 exact⟨rfl,(((hBg.trans' hb1).trans' hb2).setCell (by simp) _).setCell (by simp) _,zyb hR2 (ae HG) _ _ (hq1.ah hb2) hq2⟩)))))))
theorem zwo {w w1:World} {t:TypeId} {z:Int} {v:Value} (hb:But [] (w.alloc (.cells #[.bool false,.slice none 0 0] t)) w1) (hv:Sl .u32 w1 v (wd 4294967296 z.natAbs)) :
   But [] w (o9 w1 w.heap.size 0 v (decide (z<0)))∧ze (o9 w1 w.heap.size 0 v (decide (z<0))) w.heap.size 0 z∧Slot (o9 w1 w.heap.size 0 v (decide (z<0))) w.heap.size 0∧w.heap.size<(o9 w1 w.heap.size 0 v (decide (z<0))).heap.size:=by(
 have hs:=(jb w t).but hb (by simp)
 obtain⟨a,n,c,rfl⟩:=hv.slice
 exact⟨(((But.refl [] w).alloc _).trans' hb).trans (zcd ..) (by simp),zcc hs _ _ hv,zep hs _ _ _ _,by rw[zfj];exact hs.lt⟩)
theorem qaw {w:World} {b:Nat} {p q:Int} (h0:Slot w b 0) (h2:Slot w b 2) (x1 y1:Option Addr) (x2 x3 y2 y3:Nat) (hp:Sl .u32 w (.slice x1 x2 x3) (wd 4294967296 p.natAbs)) (hq:Sl .u32 w (.slice y1 y2 y3) (wd 4294967296 q.natAbs)) :
   zu ((((w.setCell ⟨b,0,none⟩ (.bool (decide (p<0)))).setCell ⟨b,1,none⟩ (.slice x1 x2 x3)).setCell ⟨b,2,none⟩ (.bool (decide (q<0)))).setCell ⟨b,3,none⟩ (.slice y1 y2 y3)) b p q:=by(
 obtain⟨⟨s0,c0⟩,⟨a1,a2,a3,c1⟩,f0,f1⟩:=h0
 obtain⟨⟨s2,c2⟩,⟨b1,b2,b3,c3⟩,f2,f3⟩:=h2
 simp only[Nat.zero_add] at c1 f1
 simp only[Nat.reduceAdd] at c3 f3
 have k1:(w.setCell ⟨b,0,none⟩ (.bool (decide (p<0)))).cell? ⟨b,1,none⟩=some (.slice a1 a2 a3):=by rw[World.cell?_setCell_other _ _ _ _ (by simp)];exact c1
 have k2:((w.setCell ⟨b,0,none⟩ (.bool (decide (p<0)))).setCell ⟨b,1,none⟩ (.slice x1 x2 x3)).cell? ⟨b,2,none⟩=some (.bool s2):=by
  rw[World.cell?_setCell_other _ _ _ _ (by simp),World.cell?_setCell_other _ _ _ _ (by simp)];exact c2
 have k3:(((w.setCell ⟨b,0,none⟩ (.bool (decide (p<0)))).setCell ⟨b,1,none⟩ (.slice x1 x2 x3)).setCell ⟨b,2,none⟩ (.bool (decide (q<0)))).cell? ⟨b,3,none⟩=some (.slice b1 b2 b3):=by
  rw[World.cell?_setCell_other _ _ _ _ (by simp),World.cell?_setCell_other _ _ _ _ (by simp),World.cell?_setCell_other _ _ _ _ (by simp)];exact c3
 have tr:∀ {v xs},Sl .u32 w v xs→Sl .u32 ((((w.setCell ⟨b,0,none⟩ (.bool (decide (p<0)))).setCell ⟨b,1,none⟩ (.slice x1 x2 x3)).setCell ⟨b,2,none⟩ (.bool (decide (q<0)))).setCell ⟨b,3,none⟩ (.slice y1 y2 y3)) v xs:=fun h =>
  (((h.setCell _ rfl _ _ c0 (by simp)).setCell _ rfl _ _ k1 (by simp)).setCell _ rfl _ _ k2 (by simp)).setCell _ rfl _ _ k3 (by simp)
 have e0:((((w.setCell ⟨b,0,none⟩ (.bool (decide (p<0)))).setCell ⟨b,1,none⟩ (.slice x1 x2 x3)).setCell ⟨b,2,none⟩ (.bool (decide (q<0)))).setCell ⟨b,3,none⟩ (.slice y1 y2 y3)).cell? ⟨b,0,none⟩=some (.bool (decide (p<0))):=by
  rw[World.cell?_setCell_other _ _ _ _ (by simp),World.cell?_setCell_other _ _ _ _ (by simp),World.cell?_setCell_other _ _ _ _ (by simp)];exact World.cell?_setCell_same _ _ _ c0
 have e1:((((w.setCell ⟨b,0,none⟩ (.bool (decide (p<0)))).setCell ⟨b,1,none⟩ (.slice x1 x2 x3)).setCell ⟨b,2,none⟩ (.bool (decide (q<0)))).setCell ⟨b,3,none⟩ (.slice y1 y2 y3)).cell? ⟨b,1,none⟩=some (.slice x1 x2 x3):=by
  rw[World.cell?_setCell_other _ _ _ _ (by simp),World.cell?_setCell_other _ _ _ _ (by simp)];exact World.cell?_setCell_same _ _ _ k1
 have e2:((((w.setCell ⟨b,0,none⟩ (.bool (decide (p<0)))).setCell ⟨b,1,none⟩ (.slice x1 x2 x3)).setCell ⟨b,2,none⟩ (.bool (decide (q<0)))).setCell ⟨b,3,none⟩ (.slice y1 y2 y3)).cell? ⟨b,2,none⟩=some (.bool (decide (q<0))):=by
  rw[World.cell?_setCell_other _ _ _ _ (by simp)];exact World.cell?_setCell_same _ _ _ k2
 have e3:((((w.setCell ⟨b,0,none⟩ (.bool (decide (p<0)))).setCell ⟨b,1,none⟩ (.slice x1 x2 x3)).setCell ⟨b,2,none⟩ (.bool (decide (q<0)))).setCell ⟨b,3,none⟩ (.slice y1 y2 y3)).cell? ⟨b,3,none⟩=some (.slice y1 y2 y3) :=
  World.cell?_setCell_same _ _ _ k3
 exact⟨⟨e0,_,e1,tr hp⟩,⟨e2,_,e3,tr hq⟩,⟨⟨_,e0⟩,⟨_,_,_,e1⟩,by simp only[World.frozen?_setCell];exact f0,by simp only[World.frozen?_setCell];exact f1⟩,⟨⟨_,e2⟩,⟨_,_,_,e3⟩,by simp only[World.frozen?_setCell];exact f2,by simp only[World.frozen?_setCell];exact f3⟩⟩)
theorem bf (zb ab ao bb bo:Nat) (p q:Int) (w:World) (hz0:Slot w zb 0) (hz2:Slot w zb 2) (ha:ze w ab ao p) (hb:ze w bb bo q) (hp:(wd 4294967296 p.natAbs).length<8388608) (hq:(wd 4294967296 q.natAbs).length<8388608) (hq0:q≠0) (N D:Int) (eN0:Hid (N=zdb (if q<0 then -p else p) q.natAbs)) (eD0:Hid (D=zdc p q.natAbs)) :
   Calls prog 67 #[.pointer (some ⟨zb,0,none⟩),.pointer (some ⟨ab,ao,none⟩),.pointer (some ⟨bb,bo,none⟩)] w fun e w'=>e=.returned (.pointer (some ⟨zb,0,none⟩))∧But [zb] w w'∧zu w' zb N D:=by(
 have hb':=hb
 obtain⟨b0,vb,b1,hvb⟩:=hb'
 obtain⟨bx,ox,lb,cb,rfl,cb0,hlb⟩:=hvb.zqt (by omega) hq
 have n0:((lb:Int)==0)=false:=by simp;omega
 clear hlb cb0 hvb b0
 go_enter func67,ntmps67
 go_wp2_with fail
 refine (zwl w.heap.size 0 ab ao p _ (jb _ _) (ha.but ((But.refl _ _).alloc _)) (by omega)).mono ?_
 rintro e W1 ⟨rfl,H⟩
 obtain⟨B1,I1,S1,L1⟩:But [] w W1∧ze W1 w.heap.size 0 p∧Slot W1 w.heap.size 0∧w.heap.size<W1.heap.size:=by
  obtain⟨w1,v,hbb,hv,rfl⟩:=H
  exact zwo hbb hv
 clear H
 go_wp2_with fail
 refine (zwl W1.heap.size 0 bb bo q _ (jb _ _) ((hb.but B1).but ((But.refl _ _).alloc _)) (by omega)).mono ?_
 rintro e W2 ⟨rfl,H⟩
 obtain⟨B2,I2,S2,L2⟩:But [] W1 W2∧ze W2 W1.heap.size 0 q∧Slot W2 W1.heap.size 0∧W1.heap.size<W2.heap.size:=by
  obtain⟨w1,v,hbb,hv,rfl⟩:=H
  exact zwo hbb hv
 clear H
 have B12:=B1.trans' B2
 have I1':=I1.but B2
 have z0:=hz0.but B12 (by simp)
 have z2:=hz2.but B12 (by simp)
 obtain⟨i0,vi,i1,hvi⟩:=I1'
 obtain⟨j0,vj,j1,hvj⟩:=I2
 simp only[Nat.zero_add] at i1 j1
 obtain⟨x1,x2,x3,rfl⟩:=hvi.slice
 obtain⟨y1,y2,y3,rfl⟩:=hvj.slice
 have zlt:zb<w.heap.size:=hz0.lt
 obtain⟨s0,hc0⟩:=z0.c0
 obtain⟨m1,m2,m3,hc1⟩:=z0.c1
 obtain⟨s2,hc2⟩:=z2.c0
 obtain⟨k1,k2,k3,hc3⟩:=z2.c1
 have f0:=z0.f0
 have f1:=z0.f1
 have f2:=z2.f0
 have f3:=z2.f1
 simp only[Nat.zero_add] at hc1 f1
 simp only[Nat.reduceAdd] at hc3 f3
 have ne1:zb≠w.heap.size:=by omega
 have ne2:zb≠W1.heap.size:=by omega
 have hR:=qaw z0 z2 x1 y1 x2 x3 y2 y3 hvi hvj
 have hRR:=af hR
 clear hR
 go_wp2_with fail
 refine (zyp zb p q _ (ae hRR) hp hq hq0 N D eN0 eD0).mono ?_
 rintro e w' ⟨rfl,hbn,hr⟩
 go_wp2
 go_ret
 exact⟨rfl,(((((B12.of_nil (l:=[zb])).setCell (by simp) _).setCell (by simp) _).setCell (by simp) _).setCell (by simp) _).trans hbn (by simp),hr⟩)
theorem zbm (w:World) (t:TypeId):Slot (w.alloc (.cells #[.bool false,.slice none 0 0,.bool false,.slice none 0 0] t)) w.heap.size 0∧Slot (w.alloc (.cells #[.bool false,.slice none 0 0,.bool false,.slice none 0 0] t)) w.heap.size 2 :=
 ⟨⟨⟨false,by simp⟩,⟨none,0,0,by simp⟩,by simp,by simp⟩,⟨⟨false,by simp⟩,⟨none,0,0,by simp⟩,by simp,by simp⟩⟩
theorem zjx (zb:Nat) (x:Int) (w:World) (h1:-9223372036854775808≤x) (h2:x<9223372036854775808) (hz0:Slot w zb 0) (hz2:Slot w zb 2) :
   Calls prog 81 #[.pointer (some ⟨zb,0,none⟩),.int .i64 x] w fun e w'=>e=.returned (.pointer (some ⟨zb,0,none⟩))∧But [zb] w w'∧zu w' zb x 1:=by(
 go_enter func81,ntmps81
 go_wp2_with fail
 refine (ut x _ h1 h2).mono ?_
 rintro e w1 ⟨rfl,B1,I1,S1⟩
 go_wp2_with fail
 refine (ut 1 _ (by omega) (by omega)).mono ?_
 rintro e w2 ⟨rfl,B2,I2,S2⟩
 go_wp2_with fail
 have B12:=B1.trans' B2
 refine (bf zb w.heap.size 0 w1.heap.size 0 x 1 _ (hz0.but B12 (by simp)) (hz2.but B12 (by simp)) (I1.but B2) I2 (by have:=dh x.natAbs (by omega);omega) (by have:=dh 1 (by omega);simpa using Nat.lt_of_le_of_lt this (by omega)) (by omega) x 1 ?_ ?_).mono ?_
 ·show x=_
  rw[if_neg (by omega)]
  exact (zla x 1 (Nat.gcd_one_right _)).symm
 ·show (1:Int)=_
  exact (zlb x 1 (Nat.gcd_one_right _)).symm
 rintro e w3 ⟨rfl,B3,R3⟩
 go_wp2
 go_ret
 exact⟨rfl,(B12.of_nil (l:=[zb])).trans B3 (by simp),R3⟩)
theorem zup (x:Int) (w:World) (h1:-9223372036854775808≤x) (h2:x<9223372036854775808) :
   Calls prog 19 #[.int .i64 x] w fun e w'=>∃ zb,e=.returned (.pointer (some ⟨zb,0,none⟩))∧But [] w w'∧zu w' zb x 1:=by(
 go_enter func19,ntmps19
 go_wp2_with fail
 have hs:=zbm w 113
 refine (zjx w.heap.size x _ h1 h2 hs.1 hs.2).mono ?_
 rintro e w3 ⟨rfl,B3,R3⟩
 go_wp2
 go_ret
 exact⟨w.heap.size,rfl,((But.refl _ _).alloc _).trans B3 (by simp),R3⟩)
theorem j4 (b:Nat) (p:Int) (n:Nat) (w:World) (h:zu w b p n) (hn0:0<n) :
   Calls prog 83 #[.pointer (some ⟨b,0,none⟩)] w fun e w'=>e=.returned (.pointer (some ⟨b,2,none⟩))∧w'=w:=by(
 obtain⟨-,⟨-,vb,b1,hvb⟩,-,-⟩:=h
 simp only[Nat.reduceAdd] at b1
 have hl:(wd 4294967296 n).length≠0:=by rw[ne_eq,zo (by omega)];omega
 rw[Int.natAbs_natCast] at hvb
 obtain⟨a,cap,rfl,-,-⟩:=hvb
 have n0:(((wd 4294967296 n).length:Int)==0)=false:=by simp;intro h;simp[h] at hl
 generalize (wd 4294967296 n).length=l at *
 go_enter func83,ntmps83
 go_wp2
 go_ret
 exact⟨rfl,rfl⟩)
theorem zsn (b o:Nat) (z:Int) (w:World) (h:ze w b o z) (s:Int) (hs:Hid (s=z.sign)) (hl:(wd 4294967296 z.natAbs).length<2147483648) :
   Calls prog 114 #[.pointer (some ⟨b,o,none⟩)] w fun e w'=>e=.returned (.int .i64 s)∧w'=w:=by(
 obtain⟨b0,vb,b1,hvb⟩:=h
 have hz:=zo (B:=4294967296) (by omega) z.natAbs
 obtain⟨a,cap,rfl,-,-⟩:=hvb
 generalize (wd 4294967296 z.natAbs).length=l at *
 by_cases h0:z=0
 ·(
 have hl0:l=0:=by omega
 subst hl0
 clear hz
 have es:Hid (s=0):=by show _=_;rw[ae hs,h0];rfl
 clear h0 hs
 go_enter func114,ntmps114
 go_wp2
 go_ret
 exact⟨by rw[ae es];rfl,rfl⟩)
 ·(
 have n0:((l:Int)==0)=false:=by simp;omega
 clear hz
 by_cases h1:z<0
 ·(
 have es:Hid (s=-1):=by show _=_;rw[ae hs,Int.sign_eq_neg_one_of_neg h1]
 rw[decide_eq_true h1] at b0
 clear h0 h1 hs
 go_enter func114,ntmps114
 go_wp2
 go_ret
 exact⟨by rw[ae es];rfl,rfl⟩)
 ·(
 have es:Hid (s=1):=by show _=_;rw[ae hs,Int.sign_eq_one_of_pos (by omega)]
 rw[decide_eq_false h1] at b0
 clear h0 h1 hs
 go_enter func114,ntmps114
 go_wp2
 go_ret
 exact⟨by rw[ae es];rfl,rfl⟩)))
theorem zrk (b:Nat) (p q:Int) (w:World) (h:zu w b p q) (s:Int) (hs:Hid (s=p.sign)) (hl:(wd 4294967296 p.natAbs).length<2147483648) :
   Calls prog 44 #[.pointer (some ⟨b,0,none⟩)] w fun e w'=>e=.returned (.int .i64 s)∧w'=w:=by(
 go_enter func44,ntmps44
 go_wp2_with fail
 refine (zsn b 0 p _ h.up s hs hl).mono ?_
 rintro e w' ⟨rfl,hw⟩
 obtain rfl:=hw.symm
 go_wp2
 go_ret
 exact⟨rfl,rfl⟩)
theorem ul (w:World) (o:Obj) (t:TypeId):Slot ((w.alloc o).alloc (.cells #[.bool false,.slice none 0 0] t)) (w.heap.size+1) 0:=by
 have h:=jb (w.alloc o) t
 simpa using h
theorem zks (w:World) (t:TypeId):Slot (w.alloc (.cells #[.bool false,.slice none 0 0] t)).drew w.heap.size 0:=(jb w t).drew
theorem zgc (w:World) (o:Obj) (t:TypeId):Slot ((w.alloc (.cells #[.bool false,.slice none 0 0] t)).alloc o).drew w.heap.size 0:=Slot.drew ((jb w t).but ((But.refl [] _).alloc o) (by simp))
theorem zgb (w:World) (o:Obj) (t:TypeId):Slot ((w.alloc o).alloc (.cells #[.bool false,.slice none 0 0] t)).drew (w.heap.size+1) 0:=Slot.drew (ul w o t)
theorem ze.drew {w:World} {b o:Nat} {z:Int} (h:ze w b o z):ze w.drew b o z:=h
theorem ji (A b1 o1 b2 o2:Nat) (x y z:Int) (hz:x*y=z) (w P:World) (hs:Slot P A 0) (hw:But [] w P) (hA:w.heap.size≤A) (hx:ze w b1 o1 x) (hy:ze w b2 o2 y) (hlx:(wd 4294967296 x.natAbs).length<8388608) (hly:(wd 4294967296 y.natAbs).length<8388608) (hlz:(wd 4294967296 z.natAbs).length<8388608) :
   Calls prog 85 #[.pointer (some ⟨A,0,none⟩),.pointer (some ⟨b1,o1,none⟩),.pointer (some ⟨b2,o2,none⟩)] P fun e W1=>e=.returned (.pointer (some ⟨A,0,none⟩))∧But [] w W1∧ze W1 A 0 z∧(∀ B,B≠A→Slot P B 0→Slot W1 B 0)∧(∀ b o z,b≠A→ze P b o z→ze W1 b o z)∧P.heap.size≤W1.heap.size:=by(
 have l1:=hx.lt
 have l2:=hy.lt
 refine (zls A 0 b1 o1 b2 o2 x y P hs (by omega) (by omega) (hx.but hw) (hy.but hw) (by omega) (by omega) (by rw[← Int.natAbs_mul,hz];omega)).mono ?_
 rintro e W1 ⟨rfl,w1,v,hb,hv,rfl⟩
 rw[hz] at hv ⊢
 have hs1:=hs.but hb (by simp)
 exact⟨rfl,(hw.trans' hb).trans (zcd ..) (by simp;exact hA),zcc hs1 _ _ hv,fun B hB hS=>yj _ _ (hS.but hb (by simp)) (.inl hB),fun b o z' hB hI=>dz hs1 _ _ (hI.but hb) (.inl hB),by rw[zfj];exact hb.size⟩)
def sgU (s:Bool) (n:Nat):Int:=if s then -(n:Int) else (n:Int)
theorem zos (z:Int):sgU (decide (z<0)) z.natAbs=z:=by(
 unfold sgU
 by_cases h:z<0
 ·rw[decide_eq_true h,if_pos rfl];omega
 ·rw[decide_eq_false h,if_neg (by simp)];omega)
theorem qds (z:Int):sgU (!decide (z<0)) z.natAbs=-z:=by(
 unfold sgU
 by_cases h:z<0
 ·rw[decide_eq_true h];simp;omega
 ·rw[decide_eq_false h];simp;omega)
theorem zku (s:Bool) (n:Nat) (z:Int) (h:z=sgU s n):z.natAbs=n∧(s && decide (0<(wd 4294967296 n).length))=decide (z<0):=by(
 have hl:=zo (B:=4294967296) (by omega) n
 subst h
 cases s
 ·refine⟨by simp[sgU],?_⟩
  rw[Bool.false_and,Bool.eq_iff_iff]
  simp[sgU]
 ·refine⟨by simp[sgU],?_⟩
  rw[Bool.true_and,Bool.eq_iff_iff]
  simp only[sgU,if_true,decide_eq_true_eq]
  omega)
theorem zqq (xn yn:Bool) (va vb:Value) (X Y:Nat) (z:Int) (w:World) (ha:Sl .u32 w va (wd 4294967296 X)) (hb:Sl .u32 w vb (wd 4294967296 Y)) (hla:(wd 4294967296 X).length<8388608) (hlb:(wd 4294967296 Y).length<8388608) (hz:Hid (z=sgU xn X+sgU yn Y)) :
   Calls prog 154 #[.bool xn,va,.bool yn,vb] w fun e w'=>∃ s v,e=.returned (.tuple #[.bool s,v])∧Sl .u32 w' v (wd 4294967296 z.natAbs)∧But [] w w'∧(s && decide (0<(wd 4294967296 z.natAbs).length))=decide (z<0):=by(
 have CM:=af (zdz va vb X Y w ha hb (by omega) (by omega))
 have HA:=af ha
 have HB:=af hb
 have AD:=af (qcz va vb X Y w ha hb (by omega) (by omega))
 have S1:Hid (Y≤X→∀ W,But [] w W→Calls prog 200 #[va,vb] W fun e w'=>∃ v',e=.returned v'∧Sl .u32 w' v' (wd 4294967296 (X-Y))∧But [] W w'):=fun h W hW=>(zqr va vb X Y W (ha.ah hW) (hb.ah hW) (by omega) h).mono fun e w' ⟨v',h1,h2,h3,_⟩=>⟨v',h1,h2,h3⟩
 have S2:Hid (X≤Y→∀ W,But [] w W→Calls prog 200 #[vb,va] W fun e w'=>∃ v',e=.returned v'∧Sl .u32 w' v' (wd 4294967296 (Y-X))∧But [] W w'):=fun h W hW=>(zqr vb va Y X W (hb.ah hW) (ha.ah hW) (by omega) h).mono fun e w' ⟨v',h1,h2,h3,_⟩=>⟨v',h1,h2,h3⟩
 obtain⟨a1,c1,rfl,-,-⟩:=ha
 obtain⟨a2,c2,rfl,-,-⟩:=hb
 generalize (wd 4294967296 X).length=l1 at *
 generalize (wd 4294967296 Y).length=l2 at *
 by_cases hs:xn=yn
 ·(
 subst hs
 have FS:=af (zku xn (X+Y) z (by rw[ae hz];unfold sgU;split <;> omega))
 clear hz
 go_enter func154,ntmps154
 go_wp2_with fail
 refine (ae AD).mono ?_
 rintro e w1 ⟨v1,rfl,hv1,hb1,-⟩
 have FIN:=af (And.intro hv1 hb1)
 clear hv1 hb1
 go_wp2
 go_ret2
 refine⟨xn,v1,rfl,?_,(ae FIN).2,?_⟩
 ·rw[(ae FS).1];exact (ae FIN).1
 ·rw[(ae FS).1];exact (ae FS).2)
 ·(
 have hbe:(xn==yn)=false:=by simp[hs]
 have hyn:yn=!xn:=by cases xn <;> cases yn <;> simp_all
 rcases Nat.lt_or_ge X Y with hlt | hge
 ·(
 have FS:=af (zku yn (Y-X) z (by rw[ae hz,hyn];unfold sgU;cases xn <;> simp <;> omega))
 rw[sw hlt] at CM
 clear hz hyn
 go_enter func154,ntmps154
 go_wp2_with fail
 refine (ae CM).mono ?_
 rintro e w1 ⟨rfl,q,rfl⟩
 go_wp2_with fail
 refine (ae S2 (Nat.le_of_lt hlt) _ ((But.refl _ _).drewN q)).mono ?_
 rintro e w2 ⟨v1,rfl,hv1,hb1⟩
 have FIN:=af (And.intro hv1 (((But.refl [] w).drewN q).trans' hb1))
 clear hv1 hb1
 go_wp2
 go_ret2
 refine⟨yn,v1,rfl,?_,(ae FIN).2,?_⟩
 ·rw[(ae FS).1];exact (ae FIN).1
 ·rw[(ae FS).1];exact (ae FS).2)
 ·(
 have FS:=af (zku xn (X-Y) z (by rw[ae hz,hyn];unfold sgU;cases xn <;> simp <;> omega))
 have hc0:=zbb hge
 generalize zz X Y=r at *
 have hr:decide (0≤r)=true:=by simp;exact hc0
 clear hz hyn
 go_enter func154,ntmps154
 go_wp2_with fail
 refine (ae CM).mono ?_
 rintro e w1 ⟨rfl,q,rfl⟩
 go_wp2_with fail
 refine (ae S1 hge _ ((But.refl _ _).drewN q)).mono ?_
 rintro e w2 ⟨v1,rfl,hv1,hb1⟩
 have FIN:=af (And.intro hv1 (((But.refl [] w).drewN q).trans' hb1))
 clear hv1 hb1
 go_wp2
 go_ret2
 refine⟨xn,v1,rfl,?_,(ae FIN).2,?_⟩
 ·rw[(ae FS).1];exact (ae FIN).1
 ·rw[(ae FS).1];exact (ae FS).2)))
theorem zjo (b o b1 o1 b2 o2:Nat) (x y z:Int) (w:World) (hs:Slot w b o) (hne1:b≠b1) (hne2:b≠b2) (hx:ze w b1 o1 x) (hy:ze w b2 o2 y) (hlx:(wd 4294967296 x.natAbs).length<8388608) (hly:(wd 4294967296 y.natAbs).length<8388608) (hlz:(wd 4294967296 z.natAbs).length<2147483648) (hz:Hid (z=x+y)) :
   Calls prog 68 #[.pointer (some ⟨b,o,none⟩),.pointer (some ⟨b1,o1,none⟩),.pointer (some ⟨b2,o2,none⟩)] w fun e w'=>e=.returned (.pointer (some ⟨b,o,none⟩))∧∃ w1 v,But [] w w1∧Sl .u32 w1 v (wd 4294967296 z.natAbs)∧w'=o9 w1 b o v (decide (z<0)):=by(
 obtain⟨h0,v0,h1,hv⟩:=hx
 obtain⟨g0,u0,g1,hu⟩:=hy
 have SM:=af (fun W (h8:Sl .u32 W v0 (wd 4294967296 x.natAbs)) (h9:Sl .u32 W u0 (wd 4294967296 y.natAbs))=>zqq (decide (x<0)) (decide (y<0)) v0 u0 x.natAbs y.natAbs z W h8 h9 hlx hly (by show _=_;rw[zos,zos];exact ae hz))
 generalize hsx:decide (x<0)=sx at h0 SM
 generalize hsy:decide (y<0)=sy at g0 SM
 clear hsx hsy hz
 go_enter func68,ntmps68
 go_wp2
 go_region_held (fun w'=>w'.cell? ⟨b1,o1,none⟩=some (.bool sx)∧w'.cell? ⟨b1,o1+1,none⟩=some v0∧w'.cell? ⟨b2,o2,none⟩=some (.bool sy)∧w'.cell? ⟨b2,o2+1,none⟩=some u0) (go_keep) (first
  | (go_at_call 154;refine (ae SM _ ?_ ?_).mono ?_;exact hv;exact hu;rintro e w1 ⟨s1,v,rfl,hv1,hb,hsg⟩;have hb0:But [] w w1:=(by first | exact hb | exact (But.refl _ _).drew.trans' hb | exact ((But.refl _ _).drewN _).trans' hb);have k0:=hb0.ag h0 (by simp);have k1:=hb0.ag h1 (by simp);have k2:=hb0.ag g0 (by simp);have k3:=hb0.ag g1 (by simp))
  | (go_at_call 153;(obtain⟨⟨s0,hc0⟩,⟨a0,n0,c0,hc1⟩,f0,f1⟩:=hs.but hb0 (by simp));refine (zbs b o _ v _ (.bool s0) (.slice a0 n0 c0) _ hv1 hlz hc0 hc1 f0 f1).mono ?_;rintro e w2 ⟨rfl,rfl⟩))
 all_goals go_wp2
 all_goals go_ret
 all_goals refine⟨rfl,w1,v,hb0,hv1,?_⟩
 all_goals (rw[← hsg];rfl))
theorem zjn (b o b1 o1 b2 o2:Nat) (x y z:Int) (w:World) (hs:Slot w b o) (hne1:b≠b1) (hne2:b≠b2) (hx:ze w b1 o1 x) (hy:ze w b2 o2 y) (hlx:(wd 4294967296 x.natAbs).length<8388608) (hly:(wd 4294967296 y.natAbs).length<8388608) (hlz:(wd 4294967296 z.natAbs).length<2147483648) (hz:Hid (z=x-y)) :
   Calls prog 194 #[.pointer (some ⟨b,o,none⟩),.pointer (some ⟨b1,o1,none⟩),.pointer (some ⟨b2,o2,none⟩)] w fun e w'=>e=.returned (.pointer (some ⟨b,o,none⟩))∧∃ w1 v,But [] w w1∧Sl .u32 w1 v (wd 4294967296 z.natAbs)∧w'=o9 w1 b o v (decide (z<0)):=by(
 obtain⟨h0,v0,h1,hv⟩:=hx
 obtain⟨g0,u0,g1,hu⟩:=hy
 have SM:=af (fun W (h8:Sl .u32 W v0 (wd 4294967296 x.natAbs)) (h9:Sl .u32 W u0 (wd 4294967296 y.natAbs))=>zqq (decide (x<0)) (!decide (y<0)) v0 u0 x.natAbs y.natAbs z W h8 h9 hlx hly (by show _=_;rw[zos,qds,ae hz];omega))
 generalize hsx:decide (x<0)=sx at h0 SM
 generalize hsy:decide (y<0)=sy at g0 SM
 clear hsx hsy hz
 go_enter func194,ntmps194
 go_wp2
 go_region_held (fun w'=>w'.cell? ⟨b1,o1,none⟩=some (.bool sx)∧w'.cell? ⟨b1,o1+1,none⟩=some v0∧w'.cell? ⟨b2,o2,none⟩=some (.bool sy)∧w'.cell? ⟨b2,o2+1,none⟩=some u0) (go_keep) (first
  | (go_at_call 154;refine (ae SM _ ?_ ?_).mono ?_;exact hv;exact hu;rintro e w1 ⟨s1,v,rfl,hv1,hb,hsg⟩;have hb0:But [] w w1:=(by first | exact hb | exact (But.refl _ _).drew.trans' hb | exact ((But.refl _ _).drewN _).trans' hb);have k0:=hb0.ag h0 (by simp);have k1:=hb0.ag h1 (by simp);have k2:=hb0.ag g0 (by simp);have k3:=hb0.ag g1 (by simp))
  | (go_at_call 153;(obtain⟨⟨s0,hc0⟩,⟨a0,n0,c0,hc1⟩,f0,f1⟩:=hs.but hb0 (by simp));refine (zbs b o _ v _ (.bool s0) (.slice a0 n0 c0) _ hv1 hlz hc0 hc1 f0 f1).mono ?_;rintro e w2 ⟨rfl,rfl⟩))
 all_goals go_wp2
 all_goals go_ret
 all_goals refine⟨rfl,w1,v,hb0,hv1,?_⟩
 all_goals (rw[← hsg];rfl))
theorem qbk (zb xb yb:Nat) (x y:Int) (nx ny:Nat) (w:World) (hz0:Slot w zb 0) (hz2:Slot w zb 2) (hx:zu w xb x (nx:Int)) (hy:zu w yb y (ny:Int)) (hnx:0<nx) (hny:0<ny) (hxl:(wd 4294967296 x.natAbs).length<8388608) (hyl:(wd 4294967296 y.natAbs).length<8388608) (hnxl:(wd 4294967296 nx).length<8388608) (hnyl:(wd 4294967296 ny).length<8388608) (P Q:Int) (hP:x*y=P) (hQ:(nx:Int)*(ny:Int)=Q) (hPl:(wd 4294967296 P.natAbs).length<8388608) (hQl:(wd 4294967296 Q.natAbs).length<8388608) (hQ0:Q≠0) (N D:Int) (eN0:Hid (N=zdb (if Q<0 then -P else P) Q.natAbs)) (eD0:Hid (D=zdc P Q.natAbs)) :
   Calls prog 94 #[.pointer (some ⟨zb,0,none⟩),.pointer (some ⟨xb,0,none⟩),.pointer (some ⟨yb,0,none⟩)] w fun e w'=>e=.returned (.pointer (some ⟨zb,0,none⟩))∧But [zb] w w'∧zu w' zb N D:=by(
 have lx:=hx.lt
 have ly:=hy.lt
 have lz:=hz0.lt
 go_enter func94,ntmps94
 go_wp2
 go_region_with (first
  | (go_at_call_of 83 (Value.pointer (some ⟨yb,0,none⟩));refine (j4 yb y ny _ ?_ hny).mono ?_;(refine hy.but ?_;repeat (first | assumption | exact But.refl _ _ | apply But.drew | apply But.alloc));rintro e w' ⟨rfl,rfl⟩)
  | (go_at_call_of 83 (Value.pointer (some ⟨xb,0,none⟩));refine (j4 xb x nx _ ?_ hnx).mono ?_;(refine hx.but ?_;repeat (first | assumption | exact But.refl _ _ | apply But.drew | apply But.alloc));rintro e w' ⟨rfl,rfl⟩)
  | (go_at_call_of 85 (Value.pointer (some ⟨xb,0,none⟩));refine (ji _ xb 0 yb 0 x y P hP w _ ?_ ?_ ?_ hx.up hy.up hxl hyl hPl).mono ?_;(first | exact zks _ _ | exact zgc _ _ _ | exact zgb _ _ _);(repeat (first | assumption | exact But.refl _ _ | apply But.drew | apply But.alloc));omega;rintro e W1 ⟨rfl,KB1,KA1,KS1,KI1,KL1⟩)
  | (go_at_call_of 85 (Value.pointer (some ⟨xb,2,none⟩));refine (ji _ xb 2 yb 2 (nx:Int) (ny:Int) Q hQ w _ ?_ ?_ ?_ hx.low hy.low (by rw[Int.natAbs_natCast];exact hnxl) (by rw[Int.natAbs_natCast];exact hnyl) hQl).mono ?_;(first | exact jb _ _ | exact KS1 _ (by omega) (zgc _ _ _) | exact KS1 _ (by omega) (zgb _ _ _));(repeat (first | assumption | exact But.refl _ _ | apply But.drew | apply But.alloc));(have:=KB1.size;omega);rintro e W2 ⟨rfl,KB2,KA2,KS2,KI2,KL2⟩)
  | (go_at_call 67;refine (bf zb _ 0 _ 0 P Q _ (hz0.but KB2 (by simp)) (hz2.but KB2 (by simp)) (KI2 _ _ _ ?_ ?_) KA2 hPl hQl hQ0 N D eN0 eD0).mono ?_;(have:=KA1.lt;omega);(refine KA1.but ?_;repeat (first | exact But.refl _ _ | apply But.drew | apply But.alloc));rintro e W3 ⟨rfl,KB3,KR3⟩))
 all_goals go_wp2
 all_goals go_ret
 all_goals exact⟨rfl,(KB2.of_nil (l:=[zb])).trans KB3 (by simp),KR3⟩)
def zi (w:World) (b:Nat) (f:Rat):Prop:=zu w b f.num (f.den:Int)
theorem zi.but {w w':World} {b:Nat} {f:Rat} (h:zi w b f) (hb:But [] w w'):zi w' b f:=zu.but h hb
def qd (f:Rat) (n:Nat):Prop:=(wd 4294967296 f.num.natAbs).length≤n∧(wd 4294967296 f.den).length≤n
theorem zlp (X Y:Nat):(wd 4294967296 (X*Y)).length≤(wd 4294967296 X).length+(wd 4294967296 Y).length:=by(
 refine aj (by omega) _ _ ?_
 rw[Nat.pow_add]
 have h1:=am (B:=4294967296) (by omega) X _ (Nat.le_refl _)
 have h2:=am (B:=4294967296) (by omega) Y _ (Nat.le_refl _)
 rcases Nat.eq_zero_or_pos Y with h | h
 ·subst h;rw[Nat.mul_zero];exact Nat.mul_pos (Nat.pow_pos (by omega)) (Nat.pow_pos (by omega))
 ·exact Nat.lt_of_lt_of_le (Nat.mul_lt_mul_of_pos_right h1 h) (Nat.mul_le_mul_left _ (Nat.le_of_lt h2)))
theorem zdq (p q:Int) (hq:q≠0) (f:Rat) (hf:f.num*q=p*(f.den:Int)):f.num=zdb (if q<0 then -p else p) q.natAbs∧(f.den:Int)=zdc p q.natAbs:=by(
 have hd0:0<f.den:=Nat.pos_of_ne_zero f.den_nz
 have hn0:0<q.natAbs:=by omega
 have hab:f.num.natAbs*q.natAbs=p.natAbs*f.den:=by
  have:=congrArg Int.natAbs hf
  rw[Int.natAbs_mul,Int.natAbs_mul,Int.natAbs_natCast] at this
  exact this
 have hco:Nat.Coprime f.num.natAbs f.den:=f.reduced
 have hd:f.den ∣ q.natAbs:=hco.symm.dvd_of_dvd_mul_left ⟨p.natAbs,by rw[hab,Nat.mul_comm]⟩
 obtain⟨k,hk⟩:=hd
 have hk0:0<k:=by
  rcases Nat.eq_zero_or_pos k with h | h
  ·rw[h,Nat.mul_zero] at hk;omega
  ·exact h
 have hX:p.natAbs=f.num.natAbs*k:=by
  rw[hk,← Nat.mul_assoc,Nat.mul_right_comm] at hab
  exact (Nat.eq_of_mul_eq_mul_right hd0 hab).symm
 have hg:Nat.gcd p.natAbs q.natAbs=k:=by rw[hX,hk,Nat.gcd_mul_right,hco,Nat.one_mul]
 have e1:p.natAbs/k=f.num.natAbs:=by rw[hX,Nat.mul_div_cancel _ hk0]
 have e2:q.natAbs/k=f.den:=by rw[hk,Nat.mul_div_cancel _ hk0]
 refine⟨?_,by rw[zdc,hg,e2]⟩
 have hab2:(if q<0 then -p else p).natAbs=p.natAbs:=by split <;> simp
 rw[zdb,hab2,hg,e1]
 by_cases hqn:q<0
 ·(
 rw[if_pos hqn]
 by_cases hpn:-p<0
 ·(
 rw[if_pos hpn]
 have:f.num<0:=by
  rcases Int.lt_or_le f.num 0 with h | h
  ·exact h
  ·exfalso
   have h1:f.num*q≤0:=Int.mul_nonpos_of_nonneg_of_nonpos h (by omega)
   have h2:0<p*(f.den:Int):=Int.mul_pos (by omega) (by omega)
   omega
 omega)
 ·(
 rw[if_neg hpn]
 have:0≤f.num:=by
  rcases Int.lt_or_le f.num 0 with h | h
  ·exfalso
   have h1:0<f.num*q:=Int.mul_pos_of_neg_of_neg h hqn
   have h2:p*(f.den:Int)≤0:=Int.mul_nonpos_of_nonpos_of_nonneg (by omega) (by omega)
   omega
  ·exact h
 omega))
 ·(
 rw[if_neg hqn]
 by_cases hpn:p<0
 ·(
 rw[if_pos hpn]
 have:f.num<0:=by
  rcases Int.lt_or_le f.num 0 with h | h
  ·exact h
  ·exfalso
   have h1:0≤f.num*q:=Int.mul_nonneg h (by omega)
   have h2:p*(f.den:Int)<0:=Int.mul_neg_of_neg_of_pos hpn (by omega)
   omega
 omega)
 ·(
 rw[if_neg hpn]
 have:0≤f.num:=by
  rcases Int.lt_or_le f.num 0 with h | h
  ·exfalso
   have h1:f.num*q<0:=Int.mul_neg_of_neg_of_pos h (by omega)
   have h2:0≤p*(f.den:Int):=Int.mul_nonneg (by omega) (by omega)
   omega
  ·exact h
 omega)))
theorem zll (a b:Int) (f:Rat) (w:World) (ha1:-9223372036854775808≤a) (ha2:a<9223372036854775808) (hb1:-9223372036854775808≤b) (hb2:b<9223372036854775808) (hb0:b≠0) (hf:Hid (f.num*b=a*(f.den:Int))) :
   Calls prog 72 #[.int .i64 a,.int .i64 b] w fun e w'=>∃ zb,e=.returned (.pointer (some ⟨zb,0,none⟩))∧But [] w w'∧zi w' zb f∧w.heap.size≤zb:=by(
 have hbz:(b==0)=false:=beq_eq_false_iff_ne.2 hb0
 have hs:=zbm w 113
 have hbw:But [] w (w.alloc (.cells #[.bool false,.slice none 0 0,.bool false,.slice none 0 0] 113)):=(But.refl _ _).alloc _
 obtain⟨e1,e2⟩:=zdq a b hb0 f (ae hf)
 have HE:=af (And.intro e1 e2)
 obtain⟨W0,hW0⟩:∃ W0,W0=w.alloc (.cells #[.bool false,.slice none 0 0,.bool false,.slice none 0 0] 113):=⟨_,rfl⟩
 rw[← hW0] at hs hbw
 have HW0:=af hW0
 have HS:=af hs
 have HBW:=af hbw
 clear e1 e2 hf hW0 hs hbw
 go_enter func72,ntmps72
 go_wp2_with fail
 rw[← ae HW0]
 refine (ut a _ ha1 ha2).mono ?_
 rintro e w1 ⟨rfl,B1,I1,S1⟩
 have K1:=af (And.intro B1 I1)
 clear B1 I1 S1
 go_wp2_with fail
 refine (ut b _ hb1 hb2).mono ?_
 rintro e w2 ⟨rfl,B2,I2,S2⟩
 have K2:=af (And.intro ((ae K1).1.trans' B2) (And.intro ((ae K1).2.but B2) I2))
 clear B2 I2 S2 K1
 go_wp2_with fail
 refine (bf w.heap.size W0.heap.size 0 w1.heap.size 0 a b w2 ((ae HS).1.but (ae K2).1 (by simp)) ((ae HS).2.but (ae K2).1 (by simp)) (ae K2).2.1 (ae K2).2.2 (by have:=dh a.natAbs (by omega);omega) (by have:=dh b.natAbs (by omega);omega) hb0 f.num (f.den:Int) (ae HE).1 (ae HE).2).mono ?_
 rintro e w3 ⟨rfl,B3,R3⟩
 have FIN:=af (And.intro (((ae HBW).trans' (ae K2).1).trans B3 (by simp)) R3)
 clear B3 R3
 go_wp2
 go_ret
 exact⟨w.heap.size,rfl,(ae FIN).1,(ae FIN).2,Nat.le_refl _⟩)
theorem zxy (o u:Int) (f:Rat) (w:World) (ho1:-9223372036854775808≤o) (ho2:o<9223372036854775808) (hu1:-9223372036854775808≤u) (hu2:u<9223372036854775808) (hf:Hid (f.num*(if u=0 then 1 else u)=o*(f.den:Int))) :
   Calls prog 14 #[.agg #[.int .i64 o,.int .i64 u]] w fun e w'=>∃ zb,e=.returned (.pointer (some ⟨zb,0,none⟩))∧But [] w w'∧zi w' zb f∧w.heap.size≤zb:=by(
 have bw:But [] w (w.alloc (.cells #[.int .i64 o,.int .i64 u] 23)):=(But.refl _ _).alloc _
 by_cases hu:u=0
 ·(
 subst hu
 have NR:=af (fun W=>zll o 1 f W ho1 ho2 (by omega) (by omega) (by omega) (af (by have:=ae hf;rw[if_pos rfl] at this;exact this)))
 clear hf
 go_enter func14,ntmps14
 go_wp2_with fail
 refine (ae NR _).mono ?_
 rintro e w1 ⟨zb,rfl,h1,h2,h3⟩
 have FIN:=af (And.intro (bw.trans' h1) (And.intro h2 (Nat.le_trans bw.size h3)))
 clear h1 h2 h3
 go_wp2
 go_ret
 exact⟨zb,rfl,(ae FIN).1,(ae FIN).2.1,(ae FIN).2.2⟩)
 ·(
 have NR:=af (fun W=>zll o u f W ho1 ho2 hu1 hu2 hu (af (by have:=ae hf;rw[if_neg hu] at this;exact this)))
 have hub:(u==0)=false:=beq_eq_false_iff_ne.2 hu
 clear hf
 go_enter func14,ntmps14
 go_wp2_with fail
 refine (ae NR _).mono ?_
 rintro e w1 ⟨zb,rfl,h1,h2,h3⟩
 have FIN:=af (And.intro (bw.trans' h1) (And.intro h2 (Nat.le_trans bw.size h3)))
 clear h1 h2 h3
 go_wp2
 go_ret
 exact⟨zb,rfl,(ae FIN).1,(ae FIN).2.1,(ae FIN).2.2⟩))
theorem zuo (xb yb:Nat) (f g:Rat) (w:World) (hx:zi w xb f) (hy:zi w yb g) (lf:qd f 2000000) (lg:qd g 2000000) :
   Calls prog 28 #[.pointer (some ⟨xb,0,none⟩),.pointer (some ⟨yb,0,none⟩)] w fun e w'=>∃ zb,e=.returned (.pointer (some ⟨zb,0,none⟩))∧But [] w w'∧zi w' zb (f*g)∧w.heap.size≤zb:=by(
 have hfd:0<f.den:=Nat.pos_of_ne_zero f.den_nz
 have hgd:0<g.den:=Nat.pos_of_ne_zero g.den_nz
 have hQ0:(f.den:Int)*(g.den:Int)≠0:=Int.mul_ne_zero (by omega) (by omega)
 have hc:=zfp f g
 rw[Int.natCast_mul] at hc
 obtain⟨e1,e2⟩:=zdq (f.num*g.num) ((f.den:Int)*(g.den:Int)) hQ0 (f*g) hc
 obtain⟨W0,hW0⟩:∃ W0,W0=w.alloc (.cells #[.bool false,.slice none 0 0,.bool false,.slice none 0 0] 113):=⟨_,rfl⟩
 have hs:=zbm w 113
 have hbw:But [] w W0:=by rw[hW0];exact (But.refl _ _).alloc _
 rw[← hW0] at hs
 have l1:=zlp f.num.natAbs g.num.natAbs
 have l2:=zlp f.den g.den
 obtain⟨lf1,lf2⟩:=lf
 obtain⟨lg1,lg2⟩:=lg
 have MU:=af (qbk w.heap.size xb yb f.num g.num f.den g.den W0 hs.1 hs.2 (zu.but hx hbw) (zu.but hy hbw) hfd hgd (by omega) (by omega) (by omega) (by omega) _ _ rfl rfl (by rw[Int.natAbs_mul];omega) (by rw[Int.natAbs_mul,Int.natAbs_natCast,Int.natAbs_natCast];omega) hQ0 (f*g).num ((f*g).den:Int) e1 e2)
 have HW0:=af hW0
 have HBW:=af hbw
 clear hW0 hbw hs e1 e2 hc hQ0 l1 l2 lf1 lf2 lg1 lg2 hx hy hfd hgd
 go_enter func28,ntmps28
 go_wp2_with fail
 rw[← ae HW0]
 refine (ae MU).mono ?_
 rintro e w1 ⟨rfl,h1,h2⟩
 have FIN:=af (And.intro ((ae HBW).trans h1 (by simp)) h2)
 clear h1 h2 MU
 go_wp2
 go_ret
 exact⟨w.heap.size,rfl,(ae FIN).1,(ae FIN).2,Nat.le_refl _⟩)
theorem zin {a b:Nat} (h:a≤b):(wd 4294967296 a).length≤(wd 4294967296 b).length:=aj (by omega) _ _ (Nat.lt_of_le_of_lt h (am (by omega) b _ (Nat.le_refl _)))
theorem qbs (a b n:Nat) (ha:(wd 4294967296 a).length≤n) (hb:(wd 4294967296 b).length≤n):(wd 4294967296 (a+b)).length≤n+1:=by(
 refine aj (by omega) _ _ ?_
 have h1:=am (B:=4294967296) (by omega) a n ha
 have h2:=am (B:=4294967296) (by omega) b n hb
 rw[Nat.pow_succ]
 omega)
end Go.Proofs.YtagmkkiagjmimaaGreatDoor
