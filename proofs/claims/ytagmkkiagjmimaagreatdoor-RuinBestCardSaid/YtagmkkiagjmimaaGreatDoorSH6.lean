/- zsu division of words, as the Go text o -/
import Derived.Deep.CutBlock
import Derived.Deep.DeepCutAuto
import Derived.Test.YtagmkkiagjmimaaGreatDoorSH3
import Derived.Test.YtagmkkiagjmimaaGreatDoorSH5
namespace Go.Proofs.YtagmkkiagjmimaaGreatDoor
set_option linter.unusedVariables false
open Go.Proofs.Tryz
open Go.RowKit
set_option maxHeartbeats 16000000
set_option maxRecDepth 100000
theorem qfb (us vs:List Nat) (j n:Nat) (h2:2≤n) (hn:vs.length=n) (hj:j+n<us.length) (hu:∀ x ∈ us,x<4294967296) (hv:∀ x ∈ vs,x<4294967296) (hlt:vl 4294967296 us<vl 4294967296 vs*4294967296^j*4294967296) (hhi:2147483648≤vs[n-1]?.getD 0) :
   zgz (vl 4294967296 us) (vl 4294967296 vs*4294967296^j) (4294967296^(j+(n-2))) (us[j+n]?.getD 0) (us[j+n-1]?.getD 0) (us[j+n-2]?.getD 0) (vs[n-1]?.getD 0) (vs[n-2]?.getD 0):=by(
 obtain⟨k,rfl⟩:∃ k,n=k+2:=⟨n-2,by omega⟩
 have:=qfa us vs j k hn hj hu hv hlt (by rw[show k+2-1=k+1 from by omega] at hhi;exact hhi)
 rw[show k+2-1=k+1 from by omega,show k+2-2=k from by omega]
 exact this)
structure zey (W:World) (A V gu gq:Nat) (us qs:List Nat) (t:Nat) (wr:World):Prop where
 long:zsu A V us qs t
 but:But [gu,gq] W wr
 row:j5 .u32 wr gu us
 qrow:j5 .u32 wr gq qs
theorem Sl.zzu {w w':World} {b off n c:Nat} {xs:List Nat} {l:List Nat} (h:Sl .u32 w (.slice (some ⟨b,off,none⟩) n c) xs) (hb:But l w w') (hn:b ∉ l):∀ i,i<n→w'.cell? ⟨b,off+i,none⟩=some (.int .u32 (xs[i]?.getD 0:Nat)):=fun i hi=>by
 obtain⟨a,cap,e,-,hc,-⟩:=h
 simp only[Value.slice.injEq] at e
 obtain⟨rfl,rfl,-⟩:=e
 obtain⟨b2,o2,e2,h2⟩:=hc i hi
 simp only[Option.some.injEq,Addr.mk.injEq] at e2
 obtain⟨rfl,rfl,-⟩:=e2
 exact hb.ag h2 hn
theorem zua (A V la n:Nat) (xs:List Nat) (hx:∀ x ∈ xs,x<4294967296) (hxv:vl 4294967296 xs=A) (_hxl:xs.length≤la+2) (hA:A<4294967296^(la+1)) (hV:2147483648*4294967296^(n-1)≤V) (hn:1≤n) (hnl:n≤la+1) :
   zsu A V (xs++(List.replicate (la+2) 0).drop xs.length) (List.replicate (la+2-n) 0) (la+2-n):=by(
 refine⟨fun x h=>?_,fun x h=>by rw[List.mem_replicate] at h;omega,?_,fun j _=>by rw[List.getElem?_replicate];split <;> rfl,?_⟩
 ·(
 rcases List.mem_append.1 h with h1 | h1
 ·exact hx x h1
 ·have:=List.mem_of_mem_drop h1
  rw[List.mem_replicate] at this
  omega)
 ·(
 rw[zt,List.drop_replicate,qp,Nat.mul_zero,Nat.add_zero,hxv]
 refine Nat.lt_of_lt_of_le hA ?_
 have h1:4294967296^(la+1)=4294967296^(n-1)*4294967296^(la+2-n):=by rw[← Nat.pow_add];congr 1;omega
 rw[h1]
 refine Nat.mul_le_mul_right _ (Nat.le_trans ?_ hV)
 omega)
 ·rw[zt,List.drop_replicate,qp,qp,Nat.mul_zero,Nat.mul_zero,Nat.add_zero,hxv])
theorem qdm (va vb:Value) (A0 B0:Nat) (w:World) (ha:Sl .u32 w va (wd 4294967296 A0)) (hb:Sl .u32 w vb (wd 4294967296 B0)) (hle:B0≤A0) (h3:3≤(wd 4294967296 A0).length) (h2:2≤(wd 4294967296 B0).length) (hl:(wd 4294967296 A0).length<8388608) :
   Calls prog 198 #[va,vb] w fun e w'=>∃ v1 v2,e=.returned (.tuple #[v1,v2])∧Sl .u32 w' v1 (wd 4294967296 (A0/B0))∧Sl .u32 w' v2 (wd 4294967296 (A0%B0))∧But [] w w':=by(
 have hB0:0<B0:=by
  rcases Nat.eq_zero_or_pos B0 with h | h
  ·subst h;rw[zh] at h2;simp at h2
  ·exact h
 have hlen:(wd 4294967296 B0).length≤(wd 4294967296 A0).length:=aj (by omega) B0 _ (Nat.lt_of_le_of_lt hle (ak (by omega) A0 _ (Nat.le_refl _)))
 have CM:=af (zdl va vb A0 B0 w ha hb (by omega) (by omega))
 have hc0:=zan hle
 generalize zq A0 B0=r at *
 have hr:decide (r<0)=false:=by simp;omega
 have LEN:=af (fun W (h:Sl .u32 W vb (wd 4294967296 B0))=>zue vb B0 W h hB0 (by omega))
 have LB:=af (fun W s (hs:s≤31) (h:Sl .u32 W vb (wd 4294967296 B0))=>znc vb B0 s W h hs (by omega))
 have LA:=af (fun W s (hs:s≤31) (h:Sl .u32 W va (wd 4294967296 A0))=>znc va A0 s W h hs (by omega))
 have HA:=af ha
 have HB:=af hb
 have NF:=af (fun n h1 h2 h3 h4=>ztt B0 n hB0 h1 h2 h3 h4)
 obtain⟨aa,ca,rfl,-,-⟩:=ha
 obtain⟨ab,cb,rfl,-,-⟩:=hb
 have HL:=af (And.intro hle hB0)
 have HA1:Hid (A0<4294967296^(wd 4294967296 A0).length):=ak (by omega) A0 _ (Nat.le_refl _)
 clear hle hB0
 generalize hla:(wd 4294967296 A0).length=la at *
 generalize hn:(wd 4294967296 B0).length=n at *
 have LN:=af (And.intro hla hn)
 clear hla hn
 have n0:((n:Int)==0)=false:=beq_eq_false_iff_ne.2 (by omega)
 have n1:((n:Int)==1)=false:=beq_eq_false_iff_ne.2 (by omega)
 have hmk:=fun wx=>zqi wx la (by omega)
 go_enter func198,ntmps198
 go_wp2_with fail
 refine (ae CM).mono ?_
 rintro e w1 ⟨rfl,q,rfl⟩
 obtain⟨W1,hW1⟩:∃ W1,W1=w.drewN q:=⟨_,rfl⟩
 have B1:Hid (But [] w W1):=by rw[hW1];exact (But.refl _ _).drewN q
 rw[← hW1]
 clear hW1 CM
 go_wp2_with fail
 refine (ae LEN _ ((ae HB).ah (ae B1))).mono ?_
 rintro e w2 ⟨nb,rfl,hw,f1,f2,f3,f4⟩
 obtain rfl:=hw.symm
 clear hw
 obtain⟨g1,g2⟩:=ae NF nb f1 f2 f3 f4
 have GF:=af (And.intro g1 g2)
 clear f3 f4 g1 g2 NF LEN
 obtain⟨s,hs⟩:∃ s,s=32-nb:=⟨_,rfl⟩
 rw[← hs] at GF
 have hs31:s≤31:=by omega
 have SE:Hid (32-((((n:Int)-1)*32+(nb:Int))-1)%32-1=(s:Int)):=by show _=_;omega
 have HNB:=af (And.intro hs f1)
 clear hs
 go_wp2_with fail
 rw[ae SE]
 refine (ae LB _ s hs31 ((ae HB).ah (ae B1))).mono ?_
 rintro e w2 ⟨v1,rfl,hv1,hb2,-⟩
 have B2:Hid (But [] w w2):=(ae B1).trans' hb2
 obtain⟨V,hV⟩:∃ V,V=B0*2^s:=⟨_,rfl⟩
 obtain⟨A,hA⟩:∃ A,A=A0*2^s:=⟨_,rfl⟩
 rw[← hV] at hv1 GF
 have hvl:=(ae GF).1
 rcases hv1.open with ⟨e,-⟩|⟨-,bv,ov,cv,rfl,hcv,hbv,-⟩
 ·rw[e] at hvl;simp at hvl;omega
 rw[hvl] at hcv
 rw[hvl] at hv1 ⊢
 have HV1:=af hv1
 obtain⟨Wu,hWu⟩:∃ Wu,Wu=w2.alloc (.cells (madeCells #[.int .u32 0] (la+2)) 238):=⟨_,rfl⟩
 have bU:But [] w2 Wu:=by rw[hWu];exact (But.refl _ _).alloc _
 have rU:j5 .u32 Wu w2.heap.size (List.replicate (la+2) 0):=by rw[hWu];exact j5.made _ _ _ _
 have sU:w2.heap.size<Wu.heap.size:=by rw[hWu];simp
 have BU:=af bU
 have RU:=af rU
 have SU:=af sU
 have HWU:=af hWu
 clear hv1 hb2 hvl bU rU sU hWu B1 LB SE f1 f2
 go_wp2_with fail
 rw[← ae HWU]
 refine (ae LA _ s hs31 ((ae HA).ah ((ae B2).trans' (ae BU)))).mono ?_
 rintro e w4 ⟨v2,rfl,hv2,hb4,-⟩
 rw[← hA] at hv2
 have hAlt:A<4294967296^(la+1):=by
  rw[hA,Nat.pow_succ]
  have h1:=ae HA1
  have h2:2^s≤2^31:=Nat.pow_le_pow_right (by omega) hs31
  exact Nat.lt_of_lt_of_le (Nat.mul_lt_mul_of_pos_right h1 (Nat.pow_pos (by omega))) (Nat.mul_le_mul_left _ (by omega))
 have hAl:(wd 4294967296 A).length≤la+1:=aj (by omega) A _ hAlt
 have hVge:2147483648*4294967296^(n-1)≤V:=by
  have e1:=ni (wd 4294967296 V) (n-1) (by rw[(ae GF).1];omega)
  rw[j6 _ _ (n-1) (by rw[(ae GF).1];omega),qg (by omega)] at e1
  have e2:(wd 4294967296 V)[n-1]?.getD 0=uo V:=by unfold uo;rw[(ae GF).1]
  rw[e2] at e1
  have e3:4294967296^(n-1)*2147483648≤4294967296^(n-1)*(uo V+4294967296*vl 4294967296 ((wd 4294967296 V).drop (n-1+1))):=Nat.mul_le_mul_left _ (by have:=(ae GF).2;omega)
  rw[Nat.mul_comm]
  omega
 obtain⟨w5,hcp,HC⟩:=ztk w4 w2.heap.size (la+2) v2 (List.replicate (la+2) 0) (wd 4294967296 A) ((ae RU).but hb4 (by simp)) hv2 (by rw[List.length_replicate];omega)
 rw[List.length_replicate] at hcp
 have hL0:=zua A V la n (wd 4294967296 A) (zo (by omega) A) (qg (by omega) A) (by omega) hAlt hVge (by omega) (by omega)
 obtain⟨us0,hus0⟩:∃ us0,us0=wd 4294967296 A++(List.replicate (la+2) 0).drop (wd 4294967296 A).length:=⟨_,rfl⟩
 rw[← hus0] at hL0 HC
 have hul0:us0.length=la+2:=by rw[hus0];simp;omega
 have B5:Hid (But [] w w5):=((ae B2).trans' ((ae BU).trans' hb4)).trans (ae HC).2 (fun x hx=>by simp at hx;subst hx;exact .inr (ae B2).size)
 have bv5:But [w2.heap.size] w2 w5:=(But.of_nil ((ae BU).trans' hb4)).trans (ae HC).2 (fun x hx=>.inl hx)
 have hg5:w2.heap.size<w5.heap.size:=Nat.lt_of_lt_of_le (ae SU) (Nat.le_trans hb4.size (ae HC).2.size)
 obtain⟨mm,hmm⟩:∃ mm,la+2-n=mm+1:=⟨la+1-n,by omega⟩
 rw[hmm] at hL0
 obtain⟨W,hW⟩:∃ W,W=w5.alloc (.cells (madeCells #[.int .u32 0] (mm+1)) 238):=⟨_,rfl⟩
 have bW:But [] w5 W:=by rw[hW];exact (But.refl _ _).alloc _
 have KA0:Hid (zey W A V w2.heap.size w5.heap.size us0 (List.replicate (mm+1) 0) (mm+1) W):=⟨hL0,But.refl _ _,(ae HC).1.but bW (by simp),by rw[hW];exact j5.made _ _ _ _⟩
 have HVC:Hid (∀ wr,But [w2.heap.size,w5.heap.size] W wr→∀ i,i<n→wr.cell? ⟨bv,ov+i,none⟩=some (.int .u32 ((wd 4294967296 V)[i]?.getD 0:Nat))):=fun wr hb i hi=>by
  have h1:=(ae HV1).zzu bv5 (by simp;omega) i hi
  have h2:=bW.ag h1 (by simp)
  exact hb.ag h2 (by simp;omega)
 have BW:Hid (But [] w W):=(ae B5).trans' bW
 have hmkq:=fun wx=>zdx wx mm (by omega)
 have em:(la:Int)+2-(n:Int)-1=(mm:Int):=by omega
 have HMM:=af hmm
 have HW:=af hW
 have HG5:=af (And.intro hg5 (ae B2).size)
 have VC1:=ae HVC W (But.refl _ _) (n-1) (by omega)
 have VC2:=ae HVC W (But.refl _ _) (n-2) (by omega)
 have hmn:mm+1+n=la+2:=by omega
 clear hv2 hb4 hL0 HC hcv bv5 hg5 bW hW hmm hus0 hAlt hAl hVge HWU
 have hv1B:(wd 4294967296 V)[n-1]?.getD 0<4294967296:=bt (zo (by omega) V) (by omega) _
 have hv2B:(wd 4294967296 V)[n-2]?.getD 0<4294967296:=bt (zo (by omega) V) (by omega) _
 obtain⟨x1,hx1⟩:∃ x1,x1=(wd 4294967296 V)[n-1]?.getD 0:=⟨_,rfl⟩
 obtain⟨x2,hx2⟩:∃ x2,x2=(wd 4294967296 V)[n-2]?.getD 0:=⟨_,rfl⟩
 rw[← hx1] at VC1 hv1B
 rw[← hx2] at VC2 hv2B
 have HX:=af (And.intro hx1 hx2)
 clear hx1 hx2
 go_wp2_with fail
 rw[← ae HW]
 go_quiet (fail)
 obtain⟨Wd,hWd⟩:∃ Wd,Wd=W.drewN nq:=⟨_,rfl⟩
 have KA:Hid (zey W A V w2.heap.size w5.heap.size us0 (List.replicate (mm+1) 0) (mm+1) Wd):=by
  rw[hWd]
  exact⟨(ae KA0).long,(ae KA0).but.drewN nq,(ae KA0).row.drewN nq,(ae KA0).qrow.drewN nq⟩
 rw[← hWd]
 clear hWd KA0 VC1 VC2
 go_wp2_with fail
 have hu0:0<la:=by omega
 go_loopw [18] (fun jv wr=>∃ (t:Nat) (us qs:List Nat),t≤mm+1∧jv=.int .i64 ((t:Int)-1)∧us.length=la+2∧qs.length=mm+1∧Hid (zey W A V w2.heap.size w5.heap.size us qs t wr)) (fun jv _=>(intOf jv+1).toNat)
 case atStart=>exact⟨mm+1,us0,List.replicate (mm+1) 0,Nat.le_refl _,by congr 1;omega,hul0,by simp,KA⟩
 case round =>(
 clear KA
 obtain⟨t,us,qs,ht,rfl,hul,hql,HK⟩:=hrel
 rename World=>wr
 by_cases ht0:t=0
 ·(
 subst ht0
 obtain⟨q1,q2⟩:=(ae HK).long.fin
 have hp:0<2^s:=Nat.pow_pos (by omega)
 rw[hA,hV,Nat.mul_div_mul_right _ _ hp] at q1
 rw[hA,hV,Nat.mul_mod_mul_right] at q2
 have sq:=(ae HK).qrow.sl (mm+1) (by omega)
 rw[hql] at sq
 have su:=(ae HK).row.sl (la+2) (by omega)
 rw[hul] at su
 have TQ:=af (zfs _ qs wr sq (ae HK).long.qm (by omega))
 have TU:=af (zfs _ us wr su (ae HK).long.um (by omega))
 rw[q1] at TQ
 rw[q2] at TU
 have hrl:(wd 4294967296 (A0%B0*2^s)).length<1073741824:=by
  have h9:A0%B0*2^s<4294967296^(la+2):=by rw[← q2];have:=fe (by omega:0<4294967296) us (ae HK).long.um;rw[hul] at this;exact this
  have:=aj (B:=4294967296) (by omega) _ _ h9
  omega
 have RR:=af (fun W' v' (h9:Sl .u32 W' v' (wd 4294967296 (A0%B0*2^s)))=>ztm v' _ s W' h9 hs31 hrl)
 rw[Nat.mul_div_cancel _ hp] at RR
 have BF:Hid (But [] w wr):=(ae BW).trans (ae HK).but (fun x hx=>.inr (by have h9:=ae HG5;have h8:=(ae BW).size;simp at hx;omega))
 clear HK q1 q2 hp sq su hrl
 go_wp2_with fail
 refine (ae TQ).mono ?_
 rintro e1 w6 ⟨v6,rfl,hv6,hw⟩
 obtain rfl:=hw.symm
 clear hw
 have HV6:=af hv6
 clear hv6 TQ
 go_wp2_with fail
 refine (ae TU).mono ?_
 rintro e2 w7 ⟨v7,rfl,hv7,hw⟩
 obtain rfl:=hw.symm
 clear hw
 have HV7:=af hv7
 clear hv7 TU
 go_wp2_with fail
 refine (ae RR _ _ (ae HV7)).mono ?_
 rintro e3 w8 ⟨v8,rfl,hv8,hb8,-⟩
 have FIN:=af (And.intro ((ae HV6).ah hb8) (And.intro hv8 ((ae BF).trans' hb8)))
 clear hv8 hb8 RR HV6 HV7
 go_wp2
 go_ret2
 exact⟨_,_,rfl,(ae FIN).1,(ae FIN).2.1,(ae FIN).2.2⟩)
 ·(
 obtain⟨j,rfl⟩:∃ j,t=j+1:=⟨t-1,by omega⟩
 rw[show (((j+1:Nat):Int)-1)=(j:Int) from by omega]
 have hVv:vl 4294967296 (wd 4294967296 V)=V:=qg (by omega) V
 have TP:=af (qfb us (wd 4294967296 V) j n h2 (ae GF).1 (by omega) (ae HK).long.um (zo (by omega) V) (by rw[hVv];have:=(ae HK).long.lt;rw[Nat.pow_succ,← Nat.mul_assoc] at this;exact this) (by have h:=(ae GF).2;unfold uo at h;rw[(ae GF).1] at h;exact h))
 rw[hVv,← (ae HX).1,← (ae HX).2] at TP
 clear hVv
 have r0:=(ae HK).row.row (j+n) (by omega)
 have r1:=(ae HK).row.row (j+n-1) (by omega)
 have r2:=(ae HK).row.row (j+n-2) (by omega)
 have c0:=r0.1
 have c1:=r1.1
 have c2:=r2.1
 have hu1:=(ae TP).hu1
 have hu2:=(ae TP).hu2
 have hu0B:us[j+n]?.getD 0<4294967296:=bt (ae HK).long.um (by omega) _
 obtain⟨y0,hy0⟩:∃ y0,y0=us[j+n]?.getD 0:=⟨_,rfl⟩
 obtain⟨y1,hy1⟩:∃ y1,y1=us[j+n-1]?.getD 0:=⟨_,rfl⟩
 obtain⟨y2,hy2⟩:∃ y2,y2=us[j+n-2]?.getD 0:=⟨_,rfl⟩
 rw[← hy0,← hy1,← hy2] at TP
 rw[← hy0] at c0 hu0B
 rw[← hy1] at c1 hu1
 rw[← hy2] at c2 hu2
 have HY:=af (And.intro hy0 (And.intro hy1 hy2))
 clear hy0 hy1 hy2 r0 r1 r2
 have OR1:=or_hi y1 y0 hu1 hu0B
 have hx1p:2147483648≤x1:=(ae TP).hi
 have xz:((x1:Int)==0)=false:=beq_eq_false_iff_ne.2 (by omega)
 obtain⟨num,hh⟩:∃ num,num=y1+y0*4294967296:=⟨_,rfl⟩
 rw[← hh] at OR1
 have hhB:num<18446744073709551616:=by omega
 have GS:=af (zac.start (ae TP))
 rw[show y0*4294967296+y1=num from by omega] at GS
 have HH:=af hh
 clear hh
 obtain⟨g0,hg0⟩:∃ g0,g0=num/x1:=⟨_,rfl⟩
 obtain⟨r0,hr0⟩:∃ r0,r0=num%x1:=⟨_,rfl⟩
 rw[← hg0,← hr0] at GS
 have q1:(num:Int)/(x1:Int)=(g0:Int):=by rw[hg0,Int.natCast_ediv]
 have q2:(num:Int)%(x1:Int)=(r0:Int):=by rw[hr0,Int.natCast_emod]
 have q3:(num:Int).tdiv (x1:Int)=(g0:Int):=by rw[Int.tdiv_eq_ediv_of_nonneg (by omega)];exact q1
 have q4:(num:Int).tmod (x1:Int)=(r0:Int):=by rw[Int.tmod_eq_emod_of_nonneg (by omega)];exact q2
 have hr0x:r0<x1:=by rw[hr0];exact Nat.mod_lt _ (by omega)
 have hg0B:g0≤4294967297:=(ae GS).le
 clear hg0 hr0
 go_wp2_with fail
 go_quiet (fail)
 obtain⟨Wa,hWa⟩:∃ Wa,Wa=wr.drewN nq:=⟨_,rfl⟩
 rw[← hWa]
 go_wp2_with fail
 go_quiet (fail)
 obtain⟨Wb,hWb⟩:∃ Wb,Wb=Wa.drewN nq:=⟨_,rfl⟩
 have KB:Hid (zey W A V w2.heap.size w5.heap.size us qs (j+1) Wb):=by
  rw[hWb,hWa]
  exact⟨(ae HK).long,((ae HK).but.drewN _).drewN nq,((ae HK).row.drewN _).drewN nq,((ae HK).qrow.drewN _).drewN nq⟩
 rw[← hWb]
 have cb2:Wb.cell? ⟨w2.heap.size,j+n-2,none⟩=some (.int .u32 (y2:Int)):=by rw[hWb,hWa];exact c2
 clear hWb hWa HK c0 c1 c2 q1 q2 q3 q4 OR1
 go_upto_block 2 with fail
 go_cut [20] (fun s20 wx=>∃ gF:Nat,s20=.int .u64 (gF:Int)∧wx=Wb∧Hid (gF≤4294967295∧(gF=vl 4294967296 us/(V*4294967296^j)∨gF=vl 4294967296 us/(V*4294967296^j)+1)))
 case first =>(
 go_wp2_with fail
 go_loop [20,21] (fun gv rv=>∃ gN rN:Nat,gv=.int .u64 (gN:Int)∧rv=.int .u64 (rN:Int)∧gN≤4294967297∧rN<4294967296∧Hid (zac (vl 4294967296 us) (V*4294967296^j) y0 y1 x1 gN rN)) (fun gv _=>(intOf gv).toNat)
 case atStart=>exact⟨g0,r0,rfl,rfl,hg0B,by omega,ae GS⟩
 case round =>(
 obtain⟨gN,rN,rfl,rfl,hgN,hrN,HG⟩:=hrel
 have OR2:=or_hi y2 rN hu2 hrN
 obtain⟨z,hz⟩:∃ z,z=y2+rN*4294967296:=⟨_,rfl⟩
 rw[← hz] at OR2
 obtain⟨pp,hpp⟩:∃ pp,pp=gN*x2:=⟨_,rfl⟩
 have hzB:z<18446744073709551616:=by omega
 have hpi:(gN:Int)*(x2:Int)=(pp:Int):=by rw[hpp,Int.natCast_mul]
 have hppB:gN≤4294967295→pp<18446744073709551616:=fun h9=>by
  have:gN*x2≤4294967295*4294967295:=Nat.mul_le_mul h9 (by omega)
  omega
 have NXT:(4294967295<gN∨z<pp)→0<gN∧Hid (zac (vl 4294967296 us) (V*4294967296^j) y0 y1 x1 (gN-1) (rN+x1)):=fun h9=>by
  have:=zac.next (ae TP) (ae HG) (by rcases h9 with h9 | h9;exact .inl h9;exact .inr (by omega))
  exact⟨this.1,this.2⟩
 have FINB:∀ g,Hid (zac (vl 4294967296 us) (V*4294967296^j) y0 y1 x1 g (rN+x1))→4294967296≤rN+x1→Hid (g≤4294967295∧(g=vl 4294967296 us/(V*4294967296^j)∨g=vl 4294967296 us/(V*4294967296^j)+1)):=fun g h8 h9=>by
  obtain⟨k1,k2⟩:=zac.small (ae TP) (ae h8) h9
  exact⟨k1,zac.fin (ae TP) (ae h8) k1 k2⟩
 have CASES:(4294967295<gN∧rN+x1<4294967296)∨(gN≤4294967295∧pp<18446744073709551616∧z<pp∧rN+x1<4294967296) ∨
   (∃ gF:Nat,(gN:Int)-1=(gF:Int)∧4294967295<gN∧4294967295<gN∧4294967296≤rN+x1∧0<gN∧Hid (gF≤4294967295∧(gF=vl 4294967296 us/(V*4294967296^j)∨gF=vl 4294967296 us/(V*4294967296^j)+1))) ∨
   (∃ gF:Nat,(gN:Int)-1=(gF:Int)∧gN≤4294967295∧z<pp∧4294967296≤rN+x1∧pp<18446744073709551616∧Hid (gF≤4294967295∧(gF=vl 4294967296 us/(V*4294967296^j)∨gF=vl 4294967296 us/(V*4294967296^j)+1))) ∨
   (∃ gF:Nat,gF=gN∧gF≤4294967295∧pp≤z∧pp≤z∧pp<18446744073709551616∧Hid (gF≤4294967295∧(gF=vl 4294967296 us/(V*4294967296^j)∨gF=vl 4294967296 us/(V*4294967296^j)+1))):=by
  rcases Nat.lt_or_ge 4294967295 gN with k1 | k1
  ·obtain⟨k2,k3⟩:=NXT (.inl k1)
   rcases Nat.lt_or_ge (rN+x1) 4294967296 with k4 | k4
   ·exact .inl ⟨k1,k4⟩
   ·exact .inr (.inr (.inl ⟨gN-1,by omega,k1,k1,k4,k2,FINB _ k3 k4⟩))
  ·rcases Nat.lt_or_ge z pp with k5 | k5
   ·obtain⟨k2,k3⟩:=NXT (.inr k5)
    rcases Nat.lt_or_ge (rN+x1) 4294967296 with k4 | k4
    ·exact .inr (.inl ⟨k1,hppB k1,k5,k4⟩)
    ·exact .inr (.inr (.inr (.inl ⟨gN-1,by omega,k1,k5,k4,hppB k1,FINB _ k3 k4⟩)))
   ·exact .inr (.inr (.inr (.inr ⟨gN,rfl,k1,k5,k5,hppB k1,k1,zac.fin (ae TP) (ae HG) k1 (by omega)⟩)))
 have HNXT:=af NXT
 clear NXT FINB HG hppB hpp hz
 rcases CASES with ⟨k1,k4⟩|⟨k1,k2,k5,k4⟩|⟨gF,eF,k1,k2,k3,k4,GFIN⟩|⟨gF,eF,k1,k2,k3,k4,GFIN⟩|⟨gF,rfl,k1,k2,k3,k4,GFIN⟩
 ·(
 obtain⟨m1,m2⟩:=ae HNXT (.inl k1)
 obtain⟨gF,hgF⟩:∃ gF,gF=gN-1:=⟨_,rfl⟩
 rw[← hgF] at m2
 have eF:(gN:Int)-1=(gF:Int):=by omega
 have hlF:gF<gN:=by omega
 clear hgF HNXT
 go_wp2
 refine⟨⟨gF,rN+x1,rfl,by simp,by omega,k4,m2⟩,?_⟩
 simp[intOf];omega)
 ·(
 obtain⟨m1,m2⟩:=ae HNXT (.inr k5)
 obtain⟨gF,hgF⟩:∃ gF,gF=gN-1:=⟨_,rfl⟩
 rw[← hgF] at m2
 have eF:(gN:Int)-1=(gF:Int):=by omega
 have hlF:gF<gN:=by omega
 clear hgF HNXT
 go_wp2
 refine⟨⟨gF,rN+x1,rfl,by simp,by omega,k4,m2⟩,?_⟩
 simp[intOf];omega)
 all_goals(
 clear HNXT
 go_wp2_with fail
 go_meet
 exact⟨gF,rfl,rfl,GFIN⟩)))
 case rest =>(
 obtain⟨gF,rfl,hw9,GFIN⟩:=hcut
 obtain rfl:=hw9.symm
 clear hw9
 go_wp2_with fail
 have hgF:gF≤4294967295:=(ae GFIN).1
 have TK0:Hid (Taken us us (wd 4294967296 V) j 0 0 0 gF∧But [w2.heap.size] Wb Wb∧j5 .u32 Wb w2.heap.size us):=⟨Taken.start us _ j gF (ae KB).long.um,But.refl _ _,(ae KB).row⟩
 go_loopw [22,23,24] (fun c d iv wq=>∃ (k cN dN:Nat) (uq:List Nat),k≤n∧c=.int .u64 (cN:Int)∧d=.int .u64 (dN:Int)∧iv=.int .i64 (k:Int)∧cN<4294967296∧dN≤1∧uq.length=la+2∧Hid (Taken us uq (wd 4294967296 V) j k cN dN gF∧But [w2.heap.size] Wb wq∧j5 .u32 wq w2.heap.size uq)) (fun _ _ iv _=>n-(intOf iv).toNat)
 case atStart=>exact⟨0,0,0,us,Nat.zero_le _,rfl,rfl,rfl,by omega,by omega,hul,TK0⟩
 case round =>(
 clear TK0
 obtain⟨k,cN,dN,uq,hk,rfl,rfl,rfl,hcN,hdN,huq,HT⟩:=hrel
 rename World=>wq
 have bq:But [w2.heap.size,w5.heap.size] W wq:=(ae KB).but.trans (ae HT).2.1 (fun x hx=>.inl (by simp at hx;simp[hx]))
 by_cases hkn:k<n
 ·(
 have cv1:=ae HVC wq bq k hkn
 have hvB:(wd 4294967296 V)[k]?.getD 0<4294967296:=bt (zo (by omega) V) (by omega) k
 obtain⟨cu,fu⟩:=(ae HT).2.2.row (j+k) (by omega)
 have huB:uq[j+k]?.getD 0<4294967296:=bt (ae HT).1.mem (by omega) _
 obtain⟨c1,hc1⟩:∃ c1,c1=cN+gF*(wd 4294967296 V)[k]?.getD 0:=⟨_,rfl⟩
 obtain⟨lo,hlo⟩:∃ lo,lo=c1%4294967296:=⟨_,rfl⟩
 obtain⟨hi,hhi⟩:∃ hi,hi=c1/4294967296:=⟨_,rfl⟩
 obtain⟨d',hd'⟩:∃ d',d'=if uq[j+k]?.getD 0<lo+dN then 1 else 0:=⟨_,rfl⟩
 obtain⟨sN,hsN⟩:∃ sN,sN=uq[j+k]?.getD 0+4294967296*d' - (lo+dN):=⟨_,rfl⟩
 have hd1:d'≤1:=by rw[hd'];split <;> omega
 have hs1:sN<4294967296∧sN+lo+dN=uq[j+k]?.getD 0+4294967296*d':=by rw[hsN,hd'];split <;> omega
 have ST:=af ((ae HT).1.step (by rw[hul];omega) hvB hgF c1 sN d' hc1 hs1.1 hd1 (by rw[← hlo];exact hs1.2))
 rw[← hhi] at ST
 have hcc:hi<4294967296:=(ae ST).car
 have HSET:=af ((ae HT).2.2.set (j+k) (by omega) sN)
 have HB9:=af ((ae HT).2.1.setCell (p:=⟨w2.heap.size,j+k,none⟩) (.inl (by simp)) (.int .u32 (sN:Int)))
 obtain⟨pv,hpv⟩:∃ pv,pv=gF*(wd 4294967296 V)[k]?.getD 0:=⟨_,rfl⟩
 have hpvB:pv≤18446744065119617025:=by
  rw[hpv]
  have:gF*(wd 4294967296 V)[k]?.getD 0≤4294967295*4294967295:=Nat.mul_le_mul hgF (by omega)
  omega
 have ep:(gF:Int)*(((wd 4294967296 V)[k]?.getD 0:Nat):Int)=(pv:Int):=by rw[hpv,Int.natCast_mul]
 have ec:(cN:Int)+(pv:Int)=(c1:Int):=by rw[hc1,← hpv];omega
 have hc1B:c1<18446744073709551616:=by omega
 have el:(c1:Int)%4294967296=(lo:Int):=by omega
 have eh:(c1:Int)/4294967296=(hi:Int):=by omega
 clear HT hpv hc1
 rw[Nat.add_comm j k] at cu fu
 rw[Nat.add_comm j k] at huB hd' hs1
 generalize uq[k+j]?.getD 0=u0 at *
 generalize (wd 4294967296 V)[k]?.getD 0=vk at *
 obtain⟨m1,m2⟩:=hs1
 obtain⟨D,hD⟩:∃ D:Int,D=(u0:Int)-(lo:Int)-(dN:Int)+18446744073709551616*(d':Int):=⟨_,rfl⟩
 have hloB:lo<4294967296:=by omega
 have g1:IntKind.u64.wrap (IntKind.u64.wrap ((u0:Int)-(lo:Int))-(dN:Int))=D:=by rw[IntKind.wrap_u64,IntKind.wrap_u64];rw[hd'] at hD;split at hD <;> omega
 have g2:D%4294967296=(sN:Int):=by rw[hD];omega
 have g3:D/9223372036854775808=(d':Int):=by rw[hD];rw[hd'] at m2 ⊢;split <;> split at m2 <;> omega
 have d0:0≤D:=by rw[hD];omega
 clear hd' hsN hD m2 hlo hhi
 go_wp2
 rw[Nat.add_comm j k] at HSET HB9 ST
 refine⟨⟨k+1,hi,d',uq.set (k+j) sN,by omega,rfl,rfl,by go_num,hcc,hd1,by rw[List.length_set];exact huq,ae ST,ae HB9,ae HSET⟩,?_⟩
 simp[intOf];omega)
 ·(
 have hke:n=k:=by omega
 subst hke
 obtain⟨cu,fu⟩:=(ae HT).2.2.row (j+n) (by omega)
 have hsame:uq[j+n]?.getD 0=y0:=by rw[(ae HT).1.same (j+n) (Nat.le_refl _),← (ae HY).1]
 rw[hsame] at cu
 have hVv:vl 4294967296 (wd 4294967296 V)=V:=qg (by omega) V
 have hVl:=(ae GF).1
 have hSV:=(ae KB).long.lt
 have hVp:0<V:=by
  rcases Nat.eq_zero_or_pos V with h9 | h9
  ·rw[h9,Nat.zero_mul] at hSV;omega
  ·exact h9
 have hVB:V<4294967296^n:=by have:=ak (B:=4294967296) (by omega) V n (by omega);exact this
 have hWp:0<vl 4294967296 (wd 4294967296 V)*4294967296^j:=by rw[hVv];exact Nat.mul_pos hVp (Nat.pow_pos (by omega))
 have hSlt:vl 4294967296 us<4294967296^(j+n+1):=by
  refine Nat.lt_of_lt_of_le hSV ?_
  rw[show 4294967296^(j+n+1)=4294967296^n*4294967296^(j+1) from by rw[← Nat.pow_add];congr 1;omega]
  exact Nat.mul_le_mul_right _ (Nat.le_of_lt hVB)
 obtain⟨cq,fq⟩:=((ae KB).qrow.but (ae HT).2.1 (by simp;have:=(ae HG5).1;omega)).row j (by omega)
 have hqrow:=(ae KB).qrow.but (ae HT).2.1 (by simp;have:=(ae HG5).1;omega)
 have hne5:w5.heap.size≠w2.heap.size:=by have:=(ae HG5).1;omega
 have hne6:w2.heap.size≠w5.heap.size:=by omega
 by_cases hfit:cN+dN≤y0
 ·(
 obtain⟨e1,e2⟩:=ztb (ae HT).1 hVl (by omega) hsame hfit (by rw[hVv];have:=(ae GFIN).2;generalize vl 4294967296 us/(V*4294967296^j)=Q at *;omega) hWp
 rw[hVv] at e1 e2
 obtain⟨yy,hyy⟩:∃ yy,yy=y0-cN-dN:=⟨_,rfl⟩
 rw[← hyy] at e2
 have hyB:yy<4294967296:=by omega
 have LS:=(ae KB).long.step (us':=uq.set (j+n) yy) (by omega) e1 hVp (mem_set (ae HT).1.mem _ _ hyB) e2
 have KN:Hid (zey W A V w2.heap.size w5.heap.size (uq.set (j+n) yy) (qs.set j gF) j ((wq.setCell ⟨w2.heap.size,j+n,none⟩ (.int .u32 (yy:Int))).setCell ⟨w5.heap.size,j,none⟩ (.int .u32 (gF:Int)))) :=
  ⟨LS,(bq.setCell (p:=⟨w2.heap.size,j+n,none⟩) (.inl (by simp)) _).setCell (p:=⟨w5.heap.size,j,none⟩) (.inl (by simp)) _,
  ((ae HT).2.2.set (j+n) (by omega) yy).but ((But.refl [w5.heap.size] _).setCell (p:=⟨w5.heap.size,j,none⟩) (.inl (by simp)) _) (by simp;omega),
  (hqrow.but ((But.refl [w2.heap.size] _).setCell (p:=⟨w2.heap.size,j+n,none⟩) (.inl (by simp)) _) (by simp;omega)).set j (by omega) gF⟩
 have EY:Hid ((y0:Int)-(cN:Int)-(dN:Int)=(yy:Int)):=by show _=_;omega
 have g1:IntKind.u64.wrap (IntKind.u64.wrap ((y0:Int)-(cN:Int))-(dN:Int))=(yy:Int):=by rw[IntKind.wrap_u64,IntKind.wrap_u64];omega
 have g2:(yy:Int)%4294967296=(yy:Int):=by omega
 have g3:(yy:Int)/9223372036854775808=0:=by omega
 have g4:(gF:Int)%4294967296=(gF:Int):=by omega
 clear HT e1 e2 LS hyy hWp hSlt hSV hVB hVp hqrow hsame hVv bq
 generalize qs[j]?.getD 0=qj at *
 go_wp2
 try rw[ae EY]
 refine⟨⟨j,uq.set (j+n) yy,qs.set j gF,by omega,rfl,by rw[List.length_set];exact huq,by rw[List.length_set];exact hql,KN⟩,?_⟩
 simp[intOf])
 ·(
 obtain⟨e1,e2,e3,e4⟩:=zta (ae HT).1 hVl (by omega) hsame (by omega) (by rw[hVv];exact (ae GFIN).2) hSlt
 rw[hVv] at e1 e2
 obtain⟨yy,hyy⟩:∃ yy,yy=y0+4294967296-(cN+dN):=⟨_,rfl⟩
 rw[← hyy] at e2 e3 e4
 have hyB:yy<4294967296:=by omega
 obtain⟨gE,hgE⟩:∃ gE,gE=vl 4294967296 us/(V*4294967296^j):=⟨_,rfl⟩
 rw[← hgE] at e1
 obtain⟨Wc,hWc⟩:∃ Wc,Wc=wq.setCell ⟨w2.heap.size,j+n,none⟩ (.int .u32 (yy:Int)):=⟨_,rfl⟩
 obtain⟨uc,huc⟩:∃ uc,uc=uq.set (j+n) yy:=⟨_,rfl⟩
 rw[← huc] at e2 e3 e4
 have rc:j5 .u32 Wc w2.heap.size uc:=by rw[hWc,huc];exact (ae HT).2.2.set (j+n) (by omega) yy
 have hucl:uc.length=la+2:=by rw[huc,List.length_set];exact huq
 have bc:But [w2.heap.size,w5.heap.size] W Wc:=by rw[hWc];exact bq.setCell (p:=⟨w2.heap.size,j+n,none⟩) (.inl (by simp)) _
 have qc:j5 .u32 Wc w5.heap.size qs:=by rw[hWc];exact hqrow.but ((But.refl [w2.heap.size] _).setCell (p:=⟨w2.heap.size,j+n,none⟩) (.inl (by simp)) _) (by simp;omega)
 have BK0:Hid (zpq uc uc (wd 4294967296 V) j 0 0∧But [w2.heap.size] Wc Wc∧j5 .u32 Wc w2.heap.size uc):=⟨zpq.start uc _ j e3,But.refl _ _,rc⟩
 have HE:=af (And.intro e2 (And.intro e3 (And.intro e4 hgE)))
 have HVV:=af (And.intro hVv (And.intro hVp hVB))
 have HCC:=af (And.intro bc qc)
 have hWcS:=af hWc
 have g1:IntKind.u64.wrap (IntKind.u64.wrap ((y0:Int)-(cN:Int))-(dN:Int))=18446744073709551616+(y0:Int)-(cN:Int)-(dN:Int):=by rw[IntKind.wrap_u64,IntKind.wrap_u64];omega
 have g2:(18446744073709551616+(y0:Int)-(cN:Int)-(dN:Int))%4294967296=(yy:Int):=by omega
 have g3:(18446744073709551616+(y0:Int)-(cN:Int)-(dN:Int))/9223372036854775808=1:=by omega
 have g4:(gF:Int)-1=(gE:Int):=by omega
 have hgEB:gE<4294967296:=by omega
 clear HT e2 e3 e4 hgE hyy hWp hSlt hSV hVB hVp hqrow hsame hVv bq rc bc qc hWc huc cq fq
 go_wp2_with fail
 rw[← ae hWcS]
 go_loopw [22,27] (fun c iv wx=>∃ (k cK:Nat) (ux:List Nat),k≤n∧c=.int .u64 (cK:Int)∧iv=.int .i64 (k:Int)∧cK≤1∧ux.length=la+2∧Hid (zpq uc ux (wd 4294967296 V) j k cK∧But [w2.heap.size] Wc wx∧j5 .u32 wx w2.heap.size ux)) (fun _ iv _=>n-(intOf iv).toNat)
 case atStart=>exact⟨0,0,uc,Nat.zero_le _,rfl,rfl,by omega,hucl,BK0⟩
 case round =>(
 clear BK0 g1 g2 g3 g4
 obtain⟨k,cK,ux,hk,rfl,rfl,hcK,hux,HT⟩:=hrel
 rename World=>wx
 have bx:But [w2.heap.size,w5.heap.size] W wx:=(ae HCC).1.trans (ae HT).2.1 (fun x hx=>.inl (by simp at hx;simp[hx]))
 by_cases hkn:k<n
 ·(
 have cv1:=ae HVC wx bx k hkn
 have hvB:(wd 4294967296 V)[k]?.getD 0<4294967296:=bt (zo (by omega) V) (by omega) k
 obtain⟨cu,fu⟩:=(ae HT).2.2.row (j+k) (by omega)
 have huB:ux[j+k]?.getD 0<4294967296:=bt (ae HT).1.mem (by omega) _
 obtain⟨c1,hc1⟩:∃ c1,c1=cK+(ux[j+k]?.getD 0+(wd 4294967296 V)[k]?.getD 0):=⟨_,rfl⟩
 obtain⟨lo,hlo⟩:∃ lo,lo=c1%4294967296:=⟨_,rfl⟩
 obtain⟨hi,hhi⟩:∃ hi,hi=c1/4294967296:=⟨_,rfl⟩
 have ST:=af ((ae HT).1.step (by omega) hvB huB c1 hc1)
 rw[← hlo,← hhi] at ST
 have hcc:hi≤1:=(ae ST).car
 have HR:=af (ae HT).2.2
 have HB9:=af (ae HT).2.1
 have ec:(cK:Int)+(((ux[j+k]?.getD 0:Nat):Int)+(((wd 4294967296 V)[k]?.getD 0:Nat):Int))=(c1:Int):=by rw[hc1];omega
 have hc1B:c1<18446744073709551616:=by omega
 have el:(c1:Int)%4294967296=(lo:Int):=by omega
 have eh:(c1:Int)/4294967296=(hi:Int):=by omega
 clear HT hc1 hlo hhi bx
 rw[Nat.add_comm j k] at cu fu ST ec huB
 generalize ux[k+j]?.getD 0=u0 at *
 generalize (wd 4294967296 V)[k]?.getD 0=vk at *
 go_wp2_with fail
 go_quiet (fail)
 go_wp2
 refine⟨⟨k+1,hi,ux.set (k+j) lo,by omega,rfl,by go_num,hcc,by rw[List.length_set];exact hux,ae ST,((ae HB9).drewN nq).setCell (p:=⟨w2.heap.size,k+j,none⟩) (.inl (by simp)) _,((ae HR).drewN nq).set (k+j) (by omega) lo⟩,?_⟩
 simp[intOf];omega)
 ·(
 have hke:n=k:=by omega
 subst hke
 obtain⟨hVv,hVp,hVB⟩:=ae HVV
 obtain⟨e2,e3,e4,hgE⟩:=ae HE
 obtain⟨cu,fu⟩:=(ae HT).2.2.row (j+n) (by omega)
 have hWp:0<V*4294967296^j:=Nat.mul_pos hVp (Nat.pow_pos (by omega))
 obtain⟨b1,b2⟩:=qef (R:=vl 4294967296 us%(V*4294967296^j)) (W:=V*4294967296^j) (ae HT).1 hVl (by omega) e4 (by rw[hVv]) (by rw[Nat.add_comm j n,Nat.pow_add];exact Nat.mul_le_mul_right _ (Nat.le_of_lt hVB)) (Nat.mod_lt _ hWp) e2
 have qx:=(ae HCC).2.but (ae HT).2.1 (by simp;omega)
 obtain⟨cq,fq⟩:=qx.row j (by omega)
 have LS:=(ae KB).long.step (us':=ux.set (j+n) 0) (by omega) hgE hVp (mem_set (ae HT).1.mem _ _ (by omega)) b2
 have KN:Hid (zey W A V w2.heap.size w5.heap.size (ux.set (j+n) 0) (qs.set j gE) j ((wx.setCell ⟨w2.heap.size,j+n,none⟩ (.int .u32 0)).setCell ⟨w5.heap.size,j,none⟩ (.int .u32 (gE:Int)))) :=
  ⟨LS,(bx.setCell (p:=⟨w2.heap.size,j+n,none⟩) (.inl (by simp)) _).setCell (p:=⟨w5.heap.size,j,none⟩) (.inl (by simp)) _,
  ((ae HT).2.2.set (j+n) (by omega) 0).but ((But.refl [w5.heap.size] _).setCell (p:=⟨w5.heap.size,j,none⟩) (.inl (by simp)) _) (by simp;omega),
  (qx.but ((But.refl [w2.heap.size] _).setCell (p:=⟨w2.heap.size,j+n,none⟩) (.inl (by simp)) _) (by simp;omega)).set j (by omega) gE⟩
 have w32:IntKind.u32.wrap (((ux[j+n]?.getD 0:Nat):Int)+(cK:Int))=0:=by
  rw[← Int.natCast_add,b1,IntKind.wrap_u32'];rfl
 have hucB:ux[j+n]?.getD 0<4294967296:=bt (ae HT).1.mem (by omega) _
 have h64:(cK:Int)%4294967296=(cK:Int):=by omega
 have g4:(gE:Int)%4294967296=(gE:Int):=by omega
 clear HT e2 e3 e4 hgE b1 b2 LS hWp hVB hVp hVv bx qx
 generalize ux[j+n]?.getD 0=tt at *
 generalize qs[j]?.getD 0=qj at *
 go_wp2
 refine⟨⟨j,ux.set (j+n) 0,qs.set j gE,by omega,rfl,by rw[List.length_set];exact hux,by rw[List.length_set];exact hql,KN⟩,?_⟩
 simp[intOf])))))))))
end Go.Proofs.YtagmkkiagjmimaaGreatDoor
