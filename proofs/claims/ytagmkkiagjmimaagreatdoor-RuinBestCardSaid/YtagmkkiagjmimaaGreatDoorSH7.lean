/- Numbers of any length divided, and their -/
import Derived.Deep.RegionWith
import Derived.Deep.LoopGhost
import Derived.Test.YtagmkkiagjmimaaGreatDoorSH6
namespace Go.Proofs.YtagmkkiagjmimaaGreatDoor
set_option linter.unusedVariables false
open Go.Proofs.Tryz
open Go.RowKit
set_option maxHeartbeats 8000000
set_option maxRecDepth 100000
theorem ji (m:Nat) (h:m<18446744073709551616):(wd 4294967296 m).length≤2:=aj (by omega) m 2 (by omega)
theorem uh (m:Nat) (h:(wd 4294967296 m).length≤2):m<18446744073709551616:=by have:=ak (B:=4294967296) (by omega) m 2 h;omega
theorem zzk (va vb:Value) (m n:Nat) (w:World) (ha:Sl .u32 w va (wd 4294967296 m)) (hb:Sl .u32 w vb (wd 4294967296 n)) (hm:m<18446744073709551616) (hn:n<18446744073709551616) (hn0:0<n) :
   Calls prog 198 #[va,vb] w fun e w'=>∃ v1 v2,e=.returned (.tuple #[v1,v2])∧Sl .u32 w' v1 (wd 4294967296 (m/n))∧Sl .u32 w' v2 (wd 4294967296 (m%n))∧But [] w w':=by(
 have hla:=ji m hm
 have hlb:=ji n hn
 have hl0:0<(wd 4294967296 n).length:=by
  have:=ze (B:=4294967296) (by omega) n
  omega
 have HC:=af (zdl va vb m n w ha hb (by omega) (by omega))
 have HT:=af (fun k=>zdt va (wd 4294967296 m) (w.drewN k) ha (by omega))
 have PA:=af (fun k=>zas va m (w.drewN k) ha hm)
 have PB:=af (fun k=>zas vb n (w.drewN k) hb hn)
 obtain⟨a,cap,rfl,-,-⟩:=ha
 obtain⟨b,cap',rfl,-,-⟩:=hb
 have n0:(((wd 4294967296 n).length:Int)==0)=false:=by simp;intro h;simp[h] at hl0
 generalize (wd 4294967296 m).length=la at *
 generalize (wd 4294967296 n).length=lb at *
 by_cases hlt:m<n
 ·(
 have hc:Hid (zq m n=-1):=by show _=_;simp[zq,hlt]
 go_enter func198,ntmps198
 go_wp2_with fail
 refine (ae HC).mono ?_
 rintro e w1 ⟨rfl,k,rfl⟩
 rw[ae hc]
 go_wp2_with fail
 refine (ae HT k).mono ?_
 rintro e w1 ⟨v',rfl,hs,hb1,-⟩
 go_wp2
 go_ret2
 refine⟨_,v',rfl,?_,?_,((But.refl _ _).drewN k).trans' hb1⟩
 ·rw[Nat.div_eq_of_lt hlt,zh];exact Sl.nil _ _
 ·rw[Nat.mod_eq_of_lt hlt];exact hs)
 ·(
 have hc:Hid (0≤zq m n):=by show _≤_;simp only[zq];rw[if_neg hlt];split <;> omega
 go_enter func198,ntmps198
 go_wp2_with fail
 refine (ae HC).mono ?_
 rintro e w1 ⟨rfl,k,rfl⟩
 have hc0:=ae hc
 generalize zq m n=c at *
 go_wp2_with fail
 refine (ae PA k).mono ?_
 rintro e w1 ⟨rfl,hw1⟩
 obtain rfl:=hw1.symm
 go_wp2_with fail
 refine (ae PB k).mono ?_
 rintro e w1 ⟨rfl,hw1⟩
 obtain rfl:=hw1.symm
 clear hw1 HC HT PA PB hc
 obtain⟨W,hW⟩:∃ W,W=w.drewN k:=⟨_,rfl⟩
 rw[← hW]
 have HW:=af hW
 clear hW
 have hq0:((n:Int)==0)=false:=by simp;omega
 obtain⟨q,hq⟩:∃ q:Nat,q=m/n:=⟨_,rfl⟩
 obtain⟨r,hr⟩:∃ r:Nat,r=m%n:=⟨_,rfl⟩
 have hq64:q<18446744073709551616:=by rw[hq];exact Nat.lt_of_le_of_lt (Nat.div_le_self _ _) hm
 have hr64:r<18446744073709551616:=by rw[hr];exact Nat.lt_trans (Nat.mod_lt _ hn0) hn
 have e1:(m:Int)/(n:Int)=(q:Int):=by rw[hq,Int.natCast_ediv]
 have e2:(m:Int)%(n:Int)=(r:Int):=by rw[hr,Int.natCast_emod]
 have e3:(m:Int).tdiv (n:Int)=(q:Int):=by rw[Int.tdiv_eq_ediv_of_nonneg (by omega)];exact e1
 have e4:(m:Int).tmod (n:Int)=(r:Int):=by rw[Int.tmod_eq_emod_of_nonneg (by omega)];exact e2
 have e5:IntKind.u64.wrap (q:Int)=(q:Int):=by rw[IntKind.wrap_u64];omega
 have HQ:=af hq
 have HR:=af hr
 clear hq hr
 go_wp2
 go_region_with (first
  | (go_at_call_of 201 (Value.int IntKind.u64 (q:Int));refine (zaq q _ hq64).mono ?_;rintro e wq ⟨vq,rfl,hvq,hbq,-⟩)
  | (go_at_call_of 201 (Value.int IntKind.u64 (r:Int));refine (zaq r _ hr64).mono ?_;rintro e wr ⟨vr,rfl,hvr,hbr,-⟩))
 all_goals go_wp2
 all_goals go_ret2
 all_goals rw[← ae HQ,← ae HR]
 all_goals have h1:But [] w W:=by rw[ae HW];exact (But.refl _ _).drewN k
 all_goals first
  | exact⟨vq,vr,rfl,hvq.ah hbr,hvr,(h1.drew.trans' hbq).trans' hbr⟩
  | exact⟨vq,vr,rfl,hvq,hvr.ah hbq,(h1.drew.trans' hbr).trans' hbq⟩))
theorem qdn (va vb:Value) (m n:Nat) (w:World) (ha:Sl .u32 w va (wd 4294967296 m)) (hb:Sl .u32 w vb (wd 4294967296 n)) (hlt:m<n) (hl:(wd 4294967296 n).length<1073741824) :
   Calls prog 198 #[va,vb] w fun e w'=>∃ v1 v2,e=.returned (.tuple #[v1,v2])∧Sl .u32 w' v1 (wd 4294967296 (m/n))∧Sl .u32 w' v2 (wd 4294967296 (m%n))∧But [] w w':=by(
 have hlen:(wd 4294967296 m).length≤(wd 4294967296 n).length:=aj (by omega) m _ (Nat.lt_trans hlt (ak (by omega) n _ (Nat.le_refl _)))
 have hl0:0<(wd 4294967296 n).length:=by
  have:=ze (B:=4294967296) (by omega) n
  omega
 have HC:=af (zdl va vb m n w ha hb (by omega) (by omega))
 have HT:=af (fun k=>zdt va (wd 4294967296 m) (w.drewN k) ha (by omega))
 obtain⟨a,cap,rfl,-,-⟩:=ha
 obtain⟨b,cap',rfl,-,-⟩:=hb
 have n0:(((wd 4294967296 n).length:Int)==0)=false:=by simp;intro h;simp[h] at hl0
 generalize (wd 4294967296 m).length=la at *
 generalize (wd 4294967296 n).length=lb at *
 have hc:Hid (zq m n=-1):=by show _=_;simp[zq,hlt]
 go_enter func198,ntmps198
 go_wp2_with fail
 refine (ae HC).mono ?_
 rintro e w1 ⟨rfl,k,rfl⟩
 rw[ae hc]
 go_wp2_with fail
 refine (ae HT k).mono ?_
 rintro e w1 ⟨v',rfl,hs,hb1,-⟩
 go_wp2
 go_ret2
 refine⟨_,v',rfl,?_,?_,((But.refl _ _).drewN k).trans' hb1⟩
 ·rw[Nat.div_eq_of_lt hlt,zh];exact Sl.nil _ _
 ·rw[Nat.mod_eq_of_lt hlt];exact hs)
theorem qdl (va vb:Value) (m n:Nat) (w:World) (ha:Sl .u32 w va (wd 4294967296 m)) (hb:Sl .u32 w vb (wd 4294967296 n)) (hle:n≤m) (h3:3≤(wd 4294967296 m).length) (h1:(wd 4294967296 n).length=1) (hl:(wd 4294967296 m).length<1073741824) :
   Calls prog 198 #[va,vb] w fun e w'=>∃ v1 v2,e=.returned (.tuple #[v1,v2])∧Sl .u32 w' v1 (wd 4294967296 (m/n))∧Sl .u32 w' v2 (wd 4294967296 (m%n))∧But [] w w':=by(
 have hn0:0<n:=by
  rcases Nat.eq_zero_or_pos n with h | h
  ·subst h;rw[zh] at h1;simp at h1
  ·exact h
 have hnB:n<4294967296:=by have:=ak (B:=4294967296) (by omega) n 1 (by omega);simpa using this
 have HC:=af (zdl va vb m n w ha hb (by omega) (by omega))
 have hc0:=zan hle
 generalize zq m n=c at *
 have hr:decide (c<0)=false:=by simp;omega
 have hwn:wd 4294967296 n=[n]:=by
  rcases qab n (by omega) with ⟨h,-⟩|⟨-,-,h⟩|⟨h,-⟩
  ·omega
  ·exact h
  ·omega
 rcases hb.open with ⟨e,-⟩|⟨-,b,off,cap',rfl,hcc,hbl,hcell⟩
 ·rw[e] at h1;simp at h1
 have cx:=hcell 0 (by omega)
 rw[hwn] at cx
 simp only[List.getElem?_cons_zero,Option.getD_some,Nat.add_zero] at cx
 have SM:=af (fun W (h:Sl .u32 W va (wd 4294967296 m))=>zxl va m n W h hn0 hnB hl)
 have HA:=af ha
 obtain⟨a,cap,rfl,-,-⟩:=ha
 rw[h1] at HC
 rw[h1]
 have HRB:Hid (m%n<4294967296):=Nat.lt_trans (Nat.mod_lt _ hn0) hnB
 obtain⟨rr,hrr⟩:∃ rr,rr=m%n:=⟨_,rfl⟩
 rw[← hrr] at HRB SM
 have HRR:=af hrr
 clear hrr
 clear hcell hb hwn h1 hcc hle
 generalize (wd 4294967296 m).length=la at *
 go_enter func198,ntmps198
 go_wp2_with fail
 refine (ae HC).mono ?_
 rintro e w1 ⟨rfl,q,rfl⟩
 go_wp2_with fail
 refine (ae SM _ ((ae HA).ah ((But.refl _ _).drewN q))).mono ?_
 rintro e w2 ⟨v1,rfl,hv1,hb1⟩
 have B2:Hid (But [] w w2):=((But.refl [] _).drewN q).trans' hb1
 have HV1:=af hv1
 clear hv1 hb1 SM HC
 have h0:Sl .u32 (w2.alloc (.cells #[.int .u32 (rr:Int)] 238)) (.slice (some ⟨w2.heap.size,0,none⟩) 1 1) [rr] :=
  Sl.mk (xs:=[rr]) w2.heap.size 0 1 (by simp) (fun i hi=>by
   match i,hi with
   | 0,_=>simp) (fun _ i v hv=>by
   rw[World.cell?_alloc_new] at hv
   match i,hv with
   | 0,hv=>exact⟨_,(by simpa using hv.symm)⟩
   | i+1,hv=>simp at hv)
 have TR:=af (zfs _ [rr] _ h0 (fun x hx=>by simp at hx;have:=ae HRB;omega) (by simp))
 rw[show vl 4294967296 [rr]=rr from by simp[vl]] at TR
 clear h0
 go_wp2_with fail
 refine (ae TR).mono ?_
 rintro e w3 ⟨v2,rfl,hv2,hw⟩
 obtain rfl:=hw.symm
 clear hw
 have FIN:=af hv2
 clear hv2 TR
 go_wp2
 go_ret2
 exact⟨_,_,rfl,(ae HV1).ah ((But.refl _ _).alloc _),by rw[← ae HRR];exact ae FIN,(ae B2).alloc _⟩)
theorem zgr (va vb:Value) (m n:Nat) (w:World) (ha:Sl .u32 w va (wd 4294967296 m)) (hb:Sl .u32 w vb (wd 4294967296 n)) (hn0:0<n) (hla:(wd 4294967296 m).length<8388608) (hlb:(wd 4294967296 n).length<8388608) :
   Calls prog 198 #[va,vb] w fun e w'=>∃ v1 v2,e=.returned (.tuple #[v1,v2])∧Sl .u32 w' v1 (wd 4294967296 (m/n))∧Sl .u32 w' v2 (wd 4294967296 (m%n))∧But [] w w':=by(
 rcases Nat.lt_or_ge m n with hlt | hle
 ·exact qdn va vb m n w ha hb hlt (by omega)
 ·(
 have hlen:(wd 4294967296 n).length≤(wd 4294967296 m).length:=aj (by omega) n _ (Nat.lt_of_le_of_lt hle (ak (by omega) m _ (Nat.le_refl _)))
 by_cases h2:(wd 4294967296 m).length≤2
 ·exact zzk va vb m n w ha hb (uh m h2) (uh n (by omega)) hn0
 ·have h0:(wd 4294967296 n).length≠0:=fun e=>by rw[ze (by omega)] at e;omega
  by_cases h1:(wd 4294967296 n).length=1
  ·exact qdl va vb m n w ha hb hle (by omega) h1 (by omega)
  ·exact qdm va vb m n w ha hb hle (by omega) (by omega) hla))
theorem zdh (m k:Nat):Nat.gcd k (m%k)=Nat.gcd m k:=by rw[Nat.gcd_comm m k,Nat.gcd_rec k m,Nat.gcd_comm]
theorem zsj (va vb:Value) (M N:Nat) (w:World) (ha:Sl .u32 w va (wd 4294967296 M)) (hb:Sl .u32 w vb (wd 4294967296 N)) (hla:(wd 4294967296 M).length<8388608) (hlb:(wd 4294967296 N).length<8388608) :
   Calls prog 197 #[va,vb] w fun e w'=>∃ v',e=.returned v'∧Sl .u32 w' v' (wd 4294967296 (Nat.gcd M N))∧But [] w w':=by(
 have A0:Hid (∃ m,Sl .u32 w va (wd 4294967296 m)∧Sl .u32 w vb (wd 4294967296 N)∧Nat.gcd m N=Nat.gcd M N∧But [] w w∧(wd 4294967296 m).length<8388608∧(wd 4294967296 N).length<8388608):=⟨M,ha,hb,rfl,But.refl _ _,hla,hlb⟩
 obtain⟨aa,ca,rfl,-,-⟩:=ha
 obtain⟨ab,cb,rfl,-,-⟩:=hb
 generalize (wd 4294967296 M).length=l1 at *
 generalize hl2:(wd 4294967296 N).length=l2 at *
 have HN2:=af hl2
 clear hl2
 go_enter func197,ntmps197
 go_wp2_with fail
 go_loopg [0,1] N (fun k p1 p2 wr=>Hid (∃ m,Sl .u32 wr p1 (wd 4294967296 m)∧Sl .u32 wr p2 (wd 4294967296 k)∧Nat.gcd m k=Nat.gcd M N∧But [] w wr∧(wd 4294967296 m).length<8388608∧(wd 4294967296 k).length<8388608))
 case atStart =>
  obtain⟨m,h1,h2,h3,h4,h5,h6⟩:=ae A0
  exact⟨m,h1,h2,h3,h4,h5,by rw[ae HN2];exact h6⟩
 case round =>(
 clear A0
 obtain⟨m,s1,s2,hg,hB,hm,hk⟩:=ae hrel
 clear hrel
 rename World=>wr
 by_cases hk2:2<(wd 4294967296 gk).length
 ·(
 have hk0:0<gk:=by
  rcases Nat.eq_zero_or_pos gk with h | h
  ·subst h;rw[zh] at hk2;simp at hk2
  ·exact h
 have DV:=af (zgr _ _ m gk wr s1 s2 hk0 hm hk)
 have hlr:(wd 4294967296 (m%gk)).length<8388608:=Nat.lt_of_le_of_lt (aj (by omega) _ _ (Nat.lt_trans (Nat.mod_lt _ hk0) (ak (by omega) gk _ (Nat.le_refl _)))) hk
 have KP:=af (And.intro s2 (And.intro (by rw[zdh];exact hg:Nat.gcd gk (m%gk)=Nat.gcd M N) (And.intro hB (And.intro hk hlr))))
 have hlt:=Nat.mod_lt m hk0
 obtain⟨a1,c1,rfl,-,-⟩:=s1
 obtain⟨a2,c2,rfl,-,-⟩:=s2
 clear hg hB hlr hm hk
 generalize (wd 4294967296 m).length=n1 at *
 generalize hn2:(wd 4294967296 gk).length=n2 at *
 have HN3:=af hn2
 clear hn2
 go_wp2_with fail
 refine (ae DV).mono ?_
 rintro e w2 ⟨v1,v2,rfl,-,hv2,hb2⟩
 have R:Hid (∃ m',Sl .u32 w2 (.slice a2 n2 c2) (wd 4294967296 m')∧Sl .u32 w2 v2 (wd 4294967296 (m%gk))∧Nat.gcd m' (m%gk)=Nat.gcd M N∧But [] w w2∧(wd 4294967296 m').length<8388608∧(wd 4294967296 (m%gk)).length<8388608):=⟨gk,(ae KP).1.ah hb2,hv2,(ae KP).2.1,(ae KP).2.2.1.trans' hb2,by rw[ae HN3];exact (ae KP).2.2.2.1,(ae KP).2.2.2.2⟩
 clear hv2 hb2 DV KP
 go_wp2
 go_roundg (m%gk)
 case measure=>exact hlt
 case rel=>exact ae R)
 ·(
 have hkB:gk<18446744073709551616:=uh gk (by omega)
 rcases Nat.eq_zero_or_pos gk with hz | hz
 ·(
 subst hz
 rw[Nat.gcd_zero_right] at hg
 rw[hg] at s1
 rw[zh] at s2
 have FIN:=af (And.intro s1 hB)
 obtain⟨a1,c1,rfl,-,-⟩:=s1
 obtain⟨a2,c2,rfl,-,-⟩:=s2
 clear hg hB hm hk hk2 hkB
 generalize (wd 4294967296 (Nat.gcd M N)).length=n1 at *
 go_wp2
 go_ret
 exact⟨_,rfl,(ae FIN).1,(ae FIN).2⟩)
 ·(
 have hl0:(wd 4294967296 gk).length≠0:=fun e=>by rw[ze (by omega)] at e;omega
 by_cases hm2:2<(wd 4294967296 m).length
 ·(
 have DV:=af (zgr _ _ m gk wr s1 s2 hz hm hk)
 have hrB:m%gk<18446744073709551616:=Nat.lt_trans (Nat.mod_lt _ hz) hkB
 have PB:=af (fun W v (h:Sl .u32 W v (wd 4294967296 gk))=>zas v gk W h hkB)
 have PR:=af (fun W v (h:Sl .u32 W v (wd 4294967296 (m%gk)))=>zas v (m%gk) W h hrB)
 have HS2:=af s2
 have HGB:=af (And.intro (by rw[zdh];exact hg:Nat.gcd gk (m%gk)=Nat.gcd M N) hB)
 obtain⟨a1,c1,rfl,-,-⟩:=s1
 obtain⟨a2,c2,rfl,-,-⟩:=s2
 clear hg hB hm hk
 generalize (wd 4294967296 m).length=n1 at *
 generalize (wd 4294967296 gk).length=n2 at *
 have n0:((n2:Int)==0)=false:=beq_eq_false_iff_ne.2 (by omega)
 go_wp2_with fail
 refine (ae DV).mono ?_
 rintro e w2 ⟨v1,v2,rfl,-,hv2,hb2⟩
 have HV2:=af hv2
 have HS3:=af ((ae HS2).ah hb2)
 have START:Hid (Nat.gcd gk (m%gk)=Nat.gcd M N∧But [] w w2):=⟨(ae HGB).1,(ae HGB).2.trans' hb2⟩
 clear hv2 hb2 DV HS2 HGB
 go_wp2_with fail
 refine (ae PB _ _ (ae HS3)).mono ?_
 rintro e w3 ⟨rfl,hw⟩
 obtain rfl:=hw.symm
 clear hw
 go_wp2_with fail
 refine (ae PR _ _ (ae HV2)).mono ?_
 rintro e w3 ⟨rfl,hw⟩
 obtain rfl:=hw.symm
 clear hw PB PR HV2 HS3
 go_wp2_with fail
 go_loopw [9,10] (fun x y w'=>∃ p q:Nat,x=.int .u64 p∧y=.int .u64 q∧p<18446744073709551616∧q<18446744073709551616∧Hid (Nat.gcd p q=Nat.gcd M N∧But [] w w')) (fun _ y _=>(intOf y).toNat)
 case atStart=>exact⟨gk,m%gk,rfl,rfl,hkB,hrB,START⟩
 case round =>(
 clear START
 obtain⟨p,q,rfl,rfl,hp,hq,HG⟩:=hrel
 rename World=>wq
 by_cases h0:q=0
 ·(
 subst h0
 have hgg:=(ae HG).1
 rw[Nat.gcd_zero_right] at hgg
 have HGG:=af hgg
 clear hgg
 go_wp2_with fail
 refine (zaq p _ hp).mono ?_
 rintro e w' ⟨v',rfl,hs,hb1,-⟩
 rw[ae HGG] at hs
 have FIN:=af (And.intro hs ((ae HG).2.trans' hb1))
 clear hs hb1
 go_wp2
 go_ret
 exact⟨v',rfl,(ae FIN).1,(ae FIN).2⟩)
 ·(
 have hbq:((q:Int)==0)=false:=by simp;exact h0
 have hlt:0<q:=Nat.pos_of_ne_zero h0
 go_wp2
 go_quiet (fail)
 go_roundw
 case rel =>(
 refine⟨_,_,_,_,_,_,_,_,⟨q,p%q,rfl,?_,hq,?_,?_⟩,rfl⟩
 ·rw[Int.natCast_emod]
 ·exact Nat.lt_trans (Nat.mod_lt _ (Nat.pos_of_ne_zero h0)) hq
 ·exact⟨by rw[zdh];exact (ae HG).1,(ae HG).2.drewN nq⟩)
 case measure =>(
 simp[intOf]
 have:=Nat.mod_lt p (Nat.pos_of_ne_zero h0)
 omega))))
 ·(
 have hmB:m<18446744073709551616:=uh m (by omega)
 have PA:=af (zas _ m wr s1 hmB)
 have PB:=af (zas _ gk wr s2 hkB)
 have START:Hid (Nat.gcd m gk=Nat.gcd M N∧But [] w wr):=⟨hg,hB⟩
 obtain⟨a1,c1,rfl,-,-⟩:=s1
 obtain⟨a2,c2,rfl,-,-⟩:=s2
 clear hg hB hm hk
 generalize (wd 4294967296 m).length=n1 at *
 generalize (wd 4294967296 gk).length=n2 at *
 have n0:((n2:Int)==0)=false:=beq_eq_false_iff_ne.2 (by omega)
 go_wp2_with fail
 refine (ae PA).mono ?_
 rintro e w3 ⟨rfl,hw⟩
 obtain rfl:=hw.symm
 clear hw
 go_wp2_with fail
 refine (ae PB).mono ?_
 rintro e w3 ⟨rfl,hw⟩
 obtain rfl:=hw.symm
 clear hw PA PB
 go_wp2_with fail
 go_loopw [9,10] (fun x y w'=>∃ p q:Nat,x=.int .u64 p∧y=.int .u64 q∧p<18446744073709551616∧q<18446744073709551616∧Hid (Nat.gcd p q=Nat.gcd M N∧But [] w w')) (fun _ y _=>(intOf y).toNat)
 case atStart=>exact⟨m,gk,rfl,rfl,hmB,hkB,START⟩
 case round =>(
 clear START
 obtain⟨p,q,rfl,rfl,hp,hq,HG⟩:=hrel
 rename World=>wq
 by_cases h0:q=0
 ·(
 subst h0
 have hgg:=(ae HG).1
 rw[Nat.gcd_zero_right] at hgg
 have HGG:=af hgg
 clear hgg
 go_wp2_with fail
 refine (zaq p _ hp).mono ?_
 rintro e w' ⟨v',rfl,hs,hb1,-⟩
 rw[ae HGG] at hs
 have FIN:=af (And.intro hs ((ae HG).2.trans' hb1))
 clear hs hb1
 go_wp2
 go_ret
 exact⟨v',rfl,(ae FIN).1,(ae FIN).2⟩)
 ·(
 have hbq:((q:Int)==0)=false:=by simp;exact h0
 have hlt:0<q:=Nat.pos_of_ne_zero h0
 go_wp2
 go_quiet (fail)
 go_roundw
 case rel =>(
 refine⟨_,_,_,_,_,_,_,_,⟨q,p%q,rfl,?_,hq,?_,?_⟩,rfl⟩
 ·rw[Int.natCast_emod]
 ·exact Nat.lt_trans (Nat.mod_lt _ (Nat.pos_of_ne_zero h0)) hq
 ·exact⟨by rw[zdh];exact (ae HG).1,(ae HG).2.drewN nq⟩)
 case measure =>(
 simp[intOf]
 have:=Nat.mod_lt p (Nat.pos_of_ne_zero h0)
 omega))))))))
end Go.Proofs.YtagmkkiagjmimaaGreatDoor
