/- A ratio is brought into lowest terms, as -/
import Derived.Deep.RegionWith
import Derived.Test.YtpmjeclpkahkmaaGreatDoorVH7
namespace Go.Proofs.YtpmjeclpkahkmaaGreatDoor
set_option linter.unusedVariables false
open Go.Proofs.Tryz
open Go.RowKit
set_option maxHeartbeats 8000000
set_option maxRecDepth 100000
theorem Slot.drew {w:World} {b o:Nat} (h:Slot w b o):Slot w.drew b o:=⟨h.c0,h.c1,h.f0,h.f1⟩
structure qd (w:World) (b:Nat) (p q:Int):Prop where
 up:ze w b 0 p
 low:ze w b 2 q
 sa:Slot w b 0
 sb:Slot w b 2
theorem qd.but {w w':World} {b:Nat} {p q:Int} (h:qd w b p q) (hb:But [] w w'):qd w' b p q :=
 ⟨h.up.but hb,h.low.but hb,h.sa.but hb (by simp),h.sb.but hb (by simp)⟩
theorem qd.drew {w:World} {b:Nat} {p q:Int} (h:qd w b p q):qd w.drew b p q:=⟨h.up,h.low,h.sa.drew,h.sb.drew⟩
theorem qd.lt {w:World} {b:Nat} {p q:Int} (h:qd w b p q):b<w.heap.size:=h.sa.lt
theorem Sl.zsr {w:World} {v:Value} {n:Nat} (h:Sl .u32 w v (wd 4294967296 n)) (hn:0<n) (hl:(wd 4294967296 n).length<8388608) :
  ∃ b off l cap,v=.slice (some ⟨b,off,none⟩) l cap∧w.cell? ⟨b,off,none⟩=some (.int .u32 (n%4294967296:Nat))∧((l=1∧n<4294967296)∨((2≤l∧l<8388608)∧4294967296≤n)):=by(
rcases h.open with ⟨e,-⟩|⟨h0,b,off,cap,rfl,-,-,hc⟩
·rw[dm (by omega)] at e;omega
·(
have c0:=hc 0 h0
rw[zcg (by omega) hn] at c0
simp only[List.getElem?_cons_zero,Option.getD_some,Nat.add_zero] at c0
refine⟨b,off,_,cap,rfl,c0,?_⟩
rcases Nat.lt_or_ge n 4294967296 with h1 | h1
·have:=aj (B:=4294967296) (by omega) n 1 (by simpa using h1)
 exact .inl ⟨by omega,h1⟩
·(
refine .inr ⟨⟨?_,hl⟩,h1⟩
rcases Nat.lt_or_ge (wd 4294967296 n).length 2 with h2 | h2
·have:=ak (B:=4294967296) (by omega) n 1 (by omega)
 simp at this
 omega
·exact h2)))
theorem qfv (m n:Nat) (hn:0<n) (hl:(wd 4294967296 n).length<8388608):(wd 4294967296 (Nat.gcd m n)).length<8388608 :=
 Nat.lt_of_le_of_lt (aj (by omega) _ _ (Nat.lt_of_le_of_lt (Nat.gcd_le_right _ hn) (ak (by omega) n _ (Nat.le_refl _)))) hl
def zfe (p:Int) (n:Nat):Int:=if p<0 then -((p.natAbs/Nat.gcd p.natAbs n:Nat):Int) else ((p.natAbs/Nat.gcd p.natAbs n:Nat):Int)
def zff (p:Int) (n:Nat):Int:=((n/Nat.gcd p.natAbs n:Nat):Int)
theorem qag (n:Nat):zfe 0 n=0:=by simp[zfe]
theorem qah (n:Nat) (h:0<n):zff 0 n=1:=by simp[zff,Nat.div_self h]
theorem zmw (p:Int) (n:Nat) (h:Nat.gcd p.natAbs n=1):zfe p n=p:=by rw[zfe,h];split <;> simp <;> omega
theorem zmx (p:Int) (n:Nat) (h:Nat.gcd p.natAbs n=1):zff p n=n:=by rw[zff,h];simp
theorem ztb (p:Int) (n:Nat):(zfe p n).natAbs=p.natAbs/Nat.gcd p.natAbs n:=by(
rw[zfe]
generalize p.natAbs/Nat.gcd p.natAbs n=k
split <;> omega)
theorem qdx (p:Int) (n:Nat):decide (zfe p n<0)=decide (p<0):=by(
rw[zfe]
by_cases h:p<0
·have:0<p.natAbs/Nat.gcd p.natAbs n:=Nat.div_pos (Nat.gcd_le_left _ (by omega)) (Nat.gcd_pos_of_pos_left _ (by omega))
 generalize p.natAbs/Nat.gcd p.natAbs n=k at *
 rw[if_pos h,decide_eq_true h,decide_eq_true]
 omega
·generalize p.natAbs/Nat.gcd p.natAbs n=k
 rw[if_neg h,decide_eq_false h,decide_eq_false]
 omega)
theorem qaj {w:World} {b:Nat} {p:Int} {n g:Nat} (h:qd w b p (n:Int)) (hg:Nat.gcd p.natAbs n=g) (v1 v2:Value) (h1:Sl .u32 w v1 (wd 4294967296 (p.natAbs/g))) (h2:Sl .u32 w v2 (wd 4294967296 (n/g))) :
  qd ((w.setCell ⟨b,1,none⟩ v1).setCell ⟨b,3,none⟩ v2) b (zfe p n) (zff p n):=by(
obtain⟨⟨a0,va,a1,hva⟩,⟨b0,vb,b1,hvb⟩,sa,sb⟩:=h
obtain⟨x1,x2,x3,a1'⟩:=sa.c1
obtain⟨y1,y2,y3,b1'⟩:=sb.c1
simp only[Nat.zero_add] at a1 a1'
simp only[Nat.reduceAdd] at b1 b1'
have o1:∀ v,(w.setCell ⟨b,1,none⟩ v).cell? ⟨b,3,none⟩=w.cell? ⟨b,3,none⟩:=fun v=>World.cell?_setCell_other _ _ _ _ (by simp)
have tr:∀ {v xs},Sl .u32 w v xs→Sl .u32 ((w.setCell ⟨b,1,none⟩ v1).setCell ⟨b,3,none⟩ v2) v xs:=fun h =>
 (h.setCell ⟨b,1,none⟩ rfl v1 _ a1' (by simp)).setCell ⟨b,3,none⟩ rfl v2 (.slice y1 y2 y3) (by rw[o1];exact b1') (by simp)
have c1:((w.setCell ⟨b,1,none⟩ v1).setCell ⟨b,3,none⟩ v2).cell? ⟨b,1,none⟩=some v1:=by
 rw[World.cell?_setCell_other _ _ _ _ (by simp)];exact World.cell?_setCell_same _ _ _ a1
have c3:((w.setCell ⟨b,1,none⟩ v1).setCell ⟨b,3,none⟩ v2).cell? ⟨b,3,none⟩=some v2 :=
 World.cell?_setCell_same _ _ _ (u:=vb) (by rw[o1];exact b1)
have c0:((w.setCell ⟨b,1,none⟩ v1).setCell ⟨b,3,none⟩ v2).cell? ⟨b,0,none⟩=w.cell? ⟨b,0,none⟩:=by
 rw[World.cell?_setCell_other _ _ _ _ (by simp),World.cell?_setCell_other _ _ _ _ (by simp)]
have c2:((w.setCell ⟨b,1,none⟩ v1).setCell ⟨b,3,none⟩ v2).cell? ⟨b,2,none⟩=w.cell? ⟨b,2,none⟩:=by
 rw[World.cell?_setCell_other _ _ _ _ (by simp),World.cell?_setCell_other _ _ _ _ (by simp)]
obtain⟨z1,z2,z3,e1⟩:=h1.slice
obtain⟨u1,u2,u3,e2⟩:=h2.slice
obtain⟨s0,hs0⟩:=sa.c0
obtain⟨t0,ht0⟩:=sb.c0
refine⟨⟨by rw[c0,a0,qdx],v1,c1,tr (by rw[ztb,hg];exact h1)⟩,⟨?_,v2,c3,tr (by rw[zff,Int.natAbs_natCast,hg];exact h2)⟩,⟨⟨s0,by rw[c0];exact hs0⟩,⟨z1,z2,z3,by rw[← e1];exact c1⟩,by simp[sa.f0],by have:=sa.f1;simp at this ⊢;exact this⟩,⟨⟨t0,by rw[c2];exact ht0⟩,⟨u1,u2,u3,by rw[← e2];exact c3⟩,by simp[sb.f0],by have:=sb.f1;simp at this ⊢;exact this⟩⟩
rw[c2,b0,zff]
rw[show decide ((n:Int)<0)=false from decide_eq_false (by omega),show decide (((n/Nat.gcd p.natAbs n:Nat):Int)<0)=false from decide_eq_false (Int.not_lt.2 (Int.natCast_nonneg _))])
theorem qbf (b:Nat) (p q:Int) (w:World) (h:qd w b p q) (hp:(wd 4294967296 p.natAbs).length<8388608) (hq:(wd 4294967296 q.natAbs).length<8388608) (hq0:q≠0) (N D:Int) (eN0:Hid (N=zfe (if q<0 then -p else p) q.natAbs)) (eD0:Hid (D=zff p q.natAbs)) :
  Calls prog 180 #[.pointer (some ⟨b,0,none⟩)] w fun e w'=>e=.returned (.pointer (some ⟨b,0,none⟩))∧But [b] w w'∧qd w' b N D:=by(
by_cases hneg:q<0
case' pos =>(
have h':=h
obtain⟨⟨a0,va,a1,hva⟩,⟨b0,vb,b1,hvb⟩,sa,sb⟩:=h'
simp only[Nat.zero_add] at a1
simp only[Nat.reduceAdd] at b1
obtain⟨bb,ob,lb,cb,rfl,cb0,hlb⟩:=hvb.zsr (by omega) hq
have n0:((lb:Int)==0)=false:=by simp;omega
have hlb1:1≤lb:=by omega
clear hlb hvb hva
have b0':w.cell? ⟨b,2,none⟩=some (.bool true):=by rw[b0,decide_eq_true hneg]
clear b0
go_enter func180,ntmps180
go_wp2
go_region_with (go_at_call 235;refine (zyp b 0 b 0 p _ ?_ ?_ (by omega)).mono ?_;exact h.sa.drew;exact h.up;rintro e W1 ⟨rfl,H1⟩;have H1':=af H1;clear H1)
obtain⟨h1,B1⟩:qd W1 b (-p) q∧But [b] w W1:=by
 obtain⟨w1,v1,hb1,hv1,rfl⟩:=ae H1'
 have hw:=h.drew.but hb1
 obtain⟨aa,na,ca,rfl⟩:=hv1.slice
 exact⟨⟨zdf hw.sa _ _ hv1,ic hw.sa _ _ hw.low (by omega),zfp hw.sa _ _ _ _,yu _ _ hw.sb (by omega)⟩,((But.refl [b] w).drew.trans' hb1).trans (zdg ..) (by simp)⟩
go_wp2
go_region_with (go_at_call 235;refine (zyp b 2 b 2 q _ ?_ ?_ (by omega)).mono ?_;exact h1.sb.drew;exact h1.low;rintro e W ⟨rfl,H2⟩;have H2':=af H2;clear H2)
obtain⟨hR,hB⟩:qd W b (-p) (-q)∧But [b] w W:=by
 obtain⟨w1,v1,hb1,hv1,rfl⟩:=ae H2'
 have hw:=h1.drew.but hb1
 obtain⟨aa,na,ca,rfl⟩:=hv1.slice
 exact⟨⟨ic hw.sb _ _ hw.up (by omega),zdf hw.sb _ _ hv1,yu _ _ hw.sa (by omega),zfp hw.sb _ _ _ _⟩,(B1.drew.trans' hb1).trans (zdg ..) (by simp)⟩
clear H1' H2' h1 B1 a0 a1 b1 b0' sa sb h cb0 n0 hlb1
obtain⟨p1,hp1⟩:∃ p1,p1=-p:=⟨_,rfl⟩
obtain⟨n,hn⟩:∃ n:Nat,n=q.natAbs:=⟨_,rfl⟩
have eN:Hid (N=zfe p1 n):=by show _=_;rw[ae eN0,if_pos hneg,hp1,hn]
have eD:Hid (D=zff p1 n):=by show _=_;rw[ae eD0,hn,hp1];simp[zff]
rw[← hp1,show -q=(n:Int) from by omega] at hR
have hp64:(wd 4294967296 p1.natAbs).length<8388608:=by rw[hp1];first | exact hp | (rw[Int.natAbs_neg];exact hp)
have hn64:(wd 4294967296 n).length<8388608:=by rw[hn];exact hq
have hn0:0<n:=by omega
clear hp hq hq0 hneg hp1 hn eN0 eD0)
case' neg =>(
obtain⟨n,hn⟩:∃ n:Nat,n=q.natAbs:=⟨_,rfl⟩
obtain⟨p1,hp1⟩:∃ p1,p1=p:=⟨_,rfl⟩
have eN:Hid (N=zfe p1 n):=by show _=_;rw[ae eN0,if_neg hneg,hp1,hn]
have eD:Hid (D=zff p1 n):=by show _=_;rw[ae eD0,hn,hp1]
have hR:=h
rw[← hp1,show q=(n:Int) from by omega] at hR
have hp64:(wd 4294967296 p1.natAbs).length<8388608:=by rw[hp1];first | exact hp | (rw[Int.natAbs_neg];exact hp)
have hn64:(wd 4294967296 n).length<8388608:=by rw[hn];exact hq
have hn0:0<n:=by omega
clear h hp hq hq0 hneg hp1 hn eN0 eD0
refine (?_:∀ W,qd W b p1 n→But [b] w W→Calls prog 180 #[.pointer (some ⟨b,0,none⟩)] W fun e w'=>e=.returned (.pointer (some ⟨b,0,none⟩))∧But [b] w w'∧qd w' b N D) w hR (But.refl _ _)
clear hR
intro W hR hB
go_enter func180,ntmps180)
all_goals(
have hR':=hR
obtain⟨⟨a0,va,a1,hva⟩,⟨b0,vb,b1,hvb⟩,sa,sb⟩:=hR'
simp only[Nat.zero_add] at a1
simp only[Nat.reduceAdd] at b1
rw[show decide ((n:Int)<0)=false from decide_eq_false (by omega)] at b0
rw[Int.natAbs_natCast] at hvb
have hvb':=hvb
obtain⟨bb,ob,lb,cb,rfl,cb0,hlb⟩:=hvb'.zsr hn0 hn64
have n0:((lb:Int)==0)=false:=by simp;omega
by_cases hp0:p1=0
·(
subst hp0
simp only[Int.natAbs_zero,zi] at hva
obtain⟨aa,ca,rfl,-,-⟩:=hva
clear hlb hvb a0
go_wp2_with fail
refine (zhu b 2 1 _ (by omega) (by omega) sb).mono ?_
rintro e W' ⟨rfl,H⟩
have H':=af H
clear H
go_wp2
go_ret
rw[ae eN,ae eD,qag,qah n hn0]
obtain⟨w1,v1,hb1,hv1,rfl⟩:=ae H'
have hw:=hR.but hb1
obtain⟨aa,na,ca,rfl⟩:=hv1.slice
exact⟨rfl,(hB.trans' hb1).trans (zdg ..) (by simp),ic hw.sb _ _ hw.up (by omega),zdf hw.sb _ 1 hv1,yu _ _ hw.sa (by omega),zfp hw.sb _ _ _ _⟩)
·(
have hva':=hva
obtain⟨ba,oa,la,ca,rfl,ca0,hla⟩:=hva'.zsr (by omega) hp64
have n0a:((la:Int)==0)=false:=by simp;omega
clear ca0 hla
by_cases hn1:n=1
·(
subst hn1
have hlb1:lb=1:=by omega
subst hlb1
simp only[Nat.reduceMod] at cb0
clear hlb hva hvb
go_wp2
go_ret
rw[ae eN,ae eD,zmw _ _ (Nat.gcd_one_right _),zmx _ _ (Nat.gcd_one_right _)]
exact⟨rfl,hB,hR⟩)
·(
have hlb1:1≤lb:=by omega
rcases hlb with ⟨hl,hlb⟩|⟨hl,hlb⟩
case' inl=>have t1:((lb:Int)==1)=true:=by rw[hl];rfl
case' inr=>have t1:((lb:Int)==1)=false:=beq_eq_false_iff_ne.2 (by omega)
all_goals(
have hlb2:lb<8388608:=by omega
clear hl
have g1:(((n%4294967296:Nat):Int)==1)=decide (n%4294967296=1):=by rw[Bool.eq_iff_iff];simp;omega
go_wp2
go_region_held (fun w'=>w'.cell? ⟨b,1,none⟩=some (.slice (some ⟨ba,oa,none⟩) la ca)∧w'.cell? ⟨b,3,none⟩=some (.slice (some ⟨bb,ob,none⟩) lb cb)) (go_keep) ((go_at_call 236;refine (zva _ _ p1.natAbs n _ ?_ ?_ hp64 hn64).mono ?_;exact hva;exact hvb;rintro e wg ⟨vg,rfl,hvg,hbg⟩;have hbW:But [] W wg:=(by first | exact hbg | exact (But.refl _ _).drew.trans' hbg);have k1:=hbW.ag a1 (by simp);have k3:=hbW.ag b1 (by simp)))
have hRg:=hR.but hbW
have hG0:0<Nat.gcd p1.natAbs n:=Nat.gcd_pos_of_pos_right _ hn0
have hG64:=qfv p1.natAbs n hn0 hn64
have hvag:=hva.ah hbW
have hvbg:=hvb.ah hbW
have hvg':=hvg
obtain⟨bg,og,lg,cg,rfl,cg0,hlg⟩:=hvg'.zsr hG0 hG64
have hBg:But [b] w wg:=hB.trans' hbW
clear a0 a1 b0 b1 sa sb cb0 hva hvb hbg hbW
have hlg1:1≤lg:=by omega
by_cases hg1:Nat.gcd p1.natAbs n=1
·(
rw[hg1] at cg0
simp only[Nat.reduceMod] at cg0
have t2:((lg:Int)==1)=true:=by simp;omega
clear hlg hvg hvag hvbg hG0 hG64
go_wp2
go_ret
rw[ae eN,ae eD,zmw _ _ hg1,zmx _ _ hg1]
exact⟨rfl,hBg,hRg⟩)
·(
rcases hlg with ⟨hl,hlg⟩|⟨hl,hlg⟩
case' inl=>have t2:((lg:Int)==1)=true:=by rw[hl];rfl
case' inr=>have t2:((lg:Int)==1)=false:=beq_eq_false_iff_ne.2 (by omega)
all_goals(
have g2:(((Nat.gcd p1.natAbs n%4294967296:Nat):Int)==1)=decide (Nat.gcd p1.natAbs n%4294967296=1):=by rw[Bool.eq_iff_iff];simp;omega
generalize hgd:Nat.gcd p1.natAbs n=g at *
have HG:=af hgd
clear hgd
clear hl
have C1:=af k1
have C3:=af k3
go_wp2_with fail
refine (ziz _ _ p1.natAbs g wg hvag hvg hG0 hp64 hG64).mono ?_
rintro e w1 ⟨q1,r1,rfl,hq1,hr1,hb1⟩
have l3:=hb1.ag (ae C3) (by simp)
go_wp2_with fail
refine (ziz _ _ n g w1 (hvbg.ah hb1) (hvg.ah hb1) hG0 hn64 hG64).mono ?_
rintro e w2 ⟨q2,r2,rfl,hq2,hr2,hb2⟩
obtain⟨z1,z2,z3,rfl⟩:=hq1.slice
obtain⟨u1,u2,u3,rfl⟩:=hq2.slice
have hR2:=(hRg.but hb1).but hb2
have m1:=hb2.ag (hb1.ag (ae C1) (by simp)) (by simp)
have m3:=hb2.ag l3 (by simp)
have f1:=hR2.sa.f1
have f3:=hR2.sb.f1
simp only[Nat.zero_add] at f1
simp only[Nat.reduceAdd] at f3
go_wp2
go_ret
rw[ae eN,ae eD]
exact⟨rfl,(((hBg.trans' hb1).trans' hb2).setCell (by simp) _).setCell (by simp) _,qaj hR2 (ae HG) _ _ (hq1.ah hb2) hq2⟩)))))))
theorem zyk {w w1:World} {t:TypeId} {z:Int} {v:Value} (hb:But [] (w.alloc (.cells #[.bool false,.slice none 0 0] t)) w1) (hv:Sl .u32 w1 v (wd 4294967296 z.natAbs)) :
  But [] w (zac w1 w.heap.size 0 v (decide (z<0)))∧ze (zac w1 w.heap.size 0 v (decide (z<0))) w.heap.size 0 z∧Slot (zac w1 w.heap.size 0 v (decide (z<0))) w.heap.size 0∧w.heap.size<(zac w1 w.heap.size 0 v (decide (z<0))).heap.size:=by(
have hs:=(ku w t).but hb (by simp)
obtain⟨a,n,c,rfl⟩:=hv.slice
exact⟨(((But.refl [] w).alloc _).trans' hb).trans (zdg ..) (by simp),zdf hs _ _ hv,zfp hs _ _ _ _,by rw[zgq];exact hs.lt⟩)
theorem qdy {w:World} {b:Nat} {p q:Int} (h0:Slot w b 0) (h2:Slot w b 2) (x1 y1:Option Addr) (x2 x3 y2 y3:Nat) (hp:Sl .u32 w (.slice x1 x2 x3) (wd 4294967296 p.natAbs)) (hq:Sl .u32 w (.slice y1 y2 y3) (wd 4294967296 q.natAbs)) :
  qd ((((w.setCell ⟨b,0,none⟩ (.bool (decide (p<0)))).setCell ⟨b,1,none⟩ (.slice x1 x2 x3)).setCell ⟨b,2,none⟩ (.bool (decide (q<0)))).setCell ⟨b,3,none⟩ (.slice y1 y2 y3)) b p q:=by(
obtain⟨⟨s0,c0⟩,⟨a1,a2,a3,c1⟩,f0,f1⟩:=h0
obtain⟨⟨s2,c2⟩,⟨b1,b2,b3,c3⟩,f2,f3⟩:=h2
simp only[Nat.zero_add] at c1 f1
simp only[Nat.reduceAdd] at c3 f3
have k1:(w.setCell ⟨b,0,none⟩ (.bool (decide (p<0)))).cell? ⟨b,1,none⟩=some (.slice a1 a2 a3):=by rw[World.cell?_setCell_other _ _ _ _ (by simp)];exact c1
have k2:((w.setCell ⟨b,0,none⟩ (.bool (decide (p<0)))).setCell ⟨b,1,none⟩ (.slice x1 x2 x3)).cell? ⟨b,2,none⟩=some (.bool s2):=by
 rw[World.cell?_setCell_other _ _ _ _ (by simp),World.cell?_setCell_other _ _ _ _ (by simp)];exact c2
have k3:(((w.setCell ⟨b,0,none⟩ (.bool (decide (p<0)))).setCell ⟨b,1,none⟩ (.slice x1 x2 x3)).setCell ⟨b,2,none⟩ (.bool (decide (q<0)))).cell? ⟨b,3,none⟩=some (.slice b1 b2 b3):=by
 rw[World.cell?_setCell_other _ _ _ _ (by simp),World.cell?_setCell_other _ _ _ _ (by simp),World.cell?_setCell_other _ _ _ _ (by simp)];exact c3
have tr:∀ {v xs},Sl .u32 w v xs→Sl .u32 ((((w.setCell ⟨b,0,none⟩ (.bool (decide (p<0)))).setCell ⟨b,1,none⟩ (.slice x1 x2 x3)).setCell ⟨b,2,none⟩ (.bool (decide (q<0)))).setCell ⟨b,3,none⟩ (.slice y1 y2 y3)) v xs:=fun h =>
 (((h.setCell _ rfl _ _ c0 (by simp)).setCell _ rfl _ _ k1 (by simp)).setCell _ rfl _ _ k2 (by simp)).setCell _ rfl _ _ k3 (by simp)
have e0:((((w.setCell ⟨b,0,none⟩ (.bool (decide (p<0)))).setCell ⟨b,1,none⟩ (.slice x1 x2 x3)).setCell ⟨b,2,none⟩ (.bool (decide (q<0)))).setCell ⟨b,3,none⟩ (.slice y1 y2 y3)).cell? ⟨b,0,none⟩=some (.bool (decide (p<0))):=by
 rw[World.cell?_setCell_other _ _ _ _ (by simp),World.cell?_setCell_other _ _ _ _ (by simp),World.cell?_setCell_other _ _ _ _ (by simp)];exact World.cell?_setCell_same _ _ _ c0
have e1:((((w.setCell ⟨b,0,none⟩ (.bool (decide (p<0)))).setCell ⟨b,1,none⟩ (.slice x1 x2 x3)).setCell ⟨b,2,none⟩ (.bool (decide (q<0)))).setCell ⟨b,3,none⟩ (.slice y1 y2 y3)).cell? ⟨b,1,none⟩=some (.slice x1 x2 x3):=by
 rw[World.cell?_setCell_other _ _ _ _ (by simp),World.cell?_setCell_other _ _ _ _ (by simp)];exact World.cell?_setCell_same _ _ _ k1
have e2:((((w.setCell ⟨b,0,none⟩ (.bool (decide (p<0)))).setCell ⟨b,1,none⟩ (.slice x1 x2 x3)).setCell ⟨b,2,none⟩ (.bool (decide (q<0)))).setCell ⟨b,3,none⟩ (.slice y1 y2 y3)).cell? ⟨b,2,none⟩=some (.bool (decide (q<0))):=by
 rw[World.cell?_setCell_other _ _ _ _ (by simp)];exact World.cell?_setCell_same _ _ _ k2
have e3:((((w.setCell ⟨b,0,none⟩ (.bool (decide (p<0)))).setCell ⟨b,1,none⟩ (.slice x1 x2 x3)).setCell ⟨b,2,none⟩ (.bool (decide (q<0)))).setCell ⟨b,3,none⟩ (.slice y1 y2 y3)).cell? ⟨b,3,none⟩=some (.slice y1 y2 y3) :=
 World.cell?_setCell_same _ _ _ k3
exact⟨⟨e0,_,e1,tr hp⟩,⟨e2,_,e3,tr hq⟩,⟨⟨_,e0⟩,⟨_,_,_,e1⟩,by simp only[World.frozen?_setCell];exact f0,by simp only[World.frozen?_setCell];exact f1⟩,⟨⟨_,e2⟩,⟨_,_,_,e3⟩,by simp only[World.frozen?_setCell];exact f2,by simp only[World.frozen?_setCell];exact f3⟩⟩)
theorem zaa (zb ab ao bb bo:Nat) (p q:Int) (w:World) (hz0:Slot w zb 0) (hz2:Slot w zb 2) (ha:ze w ab ao p) (hb:ze w bb bo q) (hp:(wd 4294967296 p.natAbs).length<8388608) (hq:(wd 4294967296 q.natAbs).length<8388608) (hq0:q≠0) (N D:Int) (eN0:Hid (N=zfe (if q<0 then -p else p) q.natAbs)) (eD0:Hid (D=zff p q.natAbs)) :
  Calls prog 92 #[.pointer (some ⟨zb,0,none⟩),.pointer (some ⟨ab,ao,none⟩),.pointer (some ⟨bb,bo,none⟩)] w fun e w'=>e=.returned (.pointer (some ⟨zb,0,none⟩))∧But [zb] w w'∧qd w' zb N D:=by(
have hb':=hb
obtain⟨b0,vb,b1,hvb⟩:=hb'
obtain⟨bx,ox,lb,cb,rfl,cb0,hlb⟩:=hvb.zsr (by omega) hq
have n0:((lb:Int)==0)=false:=by simp;omega
clear hlb cb0 hvb b0
go_enter func92,ntmps92
go_wp2_with fail
refine (zyg w.heap.size 0 ab ao p _ (ku _ _) (ha.but ((But.refl _ _).alloc _)) (by omega)).mono ?_
rintro e W1 ⟨rfl,H⟩
obtain⟨B1,I1,S1,L1⟩:But [] w W1∧ze W1 w.heap.size 0 p∧Slot W1 w.heap.size 0∧w.heap.size<W1.heap.size:=by
 obtain⟨w1,v,hbb,hv,rfl⟩:=H
 exact zyk hbb hv
clear H
go_wp2_with fail
refine (zyg W1.heap.size 0 bb bo q _ (ku _ _) ((hb.but B1).but ((But.refl _ _).alloc _)) (by omega)).mono ?_
rintro e W2 ⟨rfl,H⟩
obtain⟨B2,I2,S2,L2⟩:But [] W1 W2∧ze W2 W1.heap.size 0 q∧Slot W2 W1.heap.size 0∧W1.heap.size<W2.heap.size:=by
 obtain⟨w1,v,hbb,hv,rfl⟩:=H
 exact zyk hbb hv
clear H
have B12:=B1.trans' B2
have I1':=I1.but B2
have z0:=hz0.but B12 (by simp)
have z2:=hz2.but B12 (by simp)
obtain⟨i0,vi,i1,hvi⟩:=I1'
obtain⟨j0,vj,j1,hvj⟩:=I2
simp only[Nat.zero_add] at i1 j1
obtain⟨x1,x2,x3,rfl⟩:=hvi.slice
obtain⟨y1,y2,y3,rfl⟩:=hvj.slice
have zlt:zb<w.heap.size:=hz0.lt
obtain⟨s0,hc0⟩:=z0.c0
obtain⟨m1,m2,m3,hc1⟩:=z0.c1
obtain⟨s2,hc2⟩:=z2.c0
obtain⟨k1,k2,k3,hc3⟩:=z2.c1
have f0:=z0.f0
have f1:=z0.f1
have f2:=z2.f0
have f3:=z2.f1
simp only[Nat.zero_add] at hc1 f1
simp only[Nat.reduceAdd] at hc3 f3
have ne1:zb≠w.heap.size:=by omega
have ne2:zb≠W1.heap.size:=by omega
have hR:=qdy z0 z2 x1 y1 x2 x3 y2 y3 hvi hvj
have hRR:=af hR
clear hR
go_wp2_with fail
refine (qbf zb p q _ (ae hRR) hp hq hq0 N D eN0 eD0).mono ?_
rintro e w' ⟨rfl,hbn,hr⟩
go_wp2
go_ret
exact⟨rfl,(((((B12.of_nil (l:=[zb])).setCell (by simp) _).setCell (by simp) _).setCell (by simp) _).setCell (by simp) _).trans hbn (by simp),hr⟩)
theorem zfo (w:World) (t:TypeId):Slot (w.alloc (.cells #[.bool false,.slice none 0 0,.bool false,.slice none 0 0] t)) w.heap.size 0∧Slot (w.alloc (.cells #[.bool false,.slice none 0 0,.bool false,.slice none 0 0] t)) w.heap.size 2 :=
 ⟨⟨⟨false,by simp⟩,⟨none,0,0,by simp⟩,by simp,by simp⟩,⟨⟨false,by simp⟩,⟨none,0,0,by simp⟩,by simp,by simp⟩⟩
theorem zlk (zb:Nat) (x:Int) (w:World) (h1:-9223372036854775808≤x) (h2:x<9223372036854775808) (hz0:Slot w zb 0) (hz2:Slot w zb 2) :
  Calls prog 117 #[.pointer (some ⟨zb,0,none⟩),.int .i64 x] w fun e w'=>e=.returned (.pointer (some ⟨zb,0,none⟩))∧But [zb] w w'∧qd w' zb x 1:=by(
go_enter func117,ntmps117
go_wp2_with fail
refine (zar x _ h1 h2).mono ?_
rintro e w1 ⟨rfl,B1,I1,S1⟩
go_wp2_with fail
refine (zar 1 _ (by omega) (by omega)).mono ?_
rintro e w2 ⟨rfl,B2,I2,S2⟩
go_wp2_with fail
have B12:=B1.trans' B2
refine (zaa zb w.heap.size 0 w1.heap.size 0 x 1 _ (hz0.but B12 (by simp)) (hz2.but B12 (by simp)) (I1.but B2) I2 (by have:=dx x.natAbs (by omega);omega) (by have:=dx 1 (by omega);simpa using Nat.lt_of_le_of_lt this (by omega)) (by omega) x 1 ?_ ?_).mono ?_
·show x=_
 rw[if_neg (by omega)]
 exact (zmw x 1 (Nat.gcd_one_right _)).symm
·show (1:Int)=_
 exact (zmx x 1 (Nat.gcd_one_right _)).symm
rintro e w3 ⟨rfl,B3,R3⟩
go_wp2
go_ret
exact⟨rfl,(B12.of_nil (l:=[zb])).trans B3 (by simp),R3⟩)
theorem zwg (x:Int) (w:World) (h1:-9223372036854775808≤x) (h2:x<9223372036854775808) :
  Calls prog 36 #[.int .i64 x] w fun e w'=>∃ zb,e=.returned (.pointer (some ⟨zb,0,none⟩))∧But [] w w'∧qd w' zb x 1:=by(
go_enter func36,ntmps36
go_wp2_with fail
have hs:=zfo w 141
refine (zlk w.heap.size x _ h1 h2 hs.1 hs.2).mono ?_
rintro e w3 ⟨rfl,B3,R3⟩
go_wp2
go_ret
exact⟨w.heap.size,rfl,((But.refl _ _).alloc _).trans B3 (by simp),R3⟩)
theorem pq (b:Nat) (p:Int) (n:Nat) (w:World) (h:qd w b p n) (hn0:0<n) :
  Calls prog 186 #[.pointer (some ⟨b,0,none⟩)] w fun e w'=>e=.returned (.pointer (some ⟨b,2,none⟩))∧w'=w:=by(
obtain⟨-,⟨-,vb,b1,hvb⟩,-,-⟩:=h
simp only[Nat.reduceAdd] at b1
have hl:(wd 4294967296 n).length≠0:=by rw[ne_eq,zh (by omega)];omega
rw[Int.natAbs_natCast] at hvb
obtain⟨a,cap,rfl,-,-⟩:=hvb
have n0:(((wd 4294967296 n).length:Int)==0)=false:=by simp;intro h;simp[h] at hl
generalize (wd 4294967296 n).length=l at *
go_enter func186,ntmps186
go_wp2
go_ret
exact⟨rfl,rfl⟩)
theorem zuh (b o:Nat) (z:Int) (w:World) (h:ze w b o z) (s:Int) (hs:Hid (s=z.sign)) (hl:(wd 4294967296 z.natAbs).length<2147483648) :
  Calls prog 198 #[.pointer (some ⟨b,o,none⟩)] w fun e w'=>e=.returned (.int .i64 s)∧w'=w:=by(
obtain⟨b0,vb,b1,hvb⟩:=h
have hz:=zh (B:=4294967296) (by omega) z.natAbs
obtain⟨a,cap,rfl,-,-⟩:=hvb
generalize (wd 4294967296 z.natAbs).length=l at *
by_cases h0:z=0
·(
have hl0:l=0:=by omega
subst hl0
clear hz
have es:Hid (s=0):=by show _=_;rw[ae hs,h0];rfl
clear h0 hs
go_enter func198,ntmps198
go_wp2
go_ret
exact⟨by rw[ae es];rfl,rfl⟩)
·(
have n0:((l:Int)==0)=false:=by simp;omega
clear hz
by_cases h1:z<0
·(
have es:Hid (s=-1):=by show _=_;rw[ae hs,Int.sign_eq_neg_one_of_neg h1]
rw[decide_eq_true h1] at b0
clear h0 h1 hs
go_enter func198,ntmps198
go_wp2
go_ret
exact⟨by rw[ae es];rfl,rfl⟩)
·(
have es:Hid (s=1):=by show _=_;rw[ae hs,Int.sign_eq_one_of_pos (by omega)]
rw[decide_eq_false h1] at b0
clear h0 h1 hs
go_enter func198,ntmps198
go_wp2
go_ret
exact⟨by rw[ae es];rfl,rfl⟩)))
theorem ztc (b:Nat) (p q:Int) (w:World) (h:qd w b p q) (s:Int) (hs:Hid (s=p.sign)) (hl:(wd 4294967296 p.natAbs).length<2147483648) :
  Calls prog 106 #[.pointer (some ⟨b,0,none⟩)] w fun e w'=>e=.returned (.int .i64 s)∧w'=w:=by(
go_enter func106,ntmps106
go_wp2_with fail
refine (zuh b 0 p _ h.up s hs hl).mono ?_
rintro e w' ⟨rfl,hw⟩
obtain rfl:=hw.symm
go_wp2
go_ret
exact⟨rfl,rfl⟩)
theorem qad (w:World) (o:Obj) (t:TypeId):Slot ((w.alloc o).alloc (.cells #[.bool false,.slice none 0 0] t)) (w.heap.size+1) 0:=by
 have h:=ku (w.alloc o) t
 simpa using h
theorem qdj (w:World) (t:TypeId):Slot (w.alloc (.cells #[.bool false,.slice none 0 0] t)).drew w.heap.size 0:=(ku w t).drew
theorem zqv (w:World) (o:Obj) (t:TypeId):Slot ((w.alloc (.cells #[.bool false,.slice none 0 0] t)).alloc o).drew w.heap.size 0:=Slot.drew ((ku w t).but ((But.refl [] _).alloc o) (by simp))
theorem zqu (w:World) (o:Obj) (t:TypeId):Slot ((w.alloc o).alloc (.cells #[.bool false,.slice none 0 0] t)).drew (w.heap.size+1) 0:=Slot.drew (qad w o t)
theorem ze.drew {w:World} {b o:Nat} {z:Int} (h:ze w b o z):ze w.drew b o z:=h
theorem di (A b1 o1 b2 o2:Nat) (x y z:Int) (hz:x*y=z) (w P:World) (hs:Slot P A 0) (hw:But [] w P) (hA:w.heap.size≤A) (hx:ze w b1 o1 x) (hy:ze w b2 o2 y) (hlx:(wd 4294967296 x.natAbs).length<8388608) (hly:(wd 4294967296 y.natAbs).length<8388608) (hlz:(wd 4294967296 z.natAbs).length<8388608) :
  Calls prog 188 #[.pointer (some ⟨A,0,none⟩),.pointer (some ⟨b1,o1,none⟩),.pointer (some ⟨b2,o2,none⟩)] P fun e W1=>e=.returned (.pointer (some ⟨A,0,none⟩))∧But [] w W1∧ze W1 A 0 z∧(∀ B,B≠A→Slot P B 0→Slot W1 B 0)∧(∀ b o z,b≠A→ze P b o z→ze W1 b o z)∧P.heap.size≤W1.heap.size:=by(
have l1:=hx.lt
have l2:=hy.lt
refine (znq A 0 b1 o1 b2 o2 x y P hs (by omega) (by omega) (hx.but hw) (hy.but hw) (by omega) (by omega) (by rw[← Int.natAbs_mul,hz];omega)).mono ?_
rintro e W1 ⟨rfl,w1,v,hb,hv,rfl⟩
rw[hz] at hv ⊢
have hs1:=hs.but hb (by simp)
exact⟨rfl,(hw.trans' hb).trans (zdg ..) (by simp;exact hA),zdf hs1 _ _ hv,fun B hB hS=>yu _ _ (hS.but hb (by simp)) (.inl hB),fun b o z' hB hI=>ic hs1 _ _ (hI.but hb) (.inl hB),by rw[zgq];exact hb.size⟩)
end Go.Proofs.YtpmjeclpkahkmaaGreatDoor
