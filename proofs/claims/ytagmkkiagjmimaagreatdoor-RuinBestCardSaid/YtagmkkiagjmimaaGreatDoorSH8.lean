/- A ratio is brought into lowest terms, as -/
import Derived.Test.YtagmkkiagjmimaaGreatDoorSH7
namespace Go.Proofs.YtagmkkiagjmimaaGreatDoor
set_option linter.unusedVariables false
open Go.Proofs.Tryz
open Go.RowKit
set_option maxHeartbeats 8000000
set_option maxRecDepth 100000
theorem Slot.drew {w:World} {b o:Nat} (h:Slot w b o):Slot w.drew b o:=⟨h.c0,h.c1,h.f0,h.f1⟩
structure zx (w:World) (b:Nat) (p q:Int):Prop where
 up:za w b 0 p
 low:za w b 2 q
 sa:Slot w b 0
 sb:Slot w b 2
theorem zx.but {w w':World} {b:Nat} {p q:Int} (h:zx w b p q) (hb:But [] w w'):zx w' b p q :=
 ⟨h.up.but hb,h.low.but hb,h.sa.but hb (by simp),h.sb.but hb (by simp)⟩
theorem zx.drew {w:World} {b:Nat} {p q:Int} (h:zx w b p q):zx w.drew b p q:=⟨h.up,h.low,h.sa.drew,h.sb.drew⟩
theorem zx.lt {w:World} {b:Nat} {p q:Int} (h:zx w b p q):b<w.heap.size:=h.sa.lt
theorem Sl.zqc {w:World} {v:Value} {n:Nat} (h:Sl .u32 w v (wd 4294967296 n)) (hn:0<n) (hl:(wd 4294967296 n).length<8388608) :
   ∃ b off l cap,v=.slice (some ⟨b,off,none⟩) l cap∧w.cell? ⟨b,off,none⟩=some (.int .u32 (n%4294967296:Nat))∧((l=1∧n<4294967296)∨((2≤l∧l<8388608)∧4294967296≤n)):=by(
 rcases h.open with ⟨e,-⟩|⟨h0,b,off,cap,rfl,-,-,hc⟩
 ·rw[ve (by omega)] at e;omega
 ·(
 have c0:=hc 0 h0
 rw[zau (by omega) hn] at c0
 simp only[List.getElem?_cons_zero,Option.getD_some,Nat.add_zero] at c0
 refine⟨b,off,_,cap,rfl,c0,?_⟩
 rcases Nat.lt_or_ge n 4294967296 with h1 | h1
 ·have:=aj (B:=4294967296) (by omega) n 1 (by simpa using h1)
  exact .inl ⟨by omega,h1⟩
 ·(
 refine .inr ⟨⟨?_,hl⟩,h1⟩
 rcases Nat.lt_or_ge (wd 4294967296 n).length 2 with h2 | h2
 ·have:=ak (B:=4294967296) (by omega) n 1 (by omega)
  simp at this
  omega
 ·exact h2)))
theorem qcu (m n:Nat) (hn:0<n) (hl:(wd 4294967296 n).length<8388608):(wd 4294967296 (Nat.gcd m n)).length<8388608 :=
 Nat.lt_of_le_of_lt (aj (by omega) _ _ (Nat.lt_of_le_of_lt (Nat.gcd_le_right _ hn) (ak (by omega) n _ (Nat.le_refl _)))) hl
def zch (p:Int) (n:Nat):Int:=if p<0 then -((p.natAbs/Nat.gcd p.natAbs n:Nat):Int) else ((p.natAbs/Nat.gcd p.natAbs n:Nat):Int)
def zci (p:Int) (n:Nat):Int:=((n/Nat.gcd p.natAbs n:Nat):Int)
theorem zxu (n:Nat):zch 0 n=0:=by simp[zch]
theorem zxv (n:Nat) (h:0<n):zci 0 n=1:=by simp[zci,Nat.div_self h]
theorem zki (p:Int) (n:Nat) (h:Nat.gcd p.natAbs n=1):zch p n=p:=by rw[zch,h];split <;> simp <;> omega
theorem zkj (p:Int) (n:Nat) (h:Nat.gcd p.natAbs n=1):zci p n=n:=by rw[zci,h];simp
theorem zqv (p:Int) (n:Nat):(zch p n).natAbs=p.natAbs/Nat.gcd p.natAbs n:=by(
 rw[zch]
 generalize p.natAbs/Nat.gcd p.natAbs n=k
 split <;> omega)
theorem qbd (p:Int) (n:Nat):decide (zch p n<0)=decide (p<0):=by(
 rw[zch]
 by_cases h:p<0
 ·have:0<p.natAbs/Nat.gcd p.natAbs n:=Nat.div_pos (Nat.gcd_le_left _ (by omega)) (Nat.gcd_pos_of_pos_left _ (by omega))
  generalize p.natAbs/Nat.gcd p.natAbs n=k at *
  rw[if_pos h,decide_eq_true h,decide_eq_true]
  omega
 ·generalize p.natAbs/Nat.gcd p.natAbs n=k
  rw[if_neg h,decide_eq_false h,decide_eq_false]
  omega)
theorem zxw {w:World} {b:Nat} {p:Int} {n g:Nat} (h:zx w b p (n:Int)) (hg:Nat.gcd p.natAbs n=g) (v1 v2:Value) (h1:Sl .u32 w v1 (wd 4294967296 (p.natAbs/g))) (h2:Sl .u32 w v2 (wd 4294967296 (n/g))) :
   zx ((w.setCell ⟨b,1,none⟩ v1).setCell ⟨b,3,none⟩ v2) b (zch p n) (zci p n):=by(
 obtain⟨⟨a0,va,a1,hva⟩,⟨b0,vb,b1,hvb⟩,sa,sb⟩:=h
 obtain⟨x1,x2,x3,a1'⟩:=sa.c1
 obtain⟨y1,y2,y3,b1'⟩:=sb.c1
 simp only[Nat.zero_add] at a1 a1'
 simp only[Nat.reduceAdd] at b1 b1'
 have o1:∀ v,(w.setCell ⟨b,1,none⟩ v).cell? ⟨b,3,none⟩=w.cell? ⟨b,3,none⟩:=fun v=>World.cell?_setCell_other _ _ _ _ (by simp)
 have tr:∀ {v xs},Sl .u32 w v xs→Sl .u32 ((w.setCell ⟨b,1,none⟩ v1).setCell ⟨b,3,none⟩ v2) v xs:=fun h =>
  (h.setCell ⟨b,1,none⟩ rfl v1 _ a1' (by simp)).setCell ⟨b,3,none⟩ rfl v2 (.slice y1 y2 y3) (by rw[o1];exact b1') (by simp)
 have c1:((w.setCell ⟨b,1,none⟩ v1).setCell ⟨b,3,none⟩ v2).cell? ⟨b,1,none⟩=some v1:=by
  rw[World.cell?_setCell_other _ _ _ _ (by simp)];exact World.cell?_setCell_same _ _ _ a1
 have c3:((w.setCell ⟨b,1,none⟩ v1).setCell ⟨b,3,none⟩ v2).cell? ⟨b,3,none⟩=some v2 :=
  World.cell?_setCell_same _ _ _ (u:=vb) (by rw[o1];exact b1)
 have c0:((w.setCell ⟨b,1,none⟩ v1).setCell ⟨b,3,none⟩ v2).cell? ⟨b,0,none⟩=w.cell? ⟨b,0,none⟩:=by
  rw[World.cell?_setCell_other _ _ _ _ (by simp),World.cell?_setCell_other _ _ _ _ (by simp)]
 have c2:((w.setCell ⟨b,1,none⟩ v1).setCell ⟨b,3,none⟩ v2).cell? ⟨b,2,none⟩=w.cell? ⟨b,2,none⟩:=by
  rw[World.cell?_setCell_other _ _ _ _ (by simp),World.cell?_setCell_other _ _ _ _ (by simp)]
 obtain⟨z1,z2,z3,e1⟩:=h1.slice
 obtain⟨u1,u2,u3,e2⟩:=h2.slice
 obtain⟨s0,hs0⟩:=sa.c0
 obtain⟨t0,ht0⟩:=sb.c0
 refine⟨⟨by rw[c0,a0,qbd],v1,c1,tr (by rw[zqv,hg];exact h1)⟩,⟨?_,v2,c3,tr (by rw[zci,Int.natAbs_natCast,hg];exact h2)⟩,⟨⟨s0,by rw[c0];exact hs0⟩,⟨z1,z2,z3,by rw[← e1];exact c1⟩,by simp[sa.f0],by have:=sa.f1;simp at this ⊢;exact this⟩,⟨⟨t0,by rw[c2];exact ht0⟩,⟨u1,u2,u3,by rw[← e2];exact c3⟩,by simp[sb.f0],by have:=sb.f1;simp at this ⊢;exact this⟩⟩
 rw[c2,b0,zci]
 rw[show decide ((n:Int)<0)=false from decide_eq_false (by omega),show decide (((n/Nat.gcd p.natAbs n:Nat):Int)<0)=false from decide_eq_false (Int.not_lt.2 (Int.natCast_nonneg _))])
theorem zyq (b:Nat) (p q:Int) (w:World) (h:zx w b p q) (hp:(wd 4294967296 p.natAbs).length<8388608) (hq:(wd 4294967296 q.natAbs).length<8388608) (hq0:q≠0) (N D:Int) (eN0:Hid (N=zch (if q<0 then -p else p) q.natAbs)) (eD0:Hid (D=zci p q.natAbs)) :
   Calls prog 152 #[.pointer (some ⟨b,0,none⟩)] w fun e w'=>e=.returned (.pointer (some ⟨b,0,none⟩))∧But [b] w w'∧zx w' b N D:=by(
 by_cases hneg:q<0
 case' pos =>(
 have h':=h
 obtain⟨⟨a0,va,a1,hva⟩,⟨b0,vb,b1,hvb⟩,sa,sb⟩:=h'
 simp only[Nat.zero_add] at a1
 simp only[Nat.reduceAdd] at b1
 obtain⟨bb,ob,lb,cb,rfl,cb0,hlb⟩:=hvb.zqc (by omega) hq
 have n0:((lb:Int)==0)=false:=by simp;omega
 have hlb1:1≤lb:=by omega
 clear hlb hvb hva
 have b0':w.cell? ⟨b,2,none⟩=some (.bool true):=by rw[b0,decide_eq_true hneg]
 clear b0
 go_enter func152,ntmps152
 go_wp2
 go_region_with (go_at_call 196;refine (zwf b 0 b 0 p _ ?_ ?_ (by omega)).mono ?_;exact h.sa.drew;exact h.up;rintro e W1 ⟨rfl,H1⟩;have H1':=af H1;clear H1)
 obtain⟨h1,B1⟩:zx W1 b (-p) q∧But [b] w W1:=by
  obtain⟨w1,v1,hb1,hv1,rfl⟩:=ae H1'
  have hw:=h.drew.but hb1
  obtain⟨aa,na,ca,rfl⟩:=hv1.slice
  exact⟨⟨zbm hw.sa _ _ hv1,yu hw.sa _ _ hw.low (by omega),zea hw.sa _ _ _ _,kv _ _ hw.sb (by omega)⟩,((But.refl [b] w).drew.trans' hb1).trans (zbn ..) (by simp)⟩
 go_wp2
 go_region_with (go_at_call 196;refine (zwf b 2 b 2 q _ ?_ ?_ (by omega)).mono ?_;exact h1.sb.drew;exact h1.low;rintro e W ⟨rfl,H2⟩;have H2':=af H2;clear H2)
 obtain⟨hR,hB⟩:zx W b (-p) (-q)∧But [b] w W:=by
  obtain⟨w1,v1,hb1,hv1,rfl⟩:=ae H2'
  have hw:=h1.drew.but hb1
  obtain⟨aa,na,ca,rfl⟩:=hv1.slice
  exact⟨⟨yu hw.sb _ _ hw.up (by omega),zbm hw.sb _ _ hv1,kv _ _ hw.sa (by omega),zea hw.sb _ _ _ _⟩,(B1.drew.trans' hb1).trans (zbn ..) (by simp)⟩
 clear H1' H2' h1 B1 a0 a1 b1 b0' sa sb h cb0 n0 hlb1
 obtain⟨p1,hp1⟩:∃ p1,p1=-p:=⟨_,rfl⟩
 obtain⟨n,hn⟩:∃ n:Nat,n=q.natAbs:=⟨_,rfl⟩
 have eN:Hid (N=zch p1 n):=by show _=_;rw[ae eN0,if_pos hneg,hp1,hn]
 have eD:Hid (D=zci p1 n):=by show _=_;rw[ae eD0,hn,hp1];simp[zci]
 rw[← hp1,show -q=(n:Int) from by omega] at hR
 have hp64:(wd 4294967296 p1.natAbs).length<8388608:=by rw[hp1];first | exact hp | (rw[Int.natAbs_neg];exact hp)
 have hn64:(wd 4294967296 n).length<8388608:=by rw[hn];exact hq
 have hn0:0<n:=by omega
 clear hp hq hq0 hneg hp1 hn eN0 eD0)
 case' neg =>(
 obtain⟨n,hn⟩:∃ n:Nat,n=q.natAbs:=⟨_,rfl⟩
 obtain⟨p1,hp1⟩:∃ p1,p1=p:=⟨_,rfl⟩
 have eN:Hid (N=zch p1 n):=by show _=_;rw[ae eN0,if_neg hneg,hp1,hn]
 have eD:Hid (D=zci p1 n):=by show _=_;rw[ae eD0,hn,hp1]
 have hR:=h
 rw[← hp1,show q=(n:Int) from by omega] at hR
 have hp64:(wd 4294967296 p1.natAbs).length<8388608:=by rw[hp1];first | exact hp | (rw[Int.natAbs_neg];exact hp)
 have hn64:(wd 4294967296 n).length<8388608:=by rw[hn];exact hq
 have hn0:0<n:=by omega
 clear h hp hq hq0 hneg hp1 hn eN0 eD0
 refine (?_:∀ W,zx W b p1 n→But [b] w W→Calls prog 152 #[.pointer (some ⟨b,0,none⟩)] W fun e w'=>e=.returned (.pointer (some ⟨b,0,none⟩))∧But [b] w w'∧zx w' b N D) w hR (But.refl _ _)
 clear hR
 intro W hR hB
 go_enter func152,ntmps152)
 all_goals(
 have hR':=hR
 obtain⟨⟨a0,va,a1,hva⟩,⟨b0,vb,b1,hvb⟩,sa,sb⟩:=hR'
 simp only[Nat.zero_add] at a1
 simp only[Nat.reduceAdd] at b1
 rw[show decide ((n:Int)<0)=false from decide_eq_false (by omega)] at b0
 rw[Int.natAbs_natCast] at hvb
 have hvb':=hvb
 obtain⟨bb,ob,lb,cb,rfl,cb0,hlb⟩:=hvb'.zqc hn0 hn64
 have n0:((lb:Int)==0)=false:=by simp;omega
 by_cases hp0:p1=0
 ·(
 subst hp0
 simp only[Int.natAbs_zero,zh] at hva
 obtain⟨aa,ca,rfl,-,-⟩:=hva
 clear hlb hvb a0
 go_wp2_with fail
 refine (zfu b 2 1 _ (by omega) (by omega) sb).mono ?_
 rintro e W' ⟨rfl,H⟩
 have H':=af H
 clear H
 go_wp2
 go_ret
 rw[ae eN,ae eD,zxu,zxv n hn0]
 obtain⟨w1,v1,hb1,hv1,rfl⟩:=ae H'
 have hw:=hR.but hb1
 obtain⟨aa,na,ca,rfl⟩:=hv1.slice
 exact⟨rfl,(hB.trans' hb1).trans (zbn ..) (by simp),yu hw.sb _ _ hw.up (by omega),zbm hw.sb _ 1 hv1,kv _ _ hw.sa (by omega),zea hw.sb _ _ _ _⟩)
 ·(
 have hva':=hva
 obtain⟨ba,oa,la,ca,rfl,ca0,hla⟩:=hva'.zqc (by omega) hp64
 have n0a:((la:Int)==0)=false:=by simp;omega
 clear ca0 hla
 by_cases hn1:n=1
 ·(
 subst hn1
 have hlb1:lb=1:=by omega
 subst hlb1
 simp only[Nat.reduceMod] at cb0
 clear hlb hva hvb
 go_wp2
 go_ret
 rw[ae eN,ae eD,zki _ _ (Nat.gcd_one_right _),zkj _ _ (Nat.gcd_one_right _)]
 exact⟨rfl,hB,hR⟩)
 ·(
 have hlb1:1≤lb:=by omega
 rcases hlb with ⟨hl,hlb⟩|⟨hl,hlb⟩
 case' inl=>have t1:((lb:Int)==1)=true:=by rw[hl];rfl
 case' inr=>have t1:((lb:Int)==1)=false:=beq_eq_false_iff_ne.2 (by omega)
 all_goals(
 have hlb2:lb<8388608:=by omega
 clear hl
 have g1:(((n%4294967296:Nat):Int)==1)=decide (n%4294967296=1):=by rw[Bool.eq_iff_iff];simp;omega
 go_wp2
 go_region_held (fun w'=>w'.cell? ⟨b,1,none⟩=some (.slice (some ⟨ba,oa,none⟩) la ca)∧w'.cell? ⟨b,3,none⟩=some (.slice (some ⟨bb,ob,none⟩) lb cb)) (go_keep) ((go_at_call 197;refine (zsj _ _ p1.natAbs n _ ?_ ?_ hp64 hn64).mono ?_;exact hva;exact hvb;rintro e wg ⟨vg,rfl,hvg,hbg⟩;have hbW:But [] W wg:=(by first | exact hbg | exact (But.refl _ _).drew.trans' hbg);have k1:=hbW.ag a1 (by simp);have k3:=hbW.ag b1 (by simp)))
 have hRg:=hR.but hbW
 have hG0:0<Nat.gcd p1.natAbs n:=Nat.gcd_pos_of_pos_right _ hn0
 have hG64:=qcu p1.natAbs n hn0 hn64
 have hvag:=hva.ah hbW
 have hvbg:=hvb.ah hbW
 have hvg':=hvg
 obtain⟨bg,og,lg,cg,rfl,cg0,hlg⟩:=hvg'.zqc hG0 hG64
 have hBg:But [b] w wg:=hB.trans' hbW
 clear a0 a1 b0 b1 sa sb cb0 hva hvb hbg hbW
 have hlg1:1≤lg:=by omega
 by_cases hg1:Nat.gcd p1.natAbs n=1
 ·(
 rw[hg1] at cg0
 simp only[Nat.reduceMod] at cg0
 have t2:((lg:Int)==1)=true:=by simp;omega
 clear hlg hvg hvag hvbg hG0 hG64
 go_wp2
 go_ret
 rw[ae eN,ae eD,zki _ _ hg1,zkj _ _ hg1]
 exact⟨rfl,hBg,hRg⟩)
 ·(
 rcases hlg with ⟨hl,hlg⟩|⟨hl,hlg⟩
 case' inl=>have t2:((lg:Int)==1)=true:=by rw[hl];rfl
 case' inr=>have t2:((lg:Int)==1)=false:=beq_eq_false_iff_ne.2 (by omega)
 all_goals(
 have g2:(((Nat.gcd p1.natAbs n%4294967296:Nat):Int)==1)=decide (Nat.gcd p1.natAbs n%4294967296=1):=by rw[Bool.eq_iff_iff];simp;omega
 generalize hgd:Nat.gcd p1.natAbs n=g at *
 have HG:=af hgd
 clear hgd
 clear hl
 have C1:=af k1
 have C3:=af k3
 go_wp2_with fail
 refine (zgr _ _ p1.natAbs g wg hvag hvg hG0 hp64 hG64).mono ?_
 rintro e w1 ⟨q1,r1,rfl,hq1,hr1,hb1⟩
 have l3:=hb1.ag (ae C3) (by simp)
 go_wp2_with fail
 refine (zgr _ _ n g w1 (hvbg.ah hb1) (hvg.ah hb1) hG0 hn64 hG64).mono ?_
 rintro e w2 ⟨q2,r2,rfl,hq2,hr2,hb2⟩
 obtain⟨z1,z2,z3,rfl⟩:=hq1.slice
 obtain⟨u1,u2,u3,rfl⟩:=hq2.slice
 have hR2:=(hRg.but hb1).but hb2
 have m1:=hb2.ag (hb1.ag (ae C1) (by simp)) (by simp)
 have m3:=hb2.ag l3 (by simp)
 have f1:=hR2.sa.f1
 have f3:=hR2.sb.f1
 simp only[Nat.zero_add] at f1
 simp only[Nat.reduceAdd] at f3
 go_wp2
 go_ret
 rw[ae eN,ae eD]
 exact⟨rfl,(((hBg.trans' hb1).trans' hb2).setCell (by simp) _).setCell (by simp) _,zxw hR2 (ae HG) _ _ (hq1.ah hb2) hq2⟩)))))))
end Go.Proofs.YtagmkkiagjmimaaGreatDoor
