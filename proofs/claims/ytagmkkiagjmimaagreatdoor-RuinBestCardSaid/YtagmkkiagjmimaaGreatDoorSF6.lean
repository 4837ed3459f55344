/- The sum of two fractions, as the Go text -/
import Derived.Test.YtagmkkiagjmimaaGreatDoorSF3
namespace Go.Proofs.YtagmkkiagjmimaaGreatDoor
set_option linter.unusedVariables false
open Go.Proofs.Tryz
open Go.RowKit
set_option maxHeartbeats 8000000
set_option maxRecDepth 100000
theorem zbt (lenF lenG:Nat) (hab:lenF+lenG+1≤1000000) (vf vg:Value) (f g:Rat) (w:World) (hf:am w vf f) (hg:am w vg g) (lf:Len f lenF) (lg:Len g lenG) :
   Calls prog 113 #[vf,vg] w fun e w'=>∃ v,e=.returned v∧am w' v (f+g)∧But [] w w':=by(
 obtain⟨k,hk⟩:∃ k,k=Nat.gcd f.den g.den:=⟨_,rfl⟩
 have k0p:0<k:=by rw[hk];exact Nat.gcd_pos_of_pos_left _ (den_pos f)
 have kl:(wd 18446744073709551616 k).length≤lenG:=Nat.le_trans (au (by rw[hk];exact Nat.gcd_le_right _ (den_pos g))) lg.2
 have NF:=af (fun W (h:am W vf f)=>kz vf f W h)
 have NG:=af (fun W (h:am W vg g)=>kz vg g W h)
 obtain⟨lf1,lf2⟩:=lf
 obtain⟨lg1,lg2⟩:=lg
 have q3l:=ui f.den k lenF lf2
 have q4l:=ui g.den k lenG lg2
 have m1l:=qi f.num.natAbs (g.den/k)
 have m2l:=qi g.num.natAbs (f.den/k)
 have LM:Hid (∀ M,M≤f.num.natAbs*(g.den/k)+g.num.natAbs*(f.den/k)→(wd 18446744073709551616 M).length≤1000000):=fun M hM=>by
  have h1:=ak (B:=18446744073709551616) (by omega) (f.num.natAbs*(g.den/k)) (lenF+lenG) (by omega)
  have h2:=ak (B:=18446744073709551616) (by omega) (g.num.natAbs*(f.den/k)) (lenF+lenG) (by omega)
  have h3:=rf _ _ (lenF+lenG) h1 h2
  have h4:=au hM
  omega
 have AL:Hid (∀ (r:Bool) (M m:Nat),m=Nat.gcd M k→sgn (decide (f.num<0)) (f.num.natAbs*(g.den/k))+sgn (decide (g.num<0)) (g.num.natAbs*(f.den/k))=sgn r M→(f+g).num=sgn r (M/m)∧(f+g).den=(f.den/k)*(g.den/m)):=fun r M m hm h1=>zpm f g r M k m hk hm (by rw[← h1,ug,ug,← zev f,← zev g])
 have G1:=af (fun (W:World) (v1 v2:Value) (a:Sl .u64 W v1 (wd 18446744073709551616 f.den)) (b:Sl .u64 W v2 (wd 18446744073709551616 g.den))=>zay v1 v2 f.den g.den W a b (by omega) (by omega))
 rw[← hk] at G1
 have Q3:=af (fun (W:World) (v1 v2:Value) (a:Sl .u64 W v1 (wd 18446744073709551616 f.den)) (b:Sl .u64 W v2 (wd 18446744073709551616 k))=>j4 v1 v2 f.den k W a b k0p (by omega) (by omega) (Short.of _ _ (by omega)))
 have Q4:=af (fun (W:World) (v1 v2:Value) (a:Sl .u64 W v1 (wd 18446744073709551616 g.den)) (b:Sl .u64 W v2 (wd 18446744073709551616 k))=>j4 v1 v2 g.den k W a b k0p (by omega) (by omega) (Short.of _ _ (by omega)))
 have M1:=af (fun (W:World) (v1 v2:Value) (a:Sl .u64 W v1 (wd 18446744073709551616 f.num.natAbs)) (b:Sl .u64 W v2 (wd 18446744073709551616 (g.den/k)))=>qz v1 v2 _ _ W a b (by omega))
 have M2:=af (fun (W:World) (v1 v2:Value) (a:Sl .u64 W v1 (wd 18446744073709551616 g.num.natAbs)) (b:Sl .u64 W v2 (wd 18446744073709551616 (f.den/k)))=>qz v1 v2 _ _ W a b (by omega))
 have SS:=af (fun (W:World) (v1 v2:Value) (a:Sl .u64 W v1 (wd 18446744073709551616 (f.num.natAbs*(g.den/k)))) (b:Sl .u64 W v2 (wd 18446744073709551616 (g.num.natAbs*(f.den/k))))=>zlr (decide (f.num<0)) (decide (g.num<0)) v1 v2 _ _ W a b (by omega) (by omega))
 have MW:=af (fun (W:World) h1 h2 h3 h4=>zmp f g W h1 h2 h3 h4)
 have KL:=af kl
 have K0:=af k0p
 have DL:=af lg2
 have QL:=af q3l
 have HFA:=af hf
 have HGA:=af hg
 obtain⟨x1,y1,p1,rfl,hw1⟩:=hf.agg
 obtain⟨x2,y2,p2,rfl,hw2⟩:=hg.agg
 have HW1:=af hw1
 have HW2:=af hw2
 clear hk hf hg hw1 hw2 kl k0p q3l q4l m1l m2l lf1 lf2 lg1 lg2
 generalize f.num.natAbs*(g.den/k)=P1 at *
 generalize g.num.natAbs*(f.den/k)=P2 at *
 generalize f.den/k=q3 at *
 generalize g.den/k=q4 at *
 generalize hsf:decide (f.num<0)=s1 at *
 generalize hsg:decide (g.num<0)=s2 at *
 clear hsf hsg
 obtain⟨W,hW⟩:∃ W,W=(((w.alloc (.cells #[.bool s1,.int .u64 x1,.int .u64 y1,.pointer p1] 27)).alloc (.cells #[.bool s2,.int .u64 x2,.int .u64 y2,.pointer p2] 27)).alloc (.cells #[.bool false,.int .u64 0,.int .u64 0,.pointer none] 27)):=⟨_,rfl⟩
 obtain⟨tA,tB,tC,fz,hB⟩:=zcf w W _ _ _ _ hW
 have a0:=tA 0
 have a1:=tA 1
 have a2:=tA 2
 have a3:=tA 3
 have b0:=tB 0
 have b1:=tB 1
 have b2:=tB 2
 have b3:=tB 3
 have r0:=tC 0
 have r1:=tC 1
 have r2:=tC 2
 have r3:=tC 3
 simp only[List.getElem?_toArray,List.getElem?_cons_zero,List.getElem?_cons_succ] at a0 a1 a2 a3 b0 b1 b2 b3 r0 r1 r2 r3
 have BL:Hid (Blank W (w.heap.size+2)):=⟨r0,r1,r2,r3,fun j hj=>by rw[tC j];simp;omega⟩
 clear tA tB tC
 have HW:=af hW
 have HB:=af hB
 clear hW hB
 by_cases hpp:p1=none∧p2=none
 case' pos =>(
 obtain⟨rfl,rfl⟩:=hpp
 obtain⟨h1,h2,ex1,ey1⟩:=ae HW1 rfl
 obtain⟨h3,h4,ex2,ey2⟩:=ae HW2 rfl
 have MW':=af (ae MW W h1 h2 h3 h4)
 rw[← ex1,← ey1,← ex2,← ey2] at MW'
 clear MW HW1 HW2 h1 h2 h3 h4 ex1 ex2 ey1 ey2
 go_enter func113,ntmps113
 go_wp2_with fail
 rw[← ae HW]
 obtain⟨ga,hga⟩:∃ ga,ga=w.heap.size:=⟨_,rfl⟩
 obtain⟨gb,hgb⟩:∃ gb,gb=w.heap.size+1:=⟨_,rfl⟩
 obtain⟨gr,hgr⟩:∃ gr,gr=w.heap.size+2:=⟨_,rfl⟩
 rw[← hga] at a0 a1 a2 a3
 rw[← hgb] at b0 b1 b2 b3
 rw[← hgr] at r0 r1 r2 r3 fz BL
 rw[show w.heap.size+1+1=w.heap.size+2 from rfl,← hgr,← hgb,← hga]
 have HGR:Hid (w.heap.size≤gr):=by show _≤_;omega
 clear hga hgb hgr HW
 refine (ae MW').mono ?_
 rintro e w0 ⟨r9,x9,y9,ok,rfl,hok,hb0⟩
 have grl:gr<W.heap.size:=ai r0
 have f0:∀ j,w0.frozen? ⟨gr,j,none⟩=false:=fun j=>(hb0.frozen (p:=⟨gr,j,none⟩) grl (by simp)).trans (fz j)
 have BL0:=af ((ae BL).but hb0)
 have a0':=hb0.ag a0 (by simp)
 have a1':=hb0.ag a1 (by simp)
 have a2':=hb0.ag a2 (by simp)
 have a3':=hb0.ag a3 (by simp)
 have b0':=hb0.ag b0 (by simp)
 have b1':=hb0.ag b1 (by simp)
 have b2':=hb0.ag b2 (by simp)
 have b3':=hb0.ag b3 (by simp)
 have r0':=hb0.ag r0 (by simp)
 have r1':=hb0.ag r1 (by simp)
 have r2':=hb0.ag r2 (by simp)
 have r3':=hb0.ag r3 (by simp)
 have HB0:Hid (But [] w w0):=(ae HB).trans' hb0
 have HOK:=af hok
 clear hok hb0 a0 a1 a2 a3 b0 b1 b2 b3 r0 r1 r2 r3 fz MW' HB BL
 have grl0:gr<w0.heap.size:=ai r0'
 cases ok
 rotate_left
 ·(
 have HF9:=af (ae HOK rfl)
 clear HOK
 go_wp2
 have hBf:=(((((ae HB0).setCell (p:=⟨gr,0,none⟩) (.inr (ae HGR)) (.bool r9)).setCell (p:=⟨gr,1,none⟩) (.inr (ae HGR)) (.int .u64 x9)).setCell (p:=⟨gr,2,none⟩) (.inr (ae HGR)) (.int .u64 y9)).setCell (p:=⟨gr,3,none⟩) (.inr (ae HGR)) (.pointer none)).alloc (.cells #[.bool r9,.int .u64 x9,.int .u64 y9,.pointer none] 27)
 have hBg:=(((((But.refl [gr] w0).setCell (p:=⟨gr,0,none⟩) (.inl (by simp)) (.bool r9)).setCell (p:=⟨gr,1,none⟩) (.inl (by simp)) (.int .u64 x9)).setCell (p:=⟨gr,2,none⟩) (.inl (by simp)) (.int .u64 y9)).setCell (p:=⟨gr,3,none⟩) (.inl (by simp)) (.pointer none)).alloc (.cells #[.bool r9,.int .u64 x9,.int .u64 y9,.pointer none] 27)
 exact bodyPost_ret (v:=.agg #[.bool r9,.int .u64 x9,.int .u64 y9,.pointer none]) (by simp[results,results113,go_sem,r0',r1',r2',r3',grl0]) rfl ⟨_,rfl,(ae BL0).zky (ae HF9) hBg,hBf⟩)
 obtain⟨V,hV⟩:∃ V,V=w0.alloc (.cells #[.bool r9,.int .u64 x9,.int .u64 y9,.pointer none] 27):=⟨_,rfl⟩
 have hbV:But [] w0 V:=by rw[hV];exact (But.refl _ _).alloc _
 have HBV:Hid (But [] w V):=(ae HB0).trans' hbV
 have BL:=af ((ae BL0).but hbV)
 have a0:=hbV.ag a0' (by simp)
 have a1:=hbV.ag a1' (by simp)
 have a2:=hbV.ag a2' (by simp)
 have a3:=hbV.ag a3' (by simp)
 have c0:=hbV.ag b0' (by simp)
 have c1:=hbV.ag b1' (by simp)
 have c2:=hbV.ag b2' (by simp)
 have c3:=hbV.ag b3' (by simp)
 have z0:=hbV.ag r0' (by simp)
 have z1:=hbV.ag r1' (by simp)
 have z2:=hbV.ag r2' (by simp)
 have z3:=hbV.ag r3' (by simp)
 have zf:∀ j,V.frozen? ⟨gr,j,none⟩=false:=fun j=>(hbV.frozen (p:=⟨gr,j,none⟩) grl0 (by simp)).trans (f0 j)
 have HV:=af hV
 have gal:ga<w0.heap.size:=ai a0'
 have gbl:gb<w0.heap.size:=ai b0'
 clear hV hbV b0' b1' b2' b3' r0' r1' r2' r3' f0 BL0 HB0 HOK
 go_wp2_with fail
 rw[← ae HV]
 clear a0' a1' a2' a3' HV)
 case' neg =>(
 have hp12:p1≠none∨p2≠none:=by
  rcases Classical.em (p1=none) with h1 | h1
  ·right;intro h2;exact hpp ⟨h1,h2⟩
  ·left;exact h1
 clear hpp MW HW1 HW2
 obtain⟨pp,hpp⟩:∃ pp,pp=(p1,p2):=⟨_,rfl⟩
 clear hpp pp
 rcases p1 with _ | p1
 rcases p2 with _ | p2
 ·simp at hp12
 all_goals(
 clear hp12
 go_enter func113,ntmps113
 go_wp2_with fail
 rw[← ae HW]
 obtain⟨ga,hga⟩:∃ ga,ga=w.heap.size:=⟨_,rfl⟩
 obtain⟨gb,hgb⟩:∃ gb,gb=w.heap.size+1:=⟨_,rfl⟩
 obtain⟨gr,hgr⟩:∃ gr,gr=w.heap.size+2:=⟨_,rfl⟩
 rw[← hga] at a0 a1 a2 a3
 rw[← hgb] at b0 b1 b2 b3
 rw[← hgr] at r0 r1 r2 r3 fz BL
 rw[show w.heap.size+1+1=w.heap.size+2 from rfl,← hgr,← hgb,← hga]
 have HGR:Hid (w.heap.size≤gr):=by show _≤_;omega
 clear hga hgb hgr HW
 obtain⟨V,hV⟩:∃ V,V=W:=⟨_,rfl⟩
 rw[← hV] at a0 a1 a2 a3 b0 b1 b2 b3 r0 r1 r2 r3 fz BL
 rw[← hV]
 have HBV:Hid (But [] w V):=by rw[hV];exact ae HB
 clear hV HB
 have c0:=b0
 have c1:=b1
 have c2:=b2
 have c3:=b3
 have z0:=r0
 have z1:=r1
 have z2:=r2
 have z3:=r3
 have zf:=fz
 clear b0 b1 b2 b3 r0 r1 r2 r3 fz))
 all_goals(
 refine (ae NF _ ((ae HFA).but (ae HBV))).mono ?_
 rintro e w1 ⟨na,nb,rfl,hna,hnb,hb1⟩
 have d0:=hb1.ag c0 (by simp)
 have d1:=hb1.ag c1 (by simp)
 have d2:=hb1.ag c2 (by simp)
 have d3:=hb1.ag c3 (by simp)
 have HB1:Hid (But [] w w1):=(ae HBV).trans' hb1
 have HV1:=af hb1
 have SA1:=af hna
 have SB1:=af hnb
 clear hb1 hna hnb
 go_wp2_with fail
 refine (ae NG _ ((ae HGA).but (ae HB1))).mono ?_
 rintro e w2 ⟨nc,nd,rfl,hnc,hnd,hb2⟩
 have HV2:Hid (But [] V w2):=(ae HV1).trans' hb2
 have SA2:=af ((ae SA1).ah hb2)
 have SB2:=af ((ae SB1).ah hb2)
 have SC2:=af hnc
 have SD2:=af hnd
 clear hb2 hnc hnd SA1 SB1 d0 d1 d2 d3 NF NG HV1 HB1
 have g0:=(ae HV2).ag a0 (by simp)
 have g1:=(ae HV2).ag c0 (by simp)
 go_wp2_with fail
 refine (ae G1 _ _ _ (ae SB2) (ae SD2)).mono ?_
 rintro e w3 ⟨vk,rfl,hnew,hb3⟩
 have HV3:Hid (But [] V w3):=(ae HV2).trans' hb3
 have SA3:=af ((ae SA2).ah hb3)
 have SB3:=af ((ae SB2).ah hb3)
 have SC3:=af ((ae SC2).ah hb3)
 have SD3:=af ((ae SD2).ah hb3)
 have SK3:=af hnew
 clear g0 g1 hb3 hnew SA2 SB2 SC2 SD2 HV2
 have g0:=(ae HV3).ag a0 (by simp)
 have g1:=(ae HV3).ag c0 (by simp)
 go_wp2_with fail
 refine (ae Q3 _ _ _ (ae SB3) (ae SK3)).mono ?_
 rintro e w4 ⟨vq3,rfl,hnew,hb4⟩
 have HV4:Hid (But [] V w4):=(ae HV3).trans' hb4
 have SA4:=af ((ae SA3).ah hb4)
 have SB4:=af ((ae SB3).ah hb4)
 have SC4:=af ((ae SC3).ah hb4)
 have SD4:=af ((ae SD3).ah hb4)
 have SK4:=af ((ae SK3).ah hb4)
 have SQ4:=af hnew
 clear g0 g1 hb4 hnew SA3 SB3 SC3 SD3 SK3 HV3
 have g0:=(ae HV4).ag a0 (by simp)
 have g1:=(ae HV4).ag c0 (by simp)
 go_wp2_with fail
 go_region_held (fun w'=>w'.cell? ⟨ga,0,none⟩=some (.bool s1)∧w'.cell? ⟨gb,0,none⟩=some (.bool s2)) (go_keep) (first
  | (go_at_call 175;refine (ae SS _ _ _ (by first | exact ae SX7 | exact (ae SX7).ah (But.refl _ _).drew) (by first | exact ae SY7 | exact (ae SY7).ah (But.refl _ _).drew)).mono ?_;rintro e w8 ⟨r,vM,M,rfl,hnew,hN,hle,hc8⟩;have hb8:But [] w7 w8:=(by first | exact hc8 | exact (But.refl _ _).drew.trans' hc8);have HV8:Hid (But [] V w8):=(ae HV7).trans' hb8;have SA8:=af ((ae SA7).ah hb8);have SB8:=af ((ae SB7).ah hb8);have SC8:=af ((ae SC7).ah hb8);have SD8:=af ((ae SD7).ah hb8);have SK8:=af ((ae SK7).ah hb8);have SQ8:=af ((ae SQ7).ah hb8);have SR8:=af ((ae SR7).ah hb8);have SX8:=af ((ae SX7).ah hb8);have SY8:=af ((ae SY7).ah hb8);have SM8:=af hnew;clear hb8 hc8 hnew;have g08:=(ae HV8).ag a0 (by simp);have g18:=(ae HV8).ag c0 (by simp))
  | (go_at_call 171;have hchk:=SX6;clear hchk;refine (ae M2 _ _ _ (by first | exact ae SC6 | exact (ae SC6).ah (But.refl _ _).drew) (by first | exact ae SQ6 | exact (ae SQ6).ah (But.refl _ _).drew)).mono ?_;rintro e w7 ⟨vm2,rfl,hnew,hc7,-⟩;have hb7:But [] w6 w7:=(by first | exact hc7 | exact (But.refl _ _).drew.trans' hc7);have HV7:Hid (But [] V w7):=(ae HV6).trans' hb7;have SA7:=af ((ae SA6).ah hb7);have SB7:=af ((ae SB6).ah hb7);have SC7:=af ((ae SC6).ah hb7);have SD7:=af ((ae SD6).ah hb7);have SK7:=af ((ae SK6).ah hb7);have SQ7:=af ((ae SQ6).ah hb7);have SR7:=af ((ae SR6).ah hb7);have SX7:=af ((ae SX6).ah hb7);have SY7:=af hnew;clear hb7 hc7 hnew;have g07:=(ae HV7).ag a0 (by simp);have g17:=(ae HV7).ag c0 (by simp))
  | (go_at_call 171;refine (ae M1 _ _ _ (by first | exact ae SA5 | exact (ae SA5).ah (But.refl _ _).drew) (by first | exact ae SR5 | exact (ae SR5).ah (But.refl _ _).drew)).mono ?_;rintro e w6 ⟨vm1,rfl,hnew,hc6,-⟩;have hb6:But [] w5 w6:=(by first | exact hc6 | exact (But.refl _ _).drew.trans' hc6);have HV6:Hid (But [] V w6):=(ae HV5).trans' hb6;have SA6:=af ((ae SA5).ah hb6);have SB6:=af ((ae SB5).ah hb6);have SC6:=af ((ae SC5).ah hb6);have SD6:=af ((ae SD5).ah hb6);have SK6:=af ((ae SK5).ah hb6);have SQ6:=af ((ae SQ5).ah hb6);have SR6:=af ((ae SR5).ah hb6);have SX6:=af hnew;clear hb6 hc6 hnew;have g06:=(ae HV6).ag a0 (by simp);have g16:=(ae HV6).ag c0 (by simp))
  | (go_at_call 170;refine (ae Q4 _ _ _ (by first | exact ae SD4 | exact (ae SD4).ah (But.refl _ _).drew) (by first | exact ae SK4 | exact (ae SK4).ah (But.refl _ _).drew)).mono ?_;rintro e w5 ⟨vq4,rfl,hnew,hc5⟩;have hb5:But [] w4 w5:=(by first | exact hc5 | exact (But.refl _ _).drew.trans' hc5);have HV5:Hid (But [] V w5):=(ae HV4).trans' hb5;have SA5:=af ((ae SA4).ah hb5);have SB5:=af ((ae SB4).ah hb5);have SC5:=af ((ae SC4).ah hb5);have SD5:=af ((ae SD4).ah hb5);have SK5:=af ((ae SK4).ah hb5);have SQ5:=af ((ae SQ4).ah hb5);have SR5:=af hnew;clear hb5 hc5 hnew;have g05:=(ae HV5).ag a0 (by simp);have g15:=(ae HV5).ag c0 (by simp)))
 clear g0 g1 g05 g15 g06 g16 g07 g17 SA4 SB4 SC4 SD4 SK4 SQ4 SA5 SB5 SC5 SD5 SK5 SQ5 SR5 SA6 SB6 SC6 SD6 SK6 SQ6 SR6 SX6 SA7 SB7 SC7 SD7 SK7 SQ7 SR7 SX7 SY7 HV4 HV5 HV6 HV7
 have g0:=g08
 have g1:=g18
 clear g08 g18
 have lm:=ae LM M hle
 have kl:=ae KL
 have k0p:=ae K0
 have lg2:=ae DL
 have q3l:=ae QL
 obtain⟨m,hm⟩:∃ m,m=Nat.gcd M k:=⟨_,rfl⟩
 have m0p:0<m:=by rw[hm];exact Nat.gcd_pos_of_pos_right _ k0p
 have ml:(wd 18446744073709551616 m).length≤lenG:=Nat.le_trans (au (by rw[hm];exact Nat.gcd_le_right _ k0p)) kl
 obtain⟨hn,hd⟩:=ae AL r M m hm hN
 have habs:(f+g).num.natAbs=M/m:=by rw[hn,jd]
 have q5l:=ui M m 1000000 lm
 have q6l:=ui g.den m lenG lg2
 have m3l:=qi q3 (g.den/m)
 have G2:=af (fun (W:World) (v1 v2:Value) (a:Sl .u64 W v1 (wd 18446744073709551616 M)) (b:Sl .u64 W v2 (wd 18446744073709551616 k))=>zay v1 v2 M k W a b lm (by omega))
 rw[← hm] at G2
 have Q5:=af (fun (W:World) (v1 v2:Value) (a:Sl .u64 W v1 (wd 18446744073709551616 M)) (b:Sl .u64 W v2 (wd 18446744073709551616 m))=>j4 v1 v2 M m W a b m0p (by omega) (by omega) (Short.of _ _ lm))
 have Q6:=af (fun (W:World) (v1 v2:Value) (a:Sl .u64 W v1 (wd 18446744073709551616 g.den)) (b:Sl .u64 W v2 (wd 18446744073709551616 m))=>j4 v1 v2 g.den m W a b m0p (by omega) (by omega) (Short.of _ _ (by omega)))
 have M3:=af (fun (W:World) (v1 v2:Value) (a:Sl .u64 W v1 (wd 18446744073709551616 q3)) (b:Sl .u64 W v2 (wd 18446744073709551616 (g.den/m)))=>qz v1 v2 _ _ W a b (by omega))
 have OL:=af (fun (W:World) (v1 v2:Value) (a:Sl .u64 W v1 (wd 18446744073709551616 (M/m))) (b:Sl .u64 W v2 (wd 18446744073709551616 (q3*(g.den/m))))=>ic r v1 v2 (f+g) W (by rw[habs];exact a) (by rw[hd];exact b) (by rw[habs];exact hn) (by rw[habs];omega) (by rw[hd];omega))
 clear hN hle lm kl k0p lg2 q3l hm m0p ml hn hd habs q5l q6l m3l AL LM KL K0 DL QL
 generalize q3*(g.den/m)=P3 at *
 generalize g.den/m=q6 at *
 generalize M/m=q5 at *
 go_wp2_with fail
 refine (ae G2 _ _ _ (ae SM8) (ae SK8)).mono ?_
 rintro e w9 ⟨vmo,rfl,hnew,hb9⟩
 have HV9:Hid (But [] V w9):=(ae HV8).trans' hb9
 have SA9:=af ((ae SA8).ah hb9)
 have SB9:=af ((ae SB8).ah hb9)
 have SC9:=af ((ae SC8).ah hb9)
 have SD9:=af ((ae SD8).ah hb9)
 have SK9:=af ((ae SK8).ah hb9)
 have SQ9:=af ((ae SQ8).ah hb9)
 have SR9:=af ((ae SR8).ah hb9)
 have SX9:=af ((ae SX8).ah hb9)
 have SY9:=af ((ae SY8).ah hb9)
 have SM9:=af ((ae SM8).ah hb9)
 have SN9:=af hnew
 clear g0 g1 hb9 hnew SA8 SB8 SC8 SD8 SK8 SQ8 SR8 SX8 SY8 SM8 HV8
 have g0:=(ae HV9).ag a0 (by simp)
 have g1:=(ae HV9).ag c0 (by simp)
 go_wp2_with fail
 refine (ae Q5 _ _ _ (ae SM9) (ae SN9)).mono ?_
 rintro e w10 ⟨vq5,rfl,hnew,hb10⟩
 have HV10:Hid (But [] V w10):=(ae HV9).trans' hb10
 have SA10:=af ((ae SA9).ah hb10)
 have SB10:=af ((ae SB9).ah hb10)
 have SC10:=af ((ae SC9).ah hb10)
 have SD10:=af ((ae SD9).ah hb10)
 have SK10:=af ((ae SK9).ah hb10)
 have SQ10:=af ((ae SQ9).ah hb10)
 have SR10:=af ((ae SR9).ah hb10)
 have SX10:=af ((ae SX9).ah hb10)
 have SY10:=af ((ae SY9).ah hb10)
 have SM10:=af ((ae SM9).ah hb10)
 have SN10:=af ((ae SN9).ah hb10)
 have SU10:=af hnew
 clear g0 g1 hb10 hnew SA9 SB9 SC9 SD9 SK9 SQ9 SR9 SX9 SY9 SM9 SN9 HV9
 have g0:=(ae HV10).ag a0 (by simp)
 have g1:=(ae HV10).ag c0 (by simp)
 go_wp2_with fail
 refine (ae Q6 _ _ _ (ae SD10) (ae SN10)).mono ?_
 rintro e w11 ⟨vq6,rfl,hnew,hb11⟩
 have HV11:Hid (But [] V w11):=(ae HV10).trans' hb11
 have SA11:=af ((ae SA10).ah hb11)
 have SB11:=af ((ae SB10).ah hb11)
 have SC11:=af ((ae SC10).ah hb11)
 have SD11:=af ((ae SD10).ah hb11)
 have SK11:=af ((ae SK10).ah hb11)
 have SQ11:=af ((ae SQ10).ah hb11)
 have SR11:=af ((ae SR10).ah hb11)
 have SX11:=af ((ae SX10).ah hb11)
 have SY11:=af ((ae SY10).ah hb11)
 have SM11:=af ((ae SM10).ah hb11)
 have SN11:=af ((ae SN10).ah hb11)
 have SU11:=af ((ae SU10).ah hb11)
 have SV11:=af hnew
 clear g0 g1 hb11 hnew SA10 SB10 SC10 SD10 SK10 SQ10 SR10 SX10 SY10 SM10 SN10 SU10 HV10
 have g0:=(ae HV11).ag a0 (by simp)
 have g1:=(ae HV11).ag c0 (by simp)
 go_wp2_with fail
 refine (ae M3 _ _ _ (ae SQ11) (ae SV11)).mono ?_
 rintro e w12 ⟨vm3,rfl,hnew,hb12,-⟩
 have HV12:Hid (But [] V w12):=(ae HV11).trans' hb12
 have SA12:=af ((ae SA11).ah hb12)
 have SB12:=af ((ae SB11).ah hb12)
 have SC12:=af ((ae SC11).ah hb12)
 have SD12:=af ((ae SD11).ah hb12)
 have SK12:=af ((ae SK11).ah hb12)
 have SQ12:=af ((ae SQ11).ah hb12)
 have SR12:=af ((ae SR11).ah hb12)
 have SX12:=af ((ae SX11).ah hb12)
 have SY12:=af ((ae SY11).ah hb12)
 have SM12:=af ((ae SM11).ah hb12)
 have SN12:=af ((ae SN11).ah hb12)
 have SU12:=af ((ae SU11).ah hb12)
 have SV12:=af ((ae SV11).ah hb12)
 have SW12:=af hnew
 clear g0 g1 hb12 hnew SA11 SB11 SC11 SD11 SK11 SQ11 SR11 SX11 SY11 SM11 SN11 SU11 SV11 HV11
 have g0:=(ae HV12).ag a0 (by simp)
 have g1:=(ae HV12).ag c0 (by simp)
 go_wp2_with fail
 refine (ae OL _ _ _ (ae SU12) (ae SW12)).mono ?_
 rintro e wz ⟨vz,rfl,hfz,hbz⟩
 have HVz:Hid (But [] V wz):=(ae HV12).trans' hbz
 have HBz:Hid (But [] w wz):=(ae HBV).trans' (ae HVz)
 have u0:=(ae HVz).ag z0 (by simp)
 have u1:=(ae HVz).ag z1 (by simp)
 have u2:=(ae HVz).ag z2 (by simp)
 have u3:=(ae HVz).ag z3 (by simp)
 have hgl:gr<V.heap.size:=ai z0
 have uf:∀ j,wz.frozen? ⟨gr,j,none⟩=false:=fun j=>((ae HVz).frozen (p:=⟨gr,j,none⟩) hgl (by simp)).trans (zf j)
 have Hz:=af hfz
 obtain⟨x8,y8,p8,rfl,-⟩:=hfz.agg
 clear hbz hfz z0 z1 z2 z3 zf hgl g0 g1
 generalize decide ((f+g).num<0)=r8 at *
 go_wp2
 have hBf:=((((ae HBz).setCell (p:=⟨gr,0,none⟩) (.inr (ae HGR)) (.bool r8)).setCell (p:=⟨gr,1,none⟩) (.inr (ae HGR)) (.int .u64 x8)).setCell (p:=⟨gr,2,none⟩) (.inr (ae HGR)) (.int .u64 y8)).setCell (p:=⟨gr,3,none⟩) (.inr (ae HGR)) (.pointer p8)
 have hBg:But [gr] wz ((((wz.setCell ⟨gr,0,none⟩ (.bool r8)).setCell ⟨gr,1,none⟩ (.int .u64 x8)).setCell ⟨gr,2,none⟩ (.int .u64 y8)).setCell ⟨gr,3,none⟩ (.pointer p8)):=(((((But.refl [gr] wz).setCell (.inl (by simp)) _).setCell (.inl (by simp)) _).setCell (.inl (by simp)) _).setCell (.inl (by simp)) _)
 exact bodyPost_ret (v:=.agg #[.bool r8,.int .u64 x8,.int .u64 y8,.pointer p8]) (by simp[results,results113,go_sem,u0,u1,u2,u3]) rfl ⟨_,rfl,((ae BL).but (ae HVz)).zky (ae Hz) hBg,hBf⟩))
end Go.Proofs.YtagmkkiagjmimaaGreatDoor
