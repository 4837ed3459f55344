/- The sum of two fractions, as the Go text -/
import Derived.Test.YtcgecpoedojhjaaGreatDoorKPF5
namespace Go.Proofs.YtcgecpoedojhjaaGreatDoor
open Go.Proofs.Tryz
open Go.RowKit
set_option maxHeartbeats 8000000
set_option maxRecDepth 100000
theorem zin (lenF lenG:Nat) (hab:lenF+lenG+1≤1000000) (vf vg:Value) (f g:Rat) (w:World) (hf:zi w vf f) (hg:zi w vg g) (lf:Len f lenF) (lg:Len g lenG) :
  Calls prog 128 #[vf,vg] w fun e w'=>∃ v,e=.returned v∧zi w' v (f+g)∧But [] w w':=by
 obtain⟨k,hk⟩:∃ k,k=Nat.gcd f.den g.den:=⟨_,rfl⟩
 have k0p:0<k:=by rw[hk];exact Nat.gcd_pos_of_pos_left _ (den_pos f)
 have kl:(wd 18446744073709551616 k).length≤lenG:=Nat.le_trans (zu (by rw[hk];exact Nat.gcd_le_right _ (den_pos g))) lg.2
 have NF:=hide (fun W (h:zi W vf f)=>fu vf f W h)
 have NG:=hide (fun W (h:zi W vg g)=>fu vg g W h)
 obtain⟨lf1,lf2⟩:=lf
 obtain⟨lg1,lg2⟩:=lg
 have q3l:=bg f.den k lenF lf2
 have q4l:=bg g.den k lenG lg2
 have m1l:=ja f.num.natAbs (g.den/k)
 have m2l:=ja g.num.natAbs (f.den/k)
 have LM:Hid (∀ M,M≤f.num.natAbs*(g.den/k)+g.num.natAbs*(f.den/k)→(wd 18446744073709551616 M).length≤1000000):=fun M hM=>by
  have h1:=zw (B:=18446744073709551616) (by omega) (f.num.natAbs*(g.den/k)) (lenF+lenG) (by omega)
  have h2:=zw (B:=18446744073709551616) (by omega) (g.num.natAbs*(f.den/k)) (lenF+lenG) (by omega)
  have h3:=oz _ _ (lenF+lenG) h1 h2
  have h4:=zu hM
  omega
 have AL:Hid (∀ (r:Bool) (M m:Nat),m=Nat.gcd M k→sgn (decide (f.num<0)) (f.num.natAbs*(g.den/k))+sgn (decide (g.num<0)) (g.num.natAbs*(f.den/k))=sgn r M→(f+g).num=sgn r (M/m)∧(f+g).den=(f.den/k)*(g.den/m)):=fun r M m hm h1=>zri f g r M k m hk hm (by rw[← h1,rf,rf,← zeh f,← zeh g])
 have G1:=hide (fun (W:World) (v1 v2:Value) (a:Sl .u64 W v1 (wd 18446744073709551616 f.den)) (b:Sl .u64 W v2 (wd 18446744073709551616 g.den))=>l9 v1 v2 f.den g.den W a b (by omega) (by omega))
 rw[← hk] at G1
 have Q3:=hide (fun (W:World) (v1 v2:Value) (a:Sl .u64 W v1 (wd 18446744073709551616 f.den)) (b:Sl .u64 W v2 (wd 18446744073709551616 k))=>jb v1 v2 f.den k W a b k0p (by omega) (by omega) (Short.of _ _ (by omega)))
 have Q4:=hide (fun (W:World) (v1 v2:Value) (a:Sl .u64 W v1 (wd 18446744073709551616 g.den)) (b:Sl .u64 W v2 (wd 18446744073709551616 k))=>jb v1 v2 g.den k W a b k0p (by omega) (by omega) (Short.of _ _ (by omega)))
 have M1:=hide (fun (W:World) (v1 v2:Value) (a:Sl .u64 W v1 (wd 18446744073709551616 f.num.natAbs)) (b:Sl .u64 W v2 (wd 18446744073709551616 (g.den/k)))=>jh v1 v2 _ _ W a b (by omega))
 have M2:=hide (fun (W:World) (v1 v2:Value) (a:Sl .u64 W v1 (wd 18446744073709551616 g.num.natAbs)) (b:Sl .u64 W v2 (wd 18446744073709551616 (f.den/k)))=>jh v1 v2 _ _ W a b (by omega))
 have SS:=hide (fun (W:World) (v1 v2:Value) (a:Sl .u64 W v1 (wd 18446744073709551616 (f.num.natAbs*(g.den/k)))) (b:Sl .u64 W v2 (wd 18446744073709551616 (g.num.natAbs*(f.den/k))))=>zno (decide (f.num<0)) (decide (g.num<0)) v1 v2 _ _ W a b (by omega) (by omega))
 have MW:=hide (fun (W:World) h1 h2 h3 h4=>zoi f g W h1 h2 h3 h4)
 have KL:=hide kl
 have K0:=hide k0p
 have DL:=hide lg2
 have QL:=hide q3l
 have HFA:=hide hf
 have HGA:=hide hg
 obtain⟨x1,y1,p1,rfl,hw1⟩:=hf.agg
 obtain⟨x2,y2,p2,rfl,hw2⟩:=hg.agg
 have HW1:=hide hw1
 have HW2:=hide hw2
 clear hk hf hg hw1 hw2 kl k0p q3l q4l m1l m2l lf1 lf2 lg1 lg2
 generalize f.num.natAbs*(g.den/k)=P1 at *
 generalize g.num.natAbs*(f.den/k)=P2 at *
 generalize f.den/k=q3 at *
 generalize g.den/k=q4 at *
 generalize hsf:decide (f.num<0)=s1 at *
 generalize hsg:decide (g.num<0)=s2 at *
 clear hsf hsg
 obtain⟨W,hW⟩:∃ W,W=(((w.alloc (.cells #[.bool s1,.int .u64 x1,.int .u64 y1,.pointer p1] 35)).alloc (.cells #[.bool s2,.int .u64 x2,.int .u64 y2,.pointer p2] 35)).alloc (.cells #[.bool false,.int .u64 0,.int .u64 0,.pointer none] 35)):=⟨_,rfl⟩
 obtain⟨tA,tB,tC,fz,hB⟩:=zai w W _ _ _ _ hW
 have a0:=tA 0
 have a1:=tA 1
 have a2:=tA 2
 have a3:=tA 3
 have b0:=tB 0
 have b1:=tB 1
 have b2:=tB 2
 have b3:=tB 3
 have r0:=tC 0
 have r1:=tC 1
 have r2:=tC 2
 have r3:=tC 3
 simp only[List.getElem?_toArray,List.getElem?_cons_zero,List.getElem?_cons_succ] at a0 a1 a2 a3 b0 b1 b2 b3 r0 r1 r2 r3
 have BL:Hid (Blank W (w.heap.size+2)):=⟨r0,r1,r2,r3,fun j hj=>by rw[tC j];simp;omega⟩
 clear tA tB tC
 have HW:=hide hW
 have HB:=hide hB
 clear hW hB
 by_cases hpp:p1=none∧p2=none
 ·obtain⟨rfl,rfl⟩:=hpp
  obtain⟨h1,h2,ex1,ey1⟩:=za HW1 rfl
  obtain⟨h3,h4,ex2,ey2⟩:=za HW2 rfl
  have MW':=hide (za MW W h1 h2 h3 h4)
  rw[← ex1,← ey1,← ex2,← ey2] at MW'
  clear MW HW1 HW2 h1 h2 h3 h4 ex1 ex2 ey1 ey2
  go_enter func128,ntmps128
  go_wp2_with fail
  rw[← za HW]
  obtain⟨ga,hga⟩:∃ ga,ga=w.heap.size:=⟨_,rfl⟩
  obtain⟨gb,hgb⟩:∃ gb,gb=w.heap.size+1:=⟨_,rfl⟩
  obtain⟨gr,hgr⟩:∃ gr,gr=w.heap.size+2:=⟨_,rfl⟩
  rw[← hga] at a0 a1 a2 a3
  rw[← hgb] at b0 b1 b2 b3
  rw[← hgr] at r0 r1 r2 r3 fz BL
  rw[show w.heap.size+1+1=w.heap.size+2 from rfl,← hgr,← hgb,← hga]
  have HGR:Hid (w.heap.size≤gr):=by show _≤_;omega
  clear hga hgb hgr HW
  refine (za MW').mono ?_
  rintro e w0 ⟨r9,x9,y9,ok,rfl,hok,hb0⟩
  have grl:gr<W.heap.size:=lt_of_cell r0
  have f0:∀ j,w0.frozen? ⟨gr,j,none⟩=false:=fun j=>(hb0.frozen (p:=⟨gr,j,none⟩) grl (by simp)).trans (fz j)
  have BL0:=hide ((za BL).but hb0)
  have a0':=hb0.zb a0 (by simp)
  have a1':=hb0.zb a1 (by simp)
  have a2':=hb0.zb a2 (by simp)
  have a3':=hb0.zb a3 (by simp)
  have b0':=hb0.zb b0 (by simp)
  have b1':=hb0.zb b1 (by simp)
  have b2':=hb0.zb b2 (by simp)
  have b3':=hb0.zb b3 (by simp)
  have r0':=hb0.zb r0 (by simp)
  have r1':=hb0.zb r1 (by simp)
  have r2':=hb0.zb r2 (by simp)
  have r3':=hb0.zb r3 (by simp)
  have HB0:Hid (But [] w w0):=(za HB).trans' hb0
  have HOK:=hide hok
  clear hok hb0 a0 a1 a2 a3 b0 b1 b2 b3 r0 r1 r2 r3 fz MW' HB BL
  have grl0:gr<w0.heap.size:=lt_of_cell r0'
  cases ok
  ·obtain⟨V,hV⟩:∃ V,V=w0.alloc (.cells #[.bool r9,.int .u64 x9,.int .u64 y9,.pointer none] 35):=⟨_,rfl⟩
   have hbV:But [] w0 V:=by rw[hV];exact (But.refl _ _).alloc _
   have HBV:Hid (But [] w V):=(za HB0).trans' hbV
   have BL:=hide ((za BL0).but hbV)
   have a0:=hbV.zb a0' (by simp)
   have a1:=hbV.zb a1' (by simp)
   have a2:=hbV.zb a2' (by simp)
   have a3:=hbV.zb a3' (by simp)
   have c0:=hbV.zb b0' (by simp)
   have c1:=hbV.zb b1' (by simp)
   have c2:=hbV.zb b2' (by simp)
   have c3:=hbV.zb b3' (by simp)
   have z0:=hbV.zb r0' (by simp)
   have z1:=hbV.zb r1' (by simp)
   have z2:=hbV.zb r2' (by simp)
   have z3:=hbV.zb r3' (by simp)
   have zf:∀ j,V.frozen? ⟨gr,j,none⟩=false:=fun j=>(hbV.frozen (p:=⟨gr,j,none⟩) grl0 (by simp)).trans (f0 j)
   have HV:=hide hV
   have gal:ga<w0.heap.size:=lt_of_cell a0'
   have gbl:gb<w0.heap.size:=lt_of_cell b0'
   clear hV hbV b0' b1' b2' b3' r0' r1' r2' r3' f0 BL0 HB0 HOK
   go_wp2_with fail
   rw[← za HV]
   clear a0' a1' a2' a3' HV
   refine (za NF _ ((za HFA).but (za HBV))).mono ?_
   rintro e w1 ⟨na,nb,rfl,hna,hnb,hb1⟩
   have d0:=hb1.zb c0 (by simp)
   have d1:=hb1.zb c1 (by simp)
   have d2:=hb1.zb c2 (by simp)
   have d3:=hb1.zb c3 (by simp)
   have HB1:Hid (But [] w w1):=(za HBV).trans' hb1
   have HV1:=hide hb1
   have SA1:=hide hna
   have SB1:=hide hnb
   clear hb1 hna hnb
   go_wp2_with fail
   refine (za NG _ ((za HGA).but (za HB1))).mono ?_
   rintro e w2 ⟨nc,nd,rfl,hnc,hnd,hb2⟩
   have HV2:Hid (But [] V w2):=(za HV1).trans' hb2
   have SA2:=hide ((za SA1).ze hb2)
   have SB2:=hide ((za SB1).ze hb2)
   have SC2:=hide hnc
   have SD2:=hide hnd
   clear hb2 hnc hnd SA1 SB1 d0 d1 d2 d3 NF NG HV1 HB1
   have g0:=(za HV2).zb a0 (by simp)
   have g1:=(za HV2).zb c0 (by simp)
   go_wp2_with fail
   refine (za G1 _ _ _ (za SB2) (za SD2)).mono ?_
   rintro e w3 ⟨vk,rfl,hnew,hb3⟩
   have HV3:Hid (But [] V w3):=(za HV2).trans' hb3
   have SA3:=hide ((za SA2).ze hb3)
   have SB3:=hide ((za SB2).ze hb3)
   have SC3:=hide ((za SC2).ze hb3)
   have SD3:=hide ((za SD2).ze hb3)
   have SK3:=hide hnew
   clear g0 g1 hb3 hnew SA2 SB2 SC2 SD2 HV2
   have g0:=(za HV3).zb a0 (by simp)
   have g1:=(za HV3).zb c0 (by simp)
   go_wp2_with fail
   refine (za Q3 _ _ _ (za SB3) (za SK3)).mono ?_
   rintro e w4 ⟨vq3,rfl,hnew,hb4⟩
   have HV4:Hid (But [] V w4):=(za HV3).trans' hb4
   have SA4:=hide ((za SA3).ze hb4)
   have SB4:=hide ((za SB3).ze hb4)
   have SC4:=hide ((za SC3).ze hb4)
   have SD4:=hide ((za SD3).ze hb4)
   have SK4:=hide ((za SK3).ze hb4)
   have SQ4:=hide hnew
   clear g0 g1 hb4 hnew SA3 SB3 SC3 SD3 SK3 HV3
   have g0:=(za HV4).zb a0 (by simp)
   have g1:=(za HV4).zb c0 (by simp)
   go_wp2_with fail
   go_region_held (fun w'=>w'.cell? ⟨ga,0,none⟩=some (.bool s1)∧w'.cell? ⟨gb,0,none⟩=some (.bool s2)) (go_keep) (first
    | (go_at_call 164;refine (za SS _ _ _ (by first | exact za SX7 | exact (za SX7).ze (But.refl _ _).drew) (by first | exact za SY7 | exact (za SY7).ze (But.refl _ _).drew)).mono ?_;rintro e w8 ⟨r,vM,M,rfl,hnew,hN,hle,hc8⟩;have hb8:But [] w7 w8:=(by first | exact hc8 | exact (But.refl _ _).drew.trans' hc8);have HV8:Hid (But [] V w8):=(za HV7).trans' hb8;have SA8:=hide ((za SA7).ze hb8);have SB8:=hide ((za SB7).ze hb8);have SC8:=hide ((za SC7).ze hb8);have SD8:=hide ((za SD7).ze hb8);have SK8:=hide ((za SK7).ze hb8);have SQ8:=hide ((za SQ7).ze hb8);have SR8:=hide ((za SR7).ze hb8);have SX8:=hide ((za SX7).ze hb8);have SY8:=hide ((za SY7).ze hb8);have SM8:=hide hnew;clear hb8 hc8 hnew;have g08:=(za HV8).zb a0 (by simp);have g18:=(za HV8).zb c0 (by simp))
    | (go_at_call 93;have hchk:=SX6;clear hchk;refine (za M2 _ _ _ (by first | exact za SC6 | exact (za SC6).ze (But.refl _ _).drew) (by first | exact za SQ6 | exact (za SQ6).ze (But.refl _ _).drew)).mono ?_;rintro e w7 ⟨vm2,rfl,hnew,hc7,-⟩;have hb7:But [] w6 w7:=(by first | exact hc7 | exact (But.refl _ _).drew.trans' hc7);have HV7:Hid (But [] V w7):=(za HV6).trans' hb7;have SA7:=hide ((za SA6).ze hb7);have SB7:=hide ((za SB6).ze hb7);have SC7:=hide ((za SC6).ze hb7);have SD7:=hide ((za SD6).ze hb7);have SK7:=hide ((za SK6).ze hb7);have SQ7:=hide ((za SQ6).ze hb7);have SR7:=hide ((za SR6).ze hb7);have SX7:=hide ((za SX6).ze hb7);have SY7:=hide hnew;clear hb7 hc7 hnew;have g07:=(za HV7).zb a0 (by simp);have g17:=(za HV7).zb c0 (by simp))
    | (go_at_call 93;refine (za M1 _ _ _ (by first | exact za SA5 | exact (za SA5).ze (But.refl _ _).drew) (by first | exact za SR5 | exact (za SR5).ze (But.refl _ _).drew)).mono ?_;rintro e w6 ⟨vm1,rfl,hnew,hc6,-⟩;have hb6:But [] w5 w6:=(by first | exact hc6 | exact (But.refl _ _).drew.trans' hc6);have HV6:Hid (But [] V w6):=(za HV5).trans' hb6;have SA6:=hide ((za SA5).ze hb6);have SB6:=hide ((za SB5).ze hb6);have SC6:=hide ((za SC5).ze hb6);have SD6:=hide ((za SD5).ze hb6);have SK6:=hide ((za SK5).ze hb6);have SQ6:=hide ((za SQ5).ze hb6);have SR6:=hide ((za SR5).ze hb6);have SX6:=hide hnew;clear hb6 hc6 hnew;have g06:=(za HV6).zb a0 (by simp);have g16:=(za HV6).zb c0 (by simp))
    | (go_at_call 92;refine (za Q4 _ _ _ (by first | exact za SD4 | exact (za SD4).ze (But.refl _ _).drew) (by first | exact za SK4 | exact (za SK4).ze (But.refl _ _).drew)).mono ?_;rintro e w5 ⟨vq4,rfl,hnew,hc5⟩;have hb5:But [] w4 w5:=(by first | exact hc5 | exact (But.refl _ _).drew.trans' hc5);have HV5:Hid (But [] V w5):=(za HV4).trans' hb5;have SA5:=hide ((za SA4).ze hb5);have SB5:=hide ((za SB4).ze hb5);have SC5:=hide ((za SC4).ze hb5);have SD5:=hide ((za SD4).ze hb5);have SK5:=hide ((za SK4).ze hb5);have SQ5:=hide ((za SQ4).ze hb5);have SR5:=hide hnew;clear hb5 hc5 hnew;have g05:=(za HV5).zb a0 (by simp);have g15:=(za HV5).zb c0 (by simp)))
   clear g0 g1 g05 g15 g06 g16 g07 g17 SA4 SB4 SC4 SD4 SK4 SQ4 SA5 SB5 SC5 SD5 SK5 SQ5 SR5 SA6 SB6 SC6 SD6 SK6 SQ6 SR6 SX6 SA7 SB7 SC7 SD7 SK7 SQ7 SR7 SX7 SY7 HV4 HV5 HV6 HV7
   have g0:=g08
   have g1:=g18
   clear g08 g18
   have lm:=za LM M hle
   have kl:=za KL
   have k0p:=za K0
   have lg2:=za DL
   have q3l:=za QL
   obtain⟨m,hm⟩:∃ m,m=Nat.gcd M k:=⟨_,rfl⟩
   have m0p:0<m:=by rw[hm];exact Nat.gcd_pos_of_pos_right _ k0p
   have ml:(wd 18446744073709551616 m).length≤lenG:=Nat.le_trans (zu (by rw[hm];exact Nat.gcd_le_right _ k0p)) kl
   obtain⟨hn,hd⟩:=za AL r M m hm hN
   have habs:(f+g).num.natAbs=M/m:=by rw[hn,jg]
   have q5l:=bg M m 1000000 lm
   have q6l:=bg g.den m lenG lg2
   have m3l:=ja q3 (g.den/m)
   have G2:=hide (fun (W:World) (v1 v2:Value) (a:Sl .u64 W v1 (wd 18446744073709551616 M)) (b:Sl .u64 W v2 (wd 18446744073709551616 k))=>l9 v1 v2 M k W a b lm (by omega))
   rw[← hm] at G2
   have Q5:=hide (fun (W:World) (v1 v2:Value) (a:Sl .u64 W v1 (wd 18446744073709551616 M)) (b:Sl .u64 W v2 (wd 18446744073709551616 m))=>jb v1 v2 M m W a b m0p (by omega) (by omega) (Short.of _ _ lm))
   have Q6:=hide (fun (W:World) (v1 v2:Value) (a:Sl .u64 W v1 (wd 18446744073709551616 g.den)) (b:Sl .u64 W v2 (wd 18446744073709551616 m))=>jb v1 v2 g.den m W a b m0p (by omega) (by omega) (Short.of _ _ (by omega)))
   have M3:=hide (fun (W:World) (v1 v2:Value) (a:Sl .u64 W v1 (wd 18446744073709551616 q3)) (b:Sl .u64 W v2 (wd 18446744073709551616 (g.den/m)))=>jh v1 v2 _ _ W a b (by omega))
   have OL:=hide (fun (W:World) (v1 v2:Value) (a:Sl .u64 W v1 (wd 18446744073709551616 (M/m))) (b:Sl .u64 W v2 (wd 18446744073709551616 (q3*(g.den/m))))=>av r v1 v2 (f+g) W (by rw[habs];exact a) (by rw[hd];exact b) (by rw[habs];exact hn) (by rw[habs];omega) (by rw[hd];omega))
   clear hN hle lm kl k0p lg2 q3l hm m0p ml hn hd habs q5l q6l m3l AL LM KL K0 DL QL
   generalize q3*(g.den/m)=P3 at *
   generalize g.den/m=q6 at *
   generalize M/m=q5 at *
   go_wp2_with fail
   refine (za G2 _ _ _ (za SM8) (za SK8)).mono ?_
   rintro e w9 ⟨vmo,rfl,hnew,hb9⟩
   have HV9:Hid (But [] V w9):=(za HV8).trans' hb9
   have SA9:=hide ((za SA8).ze hb9)
   have SB9:=hide ((za SB8).ze hb9)
   have SC9:=hide ((za SC8).ze hb9)
   have SD9:=hide ((za SD8).ze hb9)
   have SK9:=hide ((za SK8).ze hb9)
   have SQ9:=hide ((za SQ8).ze hb9)
   have SR9:=hide ((za SR8).ze hb9)
   have SX9:=hide ((za SX8).ze hb9)
   have SY9:=hide ((za SY8).ze hb9)
   have SM9:=hide ((za SM8).ze hb9)
   have SN9:=hide hnew
   clear g0 g1 hb9 hnew SA8 SB8 SC8 SD8 SK8 SQ8 SR8 SX8 SY8 SM8 HV8
   have g0:=(za HV9).zb a0 (by simp)
   have g1:=(za HV9).zb c0 (by simp)
   go_wp2_with fail
   refine (za Q5 _ _ _ (za SM9) (za SN9)).mono ?_
   rintro e w10 ⟨vq5,rfl,hnew,hb10⟩
   have HV10:Hid (But [] V w10):=(za HV9).trans' hb10
   have SA10:=hide ((za SA9).ze hb10)
   have SB10:=hide ((za SB9).ze hb10)
   have SC10:=hide ((za SC9).ze hb10)
   have SD10:=hide ((za SD9).ze hb10)
   have SK10:=hide ((za SK9).ze hb10)
   have SQ10:=hide ((za SQ9).ze hb10)
   have SR10:=hide ((za SR9).ze hb10)
   have SX10:=hide ((za SX9).ze hb10)
   have SY10:=hide ((za SY9).ze hb10)
   have SM10:=hide ((za SM9).ze hb10)
   have SN10:=hide ((za SN9).ze hb10)
   have SU10:=hide hnew
   clear g0 g1 hb10 hnew SA9 SB9 SC9 SD9 SK9 SQ9 SR9 SX9 SY9 SM9 SN9 HV9
   have g0:=(za HV10).zb a0 (by simp)
   have g1:=(za HV10).zb c0 (by simp)
   go_wp2_with fail
   refine (za Q6 _ _ _ (za SD10) (za SN10)).mono ?_
   rintro e w11 ⟨vq6,rfl,hnew,hb11⟩
   have HV11:Hid (But [] V w11):=(za HV10).trans' hb11
   have SA11:=hide ((za SA10).ze hb11)
   have SB11:=hide ((za SB10).ze hb11)
   have SC11:=hide ((za SC10).ze hb11)
   have SD11:=hide ((za SD10).ze hb11)
   have SK11:=hide ((za SK10).ze hb11)
   have SQ11:=hide ((za SQ10).ze hb11)
   have SR11:=hide ((za SR10).ze hb11)
   have SX11:=hide ((za SX10).ze hb11)
   have SY11:=hide ((za SY10).ze hb11)
   have SM11:=hide ((za SM10).ze hb11)
   have SN11:=hide ((za SN10).ze hb11)
   have SU11:=hide ((za SU10).ze hb11)
   have SV11:=hide hnew
   clear g0 g1 hb11 hnew SA10 SB10 SC10 SD10 SK10 SQ10 SR10 SX10 SY10 SM10 SN10 SU10 HV10
   have g0:=(za HV11).zb a0 (by simp)
   have g1:=(za HV11).zb c0 (by simp)
   go_wp2_with fail
   refine (za M3 _ _ _ (za SQ11) (za SV11)).mono ?_
   rintro e w12 ⟨vm3,rfl,hnew,hb12,-⟩
   have HV12:Hid (But [] V w12):=(za HV11).trans' hb12
   have SA12:=hide ((za SA11).ze hb12)
   have SB12:=hide ((za SB11).ze hb12)
   have SC12:=hide ((za SC11).ze hb12)
   have SD12:=hide ((za SD11).ze hb12)
   have SK12:=hide ((za SK11).ze hb12)
   have SQ12:=hide ((za SQ11).ze hb12)
   have SR12:=hide ((za SR11).ze hb12)
   have SX12:=hide ((za SX11).ze hb12)
   have SY12:=hide ((za SY11).ze hb12)
   have SM12:=hide ((za SM11).ze hb12)
   have SN12:=hide ((za SN11).ze hb12)
   have SU12:=hide ((za SU11).ze hb12)
   have SV12:=hide ((za SV11).ze hb12)
   have SW12:=hide hnew
   clear g0 g1 hb12 hnew SA11 SB11 SC11 SD11 SK11 SQ11 SR11 SX11 SY11 SM11 SN11 SU11 SV11 HV11
   have g0:=(za HV12).zb a0 (by simp)
   have g1:=(za HV12).zb c0 (by simp)
   go_wp2_with fail
   refine (za OL _ _ _ (za SU12) (za SW12)).mono ?_
   rintro e wz ⟨vz,rfl,hfz,hbz⟩
   have HVz:Hid (But [] V wz):=(za HV12).trans' hbz
   have HBz:Hid (But [] w wz):=(za HBV).trans' (za HVz)
   have u0:=(za HVz).zb z0 (by simp)
   have u1:=(za HVz).zb z1 (by simp)
   have u2:=(za HVz).zb z2 (by simp)
   have u3:=(za HVz).zb z3 (by simp)
   have hgl:gr<V.heap.size:=lt_of_cell z0
   have uf:∀ j,wz.frozen? ⟨gr,j,none⟩=false:=fun j=>((za HVz).frozen (p:=⟨gr,j,none⟩) hgl (by simp)).trans (zf j)
   have Hz:=hide hfz
   obtain⟨x8,y8,p8,rfl,-⟩:=hfz.agg
   clear hbz hfz z0 z1 z2 z3 zf hgl g0 g1
   generalize decide ((f+g).num<0)=r8 at *
   go_wp2
   have hBf:=((((za HBz).setCell (p:=⟨gr,0,none⟩) (.inr (za HGR)) (.bool r8)).setCell (p:=⟨gr,1,none⟩) (.inr (za HGR)) (.int .u64 x8)).setCell (p:=⟨gr,2,none⟩) (.inr (za HGR)) (.int .u64 y8)).setCell (p:=⟨gr,3,none⟩) (.inr (za HGR)) (.pointer p8)
   have hBg:But [gr] wz ((((wz.setCell ⟨gr,0,none⟩ (.bool r8)).setCell ⟨gr,1,none⟩ (.int .u64 x8)).setCell ⟨gr,2,none⟩ (.int .u64 y8)).setCell ⟨gr,3,none⟩ (.pointer p8)):=(((((But.refl [gr] wz).setCell (.inl (by simp)) _).setCell (.inl (by simp)) _).setCell (.inl (by simp)) _).setCell (.inl (by simp)) _)
   exact bodyPost_ret (v:=.agg #[.bool r8,.int .u64 x8,.int .u64 y8,.pointer p8]) (by simp[results,results128,go_sem,u0,u1,u2,u3]) rfl ⟨_,rfl,((za BL).but (za HVz)).zav (za Hz) hBg,hBf⟩
  ·have HF9:=hide (za HOK rfl)
   clear HOK
   go_wp2
   have hBf:=(((((za HB0).setCell (p:=⟨gr,0,none⟩) (.inr (za HGR)) (.bool r9)).setCell (p:=⟨gr,1,none⟩) (.inr (za HGR)) (.int .u64 x9)).setCell (p:=⟨gr,2,none⟩) (.inr (za HGR)) (.int .u64 y9)).setCell (p:=⟨gr,3,none⟩) (.inr (za HGR)) (.pointer none)).alloc (.cells #[.bool r9,.int .u64 x9,.int .u64 y9,.pointer none] 35)
   have hBg:=(((((But.refl [gr] w0).setCell (p:=⟨gr,0,none⟩) (.inl (by simp)) (.bool r9)).setCell (p:=⟨gr,1,none⟩) (.inl (by simp)) (.int .u64 x9)).setCell (p:=⟨gr,2,none⟩) (.inl (by simp)) (.int .u64 y9)).setCell (p:=⟨gr,3,none⟩) (.inl (by simp)) (.pointer none)).alloc (.cells #[.bool r9,.int .u64 x9,.int .u64 y9,.pointer none] 35)
   exact bodyPost_ret (v:=.agg #[.bool r9,.int .u64 x9,.int .u64 y9,.pointer none]) (by simp[results,results128,go_sem,r0',r1',r2',r3',grl0]) rfl ⟨_,rfl,(za BL0).zav (za HF9) hBg,hBf⟩
 ·have hp12:p1≠none∨p2≠none:=by
   rcases Classical.em (p1=none) with h1 | h1
   ·right;intro h2;exact hpp ⟨h1,h2⟩
   ·left;exact h1
  clear hpp MW HW1 HW2
  obtain⟨pp,hpp⟩:∃ pp,pp=(p1,p2):=⟨_,rfl⟩
  clear hpp pp
  rcases p1 with _ | p1
  ·rcases p2 with _ | p2
   ·simp at hp12
   ·clear hp12
    go_enter func128,ntmps128
    go_wp2_with fail
    rw[← za HW]
    obtain⟨ga,hga⟩:∃ ga,ga=w.heap.size:=⟨_,rfl⟩
    obtain⟨gb,hgb⟩:∃ gb,gb=w.heap.size+1:=⟨_,rfl⟩
    obtain⟨gr,hgr⟩:∃ gr,gr=w.heap.size+2:=⟨_,rfl⟩
    rw[← hga] at a0 a1 a2 a3
    rw[← hgb] at b0 b1 b2 b3
    rw[← hgr] at r0 r1 r2 r3 fz BL
    rw[show w.heap.size+1+1=w.heap.size+2 from rfl,← hgr,← hgb,← hga]
    have HGR:Hid (w.heap.size≤gr):=by show _≤_;omega
    clear hga hgb hgr HW
    obtain⟨V,hV⟩:∃ V,V=W:=⟨_,rfl⟩
    rw[← hV] at a0 a1 a2 a3 b0 b1 b2 b3 r0 r1 r2 r3 fz BL
    rw[← hV]
    have HBV:Hid (But [] w V):=by rw[hV];exact za HB
    clear hV HB
    have c0:=b0
    have c1:=b1
    have c2:=b2
    have c3:=b3
    have z0:=r0
    have z1:=r1
    have z2:=r2
    have z3:=r3
    have zf:=fz
    clear b0 b1 b2 b3 r0 r1 r2 r3 fz
    refine (za NF _ ((za HFA).but (za HBV))).mono ?_
    rintro e w1 ⟨na,nb,rfl,hna,hnb,hb1⟩
    have d0:=hb1.zb c0 (by simp)
    have d1:=hb1.zb c1 (by simp)
    have d2:=hb1.zb c2 (by simp)
    have d3:=hb1.zb c3 (by simp)
    have HB1:Hid (But [] w w1):=(za HBV).trans' hb1
    have HV1:=hide hb1
    have SA1:=hide hna
    have SB1:=hide hnb
    clear hb1 hna hnb
    go_wp2_with fail
    refine (za NG _ ((za HGA).but (za HB1))).mono ?_
    rintro e w2 ⟨nc,nd,rfl,hnc,hnd,hb2⟩
    have HV2:Hid (But [] V w2):=(za HV1).trans' hb2
    have SA2:=hide ((za SA1).ze hb2)
    have SB2:=hide ((za SB1).ze hb2)
    have SC2:=hide hnc
    have SD2:=hide hnd
    clear hb2 hnc hnd SA1 SB1 d0 d1 d2 d3 NF NG HV1 HB1
    have g0:=(za HV2).zb a0 (by simp)
    have g1:=(za HV2).zb c0 (by simp)
    go_wp2_with fail
    refine (za G1 _ _ _ (za SB2) (za SD2)).mono ?_
    rintro e w3 ⟨vk,rfl,hnew,hb3⟩
    have HV3:Hid (But [] V w3):=(za HV2).trans' hb3
    have SA3:=hide ((za SA2).ze hb3)
    have SB3:=hide ((za SB2).ze hb3)
    have SC3:=hide ((za SC2).ze hb3)
    have SD3:=hide ((za SD2).ze hb3)
    have SK3:=hide hnew
    clear g0 g1 hb3 hnew SA2 SB2 SC2 SD2 HV2
    have g0:=(za HV3).zb a0 (by simp)
    have g1:=(za HV3).zb c0 (by simp)
    go_wp2_with fail
    refine (za Q3 _ _ _ (za SB3) (za SK3)).mono ?_
    rintro e w4 ⟨vq3,rfl,hnew,hb4⟩
    have HV4:Hid (But [] V w4):=(za HV3).trans' hb4
    have SA4:=hide ((za SA3).ze hb4)
    have SB4:=hide ((za SB3).ze hb4)
    have SC4:=hide ((za SC3).ze hb4)
    have SD4:=hide ((za SD3).ze hb4)
    have SK4:=hide ((za SK3).ze hb4)
    have SQ4:=hide hnew
    clear g0 g1 hb4 hnew SA3 SB3 SC3 SD3 SK3 HV3
    have g0:=(za HV4).zb a0 (by simp)
    have g1:=(za HV4).zb c0 (by simp)
    go_wp2_with fail
    go_region_held (fun w'=>w'.cell? ⟨ga,0,none⟩=some (.bool s1)∧w'.cell? ⟨gb,0,none⟩=some (.bool s2)) (go_keep) (first
     | (go_at_call 164;refine (za SS _ _ _ (by first | exact za SX7 | exact (za SX7).ze (But.refl _ _).drew) (by first | exact za SY7 | exact (za SY7).ze (But.refl _ _).drew)).mono ?_;rintro e w8 ⟨r,vM,M,rfl,hnew,hN,hle,hc8⟩;have hb8:But [] w7 w8:=(by first | exact hc8 | exact (But.refl _ _).drew.trans' hc8);have HV8:Hid (But [] V w8):=(za HV7).trans' hb8;have SA8:=hide ((za SA7).ze hb8);have SB8:=hide ((za SB7).ze hb8);have SC8:=hide ((za SC7).ze hb8);have SD8:=hide ((za SD7).ze hb8);have SK8:=hide ((za SK7).ze hb8);have SQ8:=hide ((za SQ7).ze hb8);have SR8:=hide ((za SR7).ze hb8);have SX8:=hide ((za SX7).ze hb8);have SY8:=hide ((za SY7).ze hb8);have SM8:=hide hnew;clear hb8 hc8 hnew;have g08:=(za HV8).zb a0 (by simp);have g18:=(za HV8).zb c0 (by simp))
     | (go_at_call 93;have hchk:=SX6;clear hchk;refine (za M2 _ _ _ (by first | exact za SC6 | exact (za SC6).ze (But.refl _ _).drew) (by first | exact za SQ6 | exact (za SQ6).ze (But.refl _ _).drew)).mono ?_;rintro e w7 ⟨vm2,rfl,hnew,hc7,-⟩;have hb7:But [] w6 w7:=(by first | exact hc7 | exact (But.refl _ _).drew.trans' hc7);have HV7:Hid (But [] V w7):=(za HV6).trans' hb7;have SA7:=hide ((za SA6).ze hb7);have SB7:=hide ((za SB6).ze hb7);have SC7:=hide ((za SC6).ze hb7);have SD7:=hide ((za SD6).ze hb7);have SK7:=hide ((za SK6).ze hb7);have SQ7:=hide ((za SQ6).ze hb7);have SR7:=hide ((za SR6).ze hb7);have SX7:=hide ((za SX6).ze hb7);have SY7:=hide hnew;clear hb7 hc7 hnew;have g07:=(za HV7).zb a0 (by simp);have g17:=(za HV7).zb c0 (by simp))
     | (go_at_call 93;refine (za M1 _ _ _ (by first | exact za SA5 | exact (za SA5).ze (But.refl _ _).drew) (by first | exact za SR5 | exact (za SR5).ze (But.refl _ _).drew)).mono ?_;rintro e w6 ⟨vm1,rfl,hnew,hc6,-⟩;have hb6:But [] w5 w6:=(by first | exact hc6 | exact (But.refl _ _).drew.trans' hc6);have HV6:Hid (But [] V w6):=(za HV5).trans' hb6;have SA6:=hide ((za SA5).ze hb6);have SB6:=hide ((za SB5).ze hb6);have SC6:=hide ((za SC5).ze hb6);have SD6:=hide ((za SD5).ze hb6);have SK6:=hide ((za SK5).ze hb6);have SQ6:=hide ((za SQ5).ze hb6);have SR6:=hide ((za SR5).ze hb6);have SX6:=hide hnew;clear hb6 hc6 hnew;have g06:=(za HV6).zb a0 (by simp);have g16:=(za HV6).zb c0 (by simp))
     | (go_at_call 92;refine (za Q4 _ _ _ (by first | exact za SD4 | exact (za SD4).ze (But.refl _ _).drew) (by first | exact za SK4 | exact (za SK4).ze (But.refl _ _).drew)).mono ?_;rintro e w5 ⟨vq4,rfl,hnew,hc5⟩;have hb5:But [] w4 w5:=(by first | exact hc5 | exact (But.refl _ _).drew.trans' hc5);have HV5:Hid (But [] V w5):=(za HV4).trans' hb5;have SA5:=hide ((za SA4).ze hb5);have SB5:=hide ((za SB4).ze hb5);have SC5:=hide ((za SC4).ze hb5);have SD5:=hide ((za SD4).ze hb5);have SK5:=hide ((za SK4).ze hb5);have SQ5:=hide ((za SQ4).ze hb5);have SR5:=hide hnew;clear hb5 hc5 hnew;have g05:=(za HV5).zb a0 (by simp);have g15:=(za HV5).zb c0 (by simp)))
    clear g0 g1 g05 g15 g06 g16 g07 g17 SA4 SB4 SC4 SD4 SK4 SQ4 SA5 SB5 SC5 SD5 SK5 SQ5 SR5 SA6 SB6 SC6 SD6 SK6 SQ6 SR6 SX6 SA7 SB7 SC7 SD7 SK7 SQ7 SR7 SX7 SY7 HV4 HV5 HV6 HV7
    have g0:=g08
    have g1:=g18
    clear g08 g18
    have lm:=za LM M hle
    have kl:=za KL
    have k0p:=za K0
    have lg2:=za DL
    have q3l:=za QL
    obtain⟨m,hm⟩:∃ m,m=Nat.gcd M k:=⟨_,rfl⟩
    have m0p:0<m:=by rw[hm];exact Nat.gcd_pos_of_pos_right _ k0p
    have ml:(wd 18446744073709551616 m).length≤lenG:=Nat.le_trans (zu (by rw[hm];exact Nat.gcd_le_right _ k0p)) kl
    obtain⟨hn,hd⟩:=za AL r M m hm hN
    have habs:(f+g).num.natAbs=M/m:=by rw[hn,jg]
    have q5l:=bg M m 1000000 lm
    have q6l:=bg g.den m lenG lg2
    have m3l:=ja q3 (g.den/m)
    have G2:=hide (fun (W:World) (v1 v2:Value) (a:Sl .u64 W v1 (wd 18446744073709551616 M)) (b:Sl .u64 W v2 (wd 18446744073709551616 k))=>l9 v1 v2 M k W a b lm (by omega))
    rw[← hm] at G2
    have Q5:=hide (fun (W:World) (v1 v2:Value) (a:Sl .u64 W v1 (wd 18446744073709551616 M)) (b:Sl .u64 W v2 (wd 18446744073709551616 m))=>jb v1 v2 M m W a b m0p (by omega) (by omega) (Short.of _ _ lm))
    have Q6:=hide (fun (W:World) (v1 v2:Value) (a:Sl .u64 W v1 (wd 18446744073709551616 g.den)) (b:Sl .u64 W v2 (wd 18446744073709551616 m))=>jb v1 v2 g.den m W a b m0p (by omega) (by omega) (Short.of _ _ (by omega)))
    have M3:=hide (fun (W:World) (v1 v2:Value) (a:Sl .u64 W v1 (wd 18446744073709551616 q3)) (b:Sl .u64 W v2 (wd 18446744073709551616 (g.den/m)))=>jh v1 v2 _ _ W a b (by omega))
    have OL:=hide (fun (W:World) (v1 v2:Value) (a:Sl .u64 W v1 (wd 18446744073709551616 (M/m))) (b:Sl .u64 W v2 (wd 18446744073709551616 (q3*(g.den/m))))=>av r v1 v2 (f+g) W (by rw[habs];exact a) (by rw[hd];exact b) (by rw[habs];exact hn) (by rw[habs];omega) (by rw[hd];omega))
    clear hN hle lm kl k0p lg2 q3l hm m0p ml hn hd habs q5l q6l m3l AL LM KL K0 DL QL
    generalize q3*(g.den/m)=P3 at *
    generalize g.den/m=q6 at *
    generalize M/m=q5 at *
    go_wp2_with fail
    refine (za G2 _ _ _ (za SM8) (za SK8)).mono ?_
    rintro e w9 ⟨vmo,rfl,hnew,hb9⟩
    have HV9:Hid (But [] V w9):=(za HV8).trans' hb9
    have SA9:=hide ((za SA8).ze hb9)
    have SB9:=hide ((za SB8).ze hb9)
    have SC9:=hide ((za SC8).ze hb9)
    have SD9:=hide ((za SD8).ze hb9)
    have SK9:=hide ((za SK8).ze hb9)
    have SQ9:=hide ((za SQ8).ze hb9)
    have SR9:=hide ((za SR8).ze hb9)
    have SX9:=hide ((za SX8).ze hb9)
    have SY9:=hide ((za SY8).ze hb9)
    have SM9:=hide ((za SM8).ze hb9)
    have SN9:=hide hnew
    clear g0 g1 hb9 hnew SA8 SB8 SC8 SD8 SK8 SQ8 SR8 SX8 SY8 SM8 HV8
    have g0:=(za HV9).zb a0 (by simp)
    have g1:=(za HV9).zb c0 (by simp)
    go_wp2_with fail
    refine (za Q5 _ _ _ (za SM9) (za SN9)).mono ?_
    rintro e w10 ⟨vq5,rfl,hnew,hb10⟩
    have HV10:Hid (But [] V w10):=(za HV9).trans' hb10
    have SA10:=hide ((za SA9).ze hb10)
    have SB10:=hide ((za SB9).ze hb10)
    have SC10:=hide ((za SC9).ze hb10)
    have SD10:=hide ((za SD9).ze hb10)
    have SK10:=hide ((za SK9).ze hb10)
    have SQ10:=hide ((za SQ9).ze hb10)
    have SR10:=hide ((za SR9).ze hb10)
    have SX10:=hide ((za SX9).ze hb10)
    have SY10:=hide ((za SY9).ze hb10)
    have SM10:=hide ((za SM9).ze hb10)
    have SN10:=hide ((za SN9).ze hb10)
    have SU10:=hide hnew
    clear g0 g1 hb10 hnew SA9 SB9 SC9 SD9 SK9 SQ9 SR9 SX9 SY9 SM9 SN9 HV9
    have g0:=(za HV10).zb a0 (by simp)
    have g1:=(za HV10).zb c0 (by simp)
    go_wp2_with fail
    refine (za Q6 _ _ _ (za SD10) (za SN10)).mono ?_
    rintro e w11 ⟨vq6,rfl,hnew,hb11⟩
    have HV11:Hid (But [] V w11):=(za HV10).trans' hb11
    have SA11:=hide ((za SA10).ze hb11)
    have SB11:=hide ((za SB10).ze hb11)
    have SC11:=hide ((za SC10).ze hb11)
    have SD11:=hide ((za SD10).ze hb11)
    have SK11:=hide ((za SK10).ze hb11)
    have SQ11:=hide ((za SQ10).ze hb11)
    have SR11:=hide ((za SR10).ze hb11)
    have SX11:=hide ((za SX10).ze hb11)
    have SY11:=hide ((za SY10).ze hb11)
    have SM11:=hide ((za SM10).ze hb11)
    have SN11:=hide ((za SN10).ze hb11)
    have SU11:=hide ((za SU10).ze hb11)
    have SV11:=hide hnew
    clear g0 g1 hb11 hnew SA10 SB10 SC10 SD10 SK10 SQ10 SR10 SX10 SY10 SM10 SN10 SU10 HV10
    have g0:=(za HV11).zb a0 (by simp)
    have g1:=(za HV11).zb c0 (by simp)
    go_wp2_with fail
    refine (za M3 _ _ _ (za SQ11) (za SV11)).mono ?_
    rintro e w12 ⟨vm3,rfl,hnew,hb12,-⟩
    have HV12:Hid (But [] V w12):=(za HV11).trans' hb12
    have SA12:=hide ((za SA11).ze hb12)
    have SB12:=hide ((za SB11).ze hb12)
    have SC12:=hide ((za SC11).ze hb12)
    have SD12:=hide ((za SD11).ze hb12)
    have SK12:=hide ((za SK11).ze hb12)
    have SQ12:=hide ((za SQ11).ze hb12)
    have SR12:=hide ((za SR11).ze hb12)
    have SX12:=hide ((za SX11).ze hb12)
    have SY12:=hide ((za SY11).ze hb12)
    have SM12:=hide ((za SM11).ze hb12)
    have SN12:=hide ((za SN11).ze hb12)
    have SU12:=hide ((za SU11).ze hb12)
    have SV12:=hide ((za SV11).ze hb12)
    have SW12:=hide hnew
    clear g0 g1 hb12 hnew SA11 SB11 SC11 SD11 SK11 SQ11 SR11 SX11 SY11 SM11 SN11 SU11 SV11 HV11
    have g0:=(za HV12).zb a0 (by simp)
    have g1:=(za HV12).zb c0 (by simp)
    go_wp2_with fail
    refine (za OL _ _ _ (za SU12) (za SW12)).mono ?_
    rintro e wz ⟨vz,rfl,hfz,hbz⟩
    have HVz:Hid (But [] V wz):=(za HV12).trans' hbz
    have HBz:Hid (But [] w wz):=(za HBV).trans' (za HVz)
    have u0:=(za HVz).zb z0 (by simp)
    have u1:=(za HVz).zb z1 (by simp)
    have u2:=(za HVz).zb z2 (by simp)
    have u3:=(za HVz).zb z3 (by simp)
    have hgl:gr<V.heap.size:=lt_of_cell z0
    have uf:∀ j,wz.frozen? ⟨gr,j,none⟩=false:=fun j=>((za HVz).frozen (p:=⟨gr,j,none⟩) hgl (by simp)).trans (zf j)
    have Hz:=hide hfz
    obtain⟨x8,y8,p8,rfl,-⟩:=hfz.agg
    clear hbz hfz z0 z1 z2 z3 zf hgl g0 g1
    generalize decide ((f+g).num<0)=r8 at *
    go_wp2
    have hBf:=((((za HBz).setCell (p:=⟨gr,0,none⟩) (.inr (za HGR)) (.bool r8)).setCell (p:=⟨gr,1,none⟩) (.inr (za HGR)) (.int .u64 x8)).setCell (p:=⟨gr,2,none⟩) (.inr (za HGR)) (.int .u64 y8)).setCell (p:=⟨gr,3,none⟩) (.inr (za HGR)) (.pointer p8)
    have hBg:But [gr] wz ((((wz.setCell ⟨gr,0,none⟩ (.bool r8)).setCell ⟨gr,1,none⟩ (.int .u64 x8)).setCell ⟨gr,2,none⟩ (.int .u64 y8)).setCell ⟨gr,3,none⟩ (.pointer p8)):=(((((But.refl [gr] wz).setCell (.inl (by simp)) _).setCell (.inl (by simp)) _).setCell (.inl (by simp)) _).setCell (.inl (by simp)) _)
    exact bodyPost_ret (v:=.agg #[.bool r8,.int .u64 x8,.int .u64 y8,.pointer p8]) (by simp[results,results128,go_sem,u0,u1,u2,u3]) rfl ⟨_,rfl,((za BL).but (za HVz)).zav (za Hz) hBg,hBf⟩
  ·clear hp12
   go_enter func128,ntmps128
   go_wp2_with fail
   rw[← za HW]
   obtain⟨ga,hga⟩:∃ ga,ga=w.heap.size:=⟨_,rfl⟩
   obtain⟨gb,hgb⟩:∃ gb,gb=w.heap.size+1:=⟨_,rfl⟩
   obtain⟨gr,hgr⟩:∃ gr,gr=w.heap.size+2:=⟨_,rfl⟩
   rw[← hga] at a0 a1 a2 a3
   rw[← hgb] at b0 b1 b2 b3
   rw[← hgr] at r0 r1 r2 r3 fz BL
   rw[show w.heap.size+1+1=w.heap.size+2 from rfl,← hgr,← hgb,← hga]
   have HGR:Hid (w.heap.size≤gr):=by show _≤_;omega
   clear hga hgb hgr HW
   obtain⟨V,hV⟩:∃ V,V=W:=⟨_,rfl⟩
   rw[← hV] at a0 a1 a2 a3 b0 b1 b2 b3 r0 r1 r2 r3 fz BL
   rw[← hV]
   have HBV:Hid (But [] w V):=by rw[hV];exact za HB
   clear hV HB
   have c0:=b0
   have c1:=b1
   have c2:=b2
   have c3:=b3
   have z0:=r0
   have z1:=r1
   have z2:=r2
   have z3:=r3
   have zf:=fz
   clear b0 b1 b2 b3 r0 r1 r2 r3 fz
   refine (za NF _ ((za HFA).but (za HBV))).mono ?_
   rintro e w1 ⟨na,nb,rfl,hna,hnb,hb1⟩
   have d0:=hb1.zb c0 (by simp)
   have d1:=hb1.zb c1 (by simp)
   have d2:=hb1.zb c2 (by simp)
   have d3:=hb1.zb c3 (by simp)
   have HB1:Hid (But [] w w1):=(za HBV).trans' hb1
   have HV1:=hide hb1
   have SA1:=hide hna
   have SB1:=hide hnb
   clear hb1 hna hnb
   go_wp2_with fail
   refine (za NG _ ((za HGA).but (za HB1))).mono ?_
   rintro e w2 ⟨nc,nd,rfl,hnc,hnd,hb2⟩
   have HV2:Hid (But [] V w2):=(za HV1).trans' hb2
   have SA2:=hide ((za SA1).ze hb2)
   have SB2:=hide ((za SB1).ze hb2)
   have SC2:=hide hnc
   have SD2:=hide hnd
   clear hb2 hnc hnd SA1 SB1 d0 d1 d2 d3 NF NG HV1 HB1
   have g0:=(za HV2).zb a0 (by simp)
   have g1:=(za HV2).zb c0 (by simp)
   go_wp2_with fail
   refine (za G1 _ _ _ (za SB2) (za SD2)).mono ?_
   rintro e w3 ⟨vk,rfl,hnew,hb3⟩
   have HV3:Hid (But [] V w3):=(za HV2).trans' hb3
   have SA3:=hide ((za SA2).ze hb3)
   have SB3:=hide ((za SB2).ze hb3)
   have SC3:=hide ((za SC2).ze hb3)
   have SD3:=hide ((za SD2).ze hb3)
   have SK3:=hide hnew
   clear g0 g1 hb3 hnew SA2 SB2 SC2 SD2 HV2
   have g0:=(za HV3).zb a0 (by simp)
   have g1:=(za HV3).zb c0 (by simp)
   go_wp2_with fail
   refine (za Q3 _ _ _ (za SB3) (za SK3)).mono ?_
   rintro e w4 ⟨vq3,rfl,hnew,hb4⟩
   have HV4:Hid (But [] V w4):=(za HV3).trans' hb4
   have SA4:=hide ((za SA3).ze hb4)
   have SB4:=hide ((za SB3).ze hb4)
   have SC4:=hide ((za SC3).ze hb4)
   have SD4:=hide ((za SD3).ze hb4)
   have SK4:=hide ((za SK3).ze hb4)
   have SQ4:=hide hnew
   clear g0 g1 hb4 hnew SA3 SB3 SC3 SD3 SK3 HV3
   have g0:=(za HV4).zb a0 (by simp)
   have g1:=(za HV4).zb c0 (by simp)
   go_wp2_with fail
   go_region_held (fun w'=>w'.cell? ⟨ga,0,none⟩=some (.bool s1)∧w'.cell? ⟨gb,0,none⟩=some (.bool s2)) (go_keep) (first
    | (go_at_call 164;refine (za SS _ _ _ (by first | exact za SX7 | exact (za SX7).ze (But.refl _ _).drew) (by first | exact za SY7 | exact (za SY7).ze (But.refl _ _).drew)).mono ?_;rintro e w8 ⟨r,vM,M,rfl,hnew,hN,hle,hc8⟩;have hb8:But [] w7 w8:=(by first | exact hc8 | exact (But.refl _ _).drew.trans' hc8);have HV8:Hid (But [] V w8):=(za HV7).trans' hb8;have SA8:=hide ((za SA7).ze hb8);have SB8:=hide ((za SB7).ze hb8);have SC8:=hide ((za SC7).ze hb8);have SD8:=hide ((za SD7).ze hb8);have SK8:=hide ((za SK7).ze hb8);have SQ8:=hide ((za SQ7).ze hb8);have SR8:=hide ((za SR7).ze hb8);have SX8:=hide ((za SX7).ze hb8);have SY8:=hide ((za SY7).ze hb8);have SM8:=hide hnew;clear hb8 hc8 hnew;have g08:=(za HV8).zb a0 (by simp);have g18:=(za HV8).zb c0 (by simp))
    | (go_at_call 93;have hchk:=SX6;clear hchk;refine (za M2 _ _ _ (by first | exact za SC6 | exact (za SC6).ze (But.refl _ _).drew) (by first | exact za SQ6 | exact (za SQ6).ze (But.refl _ _).drew)).mono ?_;rintro e w7 ⟨vm2,rfl,hnew,hc7,-⟩;have hb7:But [] w6 w7:=(by first | exact hc7 | exact (But.refl _ _).drew.trans' hc7);have HV7:Hid (But [] V w7):=(za HV6).trans' hb7;have SA7:=hide ((za SA6).ze hb7);have SB7:=hide ((za SB6).ze hb7);have SC7:=hide ((za SC6).ze hb7);have SD7:=hide ((za SD6).ze hb7);have SK7:=hide ((za SK6).ze hb7);have SQ7:=hide ((za SQ6).ze hb7);have SR7:=hide ((za SR6).ze hb7);have SX7:=hide ((za SX6).ze hb7);have SY7:=hide hnew;clear hb7 hc7 hnew;have g07:=(za HV7).zb a0 (by simp);have g17:=(za HV7).zb c0 (by simp))
    | (go_at_call 93;refine (za M1 _ _ _ (by first | exact za SA5 | exact (za SA5).ze (But.refl _ _).drew) (by first | exact za SR5 | exact (za SR5).ze (But.refl _ _).drew)).mono ?_;rintro e w6 ⟨vm1,rfl,hnew,hc6,-⟩;have hb6:But [] w5 w6:=(by first | exact hc6 | exact (But.refl _ _).drew.trans' hc6);have HV6:Hid (But [] V w6):=(za HV5).trans' hb6;have SA6:=hide ((za SA5).ze hb6);have SB6:=hide ((za SB5).ze hb6);have SC6:=hide ((za SC5).ze hb6);have SD6:=hide ((za SD5).ze hb6);have SK6:=hide ((za SK5).ze hb6);have SQ6:=hide ((za SQ5).ze hb6);have SR6:=hide ((za SR5).ze hb6);have SX6:=hide hnew;clear hb6 hc6 hnew;have g06:=(za HV6).zb a0 (by simp);have g16:=(za HV6).zb c0 (by simp))
    | (go_at_call 92;refine (za Q4 _ _ _ (by first | exact za SD4 | exact (za SD4).ze (But.refl _ _).drew) (by first | exact za SK4 | exact (za SK4).ze (But.refl _ _).drew)).mono ?_;rintro e w5 ⟨vq4,rfl,hnew,hc5⟩;have hb5:But [] w4 w5:=(by first | exact hc5 | exact (But.refl _ _).drew.trans' hc5);have HV5:Hid (But [] V w5):=(za HV4).trans' hb5;have SA5:=hide ((za SA4).ze hb5);have SB5:=hide ((za SB4).ze hb5);have SC5:=hide ((za SC4).ze hb5);have SD5:=hide ((za SD4).ze hb5);have SK5:=hide ((za SK4).ze hb5);have SQ5:=hide ((za SQ4).ze hb5);have SR5:=hide hnew;clear hb5 hc5 hnew;have g05:=(za HV5).zb a0 (by simp);have g15:=(za HV5).zb c0 (by simp)))
   clear g0 g1 g05 g15 g06 g16 g07 g17 SA4 SB4 SC4 SD4 SK4 SQ4 SA5 SB5 SC5 SD5 SK5 SQ5 SR5 SA6 SB6 SC6 SD6 SK6 SQ6 SR6 SX6 SA7 SB7 SC7 SD7 SK7 SQ7 SR7 SX7 SY7 HV4 HV5 HV6 HV7
   have g0:=g08
   have g1:=g18
   clear g08 g18
   have lm:=za LM M hle
   have kl:=za KL
   have k0p:=za K0
   have lg2:=za DL
   have q3l:=za QL
   obtain⟨m,hm⟩:∃ m,m=Nat.gcd M k:=⟨_,rfl⟩
   have m0p:0<m:=by rw[hm];exact Nat.gcd_pos_of_pos_right _ k0p
   have ml:(wd 18446744073709551616 m).length≤lenG:=Nat.le_trans (zu (by rw[hm];exact Nat.gcd_le_right _ k0p)) kl
   obtain⟨hn,hd⟩:=za AL r M m hm hN
   have habs:(f+g).num.natAbs=M/m:=by rw[hn,jg]
   have q5l:=bg M m 1000000 lm
   have q6l:=bg g.den m lenG lg2
   have m3l:=ja q3 (g.den/m)
   have G2:=hide (fun (W:World) (v1 v2:Value) (a:Sl .u64 W v1 (wd 18446744073709551616 M)) (b:Sl .u64 W v2 (wd 18446744073709551616 k))=>l9 v1 v2 M k W a b lm (by omega))
   rw[← hm] at G2
   have Q5:=hide (fun (W:World) (v1 v2:Value) (a:Sl .u64 W v1 (wd 18446744073709551616 M)) (b:Sl .u64 W v2 (wd 18446744073709551616 m))=>jb v1 v2 M m W a b m0p (by omega) (by omega) (Short.of _ _ lm))
   have Q6:=hide (fun (W:World) (v1 v2:Value) (a:Sl .u64 W v1 (wd 18446744073709551616 g.den)) (b:Sl .u64 W v2 (wd 18446744073709551616 m))=>jb v1 v2 g.den m W a b m0p (by omega) (by omega) (Short.of _ _ (by omega)))
   have M3:=hide (fun (W:World) (v1 v2:Value) (a:Sl .u64 W v1 (wd 18446744073709551616 q3)) (b:Sl .u64 W v2 (wd 18446744073709551616 (g.den/m)))=>jh v1 v2 _ _ W a b (by omega))
   have OL:=hide (fun (W:World) (v1 v2:Value) (a:Sl .u64 W v1 (wd 18446744073709551616 (M/m))) (b:Sl .u64 W v2 (wd 18446744073709551616 (q3*(g.den/m))))=>av r v1 v2 (f+g) W (by rw[habs];exact a) (by rw[hd];exact b) (by rw[habs];exact hn) (by rw[habs];omega) (by rw[hd];omega))
   clear hN hle lm kl k0p lg2 q3l hm m0p ml hn hd habs q5l q6l m3l AL LM KL K0 DL QL
   generalize q3*(g.den/m)=P3 at *
   generalize g.den/m=q6 at *
   generalize M/m=q5 at *
   go_wp2_with fail
   refine (za G2 _ _ _ (za SM8) (za SK8)).mono ?_
   rintro e w9 ⟨vmo,rfl,hnew,hb9⟩
   have HV9:Hid (But [] V w9):=(za HV8).trans' hb9
   have SA9:=hide ((za SA8).ze hb9)
   have SB9:=hide ((za SB8).ze hb9)
   have SC9:=hide ((za SC8).ze hb9)
   have SD9:=hide ((za SD8).ze hb9)
   have SK9:=hide ((za SK8).ze hb9)
   have SQ9:=hide ((za SQ8).ze hb9)
   have SR9:=hide ((za SR8).ze hb9)
   have SX9:=hide ((za SX8).ze hb9)
   have SY9:=hide ((za SY8).ze hb9)
   have SM9:=hide ((za SM8).ze hb9)
   have SN9:=hide hnew
   clear g0 g1 hb9 hnew SA8 SB8 SC8 SD8 SK8 SQ8 SR8 SX8 SY8 SM8 HV8
   have g0:=(za HV9).zb a0 (by simp)
   have g1:=(za HV9).zb c0 (by simp)
   go_wp2_with fail
   refine (za Q5 _ _ _ (za SM9) (za SN9)).mono ?_
   rintro e w10 ⟨vq5,rfl,hnew,hb10⟩
   have HV10:Hid (But [] V w10):=(za HV9).trans' hb10
   have SA10:=hide ((za SA9).ze hb10)
   have SB10:=hide ((za SB9).ze hb10)
   have SC10:=hide ((za SC9).ze hb10)
   have SD10:=hide ((za SD9).ze hb10)
   have SK10:=hide ((za SK9).ze hb10)
   have SQ10:=hide ((za SQ9).ze hb10)
   have SR10:=hide ((za SR9).ze hb10)
   have SX10:=hide ((za SX9).ze hb10)
   have SY10:=hide ((za SY9).ze hb10)
   have SM10:=hide ((za SM9).ze hb10)
   have SN10:=hide ((za SN9).ze hb10)
   have SU10:=hide hnew
   clear g0 g1 hb10 hnew SA9 SB9 SC9 SD9 SK9 SQ9 SR9 SX9 SY9 SM9 SN9 HV9
   have g0:=(za HV10).zb a0 (by simp)
   have g1:=(za HV10).zb c0 (by simp)
   go_wp2_with fail
   refine (za Q6 _ _ _ (za SD10) (za SN10)).mono ?_
   rintro e w11 ⟨vq6,rfl,hnew,hb11⟩
   have HV11:Hid (But [] V w11):=(za HV10).trans' hb11
   have SA11:=hide ((za SA10).ze hb11)
   have SB11:=hide ((za SB10).ze hb11)
   have SC11:=hide ((za SC10).ze hb11)
   have SD11:=hide ((za SD10).ze hb11)
   have SK11:=hide ((za SK10).ze hb11)
   have SQ11:=hide ((za SQ10).ze hb11)
   have SR11:=hide ((za SR10).ze hb11)
   have SX11:=hide ((za SX10).ze hb11)
   have SY11:=hide ((za SY10).ze hb11)
   have SM11:=hide ((za SM10).ze hb11)
   have SN11:=hide ((za SN10).ze hb11)
   have SU11:=hide ((za SU10).ze hb11)
   have SV11:=hide hnew
   clear g0 g1 hb11 hnew SA10 SB10 SC10 SD10 SK10 SQ10 SR10 SX10 SY10 SM10 SN10 SU10 HV10
   have g0:=(za HV11).zb a0 (by simp)
   have g1:=(za HV11).zb c0 (by simp)
   go_wp2_with fail
   refine (za M3 _ _ _ (za SQ11) (za SV11)).mono ?_
   rintro e w12 ⟨vm3,rfl,hnew,hb12,-⟩
   have HV12:Hid (But [] V w12):=(za HV11).trans' hb12
   have SA12:=hide ((za SA11).ze hb12)
   have SB12:=hide ((za SB11).ze hb12)
   have SC12:=hide ((za SC11).ze hb12)
   have SD12:=hide ((za SD11).ze hb12)
   have SK12:=hide ((za SK11).ze hb12)
   have SQ12:=hide ((za SQ11).ze hb12)
   have SR12:=hide ((za SR11).ze hb12)
   have SX12:=hide ((za SX11).ze hb12)
   have SY12:=hide ((za SY11).ze hb12)
   have SM12:=hide ((za SM11).ze hb12)
   have SN12:=hide ((za SN11).ze hb12)
   have SU12:=hide ((za SU11).ze hb12)
   have SV12:=hide ((za SV11).ze hb12)
   have SW12:=hide hnew
   clear g0 g1 hb12 hnew SA11 SB11 SC11 SD11 SK11 SQ11 SR11 SX11 SY11 SM11 SN11 SU11 SV11 HV11
   have g0:=(za HV12).zb a0 (by simp)
   have g1:=(za HV12).zb c0 (by simp)
   go_wp2_with fail
   refine (za OL _ _ _ (za SU12) (za SW12)).mono ?_
   rintro e wz ⟨vz,rfl,hfz,hbz⟩
   have HVz:Hid (But [] V wz):=(za HV12).trans' hbz
   have HBz:Hid (But [] w wz):=(za HBV).trans' (za HVz)
   have u0:=(za HVz).zb z0 (by simp)
   have u1:=(za HVz).zb z1 (by simp)
   have u2:=(za HVz).zb z2 (by simp)
   have u3:=(za HVz).zb z3 (by simp)
   have hgl:gr<V.heap.size:=lt_of_cell z0
   have uf:∀ j,wz.frozen? ⟨gr,j,none⟩=false:=fun j=>((za HVz).frozen (p:=⟨gr,j,none⟩) hgl (by simp)).trans (zf j)
   have Hz:=hide hfz
   obtain⟨x8,y8,p8,rfl,-⟩:=hfz.agg
   clear hbz hfz z0 z1 z2 z3 zf hgl g0 g1
   generalize decide ((f+g).num<0)=r8 at *
   go_wp2
   have hBf:=((((za HBz).setCell (p:=⟨gr,0,none⟩) (.inr (za HGR)) (.bool r8)).setCell (p:=⟨gr,1,none⟩) (.inr (za HGR)) (.int .u64 x8)).setCell (p:=⟨gr,2,none⟩) (.inr (za HGR)) (.int .u64 y8)).setCell (p:=⟨gr,3,none⟩) (.inr (za HGR)) (.pointer p8)
   have hBg:But [gr] wz ((((wz.setCell ⟨gr,0,none⟩ (.bool r8)).setCell ⟨gr,1,none⟩ (.int .u64 x8)).setCell ⟨gr,2,none⟩ (.int .u64 y8)).setCell ⟨gr,3,none⟩ (.pointer p8)):=(((((But.refl [gr] wz).setCell (.inl (by simp)) _).setCell (.inl (by simp)) _).setCell (.inl (by simp)) _).setCell (.inl (by simp)) _)
   exact bodyPost_ret (v:=.agg #[.bool r8,.int .u64 x8,.int .u64 y8,.pointer p8]) (by simp[results,results128,go_sem,u0,u1,u2,u3]) rfl ⟨_,rfl,((za BL).but (za HVz)).zav (za Hz) hBg,hBf⟩
theorem ztr (vf vg:Value) (f g:Rat) (w:World) (hf:zi w vf f) (hg:zi w vg g) (lf:Len f 499999) (lg:Len g 499999) :
  Calls prog 128 #[vf,vg] w fun e w'=>∃ v,e=.returned v∧zi w' v (f+g)∧But [] w w':=zin 499999 499999 (by omega) vf vg f g w hf hg lf lg
end Go.Proofs.YtcgecpoedojhjaaGreatDoor
