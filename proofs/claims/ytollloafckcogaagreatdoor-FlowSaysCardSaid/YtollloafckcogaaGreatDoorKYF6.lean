/- The sum of two fractions, as the Go text -/
import Derived.Test.YtollloafckcogaaGreatDoorKYF5
namespace Go.Proofs.YtollloafckcogaaGreatDoor
open Go.RowKit
set_option maxHeartbeats 8000000
set_option maxRecDepth 100000
theorem fracAdd_gen (lenF lenG:Nat) (hab:lenF+lenG+1≤1000000) (vf vg:Value) (f g:Rat) (w:World) (hf:FracAt w vf f) (hg:FracAt w vg g) (lf:Len f lenF) (lg:Len g lenG) :
  Calls Tryz.prog 59 #[vf,vg] w fun e w'=>∃ v,e=.returned v∧FracAt w' v (f+g)∧But [] w w':=by
 obtain ⟨k,hk⟩:∃ k,k=Nat.gcd f.den g.den:=⟨_,rfl⟩
 have k0p:0<k:=by rw [hk];exact Nat.gcd_pos_of_pos_left _ (den_pos f)
 have kl:(wd 18446744073709551616 k).length≤lenG:=Nat.le_trans (wd_len_mono (by rw [hk];exact Nat.gcd_le_right _ (den_pos g))) lg.2
 have NF:=hide (fun W (h:FracAt W vf f)=>numbers_any vf f W h)
 have NG:=hide (fun W (h:FracAt W vg g)=>numbers_any vg g W h)
 obtain ⟨lf1,lf2⟩:=lf
 obtain ⟨lg1,lg2⟩:=lg
 have q3l:=len_quo f.den k lenF lf2
 have q4l:=len_quo g.den k lenG lg2
 have m1l:=wd_len_mul f.num.natAbs (g.den/k)
 have m2l:=wd_len_mul g.num.natAbs (f.den/k)
 have LM:Hid (∀ M,M≤f.num.natAbs*(g.den/k)+g.num.natAbs*(f.den/k)→(wd 18446744073709551616 M).length≤1000000):=fun M hM=>by
  have h1:=lt_of_wd_length (B:=18446744073709551616) (by omega) (f.num.natAbs*(g.den/k)) (lenF+lenG) (by omega)
  have h2:=lt_of_wd_length (B:=18446744073709551616) (by omega) (g.num.natAbs*(f.den/k)) (lenF+lenG) (by omega)
  have h3:=wd_len_add _ _ (lenF+lenG) h1 h2
  have h4:=wd_len_mono hM
  omega
 have AL:Hid (∀ (r:Bool) (M m:Nat),m=Nat.gcd M k→sgn (decide (f.num<0)) (f.num.natAbs*(g.den/k))+sgn (decide (g.num<0)) (g.num.natAbs*(f.den/k))=sgn r M→(f+g).num=sgn r (M/m)∧(f+g).den=(f.den/k)*(g.den/m)):=fun r M m hm h1=>add_low f g r M k m hk hm (by rw [← h1,sgn_mul,sgn_mul,← num_sgn f,← num_sgn g])
 have G1:=hide (fun (W:World) (v1 v2:Value) (a:Sl .u64 W v1 (wd 18446744073709551616 f.den)) (b:Sl .u64 W v2 (wd 18446744073709551616 g.den))=>natGcd_any v1 v2 f.den g.den W a b (by omega) (by omega))
 rw [← hk] at G1
 have Q3:=hide (fun (W:World) (v1 v2:Value) (a:Sl .u64 W v1 (wd 18446744073709551616 f.den)) (b:Sl .u64 W v2 (wd 18446744073709551616 k))=>natQuo_any v1 v2 f.den k W a b k0p (by omega) (by omega) (Short.of _ _ (by omega)))
 have Q4:=hide (fun (W:World) (v1 v2:Value) (a:Sl .u64 W v1 (wd 18446744073709551616 g.den)) (b:Sl .u64 W v2 (wd 18446744073709551616 k))=>natQuo_any v1 v2 g.den k W a b k0p (by omega) (by omega) (Short.of _ _ (by omega)))
 have M1:=hide (fun (W:World) (v1 v2:Value) (a:Sl .u64 W v1 (wd 18446744073709551616 f.num.natAbs)) (b:Sl .u64 W v2 (wd 18446744073709551616 (g.den/k)))=>natMul_any v1 v2 _ _ W a b (by omega))
 have M2:=hide (fun (W:World) (v1 v2:Value) (a:Sl .u64 W v1 (wd 18446744073709551616 g.num.natAbs)) (b:Sl .u64 W v2 (wd 18446744073709551616 (f.den/k)))=>natMul_any v1 v2 _ _ W a b (by omega))
 have SS:=hide (fun (W:World) (v1 v2:Value) (a:Sl .u64 W v1 (wd 18446744073709551616 (f.num.natAbs*(g.den/k)))) (b:Sl .u64 W v2 (wd 18446744073709551616 (g.num.natAbs*(f.den/k))))=>signedSum_any (decide (f.num<0)) (decide (g.num<0)) v1 v2 _ _ W a b (by omega) (by omega))
 have MW:=hide (fun (W:World) h1 h2 h3 h4=>addWords_frac f g W h1 h2 h3 h4)
 have KL:=hide kl
 have K0:=hide k0p
 have DL:=hide lg2
 have QL:=hide q3l
 have HFA:=hide hf
 have HGA:=hide hg
 obtain ⟨x1,y1,p1,rfl,hw1⟩:=hf.agg
 obtain ⟨x2,y2,p2,rfl,hw2⟩:=hg.agg
 have HW1:=hide hw1
 have HW2:=hide hw2
 clear hk hf hg hw1 hw2 kl k0p q3l q4l m1l m2l lf1 lf2 lg1 lg2
 generalize f.num.natAbs*(g.den/k)=P1 at *
 generalize g.num.natAbs*(f.den/k)=P2 at *
 generalize f.den/k=q3 at *
 generalize g.den/k=q4 at *
 generalize hsf:decide (f.num<0)=s1 at *
 generalize hsg:decide (g.num<0)=s2 at *
 clear hsf hsg
 obtain ⟨W,hW⟩:∃ W,W=(((w.alloc (.cells #[.bool s1,.int .u64 x1,.int .u64 y1,.pointer p1] 27)).alloc (.cells #[.bool s2,.int .u64 x2,.int .u64 y2,.pointer p2] 27)).alloc (.cells #[.bool false,.int .u64 0,.int .u64 0,.pointer none] 27)):=⟨_,rfl⟩
 obtain ⟨tA,tB,tC,fz,hB⟩:=three_new w W _ _ _ _ hW
 have a0:=tA 0
 have a1:=tA 1
 have a2:=tA 2
 have a3:=tA 3
 have b0:=tB 0
 have b1:=tB 1
 have b2:=tB 2
 have b3:=tB 3
 have r0:=tC 0
 have r1:=tC 1
 have r2:=tC 2
 have r3:=tC 3
 simp only [List.getElem?_toArray,List.getElem?_cons_zero,List.getElem?_cons_succ] at a0 a1 a2 a3 b0 b1 b2 b3 r0 r1 r2 r3
 have BL:Hid (Blank W (w.heap.size+2)):=⟨r0,r1,r2,r3,fun j hj=>by rw [tC j];simp;omega⟩
 clear tA tB tC
 have HW:=hide hW
 have HB:=hide hB
 clear hW hB
 by_cases hpp:p1=none∧p2=none
 ·obtain ⟨rfl,rfl⟩:=hpp
  obtain ⟨h1,h2,ex1,ey1⟩:=unhide HW1 rfl
  obtain ⟨h3,h4,ex2,ey2⟩:=unhide HW2 rfl
  have MW':=hide (unhide MW W h1 h2 h3 h4)
  rw [← ex1,← ey1,← ex2,← ey2] at MW'
  clear MW HW1 HW2 h1 h2 h3 h4 ex1 ex2 ey1 ey2
  go_enter Tryz.func59,Tryz.ntmps59
  go_wp2_with fail
  rw [← unhide HW]
  obtain ⟨ga,hga⟩:∃ ga,ga=w.heap.size:=⟨_,rfl⟩
  obtain ⟨gb,hgb⟩:∃ gb,gb=w.heap.size+1:=⟨_,rfl⟩
  obtain ⟨gr,hgr⟩:∃ gr,gr=w.heap.size+2:=⟨_,rfl⟩
  rw [← hga] at a0 a1 a2 a3
  rw [← hgb] at b0 b1 b2 b3
  rw [← hgr] at r0 r1 r2 r3 fz BL
  rw [show w.heap.size+1+1=w.heap.size+2 from rfl,← hgr,← hgb,← hga]
  have HGR:Hid (w.heap.size≤gr):=by show _≤_;omega
  clear hga hgb hgr HW
  refine (unhide MW').mono ?_
  rintro e w0 ⟨r9,x9,y9,ok,rfl,hok,hb0⟩
  have grl:gr<W.heap.size:=lt_of_cell r0
  have f0:∀ j,w0.frozen? ⟨gr,j,none⟩=false:=fun j=>(hb0.frozen (p:=⟨gr,j,none⟩) grl (by simp)).trans (fz j)
  have BL0:=hide ((unhide BL).but hb0)
  have a0':=hb0.cell_some a0 (by simp)
  have a1':=hb0.cell_some a1 (by simp)
  have a2':=hb0.cell_some a2 (by simp)
  have a3':=hb0.cell_some a3 (by simp)
  have b0':=hb0.cell_some b0 (by simp)
  have b1':=hb0.cell_some b1 (by simp)
  have b2':=hb0.cell_some b2 (by simp)
  have b3':=hb0.cell_some b3 (by simp)
  have r0':=hb0.cell_some r0 (by simp)
  have r1':=hb0.cell_some r1 (by simp)
  have r2':=hb0.cell_some r2 (by simp)
  have r3':=hb0.cell_some r3 (by simp)
  have HB0:Hid (But [] w w0):=(unhide HB).trans' hb0
  have HOK:=hide hok
  clear hok hb0 a0 a1 a2 a3 b0 b1 b2 b3 r0 r1 r2 r3 fz MW' HB BL
  have grl0:gr<w0.heap.size:=lt_of_cell r0'
  cases ok
  ·obtain ⟨V,hV⟩:∃ V,V=w0.alloc (.cells #[.bool r9,.int .u64 x9,.int .u64 y9,.pointer none] 27):=⟨_,rfl⟩
   have hbV:But [] w0 V:=by rw [hV];exact (But.refl _ _).alloc _
   have HBV:Hid (But [] w V):=(unhide HB0).trans' hbV
   have BL:=hide ((unhide BL0).but hbV)
   have a0:=hbV.cell_some a0' (by simp)
   have a1:=hbV.cell_some a1' (by simp)
   have a2:=hbV.cell_some a2' (by simp)
   have a3:=hbV.cell_some a3' (by simp)
   have c0:=hbV.cell_some b0' (by simp)
   have c1:=hbV.cell_some b1' (by simp)
   have c2:=hbV.cell_some b2' (by simp)
   have c3:=hbV.cell_some b3' (by simp)
   have z0:=hbV.cell_some r0' (by simp)
   have z1:=hbV.cell_some r1' (by simp)
   have z2:=hbV.cell_some r2' (by simp)
   have z3:=hbV.cell_some r3' (by simp)
   have zf:∀ j,V.frozen? ⟨gr,j,none⟩=false:=fun j=>(hbV.frozen (p:=⟨gr,j,none⟩) grl0 (by simp)).trans (f0 j)
   have HV:=hide hV
   have gal:ga<w0.heap.size:=lt_of_cell a0'
   have gbl:gb<w0.heap.size:=lt_of_cell b0'
   clear hV hbV b0' b1' b2' b3' r0' r1' r2' r3' f0 BL0 HB0 HOK
   go_wp2_with fail
   rw [← unhide HV]
   clear a0' a1' a2' a3' HV
   refine (unhide NF _ ((unhide HFA).but (unhide HBV))).mono ?_
   rintro e w1 ⟨na,nb,rfl,hna,hnb,hb1⟩
   have d0:=hb1.cell_some c0 (by simp)
   have d1:=hb1.cell_some c1 (by simp)
   have d2:=hb1.cell_some c2 (by simp)
   have d3:=hb1.cell_some c3 (by simp)
   have HB1:Hid (But [] w w1):=(unhide HBV).trans' hb1
   have HV1:=hide hb1
   have SA1:=hide hna
   have SB1:=hide hnb
   clear hb1 hna hnb
   go_wp2_with fail
   refine (unhide NG _ ((unhide HGA).but (unhide HB1))).mono ?_
   rintro e w2 ⟨nc,nd,rfl,hnc,hnd,hb2⟩
   have HV2:Hid (But [] V w2):=(unhide HV1).trans' hb2
   have SA2:=hide ((unhide SA1).but_nil hb2)
   have SB2:=hide ((unhide SB1).but_nil hb2)
   have SC2:=hide hnc
   have SD2:=hide hnd
   clear hb2 hnc hnd SA1 SB1 d0 d1 d2 d3 NF NG HV1 HB1
   have g0:=(unhide HV2).cell_some a0 (by simp)
   have g1:=(unhide HV2).cell_some c0 (by simp)
   go_wp2_with fail
   refine (unhide G1 _ _ _ (unhide SB2) (unhide SD2)).mono ?_
   rintro e w3 ⟨vk,rfl,hnew,hb3⟩
   have HV3:Hid (But [] V w3):=(unhide HV2).trans' hb3
   have SA3:=hide ((unhide SA2).but_nil hb3)
   have SB3:=hide ((unhide SB2).but_nil hb3)
   have SC3:=hide ((unhide SC2).but_nil hb3)
   have SD3:=hide ((unhide SD2).but_nil hb3)
   have SK3:=hide hnew
   clear g0 g1 hb3 hnew SA2 SB2 SC2 SD2 HV2
   have g0:=(unhide HV3).cell_some a0 (by simp)
   have g1:=(unhide HV3).cell_some c0 (by simp)
   go_wp2_with fail
   refine (unhide Q3 _ _ _ (unhide SB3) (unhide SK3)).mono ?_
   rintro e w4 ⟨vq3,rfl,hnew,hb4⟩
   have HV4:Hid (But [] V w4):=(unhide HV3).trans' hb4
   have SA4:=hide ((unhide SA3).but_nil hb4)
   have SB4:=hide ((unhide SB3).but_nil hb4)
   have SC4:=hide ((unhide SC3).but_nil hb4)
   have SD4:=hide ((unhide SD3).but_nil hb4)
   have SK4:=hide ((unhide SK3).but_nil hb4)
   have SQ4:=hide hnew
   clear g0 g1 hb4 hnew SA3 SB3 SC3 SD3 SK3 HV3
   have g0:=(unhide HV4).cell_some a0 (by simp)
   have g1:=(unhide HV4).cell_some c0 (by simp)
   go_wp2_with fail
   go_region_held (fun w'=>w'.cell? ⟨ga,0,none⟩=some (.bool s1)∧w'.cell? ⟨gb,0,none⟩=some (.bool s2)) (go_keep) (first
    | (go_at_call 113;refine (unhide SS _ _ _ (by first | exact unhide SX7 | exact (unhide SX7).but_nil (But.refl _ _).drew) (by first | exact unhide SY7 | exact (unhide SY7).but_nil (But.refl _ _).drew)).mono ?_;rintro e w8 ⟨r,vM,M,rfl,hnew,hN,hle,hc8⟩;have hb8:But [] w7 w8:=(by first | exact hc8 | exact (But.refl _ _).drew.trans' hc8);have HV8:Hid (But [] V w8):=(unhide HV7).trans' hb8;have SA8:=hide ((unhide SA7).but_nil hb8);have SB8:=hide ((unhide SB7).but_nil hb8);have SC8:=hide ((unhide SC7).but_nil hb8);have SD8:=hide ((unhide SD7).but_nil hb8);have SK8:=hide ((unhide SK7).but_nil hb8);have SQ8:=hide ((unhide SQ7).but_nil hb8);have SR8:=hide ((unhide SR7).but_nil hb8);have SX8:=hide ((unhide SX7).but_nil hb8);have SY8:=hide ((unhide SY7).but_nil hb8);have SM8:=hide hnew;clear hb8 hc8 hnew;have g08:=(unhide HV8).cell_some a0 (by simp);have g18:=(unhide HV8).cell_some c0 (by simp))
    | (go_at_call 111;have hchk:=SX6;clear hchk;refine (unhide M2 _ _ _ (by first | exact unhide SC6 | exact (unhide SC6).but_nil (But.refl _ _).drew) (by first | exact unhide SQ6 | exact (unhide SQ6).but_nil (But.refl _ _).drew)).mono ?_;rintro e w7 ⟨vm2,rfl,hnew,hc7,-⟩;have hb7:But [] w6 w7:=(by first | exact hc7 | exact (But.refl _ _).drew.trans' hc7);have HV7:Hid (But [] V w7):=(unhide HV6).trans' hb7;have SA7:=hide ((unhide SA6).but_nil hb7);have SB7:=hide ((unhide SB6).but_nil hb7);have SC7:=hide ((unhide SC6).but_nil hb7);have SD7:=hide ((unhide SD6).but_nil hb7);have SK7:=hide ((unhide SK6).but_nil hb7);have SQ7:=hide ((unhide SQ6).but_nil hb7);have SR7:=hide ((unhide SR6).but_nil hb7);have SX7:=hide ((unhide SX6).but_nil hb7);have SY7:=hide hnew;clear hb7 hc7 hnew;have g07:=(unhide HV7).cell_some a0 (by simp);have g17:=(unhide HV7).cell_some c0 (by simp))
    | (go_at_call 111;refine (unhide M1 _ _ _ (by first | exact unhide SA5 | exact (unhide SA5).but_nil (But.refl _ _).drew) (by first | exact unhide SR5 | exact (unhide SR5).but_nil (But.refl _ _).drew)).mono ?_;rintro e w6 ⟨vm1,rfl,hnew,hc6,-⟩;have hb6:But [] w5 w6:=(by first | exact hc6 | exact (But.refl _ _).drew.trans' hc6);have HV6:Hid (But [] V w6):=(unhide HV5).trans' hb6;have SA6:=hide ((unhide SA5).but_nil hb6);have SB6:=hide ((unhide SB5).but_nil hb6);have SC6:=hide ((unhide SC5).but_nil hb6);have SD6:=hide ((unhide SD5).but_nil hb6);have SK6:=hide ((unhide SK5).but_nil hb6);have SQ6:=hide ((unhide SQ5).but_nil hb6);have SR6:=hide ((unhide SR5).but_nil hb6);have SX6:=hide hnew;clear hb6 hc6 hnew;have g06:=(unhide HV6).cell_some a0 (by simp);have g16:=(unhide HV6).cell_some c0 (by simp))
    | (go_at_call 110;refine (unhide Q4 _ _ _ (by first | exact unhide SD4 | exact (unhide SD4).but_nil (But.refl _ _).drew) (by first | exact unhide SK4 | exact (unhide SK4).but_nil (But.refl _ _).drew)).mono ?_;rintro e w5 ⟨vq4,rfl,hnew,hc5⟩;have hb5:But [] w4 w5:=(by first | exact hc5 | exact (But.refl _ _).drew.trans' hc5);have HV5:Hid (But [] V w5):=(unhide HV4).trans' hb5;have SA5:=hide ((unhide SA4).but_nil hb5);have SB5:=hide ((unhide SB4).but_nil hb5);have SC5:=hide ((unhide SC4).but_nil hb5);have SD5:=hide ((unhide SD4).but_nil hb5);have SK5:=hide ((unhide SK4).but_nil hb5);have SQ5:=hide ((unhide SQ4).but_nil hb5);have SR5:=hide hnew;clear hb5 hc5 hnew;have g05:=(unhide HV5).cell_some a0 (by simp);have g15:=(unhide HV5).cell_some c0 (by simp)))
   clear g0 g1 g05 g15 g06 g16 g07 g17 SA4 SB4 SC4 SD4 SK4 SQ4 SA5 SB5 SC5 SD5 SK5 SQ5 SR5 SA6 SB6 SC6 SD6 SK6 SQ6 SR6 SX6 SA7 SB7 SC7 SD7 SK7 SQ7 SR7 SX7 SY7 HV4 HV5 HV6 HV7
   have g0:=g08
   have g1:=g18
   clear g08 g18
   have lm:=unhide LM M hle
   have kl:=unhide KL
   have k0p:=unhide K0
   have lg2:=unhide DL
   have q3l:=unhide QL
   obtain ⟨m,hm⟩:∃ m,m=Nat.gcd M k:=⟨_,rfl⟩
   have m0p:0<m:=by rw [hm];exact Nat.gcd_pos_of_pos_right _ k0p
   have ml:(wd 18446744073709551616 m).length≤lenG:=Nat.le_trans (wd_len_mono (by rw [hm];exact Nat.gcd_le_right _ k0p)) kl
   obtain ⟨hn,hd⟩:=unhide AL r M m hm hN
   have habs:(f+g).num.natAbs=M/m:=by rw [hn,sgn_abs]
   have q5l:=len_quo M m 1000000 lm
   have q6l:=len_quo g.den m lenG lg2
   have m3l:=wd_len_mul q3 (g.den/m)
   have G2:=hide (fun (W:World) (v1 v2:Value) (a:Sl .u64 W v1 (wd 18446744073709551616 M)) (b:Sl .u64 W v2 (wd 18446744073709551616 k))=>natGcd_any v1 v2 M k W a b lm (by omega))
   rw [← hm] at G2
   have Q5:=hide (fun (W:World) (v1 v2:Value) (a:Sl .u64 W v1 (wd 18446744073709551616 M)) (b:Sl .u64 W v2 (wd 18446744073709551616 m))=>natQuo_any v1 v2 M m W a b m0p (by omega) (by omega) (Short.of _ _ lm))
   have Q6:=hide (fun (W:World) (v1 v2:Value) (a:Sl .u64 W v1 (wd 18446744073709551616 g.den)) (b:Sl .u64 W v2 (wd 18446744073709551616 m))=>natQuo_any v1 v2 g.den m W a b m0p (by omega) (by omega) (Short.of _ _ (by omega)))
   have M3:=hide (fun (W:World) (v1 v2:Value) (a:Sl .u64 W v1 (wd 18446744073709551616 q3)) (b:Sl .u64 W v2 (wd 18446744073709551616 (g.den/m)))=>natMul_any v1 v2 _ _ W a b (by omega))
   have OL:=hide (fun (W:World) (v1 v2:Value) (a:Sl .u64 W v1 (wd 18446744073709551616 (M/m))) (b:Sl .u64 W v2 (wd 18446744073709551616 (q3*(g.den/m))))=>ofLowered_any r v1 v2 (f+g) W (by rw [habs];exact a) (by rw [hd];exact b) (by rw [habs];exact hn) (by rw [habs];omega) (by rw [hd];omega))
   clear hN hle lm kl k0p lg2 q3l hm m0p ml hn hd habs q5l q6l m3l AL LM KL K0 DL QL
   generalize q3*(g.den/m)=P3 at *
   generalize g.den/m=q6 at *
   generalize M/m=q5 at *
   go_wp2_with fail
   refine (unhide G2 _ _ _ (unhide SM8) (unhide SK8)).mono ?_
   rintro e w9 ⟨vmo,rfl,hnew,hb9⟩
   have HV9:Hid (But [] V w9):=(unhide HV8).trans' hb9
   have SA9:=hide ((unhide SA8).but_nil hb9)
   have SB9:=hide ((unhide SB8).but_nil hb9)
   have SC9:=hide ((unhide SC8).but_nil hb9)
   have SD9:=hide ((unhide SD8).but_nil hb9)
   have SK9:=hide ((unhide SK8).but_nil hb9)
   have SQ9:=hide ((unhide SQ8).but_nil hb9)
   have SR9:=hide ((unhide SR8).but_nil hb9)
   have SX9:=hide ((unhide SX8).but_nil hb9)
   have SY9:=hide ((unhide SY8).but_nil hb9)
   have SM9:=hide ((unhide SM8).but_nil hb9)
   have SN9:=hide hnew
   clear g0 g1 hb9 hnew SA8 SB8 SC8 SD8 SK8 SQ8 SR8 SX8 SY8 SM8 HV8
   have g0:=(unhide HV9).cell_some a0 (by simp)
   have g1:=(unhide HV9).cell_some c0 (by simp)
   go_wp2_with fail
   refine (unhide Q5 _ _ _ (unhide SM9) (unhide SN9)).mono ?_
   rintro e w10 ⟨vq5,rfl,hnew,hb10⟩
   have HV10:Hid (But [] V w10):=(unhide HV9).trans' hb10
   have SA10:=hide ((unhide SA9).but_nil hb10)
   have SB10:=hide ((unhide SB9).but_nil hb10)
   have SC10:=hide ((unhide SC9).but_nil hb10)
   have SD10:=hide ((unhide SD9).but_nil hb10)
   have SK10:=hide ((unhide SK9).but_nil hb10)
   have SQ10:=hide ((unhide SQ9).but_nil hb10)
   have SR10:=hide ((unhide SR9).but_nil hb10)
   have SX10:=hide ((unhide SX9).but_nil hb10)
   have SY10:=hide ((unhide SY9).but_nil hb10)
   have SM10:=hide ((unhide SM9).but_nil hb10)
   have SN10:=hide ((unhide SN9).but_nil hb10)
   have SU10:=hide hnew
   clear g0 g1 hb10 hnew SA9 SB9 SC9 SD9 SK9 SQ9 SR9 SX9 SY9 SM9 SN9 HV9
   have g0:=(unhide HV10).cell_some a0 (by simp)
   have g1:=(unhide HV10).cell_some c0 (by simp)
   go_wp2_with fail
   refine (unhide Q6 _ _ _ (unhide SD10) (unhide SN10)).mono ?_
   rintro e w11 ⟨vq6,rfl,hnew,hb11⟩
   have HV11:Hid (But [] V w11):=(unhide HV10).trans' hb11
   have SA11:=hide ((unhide SA10).but_nil hb11)
   have SB11:=hide ((unhide SB10).but_nil hb11)
   have SC11:=hide ((unhide SC10).but_nil hb11)
   have SD11:=hide ((unhide SD10).but_nil hb11)
   have SK11:=hide ((unhide SK10).but_nil hb11)
   have SQ11:=hide ((unhide SQ10).but_nil hb11)
   have SR11:=hide ((unhide SR10).but_nil hb11)
   have SX11:=hide ((unhide SX10).but_nil hb11)
   have SY11:=hide ((unhide SY10).but_nil hb11)
   have SM11:=hide ((unhide SM10).but_nil hb11)
   have SN11:=hide ((unhide SN10).but_nil hb11)
   have SU11:=hide ((unhide SU10).but_nil hb11)
   have SV11:=hide hnew
   clear g0 g1 hb11 hnew SA10 SB10 SC10 SD10 SK10 SQ10 SR10 SX10 SY10 SM10 SN10 SU10 HV10
   have g0:=(unhide HV11).cell_some a0 (by simp)
   have g1:=(unhide HV11).cell_some c0 (by simp)
   go_wp2_with fail
   refine (unhide M3 _ _ _ (unhide SQ11) (unhide SV11)).mono ?_
   rintro e w12 ⟨vm3,rfl,hnew,hb12,-⟩
   have HV12:Hid (But [] V w12):=(unhide HV11).trans' hb12
   have SA12:=hide ((unhide SA11).but_nil hb12)
   have SB12:=hide ((unhide SB11).but_nil hb12)
   have SC12:=hide ((unhide SC11).but_nil hb12)
   have SD12:=hide ((unhide SD11).but_nil hb12)
   have SK12:=hide ((unhide SK11).but_nil hb12)
   have SQ12:=hide ((unhide SQ11).but_nil hb12)
   have SR12:=hide ((unhide SR11).but_nil hb12)
   have SX12:=hide ((unhide SX11).but_nil hb12)
   have SY12:=hide ((unhide SY11).but_nil hb12)
   have SM12:=hide ((unhide SM11).but_nil hb12)
   have SN12:=hide ((unhide SN11).but_nil hb12)
   have SU12:=hide ((unhide SU11).but_nil hb12)
   have SV12:=hide ((unhide SV11).but_nil hb12)
   have SW12:=hide hnew
   clear g0 g1 hb12 hnew SA11 SB11 SC11 SD11 SK11 SQ11 SR11 SX11 SY11 SM11 SN11 SU11 SV11 HV11
   have g0:=(unhide HV12).cell_some a0 (by simp)
   have g1:=(unhide HV12).cell_some c0 (by simp)
   go_wp2_with fail
   refine (unhide OL _ _ _ (unhide SU12) (unhide SW12)).mono ?_
   rintro e wz ⟨vz,rfl,hfz,hbz⟩
   have HVz:Hid (But [] V wz):=(unhide HV12).trans' hbz
   have HBz:Hid (But [] w wz):=(unhide HBV).trans' (unhide HVz)
   have u0:=(unhide HVz).cell_some z0 (by simp)
   have u1:=(unhide HVz).cell_some z1 (by simp)
   have u2:=(unhide HVz).cell_some z2 (by simp)
   have u3:=(unhide HVz).cell_some z3 (by simp)
   have hgl:gr<V.heap.size:=lt_of_cell z0
   have uf:∀ j,wz.frozen? ⟨gr,j,none⟩=false:=fun j=>((unhide HVz).frozen (p:=⟨gr,j,none⟩) hgl (by simp)).trans (zf j)
   have Hz:=hide hfz
   obtain ⟨x8,y8,p8,rfl,-⟩:=hfz.agg
   clear hbz hfz z0 z1 z2 z3 zf hgl g0 g1
   generalize decide ((f+g).num<0)=r8 at *
   go_wp2
   have hBf:=((((unhide HBz).setCell (p:=⟨gr,0,none⟩) (.inr (unhide HGR)) (.bool r8)).setCell (p:=⟨gr,1,none⟩) (.inr (unhide HGR)) (.int .u64 x8)).setCell (p:=⟨gr,2,none⟩) (.inr (unhide HGR)) (.int .u64 y8)).setCell (p:=⟨gr,3,none⟩) (.inr (unhide HGR)) (.pointer p8)
   have hBg:But [gr] wz ((((wz.setCell ⟨gr,0,none⟩ (.bool r8)).setCell ⟨gr,1,none⟩ (.int .u64 x8)).setCell ⟨gr,2,none⟩ (.int .u64 y8)).setCell ⟨gr,3,none⟩ (.pointer p8)):=(((((But.refl [gr] wz).setCell (.inl (by simp)) _).setCell (.inl (by simp)) _).setCell (.inl (by simp)) _).setCell (.inl (by simp)) _)
   exact bodyPost_ret (v:=.agg #[.bool r8,.int .u64 x8,.int .u64 y8,.pointer p8]) (by simp [results,Tryz.results59,go_sem,u0,u1,u2,u3]) rfl ⟨_,rfl,((unhide BL).but (unhide HVz)).frac (unhide Hz) hBg,hBf⟩
  ·have HF9:=hide (unhide HOK rfl)
   clear HOK
   go_wp2
   have hBf:=(((((unhide HB0).setCell (p:=⟨gr,0,none⟩) (.inr (unhide HGR)) (.bool r9)).setCell (p:=⟨gr,1,none⟩) (.inr (unhide HGR)) (.int .u64 x9)).setCell (p:=⟨gr,2,none⟩) (.inr (unhide HGR)) (.int .u64 y9)).setCell (p:=⟨gr,3,none⟩) (.inr (unhide HGR)) (.pointer none)).alloc (.cells #[.bool r9,.int .u64 x9,.int .u64 y9,.pointer none] 27)
   have hBg:=(((((But.refl [gr] w0).setCell (p:=⟨gr,0,none⟩) (.inl (by simp)) (.bool r9)).setCell (p:=⟨gr,1,none⟩) (.inl (by simp)) (.int .u64 x9)).setCell (p:=⟨gr,2,none⟩) (.inl (by simp)) (.int .u64 y9)).setCell (p:=⟨gr,3,none⟩) (.inl (by simp)) (.pointer none)).alloc (.cells #[.bool r9,.int .u64 x9,.int .u64 y9,.pointer none] 27)
   exact bodyPost_ret (v:=.agg #[.bool r9,.int .u64 x9,.int .u64 y9,.pointer none]) (by simp [results,Tryz.results59,go_sem,r0',r1',r2',r3',grl0]) rfl ⟨_,rfl,(unhide BL0).frac (unhide HF9) hBg,hBf⟩
 ·have hp12:p1≠none∨p2≠none:=by
   rcases Classical.em (p1=none) with h1 | h1
   ·right;intro h2;exact hpp ⟨h1,h2⟩
   ·left;exact h1
  clear hpp MW HW1 HW2
  obtain ⟨pp,hpp⟩:∃ pp,pp=(p1,p2):=⟨_,rfl⟩
  clear hpp pp
  rcases p1 with _ | p1
  ·rcases p2 with _ | p2
   ·simp at hp12
   ·clear hp12
    go_enter Tryz.func59,Tryz.ntmps59
    go_wp2_with fail
    rw [← unhide HW]
    obtain ⟨ga,hga⟩:∃ ga,ga=w.heap.size:=⟨_,rfl⟩
    obtain ⟨gb,hgb⟩:∃ gb,gb=w.heap.size+1:=⟨_,rfl⟩
    obtain ⟨gr,hgr⟩:∃ gr,gr=w.heap.size+2:=⟨_,rfl⟩
    rw [← hga] at a0 a1 a2 a3
    rw [← hgb] at b0 b1 b2 b3
    rw [← hgr] at r0 r1 r2 r3 fz BL
    rw [show w.heap.size+1+1=w.heap.size+2 from rfl,← hgr,← hgb,← hga]
    have HGR:Hid (w.heap.size≤gr):=by show _≤_;omega
    clear hga hgb hgr HW
    obtain ⟨V,hV⟩:∃ V,V=W:=⟨_,rfl⟩
    rw [← hV] at a0 a1 a2 a3 b0 b1 b2 b3 r0 r1 r2 r3 fz BL
    rw [← hV]
    have HBV:Hid (But [] w V):=by rw [hV];exact unhide HB
    clear hV HB
    have c0:=b0
    have c1:=b1
    have c2:=b2
    have c3:=b3
    have z0:=r0
    have z1:=r1
    have z2:=r2
    have z3:=r3
    have zf:=fz
    clear b0 b1 b2 b3 r0 r1 r2 r3 fz
    refine (unhide NF _ ((unhide HFA).but (unhide HBV))).mono ?_
    rintro e w1 ⟨na,nb,rfl,hna,hnb,hb1⟩
    have d0:=hb1.cell_some c0 (by simp)
    have d1:=hb1.cell_some c1 (by simp)
    have d2:=hb1.cell_some c2 (by simp)
    have d3:=hb1.cell_some c3 (by simp)
    have HB1:Hid (But [] w w1):=(unhide HBV).trans' hb1
    have HV1:=hide hb1
    have SA1:=hide hna
    have SB1:=hide hnb
    clear hb1 hna hnb
    go_wp2_with fail
    refine (unhide NG _ ((unhide HGA).but (unhide HB1))).mono ?_
    rintro e w2 ⟨nc,nd,rfl,hnc,hnd,hb2⟩
    have HV2:Hid (But [] V w2):=(unhide HV1).trans' hb2
    have SA2:=hide ((unhide SA1).but_nil hb2)
    have SB2:=hide ((unhide SB1).but_nil hb2)
    have SC2:=hide hnc
    have SD2:=hide hnd
    clear hb2 hnc hnd SA1 SB1 d0 d1 d2 d3 NF NG HV1 HB1
    have g0:=(unhide HV2).cell_some a0 (by simp)
    have g1:=(unhide HV2).cell_some c0 (by simp)
    go_wp2_with fail
    refine (unhide G1 _ _ _ (unhide SB2) (unhide SD2)).mono ?_
    rintro e w3 ⟨vk,rfl,hnew,hb3⟩
    have HV3:Hid (But [] V w3):=(unhide HV2).trans' hb3
    have SA3:=hide ((unhide SA2).but_nil hb3)
    have SB3:=hide ((unhide SB2).but_nil hb3)
    have SC3:=hide ((unhide SC2).but_nil hb3)
    have SD3:=hide ((unhide SD2).but_nil hb3)
    have SK3:=hide hnew
    clear g0 g1 hb3 hnew SA2 SB2 SC2 SD2 HV2
    have g0:=(unhide HV3).cell_some a0 (by simp)
    have g1:=(unhide HV3).cell_some c0 (by simp)
    go_wp2_with fail
    refine (unhide Q3 _ _ _ (unhide SB3) (unhide SK3)).mono ?_
    rintro e w4 ⟨vq3,rfl,hnew,hb4⟩
    have HV4:Hid (But [] V w4):=(unhide HV3).trans' hb4
    have SA4:=hide ((unhide SA3).but_nil hb4)
    have SB4:=hide ((unhide SB3).but_nil hb4)
    have SC4:=hide ((unhide SC3).but_nil hb4)
    have SD4:=hide ((unhide SD3).but_nil hb4)
    have SK4:=hide ((unhide SK3).but_nil hb4)
    have SQ4:=hide hnew
    clear g0 g1 hb4 hnew SA3 SB3 SC3 SD3 SK3 HV3
    have g0:=(unhide HV4).cell_some a0 (by simp)
    have g1:=(unhide HV4).cell_some c0 (by simp)
    go_wp2_with fail
    go_region_held (fun w'=>w'.cell? ⟨ga,0,none⟩=some (.bool s1)∧w'.cell? ⟨gb,0,none⟩=some (.bool s2)) (go_keep) (first
     | (go_at_call 113;refine (unhide SS _ _ _ (by first | exact unhide SX7 | exact (unhide SX7).but_nil (But.refl _ _).drew) (by first | exact unhide SY7 | exact (unhide SY7).but_nil (But.refl _ _).drew)).mono ?_;rintro e w8 ⟨r,vM,M,rfl,hnew,hN,hle,hc8⟩;have hb8:But [] w7 w8:=(by first | exact hc8 | exact (But.refl _ _).drew.trans' hc8);have HV8:Hid (But [] V w8):=(unhide HV7).trans' hb8;have SA8:=hide ((unhide SA7).but_nil hb8);have SB8:=hide ((unhide SB7).but_nil hb8);have SC8:=hide ((unhide SC7).but_nil hb8);have SD8:=hide ((unhide SD7).but_nil hb8);have SK8:=hide ((unhide SK7).but_nil hb8);have SQ8:=hide ((unhide SQ7).but_nil hb8);have SR8:=hide ((unhide SR7).but_nil hb8);have SX8:=hide ((unhide SX7).but_nil hb8);have SY8:=hide ((unhide SY7).but_nil hb8);have SM8:=hide hnew;clear hb8 hc8 hnew;have g08:=(unhide HV8).cell_some a0 (by simp);have g18:=(unhide HV8).cell_some c0 (by simp))
     | (go_at_call 111;have hchk:=SX6;clear hchk;refine (unhide M2 _ _ _ (by first | exact unhide SC6 | exact (unhide SC6).but_nil (But.refl _ _).drew) (by first | exact unhide SQ6 | exact (unhide SQ6).but_nil (But.refl _ _).drew)).mono ?_;rintro e w7 ⟨vm2,rfl,hnew,hc7,-⟩;have hb7:But [] w6 w7:=(by first | exact hc7 | exact (But.refl _ _).drew.trans' hc7);have HV7:Hid (But [] V w7):=(unhide HV6).trans' hb7;have SA7:=hide ((unhide SA6).but_nil hb7);have SB7:=hide ((unhide SB6).but_nil hb7);have SC7:=hide ((unhide SC6).but_nil hb7);have SD7:=hide ((unhide SD6).but_nil hb7);have SK7:=hide ((unhide SK6).but_nil hb7);have SQ7:=hide ((unhide SQ6).but_nil hb7);have SR7:=hide ((unhide SR6).but_nil hb7);have SX7:=hide ((unhide SX6).but_nil hb7);have SY7:=hide hnew;clear hb7 hc7 hnew;have g07:=(unhide HV7).cell_some a0 (by simp);have g17:=(unhide HV7).cell_some c0 (by simp))
     | (go_at_call 111;refine (unhide M1 _ _ _ (by first | exact unhide SA5 | exact (unhide SA5).but_nil (But.refl _ _).drew) (by first | exact unhide SR5 | exact (unhide SR5).but_nil (But.refl _ _).drew)).mono ?_;rintro e w6 ⟨vm1,rfl,hnew,hc6,-⟩;have hb6:But [] w5 w6:=(by first | exact hc6 | exact (But.refl _ _).drew.trans' hc6);have HV6:Hid (But [] V w6):=(unhide HV5).trans' hb6;have SA6:=hide ((unhide SA5).but_nil hb6);have SB6:=hide ((unhide SB5).but_nil hb6);have SC6:=hide ((unhide SC5).but_nil hb6);have SD6:=hide ((unhide SD5).but_nil hb6);have SK6:=hide ((unhide SK5).but_nil hb6);have SQ6:=hide ((unhide SQ5).but_nil hb6);have SR6:=hide ((unhide SR5).but_nil hb6);have SX6:=hide hnew;clear hb6 hc6 hnew;have g06:=(unhide HV6).cell_some a0 (by simp);have g16:=(unhide HV6).cell_some c0 (by simp))
     | (go_at_call 110;refine (unhide Q4 _ _ _ (by first | exact unhide SD4 | exact (unhide SD4).but_nil (But.refl _ _).drew) (by first | exact unhide SK4 | exact (unhide SK4).but_nil (But.refl _ _).drew)).mono ?_;rintro e w5 ⟨vq4,rfl,hnew,hc5⟩;have hb5:But [] w4 w5:=(by first | exact hc5 | exact (But.refl _ _).drew.trans' hc5);have HV5:Hid (But [] V w5):=(unhide HV4).trans' hb5;have SA5:=hide ((unhide SA4).but_nil hb5);have SB5:=hide ((unhide SB4).but_nil hb5);have SC5:=hide ((unhide SC4).but_nil hb5);have SD5:=hide ((unhide SD4).but_nil hb5);have SK5:=hide ((unhide SK4).but_nil hb5);have SQ5:=hide ((unhide SQ4).but_nil hb5);have SR5:=hide hnew;clear hb5 hc5 hnew;have g05:=(unhide HV5).cell_some a0 (by simp);have g15:=(unhide HV5).cell_some c0 (by simp)))
    clear g0 g1 g05 g15 g06 g16 g07 g17 SA4 SB4 SC4 SD4 SK4 SQ4 SA5 SB5 SC5 SD5 SK5 SQ5 SR5 SA6 SB6 SC6 SD6 SK6 SQ6 SR6 SX6 SA7 SB7 SC7 SD7 SK7 SQ7 SR7 SX7 SY7 HV4 HV5 HV6 HV7
    have g0:=g08
    have g1:=g18
    clear g08 g18
    have lm:=unhide LM M hle
    have kl:=unhide KL
    have k0p:=unhide K0
    have lg2:=unhide DL
    have q3l:=unhide QL
    obtain ⟨m,hm⟩:∃ m,m=Nat.gcd M k:=⟨_,rfl⟩
    have m0p:0<m:=by rw [hm];exact Nat.gcd_pos_of_pos_right _ k0p
    have ml:(wd 18446744073709551616 m).length≤lenG:=Nat.le_trans (wd_len_mono (by rw [hm];exact Nat.gcd_le_right _ k0p)) kl
    obtain ⟨hn,hd⟩:=unhide AL r M m hm hN
    have habs:(f+g).num.natAbs=M/m:=by rw [hn,sgn_abs]
    have q5l:=len_quo M m 1000000 lm
    have q6l:=len_quo g.den m lenG lg2
    have m3l:=wd_len_mul q3 (g.den/m)
    have G2:=hide (fun (W:World) (v1 v2:Value) (a:Sl .u64 W v1 (wd 18446744073709551616 M)) (b:Sl .u64 W v2 (wd 18446744073709551616 k))=>natGcd_any v1 v2 M k W a b lm (by omega))
    rw [← hm] at G2
    have Q5:=hide (fun (W:World) (v1 v2:Value) (a:Sl .u64 W v1 (wd 18446744073709551616 M)) (b:Sl .u64 W v2 (wd 18446744073709551616 m))=>natQuo_any v1 v2 M m W a b m0p (by omega) (by omega) (Short.of _ _ lm))
    have Q6:=hide (fun (W:World) (v1 v2:Value) (a:Sl .u64 W v1 (wd 18446744073709551616 g.den)) (b:Sl .u64 W v2 (wd 18446744073709551616 m))=>natQuo_any v1 v2 g.den m W a b m0p (by omega) (by omega) (Short.of _ _ (by omega)))
    have M3:=hide (fun (W:World) (v1 v2:Value) (a:Sl .u64 W v1 (wd 18446744073709551616 q3)) (b:Sl .u64 W v2 (wd 18446744073709551616 (g.den/m)))=>natMul_any v1 v2 _ _ W a b (by omega))
    have OL:=hide (fun (W:World) (v1 v2:Value) (a:Sl .u64 W v1 (wd 18446744073709551616 (M/m))) (b:Sl .u64 W v2 (wd 18446744073709551616 (q3*(g.den/m))))=>ofLowered_any r v1 v2 (f+g) W (by rw [habs];exact a) (by rw [hd];exact b) (by rw [habs];exact hn) (by rw [habs];omega) (by rw [hd];omega))
    clear hN hle lm kl k0p lg2 q3l hm m0p ml hn hd habs q5l q6l m3l AL LM KL K0 DL QL
    generalize q3*(g.den/m)=P3 at *
    generalize g.den/m=q6 at *
    generalize M/m=q5 at *
    go_wp2_with fail
    refine (unhide G2 _ _ _ (unhide SM8) (unhide SK8)).mono ?_
    rintro e w9 ⟨vmo,rfl,hnew,hb9⟩
    have HV9:Hid (But [] V w9):=(unhide HV8).trans' hb9
    have SA9:=hide ((unhide SA8).but_nil hb9)
    have SB9:=hide ((unhide SB8).but_nil hb9)
    have SC9:=hide ((unhide SC8).but_nil hb9)
    have SD9:=hide ((unhide SD8).but_nil hb9)
    have SK9:=hide ((unhide SK8).but_nil hb9)
    have SQ9:=hide ((unhide SQ8).but_nil hb9)
    have SR9:=hide ((unhide SR8).but_nil hb9)
    have SX9:=hide ((unhide SX8).but_nil hb9)
    have SY9:=hide ((unhide SY8).but_nil hb9)
    have SM9:=hide ((unhide SM8).but_nil hb9)
    have SN9:=hide hnew
    clear g0 g1 hb9 hnew SA8 SB8 SC8 SD8 SK8 SQ8 SR8 SX8 SY8 SM8 HV8
    have g0:=(unhide HV9).cell_some a0 (by simp)
    have g1:=(unhide HV9).cell_some c0 (by simp)
    go_wp2_with fail
    refine (unhide Q5 _ _ _ (unhide SM9) (unhide SN9)).mono ?_
    rintro e w10 ⟨vq5,rfl,hnew,hb10⟩
    have HV10:Hid (But [] V w10):=(unhide HV9).trans' hb10
    have SA10:=hide ((unhide SA9).but_nil hb10)
    have SB10:=hide ((unhide SB9).but_nil hb10)
    have SC10:=hide ((unhide SC9).but_nil hb10)
    have SD10:=hide ((unhide SD9).but_nil hb10)
    have SK10:=hide ((unhide SK9).but_nil hb10)
    have SQ10:=hide ((unhide SQ9).but_nil hb10)
    have SR10:=hide ((unhide SR9).but_nil hb10)
    have SX10:=hide ((unhide SX9).but_nil hb10)
    have SY10:=hide ((unhide SY9).but_nil hb10)
    have SM10:=hide ((unhide SM9).but_nil hb10)
    have SN10:=hide ((unhide SN9).but_nil hb10)
    have SU10:=hide hnew
    clear g0 g1 hb10 hnew SA9 SB9 SC9 SD9 SK9 SQ9 SR9 SX9 SY9 SM9 SN9 HV9
    have g0:=(unhide HV10).cell_some a0 (by simp)
    have g1:=(unhide HV10).cell_some c0 (by simp)
    go_wp2_with fail
    refine (unhide Q6 _ _ _ (unhide SD10) (unhide SN10)).mono ?_
    rintro e w11 ⟨vq6,rfl,hnew,hb11⟩
    have HV11:Hid (But [] V w11):=(unhide HV10).trans' hb11
    have SA11:=hide ((unhide SA10).but_nil hb11)
    have SB11:=hide ((unhide SB10).but_nil hb11)
    have SC11:=hide ((unhide SC10).but_nil hb11)
    have SD11:=hide ((unhide SD10).but_nil hb11)
    have SK11:=hide ((unhide SK10).but_nil hb11)
    have SQ11:=hide ((unhide SQ10).but_nil hb11)
    have SR11:=hide ((unhide SR10).but_nil hb11)
    have SX11:=hide ((unhide SX10).but_nil hb11)
    have SY11:=hide ((unhide SY10).but_nil hb11)
    have SM11:=hide ((unhide SM10).but_nil hb11)
    have SN11:=hide ((unhide SN10).but_nil hb11)
    have SU11:=hide ((unhide SU10).but_nil hb11)
    have SV11:=hide hnew
    clear g0 g1 hb11 hnew SA10 SB10 SC10 SD10 SK10 SQ10 SR10 SX10 SY10 SM10 SN10 SU10 HV10
    have g0:=(unhide HV11).cell_some a0 (by simp)
    have g1:=(unhide HV11).cell_some c0 (by simp)
    go_wp2_with fail
    refine (unhide M3 _ _ _ (unhide SQ11) (unhide SV11)).mono ?_
    rintro e w12 ⟨vm3,rfl,hnew,hb12,-⟩
    have HV12:Hid (But [] V w12):=(unhide HV11).trans' hb12
    have SA12:=hide ((unhide SA11).but_nil hb12)
    have SB12:=hide ((unhide SB11).but_nil hb12)
    have SC12:=hide ((unhide SC11).but_nil hb12)
    have SD12:=hide ((unhide SD11).but_nil hb12)
    have SK12:=hide ((unhide SK11).but_nil hb12)
    have SQ12:=hide ((unhide SQ11).but_nil hb12)
    have SR12:=hide ((unhide SR11).but_nil hb12)
    have SX12:=hide ((unhide SX11).but_nil hb12)
    have SY12:=hide ((unhide SY11).but_nil hb12)
    have SM12:=hide ((unhide SM11).but_nil hb12)
    have SN12:=hide ((unhide SN11).but_nil hb12)
    have SU12:=hide ((unhide SU11).but_nil hb12)
    have SV12:=hide ((unhide SV11).but_nil hb12)
    have SW12:=hide hnew
    clear g0 g1 hb12 hnew SA11 SB11 SC11 SD11 SK11 SQ11 SR11 SX11 SY11 SM11 SN11 SU11 SV11 HV11
    have g0:=(unhide HV12).cell_some a0 (by simp)
    have g1:=(unhide HV12).cell_some c0 (by simp)
    go_wp2_with fail
    refine (unhide OL _ _ _ (unhide SU12) (unhide SW12)).mono ?_
    rintro e wz ⟨vz,rfl,hfz,hbz⟩
    have HVz:Hid (But [] V wz):=(unhide HV12).trans' hbz
    have HBz:Hid (But [] w wz):=(unhide HBV).trans' (unhide HVz)
    have u0:=(unhide HVz).cell_some z0 (by simp)
    have u1:=(unhide HVz).cell_some z1 (by simp)
    have u2:=(unhide HVz).cell_some z2 (by simp)
    have u3:=(unhide HVz).cell_some z3 (by simp)
    have hgl:gr<V.heap.size:=lt_of_cell z0
    have uf:∀ j,wz.frozen? ⟨gr,j,none⟩=false:=fun j=>((unhide HVz).frozen (p:=⟨gr,j,none⟩) hgl (by simp)).trans (zf j)
    have Hz:=hide hfz
    obtain ⟨x8,y8,p8,rfl,-⟩:=hfz.agg
    clear hbz hfz z0 z1 z2 z3 zf hgl g0 g1
    generalize decide ((f+g).num<0)=r8 at *
    go_wp2
    have hBf:=((((unhide HBz).setCell (p:=⟨gr,0,none⟩) (.inr (unhide HGR)) (.bool r8)).setCell (p:=⟨gr,1,none⟩) (.inr (unhide HGR)) (.int .u64 x8)).setCell (p:=⟨gr,2,none⟩) (.inr (unhide HGR)) (.int .u64 y8)).setCell (p:=⟨gr,3,none⟩) (.inr (unhide HGR)) (.pointer p8)
    have hBg:But [gr] wz ((((wz.setCell ⟨gr,0,none⟩ (.bool r8)).setCell ⟨gr,1,none⟩ (.int .u64 x8)).setCell ⟨gr,2,none⟩ (.int .u64 y8)).setCell ⟨gr,3,none⟩ (.pointer p8)):=(((((But.refl [gr] wz).setCell (.inl (by simp)) _).setCell (.inl (by simp)) _).setCell (.inl (by simp)) _).setCell (.inl (by simp)) _)
    exact bodyPost_ret (v:=.agg #[.bool r8,.int .u64 x8,.int .u64 y8,.pointer p8]) (by simp [results,Tryz.results59,go_sem,u0,u1,u2,u3]) rfl ⟨_,rfl,((unhide BL).but (unhide HVz)).frac (unhide Hz) hBg,hBf⟩
  ·clear hp12
   go_enter Tryz.func59,Tryz.ntmps59
   go_wp2_with fail
   rw [← unhide HW]
   obtain ⟨ga,hga⟩:∃ ga,ga=w.heap.size:=⟨_,rfl⟩
   obtain ⟨gb,hgb⟩:∃ gb,gb=w.heap.size+1:=⟨_,rfl⟩
   obtain ⟨gr,hgr⟩:∃ gr,gr=w.heap.size+2:=⟨_,rfl⟩
   rw [← hga] at a0 a1 a2 a3
   rw [← hgb] at b0 b1 b2 b3
   rw [← hgr] at r0 r1 r2 r3 fz BL
   rw [show w.heap.size+1+1=w.heap.size+2 from rfl,← hgr,← hgb,← hga]
   have HGR:Hid (w.heap.size≤gr):=by show _≤_;omega
   clear hga hgb hgr HW
   obtain ⟨V,hV⟩:∃ V,V=W:=⟨_,rfl⟩
   rw [← hV] at a0 a1 a2 a3 b0 b1 b2 b3 r0 r1 r2 r3 fz BL
   rw [← hV]
   have HBV:Hid (But [] w V):=by rw [hV];exact unhide HB
   clear hV HB
   have c0:=b0
   have c1:=b1
   have c2:=b2
   have c3:=b3
   have z0:=r0
   have z1:=r1
   have z2:=r2
   have z3:=r3
   have zf:=fz
   clear b0 b1 b2 b3 r0 r1 r2 r3 fz
   refine (unhide NF _ ((unhide HFA).but (unhide HBV))).mono ?_
   rintro e w1 ⟨na,nb,rfl,hna,hnb,hb1⟩
   have d0:=hb1.cell_some c0 (by simp)
   have d1:=hb1.cell_some c1 (by simp)
   have d2:=hb1.cell_some c2 (by simp)
   have d3:=hb1.cell_some c3 (by simp)
   have HB1:Hid (But [] w w1):=(unhide HBV).trans' hb1
   have HV1:=hide hb1
   have SA1:=hide hna
   have SB1:=hide hnb
   clear hb1 hna hnb
   go_wp2_with fail
   refine (unhide NG _ ((unhide HGA).but (unhide HB1))).mono ?_
   rintro e w2 ⟨nc,nd,rfl,hnc,hnd,hb2⟩
   have HV2:Hid (But [] V w2):=(unhide HV1).trans' hb2
   have SA2:=hide ((unhide SA1).but_nil hb2)
   have SB2:=hide ((unhide SB1).but_nil hb2)
   have SC2:=hide hnc
   have SD2:=hide hnd
   clear hb2 hnc hnd SA1 SB1 d0 d1 d2 d3 NF NG HV1 HB1
   have g0:=(unhide HV2).cell_some a0 (by simp)
   have g1:=(unhide HV2).cell_some c0 (by simp)
   go_wp2_with fail
   refine (unhide G1 _ _ _ (unhide SB2) (unhide SD2)).mono ?_
   rintro e w3 ⟨vk,rfl,hnew,hb3⟩
   have HV3:Hid (But [] V w3):=(unhide HV2).trans' hb3
   have SA3:=hide ((unhide SA2).but_nil hb3)
   have SB3:=hide ((unhide SB2).but_nil hb3)
   have SC3:=hide ((unhide SC2).but_nil hb3)
   have SD3:=hide ((unhide SD2).but_nil hb3)
   have SK3:=hide hnew
   clear g0 g1 hb3 hnew SA2 SB2 SC2 SD2 HV2
   have g0:=(unhide HV3).cell_some a0 (by simp)
   have g1:=(unhide HV3).cell_some c0 (by simp)
   go_wp2_with fail
   refine (unhide Q3 _ _ _ (unhide SB3) (unhide SK3)).mono ?_
   rintro e w4 ⟨vq3,rfl,hnew,hb4⟩
   have HV4:Hid (But [] V w4):=(unhide HV3).trans' hb4
   have SA4:=hide ((unhide SA3).but_nil hb4)
   have SB4:=hide ((unhide SB3).but_nil hb4)
   have SC4:=hide ((unhide SC3).but_nil hb4)
   have SD4:=hide ((unhide SD3).but_nil hb4)
   have SK4:=hide ((unhide SK3).but_nil hb4)
   have SQ4:=hide hnew
   clear g0 g1 hb4 hnew SA3 SB3 SC3 SD3 SK3 HV3
   have g0:=(unhide HV4).cell_some a0 (by simp)
   have g1:=(unhide HV4).cell_some c0 (by simp)
   go_wp2_with fail
   go_region_held (fun w'=>w'.cell? ⟨ga,0,none⟩=some (.bool s1)∧w'.cell? ⟨gb,0,none⟩=some (.bool s2)) (go_keep) (first
    | (go_at_call 113;refine (unhide SS _ _ _ (by first | exact unhide SX7 | exact (unhide SX7).but_nil (But.refl _ _).drew) (by first | exact unhide SY7 | exact (unhide SY7).but_nil (But.refl _ _).drew)).mono ?_;rintro e w8 ⟨r,vM,M,rfl,hnew,hN,hle,hc8⟩;have hb8:But [] w7 w8:=(by first | exact hc8 | exact (But.refl _ _).drew.trans' hc8);have HV8:Hid (But [] V w8):=(unhide HV7).trans' hb8;have SA8:=hide ((unhide SA7).but_nil hb8);have SB8:=hide ((unhide SB7).but_nil hb8);have SC8:=hide ((unhide SC7).but_nil hb8);have SD8:=hide ((unhide SD7).but_nil hb8);have SK8:=hide ((unhide SK7).but_nil hb8);have SQ8:=hide ((unhide SQ7).but_nil hb8);have SR8:=hide ((unhide SR7).but_nil hb8);have SX8:=hide ((unhide SX7).but_nil hb8);have SY8:=hide ((unhide SY7).but_nil hb8);have SM8:=hide hnew;clear hb8 hc8 hnew;have g08:=(unhide HV8).cell_some a0 (by simp);have g18:=(unhide HV8).cell_some c0 (by simp))
    | (go_at_call 111;have hchk:=SX6;clear hchk;refine (unhide M2 _ _ _ (by first | exact unhide SC6 | exact (unhide SC6).but_nil (But.refl _ _).drew) (by first | exact unhide SQ6 | exact (unhide SQ6).but_nil (But.refl _ _).drew)).mono ?_;rintro e w7 ⟨vm2,rfl,hnew,hc7,-⟩;have hb7:But [] w6 w7:=(by first | exact hc7 | exact (But.refl _ _).drew.trans' hc7);have HV7:Hid (But [] V w7):=(unhide HV6).trans' hb7;have SA7:=hide ((unhide SA6).but_nil hb7);have SB7:=hide ((unhide SB6).but_nil hb7);have SC7:=hide ((unhide SC6).but_nil hb7);have SD7:=hide ((unhide SD6).but_nil hb7);have SK7:=hide ((unhide SK6).but_nil hb7);have SQ7:=hide ((unhide SQ6).but_nil hb7);have SR7:=hide ((unhide SR6).but_nil hb7);have SX7:=hide ((unhide SX6).but_nil hb7);have SY7:=hide hnew;clear hb7 hc7 hnew;have g07:=(unhide HV7).cell_some a0 (by simp);have g17:=(unhide HV7).cell_some c0 (by simp))
    | (go_at_call 111;refine (unhide M1 _ _ _ (by first | exact unhide SA5 | exact (unhide SA5).but_nil (But.refl _ _).drew) (by first | exact unhide SR5 | exact (unhide SR5).but_nil (But.refl _ _).drew)).mono ?_;rintro e w6 ⟨vm1,rfl,hnew,hc6,-⟩;have hb6:But [] w5 w6:=(by first | exact hc6 | exact (But.refl _ _).drew.trans' hc6);have HV6:Hid (But [] V w6):=(unhide HV5).trans' hb6;have SA6:=hide ((unhide SA5).but_nil hb6);have SB6:=hide ((unhide SB5).but_nil hb6);have SC6:=hide ((unhide SC5).but_nil hb6);have SD6:=hide ((unhide SD5).but_nil hb6);have SK6:=hide ((unhide SK5).but_nil hb6);have SQ6:=hide ((unhide SQ5).but_nil hb6);have SR6:=hide ((unhide SR5).but_nil hb6);have SX6:=hide hnew;clear hb6 hc6 hnew;have g06:=(unhide HV6).cell_some a0 (by simp);have g16:=(unhide HV6).cell_some c0 (by simp))
    | (go_at_call 110;refine (unhide Q4 _ _ _ (by first | exact unhide SD4 | exact (unhide SD4).but_nil (But.refl _ _).drew) (by first | exact unhide SK4 | exact (unhide SK4).but_nil (But.refl _ _).drew)).mono ?_;rintro e w5 ⟨vq4,rfl,hnew,hc5⟩;have hb5:But [] w4 w5:=(by first | exact hc5 | exact (But.refl _ _).drew.trans' hc5);have HV5:Hid (But [] V w5):=(unhide HV4).trans' hb5;have SA5:=hide ((unhide SA4).but_nil hb5);have SB5:=hide ((unhide SB4).but_nil hb5);have SC5:=hide ((unhide SC4).but_nil hb5);have SD5:=hide ((unhide SD4).but_nil hb5);have SK5:=hide ((unhide SK4).but_nil hb5);have SQ5:=hide ((unhide SQ4).but_nil hb5);have SR5:=hide hnew;clear hb5 hc5 hnew;have g05:=(unhide HV5).cell_some a0 (by simp);have g15:=(unhide HV5).cell_some c0 (by simp)))
   clear g0 g1 g05 g15 g06 g16 g07 g17 SA4 SB4 SC4 SD4 SK4 SQ4 SA5 SB5 SC5 SD5 SK5 SQ5 SR5 SA6 SB6 SC6 SD6 SK6 SQ6 SR6 SX6 SA7 SB7 SC7 SD7 SK7 SQ7 SR7 SX7 SY7 HV4 HV5 HV6 HV7
   have g0:=g08
   have g1:=g18
   clear g08 g18
   have lm:=unhide LM M hle
   have kl:=unhide KL
   have k0p:=unhide K0
   have lg2:=unhide DL
   have q3l:=unhide QL
   obtain ⟨m,hm⟩:∃ m,m=Nat.gcd M k:=⟨_,rfl⟩
   have m0p:0<m:=by rw [hm];exact Nat.gcd_pos_of_pos_right _ k0p
   have ml:(wd 18446744073709551616 m).length≤lenG:=Nat.le_trans (wd_len_mono (by rw [hm];exact Nat.gcd_le_right _ k0p)) kl
   obtain ⟨hn,hd⟩:=unhide AL r M m hm hN
   have habs:(f+g).num.natAbs=M/m:=by rw [hn,sgn_abs]
   have q5l:=len_quo M m 1000000 lm
   have q6l:=len_quo g.den m lenG lg2
   have m3l:=wd_len_mul q3 (g.den/m)
   have G2:=hide (fun (W:World) (v1 v2:Value) (a:Sl .u64 W v1 (wd 18446744073709551616 M)) (b:Sl .u64 W v2 (wd 18446744073709551616 k))=>natGcd_any v1 v2 M k W a b lm (by omega))
   rw [← hm] at G2
   have Q5:=hide (fun (W:World) (v1 v2:Value) (a:Sl .u64 W v1 (wd 18446744073709551616 M)) (b:Sl .u64 W v2 (wd 18446744073709551616 m))=>natQuo_any v1 v2 M m W a b m0p (by omega) (by omega) (Short.of _ _ lm))
   have Q6:=hide (fun (W:World) (v1 v2:Value) (a:Sl .u64 W v1 (wd 18446744073709551616 g.den)) (b:Sl .u64 W v2 (wd 18446744073709551616 m))=>natQuo_any v1 v2 g.den m W a b m0p (by omega) (by omega) (Short.of _ _ (by omega)))
   have M3:=hide (fun (W:World) (v1 v2:Value) (a:Sl .u64 W v1 (wd 18446744073709551616 q3)) (b:Sl .u64 W v2 (wd 18446744073709551616 (g.den/m)))=>natMul_any v1 v2 _ _ W a b (by omega))
   have OL:=hide (fun (W:World) (v1 v2:Value) (a:Sl .u64 W v1 (wd 18446744073709551616 (M/m))) (b:Sl .u64 W v2 (wd 18446744073709551616 (q3*(g.den/m))))=>ofLowered_any r v1 v2 (f+g) W (by rw [habs];exact a) (by rw [hd];exact b) (by rw [habs];exact hn) (by rw [habs];omega) (by rw [hd];omega))
   clear hN hle lm kl k0p lg2 q3l hm m0p ml hn hd habs q5l q6l m3l AL LM KL K0 DL QL
   generalize q3*(g.den/m)=P3 at *
   generalize g.den/m=q6 at *
   generalize M/m=q5 at *
   go_wp2_with fail
   refine (unhide G2 _ _ _ (unhide SM8) (unhide SK8)).mono ?_
   rintro e w9 ⟨vmo,rfl,hnew,hb9⟩
   have HV9:Hid (But [] V w9):=(unhide HV8).trans' hb9
   have SA9:=hide ((unhide SA8).but_nil hb9)
   have SB9:=hide ((unhide SB8).but_nil hb9)
   have SC9:=hide ((unhide SC8).but_nil hb9)
   have SD9:=hide ((unhide SD8).but_nil hb9)
   have SK9:=hide ((unhide SK8).but_nil hb9)
   have SQ9:=hide ((unhide SQ8).but_nil hb9)
   have SR9:=hide ((unhide SR8).but_nil hb9)
   have SX9:=hide ((unhide SX8).but_nil hb9)
   have SY9:=hide ((unhide SY8).but_nil hb9)
   have SM9:=hide ((unhide SM8).but_nil hb9)
   have SN9:=hide hnew
   clear g0 g1 hb9 hnew SA8 SB8 SC8 SD8 SK8 SQ8 SR8 SX8 SY8 SM8 HV8
   have g0:=(unhide HV9).cell_some a0 (by simp)
   have g1:=(unhide HV9).cell_some c0 (by simp)
   go_wp2_with fail
   refine (unhide Q5 _ _ _ (unhide SM9) (unhide SN9)).mono ?_
   rintro e w10 ⟨vq5,rfl,hnew,hb10⟩
   have HV10:Hid (But [] V w10):=(unhide HV9).trans' hb10
   have SA10:=hide ((unhide SA9).but_nil hb10)
   have SB10:=hide ((unhide SB9).but_nil hb10)
   have SC10:=hide ((unhide SC9).but_nil hb10)
   have SD10:=hide ((unhide SD9).but_nil hb10)
   have SK10:=hide ((unhide SK9).but_nil hb10)
   have SQ10:=hide ((unhide SQ9).but_nil hb10)
   have SR10:=hide ((unhide SR9).but_nil hb10)
   have SX10:=hide ((unhide SX9).but_nil hb10)
   have SY10:=hide ((unhide SY9).but_nil hb10)
   have SM10:=hide ((unhide SM9).but_nil hb10)
   have SN10:=hide ((unhide SN9).but_nil hb10)
   have SU10:=hide hnew
   clear g0 g1 hb10 hnew SA9 SB9 SC9 SD9 SK9 SQ9 SR9 SX9 SY9 SM9 SN9 HV9
   have g0:=(unhide HV10).cell_some a0 (by simp)
   have g1:=(unhide HV10).cell_some c0 (by simp)
   go_wp2_with fail
   refine (unhide Q6 _ _ _ (unhide SD10) (unhide SN10)).mono ?_
   rintro e w11 ⟨vq6,rfl,hnew,hb11⟩
   have HV11:Hid (But [] V w11):=(unhide HV10).trans' hb11
   have SA11:=hide ((unhide SA10).but_nil hb11)
   have SB11:=hide ((unhide SB10).but_nil hb11)
   have SC11:=hide ((unhide SC10).but_nil hb11)
   have SD11:=hide ((unhide SD10).but_nil hb11)
   have SK11:=hide ((unhide SK10).but_nil hb11)
   have SQ11:=hide ((unhide SQ10).but_nil hb11)
   have SR11:=hide ((unhide SR10).but_nil hb11)
   have SX11:=hide ((unhide SX10).but_nil hb11)
   have SY11:=hide ((unhide SY10).but_nil hb11)
   have SM11:=hide ((unhide SM10).but_nil hb11)
   have SN11:=hide ((unhide SN10).but_nil hb11)
   have SU11:=hide ((unhide SU10).but_nil hb11)
   have SV11:=hide hnew
   clear g0 g1 hb11 hnew SA10 SB10 SC10 SD10 SK10 SQ10 SR10 SX10 SY10 SM10 SN10 SU10 HV10
   have g0:=(unhide HV11).cell_some a0 (by simp)
   have g1:=(unhide HV11).cell_some c0 (by simp)
   go_wp2_with fail
   refine (unhide M3 _ _ _ (unhide SQ11) (unhide SV11)).mono ?_
   rintro e w12 ⟨vm3,rfl,hnew,hb12,-⟩
   have HV12:Hid (But [] V w12):=(unhide HV11).trans' hb12
   have SA12:=hide ((unhide SA11).but_nil hb12)
   have SB12:=hide ((unhide SB11).but_nil hb12)
   have SC12:=hide ((unhide SC11).but_nil hb12)
   have SD12:=hide ((unhide SD11).but_nil hb12)
   have SK12:=hide ((unhide SK11).but_nil hb12)
   have SQ12:=hide ((unhide SQ11).but_nil hb12)
   have SR12:=hide ((unhide SR11).but_nil hb12)
   have SX12:=hide ((unhide SX11).but_nil hb12)
   have SY12:=hide ((unhide SY11).but_nil hb12)
   have SM12:=hide ((unhide SM11).but_nil hb12)
   have SN12:=hide ((unhide SN11).but_nil hb12)
   have SU12:=hide ((unhide SU11).but_nil hb12)
   have SV12:=hide ((unhide SV11).but_nil hb12)
   have SW12:=hide hnew
   clear g0 g1 hb12 hnew SA11 SB11 SC11 SD11 SK11 SQ11 SR11 SX11 SY11 SM11 SN11 SU11 SV11 HV11
   have g0:=(unhide HV12).cell_some a0 (by simp)
   have g1:=(unhide HV12).cell_some c0 (by simp)
   go_wp2_with fail
   refine (unhide OL _ _ _ (unhide SU12) (unhide SW12)).mono ?_
   rintro e wz ⟨vz,rfl,hfz,hbz⟩
   have HVz:Hid (But [] V wz):=(unhide HV12).trans' hbz
   have HBz:Hid (But [] w wz):=(unhide HBV).trans' (unhide HVz)
   have u0:=(unhide HVz).cell_some z0 (by simp)
   have u1:=(unhide HVz).cell_some z1 (by simp)
   have u2:=(unhide HVz).cell_some z2 (by simp)
   have u3:=(unhide HVz).cell_some z3 (by simp)
   have hgl:gr<V.heap.size:=lt_of_cell z0
   have uf:∀ j,wz.frozen? ⟨gr,j,none⟩=false:=fun j=>((unhide HVz).frozen (p:=⟨gr,j,none⟩) hgl (by simp)).trans (zf j)
   have Hz:=hide hfz
   obtain ⟨x8,y8,p8,rfl,-⟩:=hfz.agg
   clear hbz hfz z0 z1 z2 z3 zf hgl g0 g1
   generalize decide ((f+g).num<0)=r8 at *
   go_wp2
   have hBf:=((((unhide HBz).setCell (p:=⟨gr,0,none⟩) (.inr (unhide HGR)) (.bool r8)).setCell (p:=⟨gr,1,none⟩) (.inr (unhide HGR)) (.int .u64 x8)).setCell (p:=⟨gr,2,none⟩) (.inr (unhide HGR)) (.int .u64 y8)).setCell (p:=⟨gr,3,none⟩) (.inr (unhide HGR)) (.pointer p8)
   have hBg:But [gr] wz ((((wz.setCell ⟨gr,0,none⟩ (.bool r8)).setCell ⟨gr,1,none⟩ (.int .u64 x8)).setCell ⟨gr,2,none⟩ (.int .u64 y8)).setCell ⟨gr,3,none⟩ (.pointer p8)):=(((((But.refl [gr] wz).setCell (.inl (by simp)) _).setCell (.inl (by simp)) _).setCell (.inl (by simp)) _).setCell (.inl (by simp)) _)
   exact bodyPost_ret (v:=.agg #[.bool r8,.int .u64 x8,.int .u64 y8,.pointer p8]) (by simp [results,Tryz.results59,go_sem,u0,u1,u2,u3]) rfl ⟨_,rfl,((unhide BL).but (unhide HVz)).frac (unhide Hz) hBg,hBf⟩
end Go.Proofs.YtollloafckcogaaGreatDoor
