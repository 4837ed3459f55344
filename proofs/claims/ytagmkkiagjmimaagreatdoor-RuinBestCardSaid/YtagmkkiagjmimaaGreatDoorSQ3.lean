/- A fraction rounded down, as the Go text  -/
import Derived.Test.YtagmkkiagjmimaaGreatDoorSF13
namespace Go.Proofs.YtagmkkiagjmimaaGreatDoor
set_option linter.unusedVariables false
open Go.Proofs.Tryz
open Go.RowKit
set_option maxHeartbeats 8000000
set_option maxRecDepth 100000
theorem zsx (d n:Nat) (h:(wd 18446744073709551616 d).length≤n) (hn:0<n):(wd 18446744073709551616 (d+1)).length≤n+1:=rf d 1 n (ak (B:=18446744073709551616) (by omega) d n h) (Nat.one_lt_pow (by omega) (by omega))
theorem zzf (v:Value) (f:Rat) (w:World) (hf:am w v f) (lf:Len f 1000000) :
   Calls prog 129 #[v] w fun e w'=>∃ v',e=.returned v'∧am w' v' ((fl f:Int):Rat)∧But [] w w':=by(
 have hq0:=den_pos f
 have hfa:=hf
 rcases hf with ⟨hp,hq,rfl⟩|⟨hbig,b,v1,v2,rfl,hc0,hc1,hs1,hs2⟩
 ·exact zse f w hp hq
 ·(
 have WH:=af (fun W (hb:But [] w W)=>zfd _ f W (hfa.but hb) (by have:=lf.2;omega) (decide (f.den=1)) rfl)
 by_cases h1:f.den=1
 ·(
 have e1:decide (f.den=1)=true:=decide_eq_true h1
 rw[e1] at WH
 have FIN:Hid (∀ W,But [] w W→am W (.agg #[.bool (decide (f.num<0)),.int .u64 0,.int .u64 0,.pointer (some ⟨b,0,none⟩)]) ((fl f:Int):Rat)):=fun W hb=>by rw[(zgp f h1).2];exact hfa.but hb
 clear hfa e1 h1 hs1 hs2 hc0 hc1 hbig
 generalize decide (f.num<0)=s at *
 obtain⟨W,hW⟩:∃ W,W=((w.alloc (.cells #[.bool s,.int .u64 0,.int .u64 0,.pointer (some ⟨b,0,none⟩)] 27)).alloc (.cells #[.bool false,.int .u64 0,.int .u64 0,.pointer none] 27)):=⟨_,rfl⟩
 obtain⟨tA,tC,fz,hB⟩:=nu w W _ _ _ hW
 have a0:=tA 0
 have a1:=tA 1
 have a2:=tA 2
 have a3:=tA 3
 have r0:=tC 0
 have r1:=tC 1
 have r2:=tC 2
 have r3:=tC 3
 simp only[List.getElem?_toArray,List.getElem?_cons_zero,List.getElem?_cons_succ] at a0 a1 a2 a3 r0 r1 r2 r3
 have BL:Hid (Blank W (w.heap.size+1)):=⟨r0,r1,r2,r3,fun j hj=>by rw[tC j];simp;omega⟩
 clear tA tC
 have HW:=af hW
 have HB:=af hB
 clear hW hB
 go_enter func129,ntmps129
 go_wp2_with fail
 rw[← ae HW]
 obtain⟨ga,hga⟩:∃ ga,ga=w.heap.size:=⟨_,rfl⟩
 obtain⟨gr,hgr⟩:∃ gr,gr=w.heap.size+1:=⟨_,rfl⟩
 rw[← hga] at a0 a1 a2 a3
 rw[← hgr] at r0 r1 r2 r3 fz BL
 rw[← hgr,← hga]
 have HGR:Hid (w.heap.size≤gr):=by show _≤_;omega
 have nga:ga≠gr:=by omega
 clear hga hgr HW
 have grl:gr<W.heap.size:=ai r0
 refine (ae WH _ (ae HB)).mono ?_
 rintro e w1 ⟨rfl,hb1⟩
 have uf:∀ j,w1.frozen? ⟨gr,j,none⟩=false:=fun j=>(hb1.frozen (p:=⟨gr,j,none⟩) grl (by simp)).trans (fz j)
 have m0:=hb1.ag a0 (by simp)
 have m1:=hb1.ag a1 (by simp)
 have m2:=hb1.ag a2 (by simp)
 have m3:=hb1.ag a3 (by simp)
 have u0:=hb1.ag r0 (by simp)
 have u1:=hb1.ag r1 (by simp)
 have u2:=hb1.ag r2 (by simp)
 have u3:=hb1.ag r3 (by simp)
 have HB1:Hid (But [] w w1):=(ae HB).trans' hb1
 have BL1:Hid (Blank w1 gr):=(ae BL).but hb1
 clear hb1 a0 a1 a2 a3 r0 r1 r2 r3 fz grl BL
 go_wp2
 have hBg:But [gr] w1 ((((w1.setCell ⟨gr,0,none⟩ (.bool s)).setCell ⟨gr,1,none⟩ (.int .u64 0)).setCell ⟨gr,2,none⟩ (.int .u64 0)).setCell ⟨gr,3,none⟩ (.pointer (some ⟨b,0,none⟩))):=(((((But.refl [gr] w1).setCell (.inl (by simp)) _).setCell (.inl (by simp)) _).setCell (.inl (by simp)) _).setCell (.inl (by simp)) _)
 have hBf:=((((ae HB1).setCell (p:=⟨gr,0,none⟩) (.inr (ae HGR)) (.bool s)).setCell (p:=⟨gr,1,none⟩) (.inr (ae HGR)) (.int .u64 0)).setCell (p:=⟨gr,2,none⟩) (.inr (ae HGR)) (.int .u64 0)).setCell (p:=⟨gr,3,none⟩) (.inr (ae HGR)) (.pointer (some ⟨b,0,none⟩))
 exact bodyPost_ret (v:=.agg #[.bool s,.int .u64 0,.int .u64 0,.pointer (some ⟨b,0,none⟩)]) (by simp[results,results129,go_sem,u0,u1,u2,u3]) rfl ⟨_,rfl,(ae BL1).zky (ae FIN _ (ae HB1)) hBg,hBf⟩)
 ·(
 have e1:decide (f.den=1)=false:=decide_eq_false h1
 rw[e1] at WH
 have hfl:=zum f h1
 obtain⟨d,hd⟩:∃ d,d=f.num.natAbs/f.den:=⟨_,rfl⟩
 rw[← hd] at hfl
 have hdl:(wd 18446744073709551616 d).length≤1000000:=by rw[hd];exact Nat.le_trans (au (Nat.div_le_self _ _)) lf.1
 have n1:((fl f:Int):Rat).num=fl f:=by simp
 have n2:((fl f:Int):Rat).den=1:=by simp
 have hone:(wd 18446744073709551616 1).length≤1:=aj (by omega) _ _ (by omega)
 have QU:Hid (∀ W,But [] w W→Calls prog 170 #[v1,v2] W fun e w'=>∃ v1,e=.returned v1∧Sl .u64 w' v1 (wd 18446744073709551616 d)∧But [] W w'):=fun W hb=>by
  rw[hd]
  exact j4 v1 v2 _ _ W (hs1.ah hb) (hs2.ah hb) hq0 (by have:=lf.1;omega) (by have:=lf.2;omega) (Short.of _ _ lf.1)
 have AD:Hid (∀ W (va vb:Value),Sl .u64 W va (wd 18446744073709551616 d)→Sl .u64 W vb (wd 18446744073709551616 1)→Calls prog 183 #[va,vb] W fun e w'=>∃ v',e=.returned v'∧Sl .u64 w' v' (wd 18446744073709551616 (d+1))∧But [] W w'):=fun W va vb h1 h2=>ig va vb d 1 W h1 h2 (by omega) (by omega)
 have hd1l:(wd 18446744073709551616 (d+1)).length≤1000001:=zsx d 1000000 hdl (by omega)
 have OL:Hid (∀ W (va vb:Value),Sl .u64 W va (wd 18446744073709551616 (if f.num<0 then d+1 else d))→Sl .u64 W vb (wd 18446744073709551616 1)→Calls prog 169 #[.bool (decide (f.num<0)),va,vb] W fun e w'=>∃ v,e=.returned v∧am w' v ((fl f:Int):Rat)∧But [] W w'):=fun W va vb h1 h2=>by
  have hab:((fl f:Int):Rat).num.natAbs=if f.num<0 then d+1 else d:=by rw[n1,hfl,jd]
  refine ic _ va vb _ W (by rw[hab];exact h1) (by rw[n2];exact h2) (by rw[hab,n1];exact hfl) (by rw[hab];split <;> omega) (by rw[n2];omega)
 obtain⟨a1,e1',rfl,-,-⟩:=hs1
 obtain⟨a2,e2',rfl,-,-⟩:=hs2
 clear hfa e1 h1 hbig hfl hdl hd1l n1 n2 hone hd lf
 generalize (wd 18446744073709551616 f.num.natAbs).length=k1 at *
 generalize (wd 18446744073709551616 f.den).length=k2 at *
 by_cases hn:f.num<0
 ·(
 rw[if_pos hn,decide_eq_true hn] at OL
 rw[decide_eq_true hn] at WH ⊢
 clear hn
 obtain⟨W,hW⟩:∃ W,W=((w.alloc (.cells #[.bool true,.int .u64 0,.int .u64 0,.pointer (some ⟨b,0,none⟩)] 27)).alloc (.cells #[.bool false,.int .u64 0,.int .u64 0,.pointer none] 27)):=⟨_,rfl⟩
 obtain⟨tA,tC,fz,hB⟩:=nu w W _ _ _ hW
 have a0:=tA 0
 have a1:=tA 1
 have a2:=tA 2
 have a3:=tA 3
 have r0:=tC 0
 have r1:=tC 1
 have r2:=tC 2
 have r3:=tC 3
 simp only[List.getElem?_toArray,List.getElem?_cons_zero,List.getElem?_cons_succ] at a0 a1 a2 a3 r0 r1 r2 r3
 have BL:Hid (Blank W (w.heap.size+1)):=⟨r0,r1,r2,r3,fun j hj=>by rw[tC j];simp;omega⟩
 clear tA tC
 have HW:=af hW
 have HB:=af hB
 clear hW hB
 go_enter func129,ntmps129
 go_wp2_with fail
 rw[← ae HW]
 obtain⟨ga,hga⟩:∃ ga,ga=w.heap.size:=⟨_,rfl⟩
 obtain⟨gr,hgr⟩:∃ gr,gr=w.heap.size+1:=⟨_,rfl⟩
 rw[← hga] at a0 a1 a2 a3
 rw[← hgr] at r0 r1 r2 r3 fz BL
 rw[← hgr,← hga]
 have HGR:Hid (w.heap.size≤gr):=by show _≤_;omega
 have nga:ga≠gr:=by omega
 clear hga hgr HW
 have grl:gr<W.heap.size:=ai r0
 refine (ae WH _ (ae HB)).mono ?_
 rintro e w1 ⟨rfl,hb1⟩
 have uf:∀ j,w1.frozen? ⟨gr,j,none⟩=false:=fun j=>(hb1.frozen (p:=⟨gr,j,none⟩) grl (by simp)).trans (fz j)
 have m0:=hb1.ag a0 (by simp)
 have m1:=hb1.ag a1 (by simp)
 have m2:=hb1.ag a2 (by simp)
 have m3:=hb1.ag a3 (by simp)
 have u0:=hb1.ag r0 (by simp)
 have u1:=hb1.ag r1 (by simp)
 have u2:=hb1.ag r2 (by simp)
 have u3:=hb1.ag r3 (by simp)
 have HB1:Hid (But [] w w1):=(ae HB).trans' hb1
 have BL1:Hid (Blank w1 gr):=(ae BL).but hb1
 clear hb1 a0 a1 a2 a3 r0 r1 r2 r3 fz grl BL
 have d0:=(ae HB1).ag hc0 (by simp)
 have d1:=(ae HB1).ag hc1 (by simp)
 go_wp2_with fail
 go_region_held (fun w'=>w'.cell? ⟨ga,3,none⟩=some (.pointer (some ⟨b,0,none⟩))∧w'.cell? ⟨b,0,none⟩=some (.slice a1 k1 e1')∧w'.cell? ⟨b,1,none⟩=some (.slice a2 k2 e2')) (go_keep) (first
      | (go_at_call 170;refine (ae QU _ (by first | exact ae HB1 | exact (ae HB1).drew)).mono ?_;rintro e wu1 ⟨vn,rfl,hvn,hcu1⟩;have Bu1:But [] w1 wu1:=(by first | exact hcu1 | exact (But.refl _ _).drew.trans' hcu1);have HVN:=af hvn;clear hvn;clear hcu1;have m3_u1:=Bu1.ag m3 (by simp);have d0_u1:=Bu1.ag d0 (by simp);have d1_u1:=Bu1.ag d1 (by simp)))
 have HB2:Hid (But [] w wu1):=(ae HB1).trans' Bu1
 have gl2:gr<w1.heap.size:=ai u0
 have vf:∀ j,wu1.frozen? ⟨gr,j,none⟩=false:=fun j=>(Bu1.frozen (p:=⟨gr,j,none⟩) gl2 (by simp)).trans (uf j)
 have v0:=Bu1.ag u0 (by simp)
 have v1:=Bu1.ag u1 (by simp)
 have v2:=Bu1.ag u2 (by simp)
 have v3:=Bu1.ag u3 (by simp)
 have p0:=Bu1.ag m0 (by simp)
 have BL2:Hid (Blank wu1 gr):=(ae BL1).but Bu1
 clear Bu1 m0 m1 m2 m3 u0 u1 u2 u3 uf gl2 QU d0 d1 m3_u1 d0_u1 d1_u1 BL1
 go_wp2_with fail
 refine (jc 1 (by omega) _).mono ?_
 rintro e wa ⟨vo,rfl,hvo,hbwa,-⟩
 have glwa:gr<wu1.heap.size:=ai v0
 have xf:∀ j,wa.frozen? ⟨gr,j,none⟩=false:=fun j=>(hbwa.frozen (p:=⟨gr,j,none⟩) glwa (by simp)).trans (vf j)
 have x0:=hbwa.ag v0 (by simp)
 have x1:=hbwa.ag v1 (by simp)
 have x2:=hbwa.ag v2 (by simp)
 have x3:=hbwa.ag v3 (by simp)
 have HBa:Hid (But [] w wa):=(ae HB2).trans' hbwa
 have BLa:Hid (Blank wa gr):=(ae BL2).but hbwa
 have p0:=hbwa.ag p0 (by simp)
 have HVO:=af hvo
 have HVN2:=af ((ae HVN).ah hbwa)
 clear hvo HVN
 clear hbwa v0 v1 v2 v3 vf glwa BL2
 go_wp2_with fail
 refine (ae AD _ vn vo (ae HVN2) (ae HVO)).mono ?_
 rintro e wb ⟨vs,rfl,hvs,hbwb⟩
 have glwb:gr<wa.heap.size:=ai x0
 have yf:∀ j,wb.frozen? ⟨gr,j,none⟩=false:=fun j=>(hbwb.frozen (p:=⟨gr,j,none⟩) glwb (by simp)).trans (xf j)
 have y0:=hbwb.ag x0 (by simp)
 have y1:=hbwb.ag x1 (by simp)
 have y2:=hbwb.ag x2 (by simp)
 have y3:=hbwb.ag x3 (by simp)
 have HBb:Hid (But [] w wb):=(ae HBa).trans' hbwb
 have BLb:Hid (Blank wb gr):=(ae BLa).but hbwb
 have p0:=hbwb.ag p0 (by simp)
 have HVS:=af hvs
 clear hvs
 clear hbwb x0 x1 x2 x3 xf glwb BLa
 have glx:gr<wb.heap.size:=ai y0
 go_wp2_with fail
 go_region_held (fun w'=>w'.cell? ⟨ga,0,none⟩=some (.bool true)) (first | (go_keep;done) | exact yt _ _ _ _ _ _ _ _ _ nga p0_r2) (first
      | (go_at_call 169;have hchk:=Br1;clear hchk;refine (ae OL _ vs vt (by first | exact ae HVS2 | exact (ae HVS2).ah (But.refl _ _).drew) (by first | exact ae HVT | exact (ae HVT).ah (But.refl _ _).drew)).mono ?_;rintro e wr2 ⟨vr,rfl,hvr,hcr2⟩;have Br2:But [] wb wr2:=(by first | exact Br1.trans' hcr2 | exact (Br1.drew).trans' hcr2);have HVR:=af hvr;obtain⟨x8,y8,p8,rfl,-⟩:=hvr.agg;clear hvr;generalize decide (((fl f:Int):Rat).num<0)=r8 at *;have q0:=Br2.ag y0 (by simp);have q1:=Br2.ag y1 (by simp);have q2:=Br2.ag y2 (by simp);have q3:=Br2.ag y3 (by simp);have qf:∀ j,wr2.frozen? ⟨gr,j,none⟩=false:=(fun j=>(Br2.frozen (p:=⟨gr,j,none⟩) glx (by simp)).trans (yf j));clear hcr2;have p0_r2:=Br2.ag p0 (by simp);clear p0_r1)
      | (go_at_call 139;refine (jc 1 (by omega) _).mono ?_;rintro e wr1 ⟨vt,rfl,hvt,hcr1,-⟩;have Br1:But [] wb wr1:=(by first | exact hcr1 | exact (But.refl _ _).drew.trans' hcr1);have HVT:=af hvt;have HVS2:Hid (Sl .u64 wr1 vs (wd 18446744073709551616 (d+1))):=(by first | exact (ae HVS).ah hcr1 | exact ((ae HVS).ah (But.refl _ _).drew).ah hcr1);clear hvt;clear hcr1;have p0_r1:=Br1.ag p0 (by simp)))
 have HBd:Hid (But [] w wr2):=(ae HBb).trans' Br2
 have BLd:Hid (Blank wr2 gr):=(ae BLb).but Br2
 clear Br2
 go_wp2
 have hBg:But [gr] wr2 ((((wr2.setCell ⟨gr,0,none⟩ (.bool r8)).setCell ⟨gr,1,none⟩ (.int .u64 x8)).setCell ⟨gr,2,none⟩ (.int .u64 y8)).setCell ⟨gr,3,none⟩ (.pointer p8)):=(((((But.refl [gr] wr2).setCell (.inl (by simp)) _).setCell (.inl (by simp)) _).setCell (.inl (by simp)) _).setCell (.inl (by simp)) _)
 have hBf:=((((ae HBd).setCell (p:=⟨gr,0,none⟩) (.inr (ae HGR)) (.bool r8)).setCell (p:=⟨gr,1,none⟩) (.inr (ae HGR)) (.int .u64 x8)).setCell (p:=⟨gr,2,none⟩) (.inr (ae HGR)) (.int .u64 y8)).setCell (p:=⟨gr,3,none⟩) (.inr (ae HGR)) (.pointer p8)
 exact bodyPost_ret (v:=.agg #[.bool r8,.int .u64 x8,.int .u64 y8,.pointer p8]) (by simp[results,results129,go_sem,q0,q1,q2,q3]) rfl ⟨_,rfl,(ae BLd).zky (ae HVR) hBg,hBf⟩)
 ·(
 rw[if_neg hn,decide_eq_false hn] at OL
 rw[decide_eq_false hn] at WH ⊢
 clear hn
 obtain⟨W,hW⟩:∃ W,W=((w.alloc (.cells #[.bool false,.int .u64 0,.int .u64 0,.pointer (some ⟨b,0,none⟩)] 27)).alloc (.cells #[.bool false,.int .u64 0,.int .u64 0,.pointer none] 27)):=⟨_,rfl⟩
 obtain⟨tA,tC,fz,hB⟩:=nu w W _ _ _ hW
 have a0:=tA 0
 have a1:=tA 1
 have a2:=tA 2
 have a3:=tA 3
 have r0:=tC 0
 have r1:=tC 1
 have r2:=tC 2
 have r3:=tC 3
 simp only[List.getElem?_toArray,List.getElem?_cons_zero,List.getElem?_cons_succ] at a0 a1 a2 a3 r0 r1 r2 r3
 have BL:Hid (Blank W (w.heap.size+1)):=⟨r0,r1,r2,r3,fun j hj=>by rw[tC j];simp;omega⟩
 clear tA tC
 have HW:=af hW
 have HB:=af hB
 clear hW hB
 go_enter func129,ntmps129
 go_wp2_with fail
 rw[← ae HW]
 obtain⟨ga,hga⟩:∃ ga,ga=w.heap.size:=⟨_,rfl⟩
 obtain⟨gr,hgr⟩:∃ gr,gr=w.heap.size+1:=⟨_,rfl⟩
 rw[← hga] at a0 a1 a2 a3
 rw[← hgr] at r0 r1 r2 r3 fz BL
 rw[← hgr,← hga]
 have HGR:Hid (w.heap.size≤gr):=by show _≤_;omega
 have nga:ga≠gr:=by omega
 clear hga hgr HW
 have grl:gr<W.heap.size:=ai r0
 refine (ae WH _ (ae HB)).mono ?_
 rintro e w1 ⟨rfl,hb1⟩
 have uf:∀ j,w1.frozen? ⟨gr,j,none⟩=false:=fun j=>(hb1.frozen (p:=⟨gr,j,none⟩) grl (by simp)).trans (fz j)
 have m0:=hb1.ag a0 (by simp)
 have m1:=hb1.ag a1 (by simp)
 have m2:=hb1.ag a2 (by simp)
 have m3:=hb1.ag a3 (by simp)
 have u0:=hb1.ag r0 (by simp)
 have u1:=hb1.ag r1 (by simp)
 have u2:=hb1.ag r2 (by simp)
 have u3:=hb1.ag r3 (by simp)
 have HB1:Hid (But [] w w1):=(ae HB).trans' hb1
 have BL1:Hid (Blank w1 gr):=(ae BL).but hb1
 clear hb1 a0 a1 a2 a3 r0 r1 r2 r3 fz grl BL
 have d0:=(ae HB1).ag hc0 (by simp)
 have d1:=(ae HB1).ag hc1 (by simp)
 go_wp2_with fail
 go_region_held (fun w'=>w'.cell? ⟨ga,3,none⟩=some (.pointer (some ⟨b,0,none⟩))∧w'.cell? ⟨b,0,none⟩=some (.slice a1 k1 e1')∧w'.cell? ⟨b,1,none⟩=some (.slice a2 k2 e2')) (go_keep) (first
      | (go_at_call 170;refine (ae QU _ (by first | exact ae HB1 | exact (ae HB1).drew)).mono ?_;rintro e wu1 ⟨vn,rfl,hvn,hcu1⟩;have Bu1:But [] w1 wu1:=(by first | exact hcu1 | exact (But.refl _ _).drew.trans' hcu1);have HVN:=af hvn;clear hvn;clear hcu1;have m3_u1:=Bu1.ag m3 (by simp);have d0_u1:=Bu1.ag d0 (by simp);have d1_u1:=Bu1.ag d1 (by simp)))
 have HB2:Hid (But [] w wu1):=(ae HB1).trans' Bu1
 have gl2:gr<w1.heap.size:=ai u0
 have vf:∀ j,wu1.frozen? ⟨gr,j,none⟩=false:=fun j=>(Bu1.frozen (p:=⟨gr,j,none⟩) gl2 (by simp)).trans (uf j)
 have v0:=Bu1.ag u0 (by simp)
 have v1:=Bu1.ag u1 (by simp)
 have v2:=Bu1.ag u2 (by simp)
 have v3:=Bu1.ag u3 (by simp)
 have p0:=Bu1.ag m0 (by simp)
 have BL2:Hid (Blank wu1 gr):=(ae BL1).but Bu1
 clear Bu1 m0 m1 m2 m3 u0 u1 u2 u3 uf gl2 QU d0 d1 m3_u1 d0_u1 d1_u1 BL1
 have HVS:=af (ae HVN)
 obtain⟨vs,hvs⟩:∃ vs,vs=vn:=⟨_,rfl⟩
 rw[← hvs] at HVS ⊢
 clear hvs HVN
 have glx:gr<wu1.heap.size:=ai v0
 go_wp2_with fail
 go_region_held (fun w'=>w'.cell? ⟨ga,0,none⟩=some (.bool false)) (first | (go_keep;done) | exact yt _ _ _ _ _ _ _ _ _ nga p0_r2) (first
      | (go_at_call 169;have hchk:=Br1;clear hchk;refine (ae OL _ vs vt (by first | exact ae HVS2 | exact (ae HVS2).ah (But.refl _ _).drew) (by first | exact ae HVT | exact (ae HVT).ah (But.refl _ _).drew)).mono ?_;rintro e wr2 ⟨vr,rfl,hvr,hcr2⟩;have Br2:But [] wu1 wr2:=(by first | exact Br1.trans' hcr2 | exact (Br1.drew).trans' hcr2);have HVR:=af hvr;obtain⟨x8,y8,p8,rfl,-⟩:=hvr.agg;clear hvr;generalize decide (((fl f:Int):Rat).num<0)=r8 at *;have q0:=Br2.ag v0 (by simp);have q1:=Br2.ag v1 (by simp);have q2:=Br2.ag v2 (by simp);have q3:=Br2.ag v3 (by simp);have qf:∀ j,wr2.frozen? ⟨gr,j,none⟩=false:=(fun j=>(Br2.frozen (p:=⟨gr,j,none⟩) glx (by simp)).trans (vf j));clear hcr2;have p0_r2:=Br2.ag p0 (by simp);clear p0_r1)
      | (go_at_call 139;refine (jc 1 (by omega) _).mono ?_;rintro e wr1 ⟨vt,rfl,hvt,hcr1,-⟩;have Br1:But [] wu1 wr1:=(by first | exact hcr1 | exact (But.refl _ _).drew.trans' hcr1);have HVT:=af hvt;have HVS2:Hid (Sl .u64 wr1 vs (wd 18446744073709551616 (d))):=(by first | exact (ae HVS).ah hcr1 | exact ((ae HVS).ah (But.refl _ _).drew).ah hcr1);clear hvt;clear hcr1;have p0_r1:=Br1.ag p0 (by simp)))
 have HBd:Hid (But [] w wr2):=(ae HB2).trans' Br2
 have BLd:Hid (Blank wr2 gr):=(ae BL2).but Br2
 clear Br2
 go_wp2
 have hBg:But [gr] wr2 ((((wr2.setCell ⟨gr,0,none⟩ (.bool r8)).setCell ⟨gr,1,none⟩ (.int .u64 x8)).setCell ⟨gr,2,none⟩ (.int .u64 y8)).setCell ⟨gr,3,none⟩ (.pointer p8)):=(((((But.refl [gr] wr2).setCell (.inl (by simp)) _).setCell (.inl (by simp)) _).setCell (.inl (by simp)) _).setCell (.inl (by simp)) _)
 have hBf:=((((ae HBd).setCell (p:=⟨gr,0,none⟩) (.inr (ae HGR)) (.bool r8)).setCell (p:=⟨gr,1,none⟩) (.inr (ae HGR)) (.int .u64 x8)).setCell (p:=⟨gr,2,none⟩) (.inr (ae HGR)) (.int .u64 y8)).setCell (p:=⟨gr,3,none⟩) (.inr (ae HGR)) (.pointer p8)
 exact bodyPost_ret (v:=.agg #[.bool r8,.int .u64 x8,.int .u64 y8,.pointer p8]) (by simp[results,results129,go_sem,q0,q1,q2,q3]) rfl ⟨_,rfl,(ae BLd).zky (ae HVR) hBg,hBf⟩))))
end Go.Proofs.YtagmkkiagjmimaaGreatDoor
