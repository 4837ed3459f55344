/- The difference of two fractions, as the  -/
import Derived.Test.YtagmkkiagjmimaaGreatDoorRF6
namespace Go.Proofs.YtagmkkiagjmimaaGreatDoor
open Go.Proofs.Tryz
open Go.RowKit
set_option maxHeartbeats 8000000
set_option maxRecDepth 100000
theorem qg (w:World) (g b j:Nat) (v0 v1 v2 v3 u:Value) (hne:b≠g) (hc:w.cell? ⟨b,j,none⟩=some u):((((w.setCell ⟨g,0,none⟩ v0).setCell ⟨g,1,none⟩ v1).setCell ⟨g,2,none⟩ v2).setCell ⟨g,3,none⟩ v3).cell? ⟨b,j,none⟩=some u:=by
 have hb:But [g] w ((((w.setCell ⟨g,0,none⟩ v0).setCell ⟨g,1,none⟩ v1).setCell ⟨g,2,none⟩ v2).setCell ⟨g,3,none⟩ v3):=(((((But.refl [g] w).setCell (.inl (by simp)) _).setCell (.inl (by simp)) _).setCell (.inl (by simp)) _).setCell (.inl (by simp)) _)
 exact hb.ag hc (by simpa using hne)
theorem zvw (lenF lenG:Nat) (hab:lenF+lenG+1≤1000000) (vf vg:Value) (f g:Rat) (w:World) (hf:am w vf f) (hg:am w vg g) (lf:Len f lenF) (lg:Len g lenG) :
  Calls prog 56 #[vf,vg] w fun e w'=>∃ v,e=.returned v∧am w' v (f-g)∧But [] w w':=by(
have lg':Len (-g) lenG:=by
 unfold Len
 rw[Rat.neg_num,Rat.neg_den,Int.natAbs_neg]
 exact lg
have NG:=af (fun W (h:am W vg g)=>zvx vg g W h)
have AD:Hid (∀ (W:World) (v2:Value),am W vf f→am W v2 (-g)→Calls prog 113 #[vf,v2] W fun e w'=>∃ v,e=.returned v∧am w' v (f-g)∧But [] W w'):=fun W v2 h1 h2=>by
 rw[Rat.sub_eq_add_neg]
 exact zba lenF lenG hab vf v2 f (-g) W h1 h2 lf lg'
have HFA:=af hf
have HGA:=af hg
obtain⟨x1,y1,p1,rfl,-⟩:=hf.agg
obtain⟨x2,y2,p2,rfl,-⟩:=hg.agg
clear hf hg lf lg lg'
generalize hsf:decide (f.num<0)=s1 at *
generalize hsg:decide (g.num<0)=s2 at *
clear hsf hsg
obtain⟨W,hW⟩:∃ W,W=(((w.alloc (.cells #[.bool s1,.int .u64 x1,.int .u64 y1,.pointer p1] 27)).alloc (.cells #[.bool s2,.int .u64 x2,.int .u64 y2,.pointer p2] 27)).alloc (.cells #[.bool false,.int .u64 0,.int .u64 0,.pointer none] 27)):=⟨_,rfl⟩
obtain⟨tA,tB,tC,fz,hB⟩:=zbu w W _ _ _ _ hW
have a0:=tA 0
have a1:=tA 1
have a2:=tA 2
have a3:=tA 3
have b0:=tB 0
have b1:=tB 1
have b2:=tB 2
have b3:=tB 3
have r0:=tC 0
have r1:=tC 1
have r2:=tC 2
have r3:=tC 3
simp only[List.getElem?_toArray,List.getElem?_cons_zero,List.getElem?_cons_succ] at a0 a1 a2 a3 b0 b1 b2 b3 r0 r1 r2 r3
have BL:Hid (Blank W (w.heap.size+2)):=⟨r0,r1,r2,r3,fun j hj=>by rw[tC j];simp;omega⟩
clear tA tB tC
have HW:=af hW
have HB:=af hB
clear hW hB
go_enter func56,ntmps56
go_wp2_with fail
rw[← ae HW]
obtain⟨ga,hga⟩:∃ ga,ga=w.heap.size:=⟨_,rfl⟩
obtain⟨gb,hgb⟩:∃ gb,gb=w.heap.size+1:=⟨_,rfl⟩
obtain⟨gr,hgr⟩:∃ gr,gr=w.heap.size+2:=⟨_,rfl⟩
rw[← hga] at a0 a1 a2 a3
rw[← hgb] at b0 b1 b2 b3
rw[← hgr] at r0 r1 r2 r3 fz BL
rw[show w.heap.size+1+1=w.heap.size+2 from rfl,← hgr,← hgb,← hga]
have HGR:Hid (w.heap.size≤gr):=by show _≤_;omega
have nga:ga≠gr:=by omega
have ngb:gb≠gr:=by omega
clear hga hgb hgr HW
have grl:gr<W.heap.size:=ai r0
go_region_held (fun w'=>w'.cell? ⟨ga,0,none⟩=some (.bool s1)∧w'.cell? ⟨ga,1,none⟩=some (.int .u64 x1)∧w'.cell? ⟨ga,2,none⟩=some (.int .u64 y1)∧w'.cell? ⟨ga,3,none⟩=some (.pointer p1)∧w'.cell? ⟨gb,0,none⟩=some (.bool s2)∧w'.cell? ⟨gb,1,none⟩=some (.int .u64 x2)∧w'.cell? ⟨gb,2,none⟩=some (.int .u64 y2)∧w'.cell? ⟨gb,3,none⟩=some (.pointer p2)) (first | go_keep | exact⟨qg _ _ _ _ _ _ _ _ _ nga m0,qg _ _ _ _ _ _ _ _ _ nga m1,qg _ _ _ _ _ _ _ _ _ nga m2,qg _ _ _ _ _ _ _ _ _ nga m3,qg _ _ _ _ _ _ _ _ _ ngb n0,qg _ _ _ _ _ _ _ _ _ ngb n1,qg _ _ _ _ _ _ _ _ _ ngb n2,qg _ _ _ _ _ _ _ _ _ ngb n3⟩) (first
 | (go_at_call 126;refine (ae NG _ (by first | exact (ae HGA).but (ae HB) | exact (ae HGA).but ((ae HB).trans' (But.refl _ _).drew))).mono ?_;rintro e w1 ⟨v1,rfl,hn1,hc1⟩;have B1:But [] W w1:=(by first | exact hc1 | exact (But.refl _ _).drew.trans' hc1);have HN1:=af hn1;clear hn1 hc1;have k0:=B1.ag a0 (by simp);have k1:=B1.ag a1 (by simp);have k2:=B1.ag a2 (by simp);have k3:=B1.ag a3 (by simp);have l0:=B1.ag b0 (by simp);have l1:=B1.ag b1 (by simp);have l2:=B1.ag b2 (by simp);have l3:=B1.ag b3 (by simp))
 | (go_at_call 113;refine (ae AD _ _ (by first | exact (ae HFA).but ((ae HB).trans' B1) | exact (ae HFA).but (((ae HB).trans' B1).trans' (But.refl _ _).drew)) (by first | exact ae HN1 | exact (ae HN1).but (But.refl _ _).drew)).mono ?_;rintro e w2 ⟨v2,rfl,hn2,hc2⟩;have B2:But [] W w2:=(by first | exact B1.trans' hc2 | exact B1.trans' ((But.refl _ _).drew.trans' hc2));have HN2:=af hn2;obtain⟨x8,y8,p8,rfl,-⟩:=hn2.agg;clear hc2;clear hn2;generalize decide ((f-g).num<0)=r8 at *;have m0:=B2.ag a0 (by simp);have m1:=B2.ag a1 (by simp);have m2:=B2.ag a2 (by simp);have m3:=B2.ag a3 (by simp);have n0:=B2.ag b0 (by simp);have n1:=B2.ag b1 (by simp);have n2:=B2.ag b2 (by simp);have n3:=B2.ag b3 (by simp);have u0:=B2.ag r0 (by simp);have u1:=B2.ag r1 (by simp);have u2:=B2.ag r2 (by simp);have u3:=B2.ag r3 (by simp);have uf:∀ j,w2.frozen? ⟨gr,j,none⟩=false:=fun j=>(B2.frozen (p:=⟨gr,j,none⟩) grl (by simp)).trans (fz j)))
go_wp2
have hBf:=(((((ae HB).trans' B2).setCell (p:=⟨gr,0,none⟩) (.inr (ae HGR)) (.bool r8)).setCell (p:=⟨gr,1,none⟩) (.inr (ae HGR)) (.int .u64 x8)).setCell (p:=⟨gr,2,none⟩) (.inr (ae HGR)) (.int .u64 y8)).setCell (p:=⟨gr,3,none⟩) (.inr (ae HGR)) (.pointer p8)
have hBg:But [gr] w2 ((((w2.setCell ⟨gr,0,none⟩ (.bool r8)).setCell ⟨gr,1,none⟩ (.int .u64 x8)).setCell ⟨gr,2,none⟩ (.int .u64 y8)).setCell ⟨gr,3,none⟩ (.pointer p8)):=(((((But.refl [gr] w2).setCell (.inl (by simp)) _).setCell (.inl (by simp)) _).setCell (.inl (by simp)) _).setCell (.inl (by simp)) _)
exact bodyPost_ret (v:=.agg #[.bool r8,.int .u64 x8,.int .u64 y8,.pointer p8]) (by simp[results,results56,go_sem,u0,u1,u2,u3]) rfl ⟨_,rfl,((ae BL).but B2).zlh (ae HN2) hBg,hBf⟩)
theorem zkx (vf vg:Value) (f g:Rat) (w:World) (hf:am w vf f) (hg:am w vg g) (lf:Len f 499999) (lg:Len g 499999) :
  Calls prog 56 #[vf,vg] w fun e w'=>∃ v,e=.returned v∧am w' v (f-g)∧But [] w w':=zvw 499999 499999 (by omega) vf vg f g w hf hg lf lg
theorem zgd (f:Rat) (h:f.num≠0):(f⁻¹).num.natAbs=f.den∧(f⁻¹).den=f.num.natAbs∧decide ((f⁻¹).num<0)=decide (f.num<0):=by(
have hd:=den_pos f
show (Rat.inv f).num.natAbs=f.den∧(Rat.inv f).den=f.num.natAbs∧decide ((Rat.inv f).num<0)=decide (f.num<0)
unfold Rat.inv
split
·rename_i h1
 refine⟨by simp,rfl,?_⟩
 rw[decide_eq_true h1]
 exact decide_eq_true (by show -(f.den:Int)<0;omega)
·(
split
·rename_i h1 h2
 refine⟨by simp,rfl,?_⟩
 rw[decide_eq_false h1]
 exact decide_eq_false (by show ¬ ((f.den:Int)<0);omega)
·omega))
theorem qdt {W:World} {f:Rat} (h:f.num≠0) (hp:f.num.natAbs < 18446744073709551616) (hq:f.den < 18446744073709551616) (s:Bool) (hs:decide (f.num<0)=s):am W (.agg #[.bool s,.int .u64 (f.den:Int),.int .u64 ((f.num.natAbs:Int)-1),.pointer none]) f⁻¹:=by(
obtain⟨h1,h2,h3⟩:=zgd f h
unfold am
rw[h1,h2,h3,hs]
exact .inl ⟨hq,hp,rfl⟩)
theorem qdu {W:World} {f:Rat} (h:f.num≠0) (hb:18446744073709551616≤f.num.natAbs∨18446744073709551616≤f.den) (b:Nat) (v1 v2:Value) (s:Bool) (hs:decide (f.num<0)=s) (c0:W.cell? ⟨b,0,none⟩=some v2) (c1:W.cell? ⟨b,1,none⟩=some v1) (h1:Sl .u64 W v1 (wd 18446744073709551616 f.num.natAbs)) (h2:Sl .u64 W v2 (wd 18446744073709551616 f.den)):am W (.agg #[.bool s,.int .u64 0,.int .u64 0,.pointer (some ⟨b,0,none⟩)]) f⁻¹:=by(
obtain⟨i1,i2,i3⟩:=zgd f h
unfold am
rw[i1,i2,i3,hs]
exact .inr ⟨hb.symm,b,v2,v1,rfl,c0,c1,h2,h1⟩)
theorem mh (w W:World) (A B:Array Value) (t:TypeId) (hW:W=(w.alloc (.cells A t)).alloc (.cells B t)) :
  (∀ j,W.cell? ⟨w.heap.size,j,none⟩=A[j]?)∧(∀ j,W.cell? ⟨w.heap.size+1,j,none⟩=B[j]?)∧(∀ j,W.frozen? ⟨w.heap.size+1,j,none⟩=false)∧But [] w W:=by(
subst hW
refine⟨fun j=>?_,fun j=>?_,fun j=>?_,((But.refl _ _).alloc _).alloc _⟩
·have h:=((But.refl [] (w.alloc (.cells A t))).alloc (.cells B t)).cell (p:=⟨w.heap.size,j,none⟩) (by simp) (by simp)
 rw[h,World.cell?_alloc_new]
·simp
·simp)
theorem zns (v:Value) (f:Rat) (w:World) (hf:am w v f) (h0:f.num≠0) :
  Calls prog 125 #[v] w fun e w'=>∃ v',e=.returned v'∧am w' v' f⁻¹∧But [] w w':=by(
have hq0:=den_pos f
rcases hf with ⟨hp,hq,rfl⟩|⟨hbig,b,v1,v2,rfl,hc0,hc1,hs1,hs2⟩
·(
have FIN:Hid (∀ W,am W (.agg #[.bool (decide (f.num<0)),.int .u64 (f.den:Int),.int .u64 ((f.num.natAbs:Int)-1),.pointer none]) f⁻¹):=fun W=>qdt h0 hp hq _ rfl
have hp0:0<f.num.natAbs:=by omega
generalize hss:decide (f.num<0)=s at *
clear hss h0
generalize f.num.natAbs=p at *
generalize hqq:f.den=q at *
clear hqq
have UN:=af (fun W=>mg s p q hq hq0 W)
have OW:=af (fun W=>zax s q p hq hp hp0 s (by show s=_;simp;omega) W)
obtain⟨W,hW⟩:∃ W,W=((w.alloc (.cells #[.bool s,.int .u64 (p:Int),.int .u64 ((q:Int)-1),.pointer none] 27)).alloc (.cells #[.bool false,.int .u64 0,.int .u64 0,.pointer none] 27)):=⟨_,rfl⟩
obtain⟨tA,tC,fz,hB⟩:=mh w W _ _ _ hW
have a0:=tA 0
have a1:=tA 1
have a2:=tA 2
have a3:=tA 3
have r0:=tC 0
have r1:=tC 1
have r2:=tC 2
have r3:=tC 3
simp only[List.getElem?_toArray,List.getElem?_cons_zero,List.getElem?_cons_succ] at a0 a1 a2 a3 r0 r1 r2 r3
clear tA tC
have HW:=af hW
have HB:=af hB
clear hW hB
go_enter func125,ntmps125
go_wp2_with fail
rw[← ae HW]
obtain⟨ga,hga⟩:∃ ga,ga=w.heap.size:=⟨_,rfl⟩
obtain⟨gr,hgr⟩:∃ gr,gr=w.heap.size+1:=⟨_,rfl⟩
rw[← hga] at a0 a1 a2 a3
rw[← hgr] at r0 r1 r2 r3 fz
rw[← hgr,← hga]
have HGR:Hid (w.heap.size≤gr):=by show _≤_;omega
have nga:ga≠gr:=by omega
clear hga hgr HW
have grl:gr<W.heap.size:=ai r0
go_wp2
go_region_held (fun w'=>w'.cell? ⟨ga,0,none⟩=some (.bool s)∧w'.cell? ⟨ga,1,none⟩=some (.int .u64 (p:Int))∧w'.cell? ⟨ga,2,none⟩=some (.int .u64 ((q:Int)-1))∧w'.cell? ⟨ga,3,none⟩=some (.pointer none)) (first | go_keep | exact⟨qg _ _ _ _ _ _ _ _ _ nga m0,qg _ _ _ _ _ _ _ _ _ nga m1,qg _ _ _ _ _ _ _ _ _ nga m2,qg _ _ _ _ _ _ _ _ _ nga m3⟩) (first
 | (go_at_call 140;refine (ae UN _).mono ?_;rintro e w1 ⟨rfl,hc1⟩;have B1:But [] W w1:=(by first | exact hc1 | exact (But.refl _ _).drew.trans' hc1);clear hc1;have k0:=B1.ag a0 (by simp);have k1:=B1.ag a1 (by simp);have k2:=B1.ag a2 (by simp);have k3:=B1.ag a3 (by simp))
 | (go_at_call 134;refine (ae OW _).mono ?_;rintro e w2 ⟨rfl,hc2⟩;have B2:But [] W w2:=(by first | exact B1.trans' hc2 | exact B1.trans' ((But.refl _ _).drew.trans' hc2));clear hc2;have m0:=B2.ag a0 (by simp);have m1:=B2.ag a1 (by simp);have m2:=B2.ag a2 (by simp);have m3:=B2.ag a3 (by simp);have u0:=B2.ag r0 (by simp);have u1:=B2.ag r1 (by simp);have u2:=B2.ag r2 (by simp);have u3:=B2.ag r3 (by simp);have uf:∀ j,w2.frozen? ⟨gr,j,none⟩=false:=fun j=>(B2.frozen (p:=⟨gr,j,none⟩) grl (by simp)).trans (fz j)))
all_goals go_wp2
all_goals
 have hBf:=(((((ae HB).trans' B2).setCell (p:=⟨gr,0,none⟩) (.inr (ae HGR)) (.bool s)).setCell (p:=⟨gr,1,none⟩) (.inr (ae HGR)) (.int .u64 (q:Int))).setCell (p:=⟨gr,2,none⟩) (.inr (ae HGR)) (.int .u64 ((p:Int)-1))).setCell (p:=⟨gr,3,none⟩) (.inr (ae HGR)) (.pointer none)
 exact bodyPost_ret (v:=.agg #[.bool s,.int .u64 (q:Int),.int .u64 ((p:Int)-1),.pointer none]) (by simp[results,results125,go_sem,u0,u1,u2,u3]) rfl ⟨_,rfl,ae FIN _,hBf⟩)
·(
have FIN:Hid (∀ W b v1 v2,W.cell? ⟨b,0,none⟩=some v2→W.cell? ⟨b,1,none⟩=some v1→Sl .u64 W v1 (wd 18446744073709551616 f.num.natAbs)→Sl .u64 W v2 (wd 18446744073709551616 f.den)→am W (.agg #[.bool (decide (f.num<0)),.int .u64 0,.int .u64 0,.pointer (some ⟨b,0,none⟩)]) f⁻¹):=fun W b v1 v2 e1 e2 e3 e4=>qdu h0 hbig b v1 v2 _ rfl e1 e2 e3 e4
have HS1:=af hs1
have HS2:=af hs2
obtain⟨a1,e1,rfl,-,-⟩:=hs1
obtain⟨a2,e2,rfl,-,-⟩:=hs2
generalize hss:decide (f.num<0)=s at *
clear hss h0 hbig
generalize (wd 18446744073709551616 f.num.natAbs).length=n1 at *
generalize (wd 18446744073709551616 f.den).length=n2 at *
have hbl:b<w.heap.size:=ai hc0
obtain⟨W,hW⟩:∃ W,W=((w.alloc (.cells #[.bool s,.int .u64 0,.int .u64 0,.pointer (some ⟨b,0,none⟩)] 27)).alloc (.cells #[.bool false,.int .u64 0,.int .u64 0,.pointer none] 27)):=⟨_,rfl⟩
obtain⟨tA,tC,fz,hB⟩:=mh w W _ _ _ hW
have a0:=tA 0
have a3:=tA 3
have r0:=tC 0
have r1:=tC 1
have r2:=tC 2
have r3:=tC 3
simp only[List.getElem?_toArray,List.getElem?_cons_zero,List.getElem?_cons_succ] at a0 a3 r0 r1 r2 r3
have d0:=hB.ag hc0 (by simp)
have d1:=hB.ag hc1 (by simp)
clear tA tC hc0 hc1
have HW:=af hW
have HB:=af hB
clear hW hB
go_enter func125,ntmps125
go_wp2_with fail
rw[← ae HW]
obtain⟨ga,hga⟩:∃ ga,ga=w.heap.size:=⟨_,rfl⟩
obtain⟨gr,hgr⟩:∃ gr,gr=w.heap.size+1:=⟨_,rfl⟩
rw[← hga] at a0 a3
rw[← hgr] at r0 r1 r2 r3 fz
rw[← hgr,← hga]
have HGR:Hid (w.heap.size≤gr):=by show _≤_;omega
have nga:ga≠gr:=by omega
have nb:b≠gr:=by omega
clear hga hgr HW
have grl:gr<W.heap.size:=ai r0
go_wp2
have KK:=af (fun (W':World) (hb:But [gr] W W')=>And.intro (hb.ag a0 (by simpa using nga)) (And.intro (hb.ag a3 (by simpa using nga)) (And.intro (hb.ag d0 (by simpa using nb)) (hb.ag d1 (by simpa using nb)))))
go_region_held (fun w'=>w'.cell? ⟨ga,0,none⟩=some (.bool s)∧w'.cell? ⟨ga,3,none⟩=some (.pointer (some ⟨b,0,none⟩))∧w'.cell? ⟨b,0,none⟩=some (.slice a1 n1 e1)∧w'.cell? ⟨b,1,none⟩=some (.slice a2 n2 e2)) (first | (refine ae KK _ ?_;(repeat (first | exact But.refl _ _ | refine But.drew ?_ | refine But.alloc ?_ _ | refine But.setCell ?_ (.inl (by simp)) _));done) | go_keep) (fail)
all_goals go_wp2
all_goals(
have hBf:=((((((ae HB).setCell (p:=⟨gr,0,none⟩) (.inr (ae HGR)) (.bool s)).setCell (p:=⟨gr,1,none⟩) (.inr (ae HGR)) (.int .u64 0)).setCell (p:=⟨gr,2,none⟩) (.inr (ae HGR)) (.int .u64 0)).setCell (p:=⟨gr,3,none⟩) (.inr (ae HGR)) (.pointer (some ⟨W.heap.size,0,none⟩))).alloc (.cells #[.slice a2 n2 e2,.slice a1 n1 e1] 179)).drew
refine bodyPost_ret (v:=.agg #[.bool s,.int .u64 0,.int .u64 0,.pointer (some ⟨W.heap.size,0,none⟩)]) (by simp[results,results125,go_sem,r0,r1,r2,r3,grl]) rfl ⟨_,rfl,ae FIN _ W.heap.size (.slice a1 n1 e1) (.slice a2 n2 e2) ?_ ?_ ((ae HS1).ah hBf) ((ae HS2).ah hBf),hBf⟩
·have:=World.cell?_alloc_new ((((W.setCell ⟨gr,0,none⟩ (.bool s)).setCell ⟨gr,1,none⟩ (.int .u64 0)).setCell ⟨gr,2,none⟩ (.int .u64 0)).setCell ⟨gr,3,none⟩ (.pointer (some ⟨W.heap.size,0,none⟩))) #[.slice a2 n2 e2,.slice a1 n1 e1] 179 0
 simpa using this
·have:=World.cell?_alloc_new ((((W.setCell ⟨gr,0,none⟩ (.bool s)).setCell ⟨gr,1,none⟩ (.int .u64 0)).setCell ⟨gr,2,none⟩ (.int .u64 0)).setCell ⟨gr,3,none⟩ (.pointer (some ⟨W.heap.size,0,none⟩))) #[.slice a2 n2 e2,.slice a1 n1 e1] 179 1
 simpa using this)))
end Go.Proofs.YtagmkkiagjmimaaGreatDoor
