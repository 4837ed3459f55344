/- The difference of two fractions, as the  -/
import Derived.Test.YtpmjeclpkahkmaaGreatDoorVF6
namespace Go.Proofs.YtpmjeclpkahkmaaGreatDoor
set_option linter.unusedVariables false
open Go.Proofs.Tryz
open Go.RowKit
set_option maxHeartbeats 8000000
set_option maxRecDepth 100000
theorem jr (w:World) (g b j:Nat) (v0 v1 v2 v3 u:Value) (hne:b≠g) (hc:w.cell? ⟨b,j,none⟩=some u):((((w.setCell ⟨g,0,none⟩ v0).setCell ⟨g,1,none⟩ v1).setCell ⟨g,2,none⟩ v2).setCell ⟨g,3,none⟩ v3).cell? ⟨b,j,none⟩=some u:=by
 have hb:But [g] w ((((w.setCell ⟨g,0,none⟩ v0).setCell ⟨g,1,none⟩ v1).setCell ⟨g,2,none⟩ v2).setCell ⟨g,3,none⟩ v3):=(((((But.refl [g] w).setCell (.inl (by simp)) _).setCell (.inl (by simp)) _).setCell (.inl (by simp)) _).setCell (.inl (by simp)) _)
 exact hb.ag hc (by simpa using hne)
theorem zkc (f:Rat) (h:f.num≠0):(f⁻¹).num.natAbs=f.den∧(f⁻¹).den=f.num.natAbs∧decide ((f⁻¹).num<0)=decide (f.num<0):=by(
have hd:=den_pos f
show (Rat.inv f).num.natAbs=f.den∧(Rat.inv f).den=f.num.natAbs∧decide ((Rat.inv f).num<0)=decide (f.num<0)
unfold Rat.inv
split
·rename_i h1
 refine⟨by simp,rfl,?_⟩
 rw[decide_eq_true h1]
 exact decide_eq_true (by show -(f.den:Int)<0;omega)
·(
split
·rename_i h1 h2
 refine⟨by simp,rfl,?_⟩
 rw[decide_eq_false h1]
 exact decide_eq_false (by show ¬ ((f.den:Int)<0);omega)
·omega))
theorem qbq {W:World} {f:Rat} (h:f.num≠0) (hp:f.num.natAbs < 18446744073709551616) (hq:f.den < 18446744073709551616) (s:Bool) (hs:decide (f.num<0)=s):aq W (.agg #[.bool s,.int .u64 (f.den:Int),.int .u64 ((f.num.natAbs:Int)-1),.pointer none]) f⁻¹:=by(
obtain⟨h1,h2,h3⟩:=zkc f h
unfold aq
rw[h1,h2,h3,hs]
exact .inl ⟨hq,hp,rfl⟩)
theorem qbr {W:World} {f:Rat} (h:f.num≠0) (hb:18446744073709551616≤f.num.natAbs∨18446744073709551616≤f.den) (b:Nat) (v1 v2:Value) (s:Bool) (hs:decide (f.num<0)=s) (c0:W.cell? ⟨b,0,none⟩=some v2) (c1:W.cell? ⟨b,1,none⟩=some v1) (h1:Sl .u64 W v1 (wd 18446744073709551616 f.num.natAbs)) (h2:Sl .u64 W v2 (wd 18446744073709551616 f.den)):aq W (.agg #[.bool s,.int .u64 0,.int .u64 0,.pointer (some ⟨b,0,none⟩)]) f⁻¹:=by(
obtain⟨i1,i2,i3⟩:=zkc f h
unfold aq
rw[i1,i2,i3,hs]
exact .inr ⟨hb.symm,b,v2,v1,rfl,c0,c1,h2,h1⟩)
theorem ol (w W:World) (A B:Array Value) (t:TypeId) (hW:W=(w.alloc (.cells A t)).alloc (.cells B t)) :
  (∀ j,W.cell? ⟨w.heap.size,j,none⟩=A[j]?)∧(∀ j,W.cell? ⟨w.heap.size+1,j,none⟩=B[j]?)∧(∀ j,W.frozen? ⟨w.heap.size+1,j,none⟩=false)∧But [] w W:=by(
subst hW
refine⟨fun j=>?_,fun j=>?_,fun j=>?_,((But.refl _ _).alloc _).alloc _⟩
·have h:=((But.refl [] (w.alloc (.cells A t))).alloc (.cells B t)).cell (p:=⟨w.heap.size,j,none⟩) (by simp) (by simp)
 rw[h,World.cell?_alloc_new]
·simp
·simp)
theorem zns (v:Value) (f:Rat) (w:World) (hf:aq w v f) (h0:f.num≠0) :
  Calls prog 151 #[v] w fun e w'=>∃ v',e=.returned v'∧aq w' v' f⁻¹∧But [] w w':=by(
have hq0:=den_pos f
rcases hf with ⟨hp,hq,rfl⟩|⟨hbig,b,v1,v2,rfl,hc0,hc1,hs1,hs2⟩
·(
have FIN:Hid (∀ W,aq W (.agg #[.bool (decide (f.num<0)),.int .u64 (f.den:Int),.int .u64 ((f.num.natAbs:Int)-1),.pointer none]) f⁻¹):=fun W=>qbq h0 hp hq _ rfl
have hp0:0<f.num.natAbs:=by omega
generalize hss:decide (f.num<0)=s at *
clear hss h0
generalize f.num.natAbs=p at *
generalize hqq:f.den=q at *
clear hqq
have UN:=af (fun W=>nu s p q hq hq0 W)
have OW:=af (fun W=>zbe s q p hq hp hp0 s (by show s=_;simp;omega) W)
obtain⟨W,hW⟩:∃ W,W=((w.alloc (.cells #[.bool s,.int .u64 (p:Int),.int .u64 ((q:Int)-1),.pointer none] 27)).alloc (.cells #[.bool false,.int .u64 0,.int .u64 0,.pointer none] 27)):=⟨_,rfl⟩
obtain⟨tA,tC,fz,hB⟩:=ol w W _ _ _ hW
have a0:=tA 0
have a1:=tA 1
have a2:=tA 2
have a3:=tA 3
have r0:=tC 0
have r1:=tC 1
have r2:=tC 2
have r3:=tC 3
simp only[List.getElem?_toArray,List.getElem?_cons_zero,List.getElem?_cons_succ] at a0 a1 a2 a3 r0 r1 r2 r3
clear tA tC
have HW:=af hW
have HB:=af hB
clear hW hB
go_enter func151,ntmps151
go_wp2_with fail
rw[← ae HW]
obtain⟨ga,hga⟩:∃ ga,ga=w.heap.size:=⟨_,rfl⟩
obtain⟨gr,hgr⟩:∃ gr,gr=w.heap.size+1:=⟨_,rfl⟩
rw[← hga] at a0 a1 a2 a3
rw[← hgr] at r0 r1 r2 r3 fz
rw[← hgr,← hga]
have HGR:Hid (w.heap.size≤gr):=by show _≤_;omega
have nga:ga≠gr:=by omega
clear hga hgr HW
have grl:gr<W.heap.size:=ai r0
go_wp2
go_region_held (fun w'=>w'.cell? ⟨ga,0,none⟩=some (.bool s)∧w'.cell? ⟨ga,1,none⟩=some (.int .u64 (p:Int))∧w'.cell? ⟨ga,2,none⟩=some (.int .u64 ((q:Int)-1))∧w'.cell? ⟨ga,3,none⟩=some (.pointer none)) (first | go_keep | exact⟨jr _ _ _ _ _ _ _ _ _ nga m0,jr _ _ _ _ _ _ _ _ _ nga m1,jr _ _ _ _ _ _ _ _ _ nga m2,jr _ _ _ _ _ _ _ _ _ nga m3⟩) (first
 | (go_at_call 167;refine (ae UN _).mono ?_;rintro e w1 ⟨rfl,hc1⟩;have B1:But [] W w1:=(by first | exact hc1 | exact (But.refl _ _).drew.trans' hc1);clear hc1;have k0:=B1.ag a0 (by simp);have k1:=B1.ag a1 (by simp);have k2:=B1.ag a2 (by simp);have k3:=B1.ag a3 (by simp))
 | (go_at_call 161;refine (ae OW _).mono ?_;rintro e w2 ⟨rfl,hc2⟩;have B2:But [] W w2:=(by first | exact B1.trans' hc2 | exact B1.trans' ((But.refl _ _).drew.trans' hc2));clear hc2;have m0:=B2.ag a0 (by simp);have m1:=B2.ag a1 (by simp);have m2:=B2.ag a2 (by simp);have m3:=B2.ag a3 (by simp);have u0:=B2.ag r0 (by simp);have u1:=B2.ag r1 (by simp);have u2:=B2.ag r2 (by simp);have u3:=B2.ag r3 (by simp);have uf:∀ j,w2.frozen? ⟨gr,j,none⟩=false:=fun j=>(B2.frozen (p:=⟨gr,j,none⟩) grl (by simp)).trans (fz j)))
all_goals go_wp2
all_goals
 have hBf:=(((((ae HB).trans' B2).setCell (p:=⟨gr,0,none⟩) (.inr (ae HGR)) (.bool s)).setCell (p:=⟨gr,1,none⟩) (.inr (ae HGR)) (.int .u64 (q:Int))).setCell (p:=⟨gr,2,none⟩) (.inr (ae HGR)) (.int .u64 ((p:Int)-1))).setCell (p:=⟨gr,3,none⟩) (.inr (ae HGR)) (.pointer none)
 exact bodyPost_ret (v:=.agg #[.bool s,.int .u64 (q:Int),.int .u64 ((p:Int)-1),.pointer none]) (by simp[results,results151,go_sem,u0,u1,u2,u3]) rfl ⟨_,rfl,ae FIN _,hBf⟩)
·(
have FIN:Hid (∀ W b v1 v2,W.cell? ⟨b,0,none⟩=some v2→W.cell? ⟨b,1,none⟩=some v1→Sl .u64 W v1 (wd 18446744073709551616 f.num.natAbs)→Sl .u64 W v2 (wd 18446744073709551616 f.den)→aq W (.agg #[.bool (decide (f.num<0)),.int .u64 0,.int .u64 0,.pointer (some ⟨b,0,none⟩)]) f⁻¹):=fun W b v1 v2 e1 e2 e3 e4=>qbr h0 hbig b v1 v2 _ rfl e1 e2 e3 e4
have HS1:=af hs1
have HS2:=af hs2
obtain⟨a1,e1,rfl,-,-⟩:=hs1
obtain⟨a2,e2,rfl,-,-⟩:=hs2
generalize hss:decide (f.num<0)=s at *
clear hss h0 hbig
generalize (wd 18446744073709551616 f.num.natAbs).length=n1 at *
generalize (wd 18446744073709551616 f.den).length=n2 at *
have hbl:b<w.heap.size:=ai hc0
obtain⟨W,hW⟩:∃ W,W=((w.alloc (.cells #[.bool s,.int .u64 0,.int .u64 0,.pointer (some ⟨b,0,none⟩)] 27)).alloc (.cells #[.bool false,.int .u64 0,.int .u64 0,.pointer none] 27)):=⟨_,rfl⟩
obtain⟨tA,tC,fz,hB⟩:=ol w W _ _ _ hW
have a0:=tA 0
have a3:=tA 3
have r0:=tC 0
have r1:=tC 1
have r2:=tC 2
have r3:=tC 3
simp only[List.getElem?_toArray,List.getElem?_cons_zero,List.getElem?_cons_succ] at a0 a3 r0 r1 r2 r3
have d0:=hB.ag hc0 (by simp)
have d1:=hB.ag hc1 (by simp)
clear tA tC hc0 hc1
have HW:=af hW
have HB:=af hB
clear hW hB
go_enter func151,ntmps151
go_wp2_with fail
rw[← ae HW]
obtain⟨ga,hga⟩:∃ ga,ga=w.heap.size:=⟨_,rfl⟩
obtain⟨gr,hgr⟩:∃ gr,gr=w.heap.size+1:=⟨_,rfl⟩
rw[← hga] at a0 a3
rw[← hgr] at r0 r1 r2 r3 fz
rw[← hgr,← hga]
have HGR:Hid (w.heap.size≤gr):=by show _≤_;omega
have nga:ga≠gr:=by omega
have nb:b≠gr:=by omega
clear hga hgr HW
have grl:gr<W.heap.size:=ai r0
go_wp2
have KK:=af (fun (W':World) (hb:But [gr] W W')=>And.intro (hb.ag a0 (by simpa using nga)) (And.intro (hb.ag a3 (by simpa using nga)) (And.intro (hb.ag d0 (by simpa using nb)) (hb.ag d1 (by simpa using nb)))))
go_region_held (fun w'=>w'.cell? ⟨ga,0,none⟩=some (.bool s)∧w'.cell? ⟨ga,3,none⟩=some (.pointer (some ⟨b,0,none⟩))∧w'.cell? ⟨b,0,none⟩=some (.slice a1 n1 e1)∧w'.cell? ⟨b,1,none⟩=some (.slice a2 n2 e2)) (first | (refine ae KK _ ?_;(repeat (first | exact But.refl _ _ | refine But.drew ?_ | refine But.alloc ?_ _ | refine But.setCell ?_ (.inl (by simp)) _));done) | go_keep) (fail)
all_goals go_wp2
all_goals(
have hBf:=((((((ae HB).setCell (p:=⟨gr,0,none⟩) (.inr (ae HGR)) (.bool s)).setCell (p:=⟨gr,1,none⟩) (.inr (ae HGR)) (.int .u64 0)).setCell (p:=⟨gr,2,none⟩) (.inr (ae HGR)) (.int .u64 0)).setCell (p:=⟨gr,3,none⟩) (.inr (ae HGR)) (.pointer (some ⟨W.heap.size,0,none⟩))).alloc (.cells #[.slice a2 n2 e2,.slice a1 n1 e1] 238)).drew
refine bodyPost_ret (v:=.agg #[.bool s,.int .u64 0,.int .u64 0,.pointer (some ⟨W.heap.size,0,none⟩)]) (by simp[results,results151,go_sem,r0,r1,r2,r3,grl]) rfl ⟨_,rfl,ae FIN _ W.heap.size (.slice a1 n1 e1) (.slice a2 n2 e2) ?_ ?_ ((ae HS1).ah hBf) ((ae HS2).ah hBf),hBf⟩
·have:=World.cell?_alloc_new ((((W.setCell ⟨gr,0,none⟩ (.bool s)).setCell ⟨gr,1,none⟩ (.int .u64 0)).setCell ⟨gr,2,none⟩ (.int .u64 0)).setCell ⟨gr,3,none⟩ (.pointer (some ⟨W.heap.size,0,none⟩))) #[.slice a2 n2 e2,.slice a1 n1 e1] 238 0
 simpa using this
·have:=World.cell?_alloc_new ((((W.setCell ⟨gr,0,none⟩ (.bool s)).setCell ⟨gr,1,none⟩ (.int .u64 0)).setCell ⟨gr,2,none⟩ (.int .u64 0)).setCell ⟨gr,3,none⟩ (.pointer (some ⟨W.heap.size,0,none⟩))) #[.slice a2 n2 e2,.slice a1 n1 e1] 238 1
 simpa using this)))
end Go.Proofs.YtpmjeclpkahkmaaGreatDoor
