/- One divided by a fraction, as the Go tex -/
import Derived.Test.YtcgecpoedojhjaaGreatDoorKPF7
import Derived.Test.YtcgecpoedojhjaaGreatDoorKPN26
namespace Go.Proofs.YtcgecpoedojhjaaGreatDoor
open Go.Proofs.Tryz
open Go.RowKit
set_option maxHeartbeats 8000000
set_option maxRecDepth 100000
theorem zhg (f:Rat) (h:f.num≠0):(f⁻¹).num.natAbs=f.den∧(f⁻¹).den=f.num.natAbs∧decide ((f⁻¹).num<0)=decide (f.num<0):=by
 have hd:=den_pos f
 show (Rat.inv f).num.natAbs=f.den∧(Rat.inv f).den=f.num.natAbs∧decide ((Rat.inv f).num<0)=decide (f.num<0)
 unfold Rat.inv
 split
 ·rename_i h1
  refine⟨by simp,rfl,?_⟩
  rw[decide_eq_true h1]
  exact decide_eq_true (by show -(f.den:Int)<0;omega)
 ·split
  ·rename_i h1 h2
   refine⟨by simp,rfl,?_⟩
   rw[decide_eq_false h1]
   exact decide_eq_false (by show ¬ ((f.den:Int)<0);omega)
  ·omega
theorem qai {W:World} {f:Rat} (h:f.num≠0) (hp:f.num.natAbs < 18446744073709551616) (hq:f.den < 18446744073709551616) (s:Bool) (hs:decide (f.num<0)=s):zi W (.agg #[.bool s,.int .u64 (f.den:Int),.int .u64 ((f.num.natAbs:Int)-1),.pointer none]) f⁻¹:=by
 obtain⟨h1,h2,h3⟩:=zhg f h
 unfold zi
 rw[h1,h2,h3,hs]
 exact .inl ⟨hq,hp,rfl⟩
theorem qaj {W:World} {f:Rat} (h:f.num≠0) (hb:18446744073709551616≤f.num.natAbs∨18446744073709551616≤f.den) (b:Nat) (v1 v2:Value) (s:Bool) (hs:decide (f.num<0)=s) (c0:W.cell? ⟨b,0,none⟩=some v2) (c1:W.cell? ⟨b,1,none⟩=some v1) (h1:Sl .u64 W v1 (wd 18446744073709551616 f.num.natAbs)) (h2:Sl .u64 W v2 (wd 18446744073709551616 f.den)):zi W (.agg #[.bool s,.int .u64 0,.int .u64 0,.pointer (some ⟨b,0,none⟩)]) f⁻¹:=by
 obtain⟨i1,i2,i3⟩:=zhg f h
 unfold zi
 rw[i1,i2,i3,hs]
 exact .inr ⟨hb.symm,b,v2,v1,rfl,c0,c1,h2,h1⟩
theorem gy (w W:World) (A B:Array Value) (t:TypeId) (hW:W=(w.alloc (.cells A t)).alloc (.cells B t)) :
  (∀ j,W.cell? ⟨w.heap.size,j,none⟩=A[j]?)∧(∀ j,W.cell? ⟨w.heap.size+1,j,none⟩=B[j]?)∧(∀ j,W.frozen? ⟨w.heap.size+1,j,none⟩=false)∧But [] w W:=by
 subst hW
 refine⟨fun j=>?_,fun j=>?_,fun j=>?_,((But.refl _ _).alloc _).alloc _⟩
 ·have h:=((But.refl [] (w.alloc (.cells A t))).alloc (.cells B t)).cell (p:=⟨w.heap.size,j,none⟩) (by simp) (by simp)
  rw[h,World.cell?_alloc_new]
 ·simp
 ·simp
theorem zml (v:Value) (f:Rat) (w:World) (hf:zi w v f) (h0:f.num≠0) :
  Calls prog 94 #[v] w fun e w'=>∃ v',e=.returned v'∧zi w' v' f⁻¹∧But [] w w':=by
 have hq0:=den_pos f
 rcases hf with ⟨hp,hq,rfl⟩|⟨hbig,b,v1,v2,rfl,hc0,hc1,hs1,hs2⟩
 ·have FIN:Hid (∀ W,zi W (.agg #[.bool (decide (f.num<0)),.int .u64 (f.den:Int),.int .u64 ((f.num.natAbs:Int)-1),.pointer none]) f⁻¹):=fun W=>qai h0 hp hq _ rfl
  have hp0:0<f.num.natAbs:=by omega
  generalize hss:decide (f.num<0)=s at *
  clear hss h0
  generalize f.num.natAbs=p at *
  generalize hqq:f.den=q at *
  clear hqq
  have UN:=hide (fun W=>gu s p q hq hq0 W)
  have OW:=hide (fun W=>uj s q p hq hp hp0 s (by show s=_;simp;omega) W)
  obtain⟨W,hW⟩:∃ W,W=((w.alloc (.cells #[.bool s,.int .u64 (p:Int),.int .u64 ((q:Int)-1),.pointer none] 35)).alloc (.cells #[.bool false,.int .u64 0,.int .u64 0,.pointer none] 35)):=⟨_,rfl⟩
  obtain⟨tA,tC,fz,hB⟩:=gy w W _ _ _ hW
  have a0:=tA 0
  have a1:=tA 1
  have a2:=tA 2
  have a3:=tA 3
  have r0:=tC 0
  have r1:=tC 1
  have r2:=tC 2
  have r3:=tC 3
  simp only[List.getElem?_toArray,List.getElem?_cons_zero,List.getElem?_cons_succ] at a0 a1 a2 a3 r0 r1 r2 r3
  clear tA tC
  have HW:=hide hW
  have HB:=hide hB
  clear hW hB
  go_enter func94,ntmps94
  go_wp2_with fail
  rw[← za HW]
  obtain⟨ga,hga⟩:∃ ga,ga=w.heap.size:=⟨_,rfl⟩
  obtain⟨gr,hgr⟩:∃ gr,gr=w.heap.size+1:=⟨_,rfl⟩
  rw[← hga] at a0 a1 a2 a3
  rw[← hgr] at r0 r1 r2 r3 fz
  rw[← hgr,← hga]
  have HGR:Hid (w.heap.size≤gr):=by show _≤_;omega
  have nga:ga≠gr:=by omega
  clear hga hgr HW
  have grl:gr<W.heap.size:=lt_of_cell r0
  go_wp2
  go_region_held (fun w'=>w'.cell? ⟨ga,0,none⟩=some (.bool s)∧w'.cell? ⟨ga,1,none⟩=some (.int .u64 (p:Int))∧w'.cell? ⟨ga,2,none⟩=some (.int .u64 ((q:Int)-1))∧w'.cell? ⟨ga,3,none⟩=some (.pointer none)) (first | go_keep | exact⟨z8 _ _ _ _ _ _ _ _ _ nga m0,z8 _ _ _ _ _ _ _ _ _ nga m1,z8 _ _ _ _ _ _ _ _ _ nga m2,z8 _ _ _ _ _ _ _ _ _ nga m3⟩) (first
   | (go_at_call 76;refine (za UN _).mono ?_;rintro e w1 ⟨rfl,hc1⟩;have B1:But [] W w1:=(by first | exact hc1 | exact (But.refl _ _).drew.trans' hc1);clear hc1;have k0:=B1.zb a0 (by simp);have k1:=B1.zb a1 (by simp);have k2:=B1.zb a2 (by simp);have k3:=B1.zb a3 (by simp))
   | (go_at_call 46;refine (za OW _).mono ?_;rintro e w2 ⟨rfl,hc2⟩;have B2:But [] W w2:=(by first | exact B1.trans' hc2 | exact B1.trans' ((But.refl _ _).drew.trans' hc2));clear hc2;have m0:=B2.zb a0 (by simp);have m1:=B2.zb a1 (by simp);have m2:=B2.zb a2 (by simp);have m3:=B2.zb a3 (by simp);have u0:=B2.zb r0 (by simp);have u1:=B2.zb r1 (by simp);have u2:=B2.zb r2 (by simp);have u3:=B2.zb r3 (by simp);have uf:∀ j,w2.frozen? ⟨gr,j,none⟩=false:=fun j=>(B2.frozen (p:=⟨gr,j,none⟩) grl (by simp)).trans (fz j)))
  all_goals go_wp2
  all_goals
   have hBf:=(((((za HB).trans' B2).setCell (p:=⟨gr,0,none⟩) (.inr (za HGR)) (.bool s)).setCell (p:=⟨gr,1,none⟩) (.inr (za HGR)) (.int .u64 (q:Int))).setCell (p:=⟨gr,2,none⟩) (.inr (za HGR)) (.int .u64 ((p:Int)-1))).setCell (p:=⟨gr,3,none⟩) (.inr (za HGR)) (.pointer none)
   exact bodyPost_ret (v:=.agg #[.bool s,.int .u64 (q:Int),.int .u64 ((p:Int)-1),.pointer none]) (by simp[results,results94,go_sem,u0,u1,u2,u3]) rfl ⟨_,rfl,za FIN _,hBf⟩
 ·have FIN:Hid (∀ W b v1 v2,W.cell? ⟨b,0,none⟩=some v2→W.cell? ⟨b,1,none⟩=some v1→Sl .u64 W v1 (wd 18446744073709551616 f.num.natAbs)→Sl .u64 W v2 (wd 18446744073709551616 f.den)→zi W (.agg #[.bool (decide (f.num<0)),.int .u64 0,.int .u64 0,.pointer (some ⟨b,0,none⟩)]) f⁻¹):=fun W b v1 v2 e1 e2 e3 e4=>qaj h0 hbig b v1 v2 _ rfl e1 e2 e3 e4
  have HS1:=hide hs1
  have HS2:=hide hs2
  obtain⟨a1,e1,rfl,-,-⟩:=hs1
  obtain⟨a2,e2,rfl,-,-⟩:=hs2
  generalize hss:decide (f.num<0)=s at *
  clear hss h0 hbig
  generalize (wd 18446744073709551616 f.num.natAbs).length=n1 at *
  generalize (wd 18446744073709551616 f.den).length=n2 at *
  have hbl:b<w.heap.size:=lt_of_cell hc0
  obtain⟨W,hW⟩:∃ W,W=((w.alloc (.cells #[.bool s,.int .u64 0,.int .u64 0,.pointer (some ⟨b,0,none⟩)] 35)).alloc (.cells #[.bool false,.int .u64 0,.int .u64 0,.pointer none] 35)):=⟨_,rfl⟩
  obtain⟨tA,tC,fz,hB⟩:=gy w W _ _ _ hW
  have a0:=tA 0
  have a3:=tA 3
  have r0:=tC 0
  have r1:=tC 1
  have r2:=tC 2
  have r3:=tC 3
  simp only[List.getElem?_toArray,List.getElem?_cons_zero,List.getElem?_cons_succ] at a0 a3 r0 r1 r2 r3
  have d0:=hB.zb hc0 (by simp)
  have d1:=hB.zb hc1 (by simp)
  clear tA tC hc0 hc1
  have HW:=hide hW
  have HB:=hide hB
  clear hW hB
  go_enter func94,ntmps94
  go_wp2_with fail
  rw[← za HW]
  obtain⟨ga,hga⟩:∃ ga,ga=w.heap.size:=⟨_,rfl⟩
  obtain⟨gr,hgr⟩:∃ gr,gr=w.heap.size+1:=⟨_,rfl⟩
  rw[← hga] at a0 a3
  rw[← hgr] at r0 r1 r2 r3 fz
  rw[← hgr,← hga]
  have HGR:Hid (w.heap.size≤gr):=by show _≤_;omega
  have nga:ga≠gr:=by omega
  have nb:b≠gr:=by omega
  clear hga hgr HW
  have grl:gr<W.heap.size:=lt_of_cell r0
  go_wp2
  have KK:=hide (fun (W':World) (hb:But [gr] W W')=>And.intro (hb.zb a0 (by simpa using nga)) (And.intro (hb.zb a3 (by simpa using nga)) (And.intro (hb.zb d0 (by simpa using nb)) (hb.zb d1 (by simpa using nb)))))
  go_region_held (fun w'=>w'.cell? ⟨ga,0,none⟩=some (.bool s)∧w'.cell? ⟨ga,3,none⟩=some (.pointer (some ⟨b,0,none⟩))∧w'.cell? ⟨b,0,none⟩=some (.slice a1 n1 e1)∧w'.cell? ⟨b,1,none⟩=some (.slice a2 n2 e2)) (first | (refine za KK _ ?_;(repeat (first | exact But.refl _ _ | refine But.drew ?_ | refine But.alloc ?_ _ | refine But.setCell ?_ (.inl (by simp)) _));done) | go_keep) (fail)
  all_goals go_wp2
  all_goals
   have hBf:=((((((za HB).setCell (p:=⟨gr,0,none⟩) (.inr (za HGR)) (.bool s)).setCell (p:=⟨gr,1,none⟩) (.inr (za HGR)) (.int .u64 0)).setCell (p:=⟨gr,2,none⟩) (.inr (za HGR)) (.int .u64 0)).setCell (p:=⟨gr,3,none⟩) (.inr (za HGR)) (.pointer (some ⟨W.heap.size,0,none⟩))).alloc (.cells #[.slice a2 n2 e2,.slice a1 n1 e1] 152)).drew
   refine bodyPost_ret (v:=.agg #[.bool s,.int .u64 0,.int .u64 0,.pointer (some ⟨W.heap.size,0,none⟩)]) (by simp[results,results94,go_sem,r0,r1,r2,r3,grl]) rfl ⟨_,rfl,za FIN _ W.heap.size (.slice a1 n1 e1) (.slice a2 n2 e2) ?_ ?_ ((za HS1).ze hBf) ((za HS2).ze hBf),hBf⟩
   ·have:=World.cell?_alloc_new ((((W.setCell ⟨gr,0,none⟩ (.bool s)).setCell ⟨gr,1,none⟩ (.int .u64 0)).setCell ⟨gr,2,none⟩ (.int .u64 0)).setCell ⟨gr,3,none⟩ (.pointer (some ⟨W.heap.size,0,none⟩))) #[.slice a2 n2 e2,.slice a1 n1 e1] 152 0
    simpa using this
   ·have:=World.cell?_alloc_new ((((W.setCell ⟨gr,0,none⟩ (.bool s)).setCell ⟨gr,1,none⟩ (.int .u64 0)).setCell ⟨gr,2,none⟩ (.int .u64 0)).setCell ⟨gr,3,none⟩ (.pointer (some ⟨W.heap.size,0,none⟩))) #[.slice a2 n2 e2,.slice a1 n1 e1] 152 1
    simpa using this
theorem qaz (b:Nat) (x y:Int) (w:World) (hx:w.cell? ⟨b,0,none⟩=some (.int .i64 x)) (hy:w.cell? ⟨b,1,none⟩=some (.int .i64 y)) (r:Int) (hr:Hid (r=if x≠0 then x else y)) :
  Calls prog 77 #[.slice (some ⟨b,0,none⟩) 2 2] w fun e w'=>e=.returned (.int .i64 r)∧But [] w w':=by
 by_cases h0:x=0
 ·subst h0
  by_cases h1:y=0
  ·subst h1
   have er:Hid (r=0):=by show _=_;rw[za hr];simp
   clear hr
   go_enter func77,ntmps77
   go_wp2
   refine wp_loop_rounds 3 ?_
   rw[rounds_succ]
   go_wp2
   rw[rounds_succ]
   go_wp2
   rw[rounds_succ]
   go_wp2
   go_ret
   exact⟨by rw[za er];rfl,But.refl _ _⟩
  ·have er:Hid (r=y):=by show _=_;rw[za hr];simp
   have n1:(y != 0)=true:=by simp[h1]
   clear hr
   go_enter func77,ntmps77
   go_wp2
   refine wp_loop_rounds 2 ?_
   rw[rounds_succ]
   go_wp2
   rw[rounds_succ]
   go_wp2
   go_ret
   exact⟨by rw[za er];rfl,But.refl _ _⟩
 ·have er:Hid (r=x):=by show _=_;rw[za hr];simp[h0]
  have n1:(x != 0)=true:=by simp[h0]
  clear hr
  go_enter func77,ntmps77
  go_wp2
  refine wp_loop_rounds 1 ?_
  rw[rounds_succ]
  go_wp2
  go_ret
  exact⟨by rw[za er];rfl,But.refl _ _⟩
end Go.Proofs.YtcgecpoedojhjaaGreatDoor
