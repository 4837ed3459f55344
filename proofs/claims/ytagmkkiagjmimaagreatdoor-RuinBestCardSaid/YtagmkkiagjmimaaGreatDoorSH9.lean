/- Ratios are made, and their parts told, a -/
import Derived.Deep.RegionWith
import Derived.Test.YtagmkkiagjmimaaGreatDoorSH8
namespace Go.Proofs.YtagmkkiagjmimaaGreatDoor
set_option linter.unusedVariables false
open Go.Proofs.Tryz
open Go.RowKit
set_option maxHeartbeats 4000000
set_option maxRecDepth 100000
theorem zvy {w w1:World} {t:TypeId} {z:Int} {v:Value} (hb:But [] (w.alloc (.cells #[.bool false,.slice none 0 0] t)) w1) (hv:Sl .u32 w1 v (wd 4294967296 z.natAbs)) :
   But [] w (oo w1 w.heap.size 0 v (decide (z<0)))∧za (oo w1 w.heap.size 0 v (decide (z<0))) w.heap.size 0 z∧Slot (oo w1 w.heap.size 0 v (decide (z<0))) w.heap.size 0∧w.heap.size<(oo w1 w.heap.size 0 v (decide (z<0))).heap.size:=by(
 have hs:=(jg w t).but hb (by simp)
 obtain⟨a,n,c,rfl⟩:=hv.slice
 exact⟨(((But.refl [] w).alloc _).trans' hb).trans (zbn ..) (by simp),zbm hs _ _ hv,zea hs _ _ _ _,by rw[zet];exact hs.lt⟩)
theorem qbf {w:World} {b:Nat} {p q:Int} (h0:Slot w b 0) (h2:Slot w b 2) (x1 y1:Option Addr) (x2 x3 y2 y3:Nat) (hp:Sl .u32 w (.slice x1 x2 x3) (wd 4294967296 p.natAbs)) (hq:Sl .u32 w (.slice y1 y2 y3) (wd 4294967296 q.natAbs)) :
   zx ((((w.setCell ⟨b,0,none⟩ (.bool (decide (p<0)))).setCell ⟨b,1,none⟩ (.slice x1 x2 x3)).setCell ⟨b,2,none⟩ (.bool (decide (q<0)))).setCell ⟨b,3,none⟩ (.slice y1 y2 y3)) b p q:=by(
 obtain⟨⟨s0,c0⟩,⟨a1,a2,a3,c1⟩,f0,f1⟩:=h0
 obtain⟨⟨s2,c2⟩,⟨b1,b2,b3,c3⟩,f2,f3⟩:=h2
 simp only[Nat.zero_add] at c1 f1
 simp only[Nat.reduceAdd] at c3 f3
 have k1:(w.setCell ⟨b,0,none⟩ (.bool (decide (p<0)))).cell? ⟨b,1,none⟩=some (.slice a1 a2 a3):=by rw[World.cell?_setCell_other _ _ _ _ (by simp)];exact c1
 have k2:((w.setCell ⟨b,0,none⟩ (.bool (decide (p<0)))).setCell ⟨b,1,none⟩ (.slice x1 x2 x3)).cell? ⟨b,2,none⟩=some (.bool s2):=by
  rw[World.cell?_setCell_other _ _ _ _ (by simp),World.cell?_setCell_other _ _ _ _ (by simp)];exact c2
 have k3:(((w.setCell ⟨b,0,none⟩ (.bool (decide (p<0)))).setCell ⟨b,1,none⟩ (.slice x1 x2 x3)).setCell ⟨b,2,none⟩ (.bool (decide (q<0)))).cell? ⟨b,3,none⟩=some (.slice b1 b2 b3):=by
  rw[World.cell?_setCell_other _ _ _ _ (by simp),World.cell?_setCell_other _ _ _ _ (by simp),World.cell?_setCell_other _ _ _ _ (by simp)];exact c3
 have tr:∀ {v xs},Sl .u32 w v xs→Sl .u32 ((((w.setCell ⟨b,0,none⟩ (.bool (decide (p<0)))).setCell ⟨b,1,none⟩ (.slice x1 x2 x3)).setCell ⟨b,2,none⟩ (.bool (decide (q<0)))).setCell ⟨b,3,none⟩ (.slice y1 y2 y3)) v xs:=fun h =>
  (((h.setCell _ rfl _ _ c0 (by simp)).setCell _ rfl _ _ k1 (by simp)).setCell _ rfl _ _ k2 (by simp)).setCell _ rfl _ _ k3 (by simp)
 have e0:((((w.setCell ⟨b,0,none⟩ (.bool (decide (p<0)))).setCell ⟨b,1,none⟩ (.slice x1 x2 x3)).setCell ⟨b,2,none⟩ (.bool (decide (q<0)))).setCell ⟨b,3,none⟩ (.slice y1 y2 y3)).cell? ⟨b,0,none⟩=some (.bool (decide (p<0))):=by
  rw[World.cell?_setCell_other _ _ _ _ (by simp),World.cell?_setCell_other _ _ _ _ (by simp),World.cell?_setCell_other _ _ _ _ (by simp)];exact World.cell?_setCell_same _ _ _ c0
 have e1:((((w.setCell ⟨b,0,none⟩ (.bool (decide (p<0)))).setCell ⟨b,1,none⟩ (.slice x1 x2 x3)).setCell ⟨b,2,none⟩ (.bool (decide (q<0)))).setCell ⟨b,3,none⟩ (.slice y1 y2 y3)).cell? ⟨b,1,none⟩=some (.slice x1 x2 x3):=by
  rw[World.cell?_setCell_other _ _ _ _ (by simp),World.cell?_setCell_other _ _ _ _ (by simp)];exact World.cell?_setCell_same _ _ _ k1
 have e2:((((w.setCell ⟨b,0,none⟩ (.bool (decide (p<0)))).setCell ⟨b,1,none⟩ (.slice x1 x2 x3)).setCell ⟨b,2,none⟩ (.bool (decide (q<0)))).setCell ⟨b,3,none⟩ (.slice y1 y2 y3)).cell? ⟨b,2,none⟩=some (.bool (decide (q<0))):=by
  rw[World.cell?_setCell_other _ _ _ _ (by simp)];exact World.cell?_setCell_same _ _ _ k2
 have e3:((((w.setCell ⟨b,0,none⟩ (.bool (decide (p<0)))).setCell ⟨b,1,none⟩ (.slice x1 x2 x3)).setCell ⟨b,2,none⟩ (.bool (decide (q<0)))).setCell ⟨b,3,none⟩ (.slice y1 y2 y3)).cell? ⟨b,3,none⟩=some (.slice y1 y2 y3) :=
  World.cell?_setCell_same _ _ _ k3
 exact⟨⟨e0,_,e1,tr hp⟩,⟨e2,_,e3,tr hq⟩,⟨⟨_,e0⟩,⟨_,_,_,e1⟩,by simp only[World.frozen?_setCell];exact f0,by simp only[World.frozen?_setCell];exact f1⟩,⟨⟨_,e2⟩,⟨_,_,_,e3⟩,by simp only[World.frozen?_setCell];exact f2,by simp only[World.frozen?_setCell];exact f3⟩⟩)
theorem vw (zb ab ao bb bo:Nat) (p q:Int) (w:World) (hz0:Slot w zb 0) (hz2:Slot w zb 2) (ha:za w ab ao p) (hb:za w bb bo q) (hp:(wd 4294967296 p.natAbs).length<8388608) (hq:(wd 4294967296 q.natAbs).length<8388608) (hq0:q≠0) (N D:Int) (eN0:Hid (N=zch (if q<0 then -p else p) q.natAbs)) (eD0:Hid (D=zci p q.natAbs)) :
   Calls prog 67 #[.pointer (some ⟨zb,0,none⟩),.pointer (some ⟨ab,ao,none⟩),.pointer (some ⟨bb,bo,none⟩)] w fun e w'=>e=.returned (.pointer (some ⟨zb,0,none⟩))∧But [zb] w w'∧zx w' zb N D:=by(
 have hb':=hb
 obtain⟨b0,vb,b1,hvb⟩:=hb'
 obtain⟨bx,ox,lb,cb,rfl,cb0,hlb⟩:=hvb.zqc (by omega) hq
 have n0:((lb:Int)==0)=false:=by simp;omega
 clear hlb cb0 hvb b0
 go_enter func67,ntmps67
 go_wp2_with fail
 refine (zvt w.heap.size 0 ab ao p _ (jg _ _) (ha.but ((But.refl _ _).alloc _)) (by omega)).mono ?_
 rintro e W1 ⟨rfl,H⟩
 obtain⟨B1,I1,S1,L1⟩:But [] w W1∧za W1 w.heap.size 0 p∧Slot W1 w.heap.size 0∧w.heap.size<W1.heap.size:=by
  obtain⟨w1,v,hbb,hv,rfl⟩:=H
  exact zvy hbb hv
 clear H
 go_wp2_with fail
 refine (zvt W1.heap.size 0 bb bo q _ (jg _ _) ((hb.but B1).but ((But.refl _ _).alloc _)) (by omega)).mono ?_
 rintro e W2 ⟨rfl,H⟩
 obtain⟨B2,I2,S2,L2⟩:But [] W1 W2∧za W2 W1.heap.size 0 q∧Slot W2 W1.heap.size 0∧W1.heap.size<W2.heap.size:=by
  obtain⟨w1,v,hbb,hv,rfl⟩:=H
  exact zvy hbb hv
 clear H
 have B12:=B1.trans' B2
 have I1':=I1.but B2
 have z0:=hz0.but B12 (by simp)
 have z2:=hz2.but B12 (by simp)
 obtain⟨i0,vi,i1,hvi⟩:=I1'
 obtain⟨j0,vj,j1,hvj⟩:=I2
 simp only[Nat.zero_add] at i1 j1
 obtain⟨x1,x2,x3,rfl⟩:=hvi.slice
 obtain⟨y1,y2,y3,rfl⟩:=hvj.slice
 have zlt:zb<w.heap.size:=hz0.lt
 obtain⟨s0,hc0⟩:=z0.c0
 obtain⟨m1,m2,m3,hc1⟩:=z0.c1
 obtain⟨s2,hc2⟩:=z2.c0
 obtain⟨k1,k2,k3,hc3⟩:=z2.c1
 have f0:=z0.f0
 have f1:=z0.f1
 have f2:=z2.f0
 have f3:=z2.f1
 simp only[Nat.zero_add] at hc1 f1
 simp only[Nat.reduceAdd] at hc3 f3
 have ne1:zb≠w.heap.size:=by omega
 have ne2:zb≠W1.heap.size:=by omega
 have hR:=qbf z0 z2 x1 y1 x2 x3 y2 y3 hvi hvj
 have hRR:=af hR
 clear hR
 go_wp2_with fail
 refine (zyq zb p q _ (ae hRR) hp hq hq0 N D eN0 eD0).mono ?_
 rintro e w' ⟨rfl,hbn,hr⟩
 go_wp2
 go_ret
 exact⟨rfl,(((((B12.of_nil (l:=[zb])).setCell (by simp) _).setCell (by simp) _).setCell (by simp) _).setCell (by simp) _).trans hbn (by simp),hr⟩)
theorem zaw (w:World) (t:TypeId):Slot (w.alloc (.cells #[.bool false,.slice none 0 0,.bool false,.slice none 0 0] t)) w.heap.size 0∧Slot (w.alloc (.cells #[.bool false,.slice none 0 0,.bool false,.slice none 0 0] t)) w.heap.size 2 :=
 ⟨⟨⟨false,by simp⟩,⟨none,0,0,by simp⟩,by simp,by simp⟩,⟨⟨false,by simp⟩,⟨none,0,0,by simp⟩,by simp,by simp⟩⟩
theorem ziz (zb:Nat) (x:Int) (w:World) (h1:-9223372036854775808≤x) (h2:x<9223372036854775808) (hz0:Slot w zb 0) (hz2:Slot w zb 2) :
   Calls prog 81 #[.pointer (some ⟨zb,0,none⟩),.int .i64 x] w fun e w'=>e=.returned (.pointer (some ⟨zb,0,none⟩))∧But [zb] w w'∧zx w' zb x 1:=by(
 go_enter func81,ntmps81
 go_wp2_with fail
 refine (si x _ h1 h2).mono ?_
 rintro e w1 ⟨rfl,B1,I1,S1⟩
 go_wp2_with fail
 refine (si 1 _ (by omega) (by omega)).mono ?_
 rintro e w2 ⟨rfl,B2,I2,S2⟩
 go_wp2_with fail
 have B12:=B1.trans' B2
 refine (vw zb w.heap.size 0 w1.heap.size 0 x 1 _ (hz0.but B12 (by simp)) (hz2.but B12 (by simp)) (I1.but B2) I2 (by have:=ji x.natAbs (by omega);omega) (by have:=ji 1 (by omega);simpa using Nat.lt_of_le_of_lt this (by omega)) (by omega) x 1 ?_ ?_).mono ?_
 ·show x=_
  rw[if_neg (by omega)]
  exact (zki x 1 (Nat.gcd_one_right _)).symm
 ·show (1:Int)=_
  exact (zkj x 1 (Nat.gcd_one_right _)).symm
 rintro e w3 ⟨rfl,B3,R3⟩
 go_wp2
 go_ret
 exact⟨rfl,(B12.of_nil (l:=[zb])).trans B3 (by simp),R3⟩)
theorem zkh (x:Int) (w:World) (h1:-9223372036854775808≤x) (h2:x<9223372036854775808) :
   Calls prog 19 #[.int .i64 x] w fun e w'=>∃ zb,e=.returned (.pointer (some ⟨zb,0,none⟩))∧But [] w w'∧zx w' zb x 1:=by(
 go_enter func19,ntmps19
 go_wp2_with fail
 have hs:=zaw w 113
 refine (ziz w.heap.size x _ h1 h2 hs.1 hs.2).mono ?_
 rintro e w3 ⟨rfl,B3,R3⟩
 go_wp2
 go_ret
 exact⟨w.heap.size,rfl,((But.refl _ _).alloc _).trans B3 (by simp),R3⟩)
theorem yc (b:Nat) (p:Int) (n:Nat) (w:World) (h:zx w b p n) (hn0:0<n) :
   Calls prog 83 #[.pointer (some ⟨b,0,none⟩)] w fun e w'=>e=.returned (.pointer (some ⟨b,2,none⟩))∧w'=w:=by(
 obtain⟨-,⟨-,vb,b1,hvb⟩,-,-⟩:=h
 simp only[Nat.reduceAdd] at b1
 have hl:(wd 4294967296 n).length≠0:=by rw[ne_eq,ze (by omega)];omega
 rw[Int.natAbs_natCast] at hvb
 obtain⟨a,cap,rfl,-,-⟩:=hvb
 have n0:(((wd 4294967296 n).length:Int)==0)=false:=by simp;intro h;simp[h] at hl
 generalize (wd 4294967296 n).length=l at *
 go_enter func83,ntmps83
 go_wp2
 go_ret
 exact⟨rfl,rfl⟩)
theorem zrt (b o:Nat) (z:Int) (w:World) (h:za w b o z) (s:Int) (hs:Hid (s=z.sign)) (hl:(wd 4294967296 z.natAbs).length<2147483648) :
   Calls prog 114 #[.pointer (some ⟨b,o,none⟩)] w fun e w'=>e=.returned (.int .i64 s)∧w'=w:=by(
 obtain⟨b0,vb,b1,hvb⟩:=h
 have hz:=ze (B:=4294967296) (by omega) z.natAbs
 obtain⟨a,cap,rfl,-,-⟩:=hvb
 generalize (wd 4294967296 z.natAbs).length=l at *
 by_cases h0:z=0
 ·(
 have hl0:l=0:=by omega
 subst hl0
 clear hz
 have es:Hid (s=0):=by show _=_;rw[ae hs,h0];rfl
 clear h0 hs
 go_enter func114,ntmps114
 go_wp2
 go_ret
 exact⟨by rw[ae es];rfl,rfl⟩)
 ·(
 have n0:((l:Int)==0)=false:=by simp;omega
 clear hz
 by_cases h1:z<0
 ·(
 have es:Hid (s=-1):=by show _=_;rw[ae hs,Int.sign_eq_neg_one_of_neg h1]
 rw[decide_eq_true h1] at b0
 clear h0 h1 hs
 go_enter func114,ntmps114
 go_wp2
 go_ret
 exact⟨by rw[ae es];rfl,rfl⟩)
 ·(
 have es:Hid (s=1):=by show _=_;rw[ae hs,Int.sign_eq_one_of_pos (by omega)]
 rw[decide_eq_false h1] at b0
 clear h0 h1 hs
 go_enter func114,ntmps114
 go_wp2
 go_ret
 exact⟨by rw[ae es];rfl,rfl⟩)))
theorem zdz (b:Nat) (p q:Int) (w:World) (h:zx w b p q) (s:Int) (hs:Hid (s=p.sign)) (hl:(wd 4294967296 p.natAbs).length<2147483648) :
   Calls prog 44 #[.pointer (some ⟨b,0,none⟩)] w fun e w'=>e=.returned (.int .i64 s)∧w'=w:=by(
 go_enter func44,ntmps44
 go_wp2_with fail
 refine (zrt b 0 p _ h.up s hs hl).mono ?_
 rintro e w' ⟨rfl,hw⟩
 obtain rfl:=hw.symm
 go_wp2
 go_ret
 exact⟨rfl,rfl⟩)
theorem zxm (w:World) (o:Obj) (t:TypeId):Slot ((w.alloc o).alloc (.cells #[.bool false,.slice none 0 0] t)) (w.heap.size+1) 0:=by
 have h:=jg (w.alloc o) t
 simpa using h
theorem zod (w:World) (t:TypeId):Slot (w.alloc (.cells #[.bool false,.slice none 0 0] t)).drew w.heap.size 0:=(jg w t).drew
theorem zcx (w:World) (o:Obj) (t:TypeId):Slot ((w.alloc (.cells #[.bool false,.slice none 0 0] t)).alloc o).drew w.heap.size 0:=Slot.drew ((jg w t).but ((But.refl [] _).alloc o) (by simp))
theorem zcw (w:World) (o:Obj) (t:TypeId):Slot ((w.alloc o).alloc (.cells #[.bool false,.slice none 0 0] t)).drew (w.heap.size+1) 0:=Slot.drew (zxm w o t)
theorem za.drew {w:World} {b o:Nat} {z:Int} (h:za w b o z):za w.drew b o z:=h
theorem jh (A b1 o1 b2 o2:Nat) (x y z:Int) (hz:x*y=z) (w P:World) (hs:Slot P A 0) (hw:But [] w P) (hA:w.heap.size≤A) (hx:za w b1 o1 x) (hy:za w b2 o2 y) (hlx:(wd 4294967296 x.natAbs).length<8388608) (hly:(wd 4294967296 y.natAbs).length<8388608) (hlz:(wd 4294967296 z.natAbs).length<8388608) :
   Calls prog 85 #[.pointer (some ⟨A,0,none⟩),.pointer (some ⟨b1,o1,none⟩),.pointer (some ⟨b2,o2,none⟩)] P fun e W1=>e=.returned (.pointer (some ⟨A,0,none⟩))∧But [] w W1∧za W1 A 0 z∧(∀ B,B≠A→Slot P B 0→Slot W1 B 0)∧(∀ b o z,b≠A→za P b o z→za W1 b o z)∧P.heap.size≤W1.heap.size:=by(
 have l1:=hx.lt
 have l2:=hy.lt
 refine (zkw A 0 b1 o1 b2 o2 x y P hs (by omega) (by omega) (hx.but hw) (hy.but hw) (by omega) (by omega) (by rw[← Int.natAbs_mul,hz];omega)).mono ?_
 rintro e W1 ⟨rfl,w1,v,hb,hv,rfl⟩
 rw[hz] at hv ⊢
 have hs1:=hs.but hb (by simp)
 exact⟨rfl,(hw.trans' hb).trans (zbn ..) (by simp;exact hA),zbm hs1 _ _ hv,fun B hB hS=>kv _ _ (hS.but hb (by simp)) (.inl hB),fun b o z' hB hI=>yu hs1 _ _ (hI.but hb) (.inl hB),by rw[zet];exact hb.size⟩)
end Go.Proofs.YtagmkkiagjmimaaGreatDoor
