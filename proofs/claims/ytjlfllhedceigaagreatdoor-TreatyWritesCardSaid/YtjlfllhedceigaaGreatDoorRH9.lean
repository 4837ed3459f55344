/- Ratios are made, and their parts told, a -/
import Derived.Deep.RegionWith
import Derived.Deep.RegionHeld
import Derived.Test.YtjlfllhedceigaaGreatDoorRH8
namespace Go.Proofs.YtjlfllhedceigaaGreatDoor
set_option linter.unusedVariables false
open Go.Proofs.Tryz
open Go.RowKit
set_option maxHeartbeats 4000000
set_option maxRecDepth 100000
theorem zuh {w w1:World} {t:TypeId} {z:Int} {v:Value} (hb:But [] (w.alloc (.cells #[.bool false,.slice none 0 0] t)) w1) (hv:Sl .u32 w1 v (wd 4294967296 z.natAbs)) :
   But [] w (zaf w1 w.heap.size 0 v (decide (z<0)))∧qo (zaf w1 w.heap.size 0 v (decide (z<0))) w.heap.size 0 z∧Slot (zaf w1 w.heap.size 0 v (decide (z<0))) w.heap.size 0∧w.heap.size<(zaf w1 w.heap.size 0 v (decide (z<0))).heap.size:=by(
 have hs:=(om w t).but hb (by simp)
 obtain⟨a,n,c,rfl⟩:=hv.slice
 exact⟨(((But.refl [] w).alloc _).trans' hb).trans (zdj ..) (by simp),zdi hs _ _ hv,zcn hs _ _ _ _,by rw[zms];exact hs.lt⟩)
theorem zzf {w:World} {b:Nat} {p q:Int} (h0:Slot w b 0) (h2:Slot w b 2) (x1 y1:Option Addr) (x2 x3 y2 y3:Nat) (hp:Sl .u32 w (.slice x1 x2 x3) (wd 4294967296 p.natAbs)) (hq:Sl .u32 w (.slice y1 y2 y3) (wd 4294967296 q.natAbs)) :
   q9 ((((w.setCell ⟨b,0,none⟩ (.bool (decide (p<0)))).setCell ⟨b,1,none⟩ (.slice x1 x2 x3)).setCell ⟨b,2,none⟩ (.bool (decide (q<0)))).setCell ⟨b,3,none⟩ (.slice y1 y2 y3)) b p q:=by(
 obtain⟨⟨s0,c0⟩,⟨a1,a2,a3,c1⟩,f0,f1⟩:=h0
 obtain⟨⟨s2,c2⟩,⟨b1,b2,b3,c3⟩,f2,f3⟩:=h2
 simp only[Nat.zero_add] at c1 f1
 simp only[Nat.reduceAdd] at c3 f3
 have k1:(w.setCell ⟨b,0,none⟩ (.bool (decide (p<0)))).cell? ⟨b,1,none⟩=some (.slice a1 a2 a3):=by rw[World.cell?_setCell_other _ _ _ _ (by simp)];exact c1
 have k2:((w.setCell ⟨b,0,none⟩ (.bool (decide (p<0)))).setCell ⟨b,1,none⟩ (.slice x1 x2 x3)).cell? ⟨b,2,none⟩=some (.bool s2):=by
  rw[World.cell?_setCell_other _ _ _ _ (by simp),World.cell?_setCell_other _ _ _ _ (by simp)];exact c2
 have k3:(((w.setCell ⟨b,0,none⟩ (.bool (decide (p<0)))).setCell ⟨b,1,none⟩ (.slice x1 x2 x3)).setCell ⟨b,2,none⟩ (.bool (decide (q<0)))).cell? ⟨b,3,none⟩=some (.slice b1 b2 b3):=by
  rw[World.cell?_setCell_other _ _ _ _ (by simp),World.cell?_setCell_other _ _ _ _ (by simp),World.cell?_setCell_other _ _ _ _ (by simp)];exact c3
 have tr:∀ {v xs},Sl .u32 w v xs→Sl .u32 ((((w.setCell ⟨b,0,none⟩ (.bool (decide (p<0)))).setCell ⟨b,1,none⟩ (.slice x1 x2 x3)).setCell ⟨b,2,none⟩ (.bool (decide (q<0)))).setCell ⟨b,3,none⟩ (.slice y1 y2 y3)) v xs:=fun h =>
  (((h.setCell _ rfl _ _ c0 (by simp)).setCell _ rfl _ _ k1 (by simp)).setCell _ rfl _ _ k2 (by simp)).setCell _ rfl _ _ k3 (by simp)
 have e0:((((w.setCell ⟨b,0,none⟩ (.bool (decide (p<0)))).setCell ⟨b,1,none⟩ (.slice x1 x2 x3)).setCell ⟨b,2,none⟩ (.bool (decide (q<0)))).setCell ⟨b,3,none⟩ (.slice y1 y2 y3)).cell? ⟨b,0,none⟩=some (.bool (decide (p<0))):=by
  rw[World.cell?_setCell_other _ _ _ _ (by simp),World.cell?_setCell_other _ _ _ _ (by simp),World.cell?_setCell_other _ _ _ _ (by simp)];exact World.cell?_setCell_same _ _ _ c0
 have e1:((((w.setCell ⟨b,0,none⟩ (.bool (decide (p<0)))).setCell ⟨b,1,none⟩ (.slice x1 x2 x3)).setCell ⟨b,2,none⟩ (.bool (decide (q<0)))).setCell ⟨b,3,none⟩ (.slice y1 y2 y3)).cell? ⟨b,1,none⟩=some (.slice x1 x2 x3):=by
  rw[World.cell?_setCell_other _ _ _ _ (by simp),World.cell?_setCell_other _ _ _ _ (by simp)];exact World.cell?_setCell_same _ _ _ k1
 have e2:((((w.setCell ⟨b,0,none⟩ (.bool (decide (p<0)))).setCell ⟨b,1,none⟩ (.slice x1 x2 x3)).setCell ⟨b,2,none⟩ (.bool (decide (q<0)))).setCell ⟨b,3,none⟩ (.slice y1 y2 y3)).cell? ⟨b,2,none⟩=some (.bool (decide (q<0))):=by
  rw[World.cell?_setCell_other _ _ _ _ (by simp)];exact World.cell?_setCell_same _ _ _ k2
 have e3:((((w.setCell ⟨b,0,none⟩ (.bool (decide (p<0)))).setCell ⟨b,1,none⟩ (.slice x1 x2 x3)).setCell ⟨b,2,none⟩ (.bool (decide (q<0)))).setCell ⟨b,3,none⟩ (.slice y1 y2 y3)).cell? ⟨b,3,none⟩=some (.slice y1 y2 y3) :=
  World.cell?_setCell_same _ _ _ k3
 exact⟨⟨e0,_,e1,tr hp⟩,⟨e2,_,e3,tr hq⟩,⟨⟨_,e0⟩,⟨_,_,_,e1⟩,by simp only[World.frozen?_setCell];exact f0,by simp only[World.frozen?_setCell];exact f1⟩,⟨⟨_,e2⟩,⟨_,_,_,e3⟩,by simp only[World.frozen?_setCell];exact f2,by simp only[World.frozen?_setCell];exact f3⟩⟩)
theorem zet (zb ab ao bb bo:Nat) (p q:Int) (w:World) (hz0:Slot w zb 0) (hz2:Slot w zb 2) (ha:qo w ab ao p) (hb:qo w bb bo q) (hp:(wd 4294967296 p.natAbs).length<8388608) (hq:(wd 4294967296 q.natAbs).length<8388608) (hq0:q≠0) (N D:Int) (eN0:Hid (N=zec (if q<0 then -p else p) q.natAbs)) (eD0:Hid (D=zfa p q.natAbs)) :
   Calls prog 57 #[.pointer (some ⟨zb,0,none⟩),.pointer (some ⟨ab,ao,none⟩),.pointer (some ⟨bb,bo,none⟩)] w fun e w'=>e=.returned (.pointer (some ⟨zb,0,none⟩))∧But [zb] w w'∧q9 w' zb N D:=by(
 have hb':=hb
 obtain⟨b0,vb,b1,hvb⟩:=hb'
 obtain⟨bx,ox,lb,cb,rfl,cb0,hlb⟩:=hvb.zpq (by omega) hq
 have n0:((lb:Int)==0)=false:=by simp;omega
 clear hlb cb0 hvb b0
 go_enter func57,ntmps57
 go_wp2_with fail
 refine (ztz w.heap.size 0 ab ao p _ (om _ _) (ha.but ((But.refl _ _).alloc _)) (by omega)).mono ?_
 rintro e W1 ⟨rfl,H⟩
 obtain⟨B1,I1,S1,L1⟩:But [] w W1∧qo W1 w.heap.size 0 p∧Slot W1 w.heap.size 0∧w.heap.size<W1.heap.size:=by
  obtain⟨w1,v,hbb,hv,rfl⟩:=H
  exact zuh hbb hv
 clear H
 go_wp2_with fail
 refine (ztz W1.heap.size 0 bb bo q _ (om _ _) ((hb.but B1).but ((But.refl _ _).alloc _)) (by omega)).mono ?_
 rintro e W2 ⟨rfl,H⟩
 obtain⟨B2,I2,S2,L2⟩:But [] W1 W2∧qo W2 W1.heap.size 0 q∧Slot W2 W1.heap.size 0∧W1.heap.size<W2.heap.size:=by
  obtain⟨w1,v,hbb,hv,rfl⟩:=H
  exact zuh hbb hv
 clear H
 have B12:=B1.trans' B2
 have I1':=I1.but B2
 have z0:=hz0.but B12 (by simp)
 have z2:=hz2.but B12 (by simp)
 obtain⟨i0,vi,i1,hvi⟩:=I1'
 obtain⟨j0,vj,j1,hvj⟩:=I2
 simp only[Nat.zero_add] at i1 j1
 obtain⟨x1,x2,x3,rfl⟩:=hvi.slice
 obtain⟨y1,y2,y3,rfl⟩:=hvj.slice
 have zlt:zb<w.heap.size:=hz0.lt
 obtain⟨s0,hc0⟩:=z0.c0
 obtain⟨m1,m2,m3,hc1⟩:=z0.c1
 obtain⟨s2,hc2⟩:=z2.c0
 obtain⟨k1,k2,k3,hc3⟩:=z2.c1
 have f0:=z0.f0
 have f1:=z0.f1
 have f2:=z2.f0
 have f3:=z2.f1
 simp only[Nat.zero_add] at hc1 f1
 simp only[Nat.reduceAdd] at hc3 f3
 have ne1:zb≠w.heap.size:=by omega
 have ne2:zb≠W1.heap.size:=by omega
 have hR:=zzf z0 z2 x1 y1 x2 x3 y2 y3 hvi hvj
 have hRR:=af hR
 clear hR
 go_wp2_with fail
 refine (zxa zb p q _ (ae hRR) hp hq hq0 N D eN0 eD0).mono ?_
 rintro e w' ⟨rfl,hbn,hr⟩
 go_wp2
 go_ret
 exact⟨rfl,(((((B12.of_nil (l:=[zb])).setCell (by simp) _).setCell (by simp) _).setCell (by simp) _).setCell (by simp) _).trans hbn (by simp),hr⟩)
theorem zqc (w:World) (t:TypeId):Slot (w.alloc (.cells #[.bool false,.slice none 0 0,.bool false,.slice none 0 0] t)) w.heap.size 0∧Slot (w.alloc (.cells #[.bool false,.slice none 0 0,.bool false,.slice none 0 0] t)) w.heap.size 2 :=
 ⟨⟨⟨false,by simp⟩,⟨none,0,0,by simp⟩,by simp,by simp⟩,⟨⟨false,by simp⟩,⟨none,0,0,by simp⟩,by simp,by simp⟩⟩
theorem zih (zb:Nat) (x:Int) (w:World) (h1:-9223372036854775808≤x) (h2:x<9223372036854775808) (hz0:Slot w zb 0) (hz2:Slot w zb 2) :
   Calls prog 130 #[.pointer (some ⟨zb,0,none⟩),.int .i64 x] w fun e w'=>e=.returned (.pointer (some ⟨zb,0,none⟩))∧But [zb] w w'∧q9 w' zb x 1:=by(
 go_enter func130,ntmps130
 go_wp2_with fail
 refine (zah x _ h1 h2).mono ?_
 rintro e w1 ⟨rfl,B1,I1,S1⟩
 go_wp2_with fail
 refine (zah 1 _ (by omega) (by omega)).mono ?_
 rintro e w2 ⟨rfl,B2,I2,S2⟩
 go_wp2_with fail
 have B12:=B1.trans' B2
 refine (zet zb w.heap.size 0 w1.heap.size 0 x 1 _ (hz0.but B12 (by simp)) (hz2.but B12 (by simp)) (I1.but B2) I2 (by have:=xh x.natAbs (by omega);omega) (by have:=xh 1 (by omega);simpa using Nat.lt_of_le_of_lt this (by omega)) (by omega) x 1 ?_ ?_).mono ?_
 ·show x=_
  rw[if_neg (by omega)]
  exact (zkb x 1 (Nat.gcd_one_right _)).symm
 ·show (1:Int)=_
  exact (zkc x 1 (Nat.gcd_one_right _)).symm
 rintro e w3 ⟨rfl,B3,R3⟩
 go_wp2
 go_ret
 exact⟨rfl,(B12.of_nil (l:=[zb])).trans B3 (by simp),R3⟩)
theorem zsc (x:Int) (w:World) (h1:-9223372036854775808≤x) (h2:x<9223372036854775808) :
   Calls prog 56 #[.int .i64 x] w fun e w'=>∃ zb,e=.returned (.pointer (some ⟨zb,0,none⟩))∧But [] w w'∧q9 w' zb x 1:=by(
 go_enter func56,ntmps56
 go_wp2_with fail
 have hs:=zqc w 122
 refine (zih w.heap.size x _ h1 h2 hs.1 hs.2).mono ?_
 rintro e w3 ⟨rfl,B3,R3⟩
 go_wp2
 go_ret
 exact⟨w.heap.size,rfl,((But.refl _ _).alloc _).trans B3 (by simp),R3⟩)
theorem zjb (b:Nat) (p:Int) (n:Nat) (w:World) (h:q9 w b p n) (hn0:0<n) :
   Calls prog 139 #[.pointer (some ⟨b,0,none⟩)] w fun e w'=>e=.returned (.pointer (some ⟨b,2,none⟩))∧w'=w:=by(
 obtain⟨-,⟨-,vb,b1,hvb⟩,-,-⟩:=h
 simp only[Nat.reduceAdd] at b1
 have hl:(wd 4294967296 n).length≠0:=by rw[ne_eq,zi (by omega)];omega
 rw[Int.natAbs_natCast] at hvb
 obtain⟨a,cap,rfl,-,-⟩:=hvb
 have n0:(((wd 4294967296 n).length:Int)==0)=false:=by simp;intro h;simp[h] at hl
 generalize (wd 4294967296 n).length=l at *
 go_enter func139,ntmps139
 go_wp2
 go_ret
 exact⟨rfl,rfl⟩)
theorem zqs (b o:Nat) (z:Int) (w:World) (h:qo w b o z) (s:Int) (hs:Hid (s=z.sign)) (hl:(wd 4294967296 z.natAbs).length<2147483648) :
   Calls prog 179 #[.pointer (some ⟨b,o,none⟩)] w fun e w'=>e=.returned (.int .i64 s)∧w'=w:=by(
 obtain⟨b0,vb,b1,hvb⟩:=h
 have hz:=zi (B:=4294967296) (by omega) z.natAbs
 obtain⟨a,cap,rfl,-,-⟩:=hvb
 generalize (wd 4294967296 z.natAbs).length=l at *
 by_cases h0:z=0
 ·(
 have hl0:l=0:=by omega
 subst hl0
 clear hz
 have es:Hid (s=0):=by show _=_;rw[ae hs,h0];rfl
 clear h0 hs
 go_enter func179,ntmps179
 go_wp2
 go_ret
 exact⟨by rw[ae es];rfl,rfl⟩)
 ·(
 have n0:((l:Int)==0)=false:=by simp;omega
 clear hz
 by_cases h1:z<0
 ·(
 have es:Hid (s=-1):=by show _=_;rw[ae hs,Int.sign_eq_neg_one_of_neg h1]
 rw[decide_eq_true h1] at b0
 clear h0 h1 hs
 go_enter func179,ntmps179
 go_wp2
 go_ret
 exact⟨by rw[ae es];rfl,rfl⟩)
 ·(
 have es:Hid (s=1):=by show _=_;rw[ae hs,Int.sign_eq_one_of_pos (by omega)]
 rw[decide_eq_false h1] at b0
 clear h0 h1 hs
 go_enter func179,ntmps179
 go_wp2
 go_ret
 exact⟨by rw[ae es];rfl,rfl⟩)))
theorem zqd (b:Nat) (p q:Int) (w:World) (h:q9 w b p q) (s:Int) (hs:Hid (s=p.sign)) (hl:(wd 4294967296 p.natAbs).length<2147483648) :
   Calls prog 95 #[.pointer (some ⟨b,0,none⟩)] w fun e w'=>e=.returned (.int .i64 s)∧w'=w:=by(
 go_enter func95,ntmps95
 go_wp2_with fail
 refine (zqs b 0 p _ h.up s hs hl).mono ?_
 rintro e w' ⟨rfl,hw⟩
 obtain rfl:=hw.symm
 go_wp2
 go_ret
 exact⟨rfl,rfl⟩)
theorem zvt (w:World) (o:Obj) (t:TypeId):Slot ((w.alloc o).alloc (.cells #[.bool false,.slice none 0 0] t)) (w.heap.size+1) 0:=by
 have h:=om (w.alloc o) t
 simpa using h
theorem qig (w:World) (t:TypeId):Slot (w.alloc (.cells #[.bool false,.slice none 0 0] t)).drew w.heap.size 0:=(om w t).drew
theorem zyr (w:World) (o:Obj) (t:TypeId):Slot ((w.alloc (.cells #[.bool false,.slice none 0 0] t)).alloc o).drew w.heap.size 0:=Slot.drew ((om w t).but ((But.refl [] _).alloc o) (by simp))
theorem zyq (w:World) (o:Obj) (t:TypeId):Slot ((w.alloc o).alloc (.cells #[.bool false,.slice none 0 0] t)).drew (w.heap.size+1) 0:=Slot.drew (zvt w o t)
theorem zhy (A b1 o1 b2 o2:Nat) (x y z:Int) (hz:x*y=z) (w P:World) (hs:Slot P A 0) (hw:But [] w P) (hA:w.heap.size≤A) (hx:qo w b1 o1 x) (hy:qo w b2 o2 y) (hlx:(wd 4294967296 x.natAbs).length<8388608) (hly:(wd 4294967296 y.natAbs).length<8388608) (hlz:(wd 4294967296 z.natAbs).length<8388608) :
   Calls prog 141 #[.pointer (some ⟨A,0,none⟩),.pointer (some ⟨b1,o1,none⟩),.pointer (some ⟨b2,o2,none⟩)] P fun e W1=>e=.returned (.pointer (some ⟨A,0,none⟩))∧But [] w W1∧qo W1 A 0 z∧(∀ B,B≠A→Slot P B 0→Slot W1 B 0)∧(∀ b o z,b≠A→qo P b o z→qo W1 b o z)∧P.heap.size≤W1.heap.size:=by(
 have l1:=hx.lt
 have l2:=hy.lt
 refine (ztg A 0 b1 o1 b2 o2 x y P hs (by omega) (by omega) (hx.but hw) (hy.but hw) (by omega) (by omega) (by rw[← Int.natAbs_mul,hz];omega)).mono ?_
 rintro e W1 ⟨rfl,w1,v,hb,hv,rfl⟩
 rw[hz] at hv ⊢
 have hs1:=hs.but hb (by simp)
 exact⟨rfl,(hw.trans' hb).trans (zdj ..) (by simp;exact hA),zdi hs1 _ _ hv,fun B hB hS=>l5 _ _ (hS.but hb (by simp)) (.inl hB),fun b o z' hB hI=>ni hs1 _ _ (hI.but hb) (.inl hB),by rw[zms];exact hb.size⟩)
def zx (w:World) (b:Nat) (f:Rat):Prop:=q9 w b f.num (f.den:Int)
theorem zx.but {w w':World} {b:Nat} {f:Rat} (h:zx w b f) (hb:But [] w w'):zx w' b f:=q9.but h hb
def zbn (f:Rat) (n:Nat):Prop:=(wd 4294967296 f.num.natAbs).length≤n∧(wd 4294967296 f.den).length≤n
theorem qcy (X Y:Nat):(wd 4294967296 (X*Y)).length≤(wd 4294967296 X).length+(wd 4294967296 Y).length:=by(
 refine aj (by omega) _ _ ?_
 rw[Nat.pow_add]
 have h1:=ak (B:=4294967296) (by omega) X _ (Nat.le_refl _)
 have h2:=ak (B:=4294967296) (by omega) Y _ (Nat.le_refl _)
 rcases Nat.eq_zero_or_pos Y with h | h
 ·subst h;rw[Nat.mul_zero];exact Nat.mul_pos (Nat.pow_pos (by omega)) (Nat.pow_pos (by omega))
 ·exact Nat.lt_of_lt_of_le (Nat.mul_lt_mul_of_pos_right h1 h) (Nat.mul_le_mul_left _ (Nat.le_of_lt h2)))
theorem qfl (p q:Int) (hq:q≠0) (f:Rat) (hf:f.num*q=p*(f.den:Int)):f.num=zec (if q<0 then -p else p) q.natAbs∧(f.den:Int)=zfa p q.natAbs:=by(
 have hd0:0<f.den:=Nat.pos_of_ne_zero f.den_nz
 have hn0:0<q.natAbs:=by omega
 have hab:f.num.natAbs*q.natAbs=p.natAbs*f.den:=by
  have:=congrArg Int.natAbs hf
  rw[Int.natAbs_mul,Int.natAbs_mul,Int.natAbs_natCast] at this
  exact this
 have hco:Nat.Coprime f.num.natAbs f.den:=f.reduced
 have hd:f.den ∣ q.natAbs:=hco.symm.dvd_of_dvd_mul_left ⟨p.natAbs,by rw[hab,Nat.mul_comm]⟩
 obtain⟨k,hk⟩:=hd
 have hk0:0<k:=by
  rcases Nat.eq_zero_or_pos k with h | h
  ·rw[h,Nat.mul_zero] at hk;omega
  ·exact h
 have hX:p.natAbs=f.num.natAbs*k:=by
  rw[hk,← Nat.mul_assoc,Nat.mul_right_comm] at hab
  exact (Nat.eq_of_mul_eq_mul_right hd0 hab).symm
 have hg:Nat.gcd p.natAbs q.natAbs=k:=by rw[hX,hk,Nat.gcd_mul_right,hco,Nat.one_mul]
 have e1:p.natAbs/k=f.num.natAbs:=by rw[hX,Nat.mul_div_cancel _ hk0]
 have e2:q.natAbs/k=f.den:=by rw[hk,Nat.mul_div_cancel _ hk0]
 refine⟨?_,by rw[zfa,hg,e2]⟩
 have hab2:(if q<0 then -p else p).natAbs=p.natAbs:=by split <;> simp
 rw[zec,hab2,hg,e1]
 by_cases hqn:q<0
 ·(
 rw[if_pos hqn]
 by_cases hpn:-p<0
 ·(
 rw[if_pos hpn]
 have:f.num<0:=by
  rcases Int.lt_or_le f.num 0 with h | h
  ·exact h
  ·exfalso
   have h1:f.num*q≤0:=Int.mul_nonpos_of_nonneg_of_nonpos h (by omega)
   have h2:0<p*(f.den:Int):=Int.mul_pos (by omega) (by omega)
   omega
 omega)
 ·(
 rw[if_neg hpn]
 have:0≤f.num:=by
  rcases Int.lt_or_le f.num 0 with h | h
  ·exfalso
   have h1:0<f.num*q:=Int.mul_pos_of_neg_of_neg h hqn
   have h2:p*(f.den:Int)≤0:=Int.mul_nonpos_of_nonpos_of_nonneg (by omega) (by omega)
   omega
  ·exact h
 omega))
 ·(
 rw[if_neg hqn]
 by_cases hpn:p<0
 ·(
 rw[if_pos hpn]
 have:f.num<0:=by
  rcases Int.lt_or_le f.num 0 with h | h
  ·exact h
  ·exfalso
   have h1:0≤f.num*q:=Int.mul_nonneg h (by omega)
   have h2:p*(f.den:Int)<0:=Int.mul_neg_of_neg_of_pos hpn (by omega)
   omega
 omega)
 ·(
 rw[if_neg hpn]
 have:0≤f.num:=by
  rcases Int.lt_or_le f.num 0 with h | h
  ·exfalso
   have h1:f.num*q<0:=Int.mul_neg_of_neg_of_pos h (by omega)
   have h2:0≤p*(f.den:Int):=Int.mul_nonneg (by omega) (by omega)
   omega
  ·exact h
 omega)))
theorem zko (a b:Int) (f:Rat) (w:World) (ha1:-9223372036854775808≤a) (ha2:a<9223372036854775808) (hb1:-9223372036854775808≤b) (hb2:b<9223372036854775808) (hb0:b≠0) (hf:Hid (f.num*b=a*(f.den:Int))) :
   Calls prog 63 #[.int .i64 a,.int .i64 b] w fun e w'=>∃ zb,e=.returned (.pointer (some ⟨zb,0,none⟩))∧But [] w w'∧zx w' zb f∧w.heap.size≤zb:=by(
 have hbz:(b==0)=false:=beq_eq_false_iff_ne.2 hb0
 have hs:=zqc w 122
 have hbw:But [] w (w.alloc (.cells #[.bool false,.slice none 0 0,.bool false,.slice none 0 0] 122)):=(But.refl _ _).alloc _
 obtain⟨e1,e2⟩:=qfl a b hb0 f (ae hf)
 have HE:=af (And.intro e1 e2)
 obtain⟨W0,hW0⟩:∃ W0,W0=w.alloc (.cells #[.bool false,.slice none 0 0,.bool false,.slice none 0 0] 122):=⟨_,rfl⟩
 rw[← hW0] at hs hbw
 have HW0:=af hW0
 have HS:=af hs
 have HBW:=af hbw
 clear e1 e2 hf hW0 hs hbw
 go_enter func63,ntmps63
 go_wp2_with fail
 rw[← ae HW0]
 refine (zah a _ ha1 ha2).mono ?_
 rintro e w1 ⟨rfl,B1,I1,S1⟩
 have K1:=af (And.intro B1 I1)
 clear B1 I1 S1
 go_wp2_with fail
 refine (zah b _ hb1 hb2).mono ?_
 rintro e w2 ⟨rfl,B2,I2,S2⟩
 have K2:=af (And.intro ((ae K1).1.trans' B2) (And.intro ((ae K1).2.but B2) I2))
 clear B2 I2 S2 K1
 go_wp2_with fail
 refine (zet w.heap.size W0.heap.size 0 w1.heap.size 0 a b w2 ((ae HS).1.but (ae K2).1 (by simp)) ((ae HS).2.but (ae K2).1 (by simp)) (ae K2).2.1 (ae K2).2.2 (by have:=xh a.natAbs (by omega);omega) (by have:=xh b.natAbs (by omega);omega) hb0 f.num (f.den:Int) (ae HE).1 (ae HE).2).mono ?_
 rintro e w3 ⟨rfl,B3,R3⟩
 have FIN:=af (And.intro (((ae HBW).trans' (ae K2).1).trans B3 (by simp)) R3)
 clear B3 R3
 go_wp2
 go_ret
 exact⟨w.heap.size,rfl,(ae FIN).1,(ae FIN).2,Nat.le_refl _⟩)
theorem zvy (o u:Int) (f:Rat) (w:World) (ho1:-9223372036854775808≤o) (ho2:o<9223372036854775808) (hu1:-9223372036854775808≤u) (hu2:u<9223372036854775808) (hf:Hid (f.num*(if u=0 then 1 else u)=o*(f.den:Int))) :
   Calls prog 15 #[.agg #[.int .i64 o,.int .i64 u]] w fun e w'=>∃ zb,e=.returned (.pointer (some ⟨zb,0,none⟩))∧But [] w w'∧zx w' zb f∧w.heap.size≤zb:=by(
 have bw:But [] w (w.alloc (.cells #[.int .i64 o,.int .i64 u] 23)):=(But.refl _ _).alloc _
 by_cases hu:u=0
 ·(
 subst hu
 have NR:=af (fun W=>zko o 1 f W ho1 ho2 (by omega) (by omega) (by omega) (af (by have:=ae hf;rw[if_pos rfl] at this;exact this)))
 clear hf
 go_enter func15,ntmps15
 go_wp2_with fail
 refine (ae NR _).mono ?_
 rintro e w1 ⟨zb,rfl,h1,h2,h3⟩
 have FIN:=af (And.intro (bw.trans' h1) (And.intro h2 (Nat.le_trans bw.size h3)))
 clear h1 h2 h3
 go_wp2
 go_ret
 exact⟨zb,rfl,(ae FIN).1,(ae FIN).2.1,(ae FIN).2.2⟩)
 ·(
 have NR:=af (fun W=>zko o u f W ho1 ho2 hu1 hu2 hu (af (by have:=ae hf;rw[if_neg hu] at this;exact this)))
 have hub:(u==0)=false:=beq_eq_false_iff_ne.2 hu
 clear hf
 go_enter func15,ntmps15
 go_wp2_with fail
 refine (ae NR _).mono ?_
 rintro e w1 ⟨zb,rfl,h1,h2,h3⟩
 have FIN:=af (And.intro (bw.trans' h1) (And.intro h2 (Nat.le_trans bw.size h3)))
 clear h1 h2 h3
 go_wp2
 go_ret
 exact⟨zb,rfl,(ae FIN).1,(ae FIN).2.1,(ae FIN).2.2⟩))
def ax (x y:Int):Int:=if x<y then -1 else if x=y then 0 else 1
theorem qeg (x y:Int) (hx:x<0) (hy:y<0):ax x y=-zn x.natAbs y.natAbs:=by(
 unfold ax zn
 by_cases h1:x<y
 ·rw[if_pos h1,if_neg (by omega),if_neg (by omega)]
 ·by_cases h2:x=y
  ·rw[if_neg h1,if_pos h2,if_neg (by omega),if_pos (by omega)];rfl
  ·rw[if_neg h1,if_neg h2,if_pos (by omega)];rfl)
theorem qee (x y:Int) (hx:0≤x) (hy:0≤y):ax x y=zn x.natAbs y.natAbs:=by(
 unfold ax zn
 by_cases h1:x<y
 ·rw[if_pos h1,if_pos (by omega)]
 ·by_cases h2:x=y
  ·rw[if_neg h1,if_pos h2,if_neg (by omega),if_pos (by omega)]
  ·rw[if_neg h1,if_neg h2,if_neg (by omega),if_neg (by omega)])
theorem zlh (m n:Nat):-1≤zn m n∧zn m n≤1:=by
 rcases zcb m n with ⟨-,h⟩|⟨-,h⟩|⟨-,h⟩ <;> omega
theorem zax (b o b' o':Nat) (x y:Int) (w:World) (hx:qo w b o x) (hy:qo w b' o' y) (hlx:(wd 4294967296 x.natAbs).length<2147483648) (hly:(wd 4294967296 y.natAbs).length<2147483648) :
   Calls prog 140 #[.pointer (some ⟨b,o,none⟩),.pointer (some ⟨b',o',none⟩)] w fun e w'=>e=.returned (.int .i64 (ax x y))∧∃ q,w'=w.drewN q:=by(
 obtain⟨h0,v0,h1,hv⟩:=hx
 obtain⟨g0,v1,g1,hv'⟩:=hy
 by_cases hxn:x<0 <;> by_cases hyn:y<0
 ·(
 rw[decide_eq_true hxn] at h0
 rw[decide_eq_true hyn] at g0
 have HC:Hid (ax x y=-zn x.natAbs y.natAbs):=qeg x y hxn hyn
 obtain⟨c1,c2⟩:=zlh x.natAbs y.natAbs
 go_enter func140,ntmps140
 go_wp2
 go_quiet (fail)
 go_wp2
 obtain⟨W,hW⟩:∃ W,W=w.drewN nq:=⟨_,rfl⟩
 have k0:W.cell? ⟨b,o,none⟩=some (.bool true):=by rw[hW];exact h0
 have k1:W.cell? ⟨b,o+1,none⟩=some v0:=by rw[hW];exact h1
 have l1:W.cell? ⟨b',o' + 1,none⟩=some v1:=by rw[hW];exact g1
 have hva:Sl .u32 W v0 (wd 4294967296 x.natAbs):=by rw[hW];exact hv
 have hvb:Sl .u32 W v1 (wd 4294967296 y.natAbs):=by rw[hW];exact hv'
 rw[← hW]
 have HW:=af hW
 clear hW
 go_quiet ((go_at_call 209;refine Calls.quiet_of (zdo v0 v1 x.natAbs y.natAbs _ ?_ ?_ hlx hly);exact hva;exact hvb))
 generalize zn x.natAbs y.natAbs=cc at *
 go_wp2
 go_ret
 exact⟨by rw[ae HC];rfl,by rw[ae HW];exact dr1 _ _ _⟩)
 ·(
 rw[decide_eq_true hxn] at h0
 rw[decide_eq_false hyn] at g0
 have HC:Hid (ax x y=-1):=by show _=_;unfold ax;rw[if_pos (by omega)]
 go_enter func140,ntmps140
 go_wp2
 go_quiet (fail)
 go_wp2
 go_ret
 exact⟨by rw[ae HC];rfl,_,rfl⟩)
 ·(
 rw[decide_eq_false hxn] at h0
 rw[decide_eq_true hyn] at g0
 have HC:Hid (ax x y=1):=by show _=_;unfold ax;rw[if_neg (by omega),if_neg (by omega)]
 go_enter func140,ntmps140
 go_wp2
 go_quiet (fail)
 go_wp2
 go_ret
 exact⟨by rw[ae HC];rfl,_,rfl⟩)
 ·(
 rw[decide_eq_false hxn] at h0
 rw[decide_eq_false hyn] at g0
 have HC:Hid (ax x y=zn x.natAbs y.natAbs):=qee x y (by omega) (by omega)
 obtain⟨c1,c2⟩:=zlh x.natAbs y.natAbs
 go_enter func140,ntmps140
 go_wp2
 go_quiet (fail)
 go_wp2
 obtain⟨W,hW⟩:∃ W,W=w.drewN nq:=⟨_,rfl⟩
 have k0:W.cell? ⟨b,o,none⟩=some (.bool false):=by rw[hW];exact h0
 have k1:W.cell? ⟨b,o+1,none⟩=some v0:=by rw[hW];exact h1
 have l1:W.cell? ⟨b',o' + 1,none⟩=some v1:=by rw[hW];exact g1
 have hva:Sl .u32 W v0 (wd 4294967296 x.natAbs):=by rw[hW];exact hv
 have hvb:Sl .u32 W v1 (wd 4294967296 y.natAbs):=by rw[hW];exact hv'
 rw[← hW]
 have HW:=af hW
 clear hW
 go_quiet ((go_at_call 209;refine Calls.quiet_of (zdo v0 v1 x.natAbs y.natAbs _ ?_ ?_ hlx hly);exact hva;exact hvb))
 generalize zn x.natAbs y.natAbs=cc at *
 go_wp2
 go_ret
 exact⟨by rw[ae HC];rfl,by rw[ae HW];exact dr1 _ _ _⟩))
end Go.Proofs.YtjlfllhedceigaaGreatDoor
