/- Whether one law is nowhere more likely b -/
import Derived.Test.YtagmkkiagjmimaaGreatDoorXKO
namespace Go.Proofs.YtagmkkiagjmimaaGreatDoor
open Go.Proofs.Tryz
open Go.RowKit
set_option maxHeartbeats 64000000
set_option maxRecDepth 100000
def qw (fs gs:List Rat) (k:Nat):Rat:=fs[k]?.getD 0-gs[k]?.getD 0
theorem zvh (fs gs:List Rat) (h1:∀ f ∈ fs,Len f 1) (h2:∀ f ∈ gs,Len f 1) (n:Nat):∀ j,Len (upS (qw fs gs) n j) (j*4+1)
 | 0=>zbq _ (by omega)
 | j+1=>by
  have ih:=zvh fs gs h1 h2 n j
  have l:=zfm (zan h1 (Nat.le_refl _) (n-(j+1))) (zan h2 (Nat.le_refl _) (n-(j+1))) 3 (by omega)
  show Len (upS (qw fs gs) n j+qw fs gs (n-(j+1))) _
  exact zci ih l _ (by omega)
theorem zsb (va vb:Value) (fs gs:List Rat) (n:Nat) (w:World) (ha:av w va fs) (hb:av w vb gs) (hn:fs.length≤1000) (hm:gs.length≤1000) (lf:∀ f ∈ fs,Len f 1) (lg:∀ f ∈ gs,Len f 1) (hN:n=max fs.length gs.length) :
   Calls prog 97 #[va,vb,.func (.func 98) #[] #[]] w fun e w'=>∃ (bl:Bool) (f:Int),e=.returned (.tuple #[.bool bl,.int .i64 f])∧(bl=true↔∀ j,j<n→¬ 0<upS (qw fs gs) n j)∧But [] w w':=by(
 have AA:=af (fun W (h:But [] w W) k (hk:k<1000000)=>zcf va fs k W (ha.but h) hn hk)
 have AB:=af (fun W (h:But [] w W) k (hk:k<1000000)=>zcf vb gs k W (hb.but h) hm hk)
 obtain⟨q,cap,rfl,-,-⟩:=id ha
 obtain⟨q',cap',rfl,-,-⟩:=id hb
 obtain⟨la,hla⟩:∃ la,la=fs.length:=⟨_,rfl⟩
 obtain⟨lb,hlb⟩:∃ lb,lb=gs.length:=⟨_,rfl⟩
 rw[← hla] at hn AA hN ⊢
 rw[← hlb] at hm AB hN ⊢
 have hmax:max (la:Int) (lb:Int)=(n:Int):=by omega
 have hn1:n≤1000:=by omega
 have LM:=af (fun k=>zfm (zan lf (Nat.le_refl _) k) (zan lg (Nat.le_refl _) k) 3 (by omega))
 have LU:=af (zvh fs gs lf lg n)
 have LA:=af (fun k=>zan lf (Nat.le_refl _) k)
 have LB:=af (fun k=>zan lg (Nat.le_refl _) k)
 obtain⟨W,hW⟩:∃ W,W=(w.alloc (.cells #[.bool false,.int .u64 0,.int .u64 0,.pointer none] 27)).alloc (.cells #[.bool false,.int .u64 0,.int .u64 0,.pointer none] 27):=⟨_,rfl⟩
 have x4:bh W w.heap.size 0:=by rw[hW];exact (bh.new w false 0 0 none 0 27 (zav _)).but ((But.refl _ _).alloc _)
 have x5:bh W (w.heap.size+1) 0:=by
  rw[hW]
  have h:=bh.new (w.alloc (.cells #[.bool false,.int .u64 0,.int .u64 0,.pointer none] 27)) false 0 0 none 0 27 (zav _)
  rw[show (w.alloc (.cells #[.bool false,.int .u64 0,.int .u64 0,.pointer none] 27)).heap.size=w.heap.size+1 from by simp] at h
  exact h
 have bW:But [] w W:=by rw[hW];exact ((But.refl _ _).alloc _).alloc _
 have X10:=af x4
 have X11:=af x5
 have BW:=af bW
 clear x4 x5 bW ha hb lf lg hla hlb hN
 go_enter func97,ntmps97
 go_wp2
 rw[← hW]
 clear hW
 try rw[hmax]
 generalize hg11:w.heap.size+1=g11 at *
 generalize hg10:w.heap.size=g10 at *
 go_loopw [8,9,12] (fun v8 v9 v12 wr=>∃ (j:Nat) (bl:Bool) (f:Int),j≤n∧v8=.bool bl∧v9=.int .i64 f∧v12=.int .i64 ((n:Int)-1-(j:Int))∧Hid ((bl=true↔∀ i,i<j→¬ 0<upS (qw fs gs) n i)∧bh wr g10 (upS (qw fs gs) n j)∧(∃ mn,bh wr g11 mn∧Len mn (j*5+1))∧But [] w wr)) (fun _ _ v12 _=>(intOf v12+1).toNat)
 case atStart=>exact⟨0,true,0,Nat.zero_le _,rfl,rfl,by simp,⟨fun _ i hi=>absurd hi (by omega),fun _=>rfl⟩,ae X10,⟨0,ae X11,zbq _ (by omega)⟩,ae BW⟩
 case round =>(
 obtain⟨j,bl,f,hj,rfl,rfl,rfl,HI⟩:=hrel
 rename World=>wr
 clear X10 X11 BW
 by_cases hlt:j<n
 ·(
 obtain⟨k,hk⟩:∃ k:Nat,k=n-(j+1):=⟨_,rfl⟩
 have hkI:(n:Int)-1-(j:Int)=(k:Int):=by omega
 rw[hkI]
 have hk1:k<1000:=by omega
 obtain⟨hbl,⟨⟨t10,a10,b10,q10,⟨c0,c1,c2,c3⟩,f10⟩,z10⟩,⟨mn,⟨⟨t11,a11,b11,q11,⟨d0,d1,d2,d3⟩,f11⟩,z11⟩,lmn⟩,hbw⟩:=ae HI
 have AV:=af (zoh (k:Int) t10 a10 b10 q10 t11 a11 b11 q11 _ wr f10)
 have hmf:∀ (fn:Fn) (first cap:Array Value) (w:World),(Instr.makeFunc fn first cap).run prog w=.ok (.func fn first cap) w:=fun _ _ _ _=>rfl
 have HBL:=af hbl
 have HK:=af hk
 have LMN:=af lmn
 have Y11:Hid (bh wr g11 mn):=⟨⟨t11,a11,b11,q11,⟨d0,d1,d2,d3⟩,f11⟩,z11⟩
 clear hbl f10 f11 z10 z11 hbw hk lmn
 go_wp2_with fail
 refine (ae AV).mono ?_
 rintro e w1 ⟨rfl,hb1⟩
 have Y10:=af ((ae HI).2.1.but hb1)
 have Y11':=af ((ae Y11).but hb1)
 have BW1:=af ((ae HI).2.2.2.trans' hb1)
 clear hb1 AV c0 c1 c2 c3 d0 d1 d2 d3 HI Y11
 by_cases hab:0<upS (qw fs gs) n j
 ·(
 rw[decide_eq_true hab]
 go_wp2_with fail
 refine (ae AA _ (ae BW1) k (by omega)).mono ?_
 rintro e w2 ⟨s2,x2,y2,p2,rfl,hf2,hb2⟩
 have Y10b:=af ((ae Y10).but hb2)
 have Y11b:=af ((ae Y11').but hb2)
 have BW2:=af ((ae BW1).trans' hb2)
 have F2:=af hf2
 clear hb2 hf2 Y10 Y11' BW1
 go_wp2_with fail
 refine (ae AB _ (ae BW2) k (by omega)).mono ?_
 rintro e w3 ⟨s3,x3,y3,p3,rfl,hf3,hb3⟩
 have Y10c:=af ((ae Y10b).but hb3)
 have Y11c:=af ((ae Y11b).but hb3)
 have BW3:=af ((ae BW2).trans' hb3)
 have SU:=af (l6 (o5 _ _ _ _ w3 ((ae F2).but hb3) hf3 ((ae LA k).mono (by omega)) ((ae LB k).mono (by omega))))
 clear hb3 hf3 F2 Y10b Y11b BW2
 go_wp2_with fail
 refine (ae SU).mono ?_
 rintro e w4 ⟨s4,x4,y4,p4,rfl,hf4,hb4⟩
 have hal:But [] w4 (w4.alloc (.cells #[.bool s4,.int .u64 x4,.int .u64 y4,.pointer p4] 27)):=(But.refl _ _).alloc _
 have Y10d:=af (((ae Y10c).but hb4).but hal)
 have Y11d:=af (((ae Y11c).but hb4).but hal)
 have BW4:=af (((ae BW3).trans' hb4).trans' hal)
 have X13:=af (bh.new w4 s4 x4 y4 p4 (qw fs gs k) 27 hf4)
 have L10:g10<w4.heap.size:=((ae Y10c).but hb4).lt
 have L11:g11<w4.heap.size:=((ae Y11c).but hb4).lt
 clear hb4 hf4 hal SU Y10c Y11c BW3
 obtain⟨⟨t5,a5,b5,q5,⟨k0,k1,k2,k3⟩,f5⟩,z5⟩:=ae Y10d
 obtain⟨⟨t6,a6,b6,q6,⟨l0,l1,l2,l3⟩,f6⟩,-⟩:=ae X13
 have AD:=af (l6 (xg 10000 10000 (by omega) _ _ _ _ _ f5 f6 ((ae LU j).mono (by omega)) ((ae LM k).mono (by omega))))
 clear f5 f6
 go_wp2_with fail
 generalize hg13:w4.heap.size=g13 at *
 generalize w4.alloc (.cells #[.bool s4,.int .u64 x4,.int .u64 y4,.pointer p4] 27)=V4 at *
 refine (ae AD).mono ?_
 rintro e w5 ⟨s5,x5,y5,p5,rfl,hf5,hb5⟩
 have e10:upS (qw fs gs) n j+qw fs gs k=upS (qw fs gs) n (j+1):=by rw[ae HK];rfl
 rw[e10] at hf5
 have Y10e:=af ((ae Y10d).but hb5)
 have Y11e:=af ((ae Y11d).but hb5)
 have X13e:=af ((ae X13).but hb5)
 have BW5:=af ((ae BW4).trans' hb5)
 have HF5:=af hf5
 have z5':∀ i,w5.frozen? ⟨g10,i,none⟩=false:=(ae Y10e).2
 clear hb5 hf5 AD k0 k1 k2 k3 l0 l1 l2 l3 z5 Y10d Y11d X13 BW4
 obtain⟨⟨t7,a7,b7,q7,⟨k0,k1,k2,k3⟩,-⟩,-⟩:=ae Y10e
 have gl10:g10<w5.heap.size:=ai k0
 go_wp2
 have hP:=ay w5 g10 s5 x5 y5 p5
 have m10:=(ae Y10e).put (ae HF5)
 have hcs:∀ g ∈ [g10],∃ s,w5.cell? ⟨g,0,none⟩=some (.bool s):=fun g hg=>by simp at hg;subst hg;exact (ae Y10e).bool
 have m11:=(ae Y11e).beside hP (by simp;omega) hcs
 have m13:=(ae X13e).beside hP (by simp;omega) hcs
 have mB:=(ae BW5).trans hP (fun x hx=>by simp at hx;subst hx;exact .inr (by omega))
 change Code.wp _ _ _ _ (mh w5 g10 s5 x5 y5 p5)
 have M10:=af m10
 have M11:=af m11
 have M13:=af m13
 have MB:=af mB
 clear m10 m11 m13 mB hP hcs k0 k1 k2 k3 z5' Y10e Y11e X13e BW5 HF5
 generalize mh w5 g10 s5 x5 y5 p5=V5 at *
 obtain⟨⟨t8,a8,b8,q8,k8,f8⟩,z8⟩:=ae M11
 obtain⟨⟨t9,a9,b9,q9,k9,f9⟩,-⟩:=ae M13
 obtain⟨ws,wx,FW,CW⟩:=zda (k:Int) (by omega) (by omega)
 have lint:Len ((((k:Nat):Int)):Rat) 1:=zfn _ (by omega)
 refine ru 10 _ _ V5 t8 a8 b8 q8 t9 a9 b9 q9 (k:Int) ws wx mn (qw fs gs k) g11 g13 (by simp) (by simp[Act.eval]) k8 z8 (by simp[Act.eval]) (by simp[Act.eval]) k8 k9 CW (fun w' hb=>zal _ _ _ _ w' (f9.but hb) (FW w') ((ae LM k).mono (by omega)) (lint.mono (by omega))) (fun w' v' hb hv'=>xg 10000 10000 (by omega) _ _ _ _ w' (f8.but hb) hv' ((ae LMN).mono (by omega)) ((zaz (ae LM k) lint 4 (by omega)).mono (by omega))) ?_
 intro w6 v4' s6 x6 y6 p6 hb6 hf6
 simp only[bk,List.foldl_cons,List.foldl_nil,Act.put,List.setIfInBounds_toArray,List.set_cons_zero,List.set_cons_succ]
 have hP:=ay w6 g11 s6 x6 y6 p6
 have hcs:∀ g ∈ [g11],∃ s,w6.cell? ⟨g,0,none⟩=some (.bool s):=fun g hg=>by simp at hg;subst hg;exact ((ae M11).but hb6).bool
 have J11:=af (((ae M11).but hb6).put hf6)
 have J10:=af (((ae M10).but hb6).beside hP (by simp;omega) hcs)
 have JB:=af (((ae MB).trans' hb6).trans hP (fun x hx=>by simp at hx;subst hx;exact .inr (by omega)))
 have JL:=af (zci (ae LMN) (zaz (ae LM k) lint 4 (by omega)) ((j+1)*5+1) (by omega))
 clear hP hcs hb6 hf6 k8 k9 f8 f9 z8 lint M10 M11 M13 MB CW FW
 generalize mh w6 g11 s6 x6 y6 p6=V6 at *
 go_wp2
 refine⟨⟨j+1,false,(k:Int),by omega,rfl,rfl,by simp;omega,?_,ae J10,⟨_,ae J11,ae JL⟩,ae JB⟩,by simp[intOf]⟩
 exact⟨fun h=>by simp at h,fun h=>absurd hab (h j (by omega))⟩)
 ·(
 rw[decide_eq_false hab]
 go_wp2_with fail
 refine (ae AA _ (ae BW1) k (by omega)).mono ?_
 rintro e w2 ⟨s2,x2,y2,p2,rfl,hf2,hb2⟩
 have Y10b:=af ((ae Y10).but hb2)
 have Y11b:=af ((ae Y11').but hb2)
 have BW2:=af ((ae BW1).trans' hb2)
 have F2:=af hf2
 clear hb2 hf2 Y10 Y11' BW1
 go_wp2_with fail
 refine (ae AB _ (ae BW2) k (by omega)).mono ?_
 rintro e w3 ⟨s3,x3,y3,p3,rfl,hf3,hb3⟩
 have Y10c:=af ((ae Y10b).but hb3)
 have Y11c:=af ((ae Y11b).but hb3)
 have BW3:=af ((ae BW2).trans' hb3)
 have SU:=af (l6 (o5 _ _ _ _ w3 ((ae F2).but hb3) hf3 ((ae LA k).mono (by omega)) ((ae LB k).mono (by omega))))
 clear hb3 hf3 F2 Y10b Y11b BW2
 go_wp2_with fail
 refine (ae SU).mono ?_
 rintro e w4 ⟨s4,x4,y4,p4,rfl,hf4,hb4⟩
 have hal:But [] w4 (w4.alloc (.cells #[.bool s4,.int .u64 x4,.int .u64 y4,.pointer p4] 27)):=(But.refl _ _).alloc _
 have Y10d:=af (((ae Y10c).but hb4).but hal)
 have Y11d:=af (((ae Y11c).but hb4).but hal)
 have BW4:=af (((ae BW3).trans' hb4).trans' hal)
 have X13:=af (bh.new w4 s4 x4 y4 p4 (qw fs gs k) 27 hf4)
 have L10:g10<w4.heap.size:=((ae Y10c).but hb4).lt
 have L11:g11<w4.heap.size:=((ae Y11c).but hb4).lt
 clear hb4 hf4 hal SU Y10c Y11c BW3
 obtain⟨⟨t5,a5,b5,q5,⟨k0,k1,k2,k3⟩,f5⟩,z5⟩:=ae Y10d
 obtain⟨⟨t6,a6,b6,q6,⟨l0,l1,l2,l3⟩,f6⟩,-⟩:=ae X13
 have AD:=af (l6 (xg 10000 10000 (by omega) _ _ _ _ _ f5 f6 ((ae LU j).mono (by omega)) ((ae LM k).mono (by omega))))
 clear f5 f6
 go_wp2_with fail
 generalize hg13:w4.heap.size=g13 at *
 generalize w4.alloc (.cells #[.bool s4,.int .u64 x4,.int .u64 y4,.pointer p4] 27)=V4 at *
 refine (ae AD).mono ?_
 rintro e w5 ⟨s5,x5,y5,p5,rfl,hf5,hb5⟩
 have e10:upS (qw fs gs) n j+qw fs gs k=upS (qw fs gs) n (j+1):=by rw[ae HK];rfl
 rw[e10] at hf5
 have Y10e:=af ((ae Y10d).but hb5)
 have Y11e:=af ((ae Y11d).but hb5)
 have X13e:=af ((ae X13).but hb5)
 have BW5:=af ((ae BW4).trans' hb5)
 have HF5:=af hf5
 have z5':∀ i,w5.frozen? ⟨g10,i,none⟩=false:=(ae Y10e).2
 clear hb5 hf5 AD k0 k1 k2 k3 l0 l1 l2 l3 z5 Y10d Y11d X13 BW4
 obtain⟨⟨t7,a7,b7,q7,⟨k0,k1,k2,k3⟩,-⟩,-⟩:=ae Y10e
 have gl10:g10<w5.heap.size:=ai k0
 go_wp2
 have hP:=ay w5 g10 s5 x5 y5 p5
 have m10:=(ae Y10e).put (ae HF5)
 have hcs:∀ g ∈ [g10],∃ s,w5.cell? ⟨g,0,none⟩=some (.bool s):=fun g hg=>by simp at hg;subst hg;exact (ae Y10e).bool
 have m11:=(ae Y11e).beside hP (by simp;omega) hcs
 have m13:=(ae X13e).beside hP (by simp;omega) hcs
 have mB:=(ae BW5).trans hP (fun x hx=>by simp at hx;subst hx;exact .inr (by omega))
 change Code.wp _ _ _ _ (mh w5 g10 s5 x5 y5 p5)
 have M10:=af m10
 have M11:=af m11
 have M13:=af m13
 have MB:=af mB
 clear m10 m11 m13 mB hP hcs k0 k1 k2 k3 z5' Y10e Y11e X13e BW5 HF5
 generalize mh w5 g10 s5 x5 y5 p5=V5 at *
 obtain⟨⟨t8,a8,b8,q8,k8,f8⟩,z8⟩:=ae M11
 obtain⟨⟨t9,a9,b9,q9,k9,f9⟩,-⟩:=ae M13
 obtain⟨ws,wx,FW,CW⟩:=zda (k:Int) (by omega) (by omega)
 have lint:Len ((((k:Nat):Int)):Rat) 1:=zfn _ (by omega)
 refine ru 10 _ _ V5 t8 a8 b8 q8 t9 a9 b9 q9 (k:Int) ws wx mn (qw fs gs k) g11 g13 (by simp) (by simp[Act.eval]) k8 z8 (by simp[Act.eval]) (by simp[Act.eval]) k8 k9 CW (fun w' hb=>zal _ _ _ _ w' (f9.but hb) (FW w') ((ae LM k).mono (by omega)) (lint.mono (by omega))) (fun w' v' hb hv'=>xg 10000 10000 (by omega) _ _ _ _ w' (f8.but hb) hv' ((ae LMN).mono (by omega)) ((zaz (ae LM k) lint 4 (by omega)).mono (by omega))) ?_
 intro w6 v4' s6 x6 y6 p6 hb6 hf6
 simp only[bk,List.foldl_cons,List.foldl_nil,Act.put,List.setIfInBounds_toArray,List.set_cons_zero,List.set_cons_succ]
 have hP:=ay w6 g11 s6 x6 y6 p6
 have hcs:∀ g ∈ [g11],∃ s,w6.cell? ⟨g,0,none⟩=some (.bool s):=fun g hg=>by simp at hg;subst hg;exact ((ae M11).but hb6).bool
 have J11:=af (((ae M11).but hb6).put hf6)
 have J10:=af (((ae M10).but hb6).beside hP (by simp;omega) hcs)
 have JB:=af (((ae MB).trans' hb6).trans hP (fun x hx=>by simp at hx;subst hx;exact .inr (by omega)))
 have JL:=af (zci (ae LMN) (zaz (ae LM k) lint 4 (by omega)) ((j+1)*5+1) (by omega))
 clear hP hcs hb6 hf6 k8 k9 f8 f9 z8 lint M10 M11 M13 MB CW FW
 generalize mh w6 g11 s6 x6 y6 p6=V6 at *
 go_wp2
 refine⟨⟨j+1,bl,f,by omega,rfl,rfl,by simp;omega,?_,ae J10,⟨_,ae J11,ae JL⟩,ae JB⟩,by simp[intOf]⟩
 refine⟨fun h i hi=>?_,fun h=>(ae HBL).2 (fun i hi=>h i (by omega))⟩
 by_cases e:i=j
 ·rw[e];exact hab
 ·exact (ae HBL).1 h i (by omega)))
 ·(
 obtain rfl:j=n:=by omega
 have hkI:(j:Int)-1-(j:Int)=-1:=by omega
 rw[hkI]
 go_wp2
 exact bodyPost_ret (v:=.tuple #[.bool bl,.int .i64 f]) (by simp[results,results97,go_sem]) rfl ⟨bl,f,rfl,(ae HI).1,(ae HI).2.2.2⟩)))
theorem zmd (va vb:Value) (fs gs:List Rat) (n:Nat) (w:World) (ha:av w va fs) (hb:av w vb gs) (hn:fs.length≤1000) (hm:gs.length≤1000) (lf:∀ f ∈ fs,Len f 1) (lg:∀ f ∈ gs,Len f 1) (hN:n=max fs.length gs.length) :
   Calls prog 30 #[va,vb] w fun e w'=>∃ (bl:Bool) (f:Int),e=.returned (.tuple #[.bool bl,.int .i64 f,zfs (jq fs gs)])∧(jq fs gs=0→(bl=true↔∀ j,j<n→¬ 0<upS (qw fs gs) n j))∧But [] w w':=by(
 have CB:=af (zcy va vb fs gs 1 w ha hb hn hm lf lg (by omega))
 have NW:=af (fun W (h:But [] w W)=>zsb va vb fs gs n W (ha.but h) (hb.but h) hn hm lf lg hN)
 obtain⟨q,cap,rfl,-,-⟩:=id ha
 obtain⟨q',cap',rfl,-,-⟩:=id hb
 obtain⟨be,hbe⟩:∃ be,be=jq fs gs:=⟨_,rfl⟩
 rw[← hbe] at CB ⊢
 clear ha hb hbe lf lg
 obtain⟨ev,hev⟩:∃ ev,ev=zfs be:=⟨_,rfl⟩
 rw[← hev] at CB ⊢
 go_enter func30,ntmps30
 go_wp2_with fail
 refine (ae CB).mono ?_
 rintro e w1 ⟨rfl,hb1⟩
 have B1:=af hb1
 clear hb1 CB
 by_cases h0:be=0
 ·(
 obtain rfl:ev=.nilIface:=by rw[hev,h0];rfl
 clear hev
 go_wp2_with fail
 refine (ae NW _ (ae B1)).mono ?_
 rintro e w2 ⟨bl,f,rfl,hbl,hb2⟩
 have B2:=af ((ae B1).trans' hb2)
 have HBL:=af hbl
 clear hb2 hbl NW
 go_wp2
 exact bodyPost_ret (v:=.tuple #[.bool bl,.int .i64 f,.nilIface]) (by simp[results,results30,go_sem]) rfl ⟨bl,f,rfl,fun _=>ae HBL,ae B2⟩)
 ·obtain rfl:ev=.iface 33 (.int .i64 be):=by rw[hev];unfold zfs;rw[if_neg h0]
  clear hev
  go_wp2
  exact bodyPost_ret (v:=.tuple #[.bool false,.int .i64 0,.iface 33 (.int .i64 be)]) (by simp[results,results30,go_sem]) rfl ⟨false,0,rfl,fun h=>absurd h h0,ae B1⟩)
set_option linter.unusedVariables false
theorem zjg (va vb:Value) (fs gs:List Rat) (n:Nat) (fo:FuncId) (ab:Nat→Bool) (w:World) (ha:av w va fs) (hb:av w vb gs) (hn:fs.length≤1000) (hm:gs.length≤1000) (lf:∀ f ∈ fs,Len f 1) (lg:∀ f ∈ gs,Len f 1) (hN:n=max fs.length gs.length)
   (EN:∀ args W,(callFunc fo args).run prog W=.ok (.enter fo args) W)
   (AVW:∀ k j W (t1:Bool) (a1 b1:Int) (q1:Option Addr) (t2:Bool) (a2 b2:Int) (q2:Option Addr),k+j+1=n→au W (.agg #[.bool t1,.int .u64 a1,.int .u64 b1,.pointer q1]) (upS (qw fs gs) n j)→au W (.agg #[.bool t2,.int .u64 a2,.int .u64 b2,.pointer q2]) (upM (qw fs gs) n j)→Len (upS (qw fs gs) n j) 10000→Len (upM (qw fs gs) n j) 10000→Calls prog fo #[.int .i64 (k:Int),.agg #[.bool t1,.int .u64 a1,.int .u64 b1,.pointer q1],.agg #[.bool t2,.int .u64 a2,.int .u64 b2,.pointer q2]] W fun e w'=>e=.returned (.bool (ab k))∧But [] W w') :
   Calls prog 97 #[va,vb,.func (.func fo) #[] #[]] w fun e w'=>∃ (bl:Bool) (f:Nat),e=.returned (.tuple #[.bool bl,.int .i64 (f:Int)])∧nk ab n bl f∧But [] w w':=by(
 have AA:=af (fun W (h:But [] w W) k (hk:k<1000000)=>zcf va fs k W (ha.but h) hn hk)
 have AB:=af (fun W (h:But [] w W) k (hk:k<1000000)=>zcf vb gs k W (hb.but h) hm hk)
 obtain⟨q,cap,rfl,-,-⟩:=id ha
 obtain⟨q',cap',rfl,-,-⟩:=id hb
 obtain⟨la,hla⟩:∃ la,la=fs.length:=⟨_,rfl⟩
 obtain⟨lb,hlb⟩:∃ lb,lb=gs.length:=⟨_,rfl⟩
 rw[← hla] at hn AA hN ⊢
 rw[← hlb] at hm AB hN ⊢
 have hmax:max (la:Int) (lb:Int)=(n:Int):=by omega
 have hn1:n≤1000:=by omega
 have hEN:=af EN
 have AVH:=af AVW
 clear EN AVW
 have LM:=af (fun k=>zfm (zan lf (Nat.le_refl _) k) (zan lg (Nat.le_refl _) k) 3 (by omega))
 have LU:=af (zvh fs gs lf lg n)
 have LA:=af (fun k=>zan lf (Nat.le_refl _) k)
 have LB:=af (fun k=>zan lg (Nat.le_refl _) k)
 obtain⟨W,hW⟩:∃ W,W=(w.alloc (.cells #[.bool false,.int .u64 0,.int .u64 0,.pointer none] 27)).alloc (.cells #[.bool false,.int .u64 0,.int .u64 0,.pointer none] 27):=⟨_,rfl⟩
 have x4:bh W w.heap.size 0:=by rw[hW];exact (bh.new w false 0 0 none 0 27 (zav _)).but ((But.refl _ _).alloc _)
 have x5:bh W (w.heap.size+1) 0:=by
  rw[hW]
  have h:=bh.new (w.alloc (.cells #[.bool false,.int .u64 0,.int .u64 0,.pointer none] 27)) false 0 0 none 0 27 (zav _)
  rw[show (w.alloc (.cells #[.bool false,.int .u64 0,.int .u64 0,.pointer none] 27)).heap.size=w.heap.size+1 from by simp] at h
  exact h
 have bW:But [] w W:=by rw[hW];exact ((But.refl _ _).alloc _).alloc _
 have X10:=af x4
 have X11:=af x5
 have BW:=af bW
 clear x4 x5 bW ha hb lf lg hla hlb hN
 go_enter func97,ntmps97
 go_wp2
 rw[← hW]
 clear hW
 try rw[hmax]
 generalize hg11:w.heap.size+1=g11 at *
 generalize hg10:w.heap.size=g10 at *
 go_loopw [8,9,12] (fun v8 v9 v12 wr=>∃ (j:Nat) (bl:Bool) (f:Nat),j≤n∧v8=.bool bl∧v9=.int .i64 (f:Int)∧v12=.int .i64 ((n:Int)-1-(j:Int))∧Hid (dm ab n j bl f∧bh wr g10 (upS (qw fs gs) n j)∧(bh wr g11 (upM (qw fs gs) n j)∧Len (upM (qw fs gs) n j) (j*5+1))∧But [] w wr)) (fun _ _ v12 _=>(intOf v12+1).toNat)
 case atStart=>exact⟨0,true,0,Nat.zero_le _,rfl,rfl,by simp,dm.start ab n,ae X10,⟨ae X11,zbq _ (by omega)⟩,ae BW⟩
 case round =>(
 obtain⟨j,bl,f,hj,rfl,rfl,rfl,HI⟩:=hrel
 rename World=>wr
 clear X10 X11 BW
 by_cases hlt:j<n
 ·(
 obtain⟨k,hk⟩:∃ k:Nat,k=n-(j+1):=⟨_,rfl⟩
 have hkI:(n:Int)-1-(j:Int)=(k:Int):=by omega
 rw[hkI]
 have hk1:k<1000:=by omega
 obtain⟨mn,hmn⟩:∃ mn,mn=upM (qw fs gs) n j:=⟨_,rfl⟩
 have HMN:=af hmn
 rw[← hmn] at HI
 obtain⟨hbl,⟨⟨t10,a10,b10,q10,⟨c0,c1,c2,c3⟩,f10⟩,z10⟩,⟨⟨⟨t11,a11,b11,q11,⟨d0,d1,d2,d3⟩,f11⟩,z11⟩,lmn⟩,hbw⟩:=ae HI
 have AV:=af (ae AVH k j wr t10 a10 b10 q10 t11 a11 b11 q11 (by omega) f10 (by rw[← hmn];exact f11) ((ae LU j).mono (by omega)) (by rw[← hmn];exact lmn.mono (by omega)))
 have hen:=ae hEN
 have hmf:∀ (fn:Fn) (first cap:Array Value) (w:World),(Instr.makeFunc fn first cap).run prog w=.ok (.func fn first cap) w:=fun _ _ _ _=>rfl
 have HBL:Hid (dm ab n j bl f):=af hbl
 have HK:=af hk
 have LMN:=af lmn
 have Y11:Hid (bh wr g11 mn):=⟨⟨t11,a11,b11,q11,⟨d0,d1,d2,d3⟩,f11⟩,z11⟩
 clear hbl f10 f11 z10 z11 hbw hk lmn hmn
 go_wp2_with fail
 refine (ae AV).mono ?_
 rintro e w1 ⟨rfl,hb1⟩
 have Y10:=af ((ae HI).2.1.but hb1)
 have Y11':=af ((ae Y11).but hb1)
 have BW1:=af ((ae HI).2.2.2.trans' hb1)
 clear hb1 AV c0 c1 c2 c3 d0 d1 d2 d3 HI Y11 hen
 cases hab:ab k with
 | true =>
  go_wp2_with fail
  refine (ae AA _ (ae BW1) k (by omega)).mono ?_
  rintro e w2 ⟨s2,x2,y2,p2,rfl,hf2,hb2⟩
  have Y10b:=af ((ae Y10).but hb2)
  have Y11b:=af ((ae Y11').but hb2)
  have BW2:=af ((ae BW1).trans' hb2)
  have F2:=af hf2
  clear hb2 hf2 Y10 Y11' BW1
  go_wp2_with fail
  refine (ae AB _ (ae BW2) k (by omega)).mono ?_
  rintro e w3 ⟨s3,x3,y3,p3,rfl,hf3,hb3⟩
  have Y10c:=af ((ae Y10b).but hb3)
  have Y11c:=af ((ae Y11b).but hb3)
  have BW3:=af ((ae BW2).trans' hb3)
  have SU:=af (l6 (o5 _ _ _ _ w3 ((ae F2).but hb3) hf3 ((ae LA k).mono (by omega)) ((ae LB k).mono (by omega))))
  clear hb3 hf3 F2 Y10b Y11b BW2
  go_wp2_with fail
  refine (ae SU).mono ?_
  rintro e w4 ⟨s4,x4,y4,p4,rfl,hf4,hb4⟩
  have hal:But [] w4 (w4.alloc (.cells #[.bool s4,.int .u64 x4,.int .u64 y4,.pointer p4] 27)):=(But.refl _ _).alloc _
  have Y10d:=af (((ae Y10c).but hb4).but hal)
  have Y11d:=af (((ae Y11c).but hb4).but hal)
  have BW4:=af (((ae BW3).trans' hb4).trans' hal)
  have X13:=af (bh.new w4 s4 x4 y4 p4 (qw fs gs k) 27 hf4)
  have L10:g10<w4.heap.size:=((ae Y10c).but hb4).lt
  have L11:g11<w4.heap.size:=((ae Y11c).but hb4).lt
  clear hb4 hf4 hal SU Y10c Y11c BW3
  obtain⟨⟨t5,a5,b5,q5,⟨k0,k1,k2,k3⟩,f5⟩,z5⟩:=ae Y10d
  obtain⟨⟨t6,a6,b6,q6,⟨l0,l1,l2,l3⟩,f6⟩,-⟩:=ae X13
  have AD:=af (l6 (xg 10000 10000 (by omega) _ _ _ _ _ f5 f6 ((ae LU j).mono (by omega)) ((ae LM k).mono (by omega))))
  clear f5 f6
  go_wp2_with fail
  generalize hg13:w4.heap.size=g13 at *
  generalize w4.alloc (.cells #[.bool s4,.int .u64 x4,.int .u64 y4,.pointer p4] 27)=V4 at *
  refine (ae AD).mono ?_
  rintro e w5 ⟨s5,x5,y5,p5,rfl,hf5,hb5⟩
  have e10:upS (qw fs gs) n j+qw fs gs k=upS (qw fs gs) n (j+1):=by rw[ae HK];rfl
  rw[e10] at hf5
  have Y10e:=af ((ae Y10d).but hb5)
  have Y11e:=af ((ae Y11d).but hb5)
  have X13e:=af ((ae X13).but hb5)
  have BW5:=af ((ae BW4).trans' hb5)
  have HF5:=af hf5
  have z5':∀ i,w5.frozen? ⟨g10,i,none⟩=false:=(ae Y10e).2
  clear hb5 hf5 AD k0 k1 k2 k3 l0 l1 l2 l3 z5 Y10d Y11d X13 BW4
  obtain⟨⟨t7,a7,b7,q7,⟨k0,k1,k2,k3⟩,-⟩,-⟩:=ae Y10e
  have gl10:g10<w5.heap.size:=ai k0
  go_wp2
  have hP:=ay w5 g10 s5 x5 y5 p5
  have m10:=(ae Y10e).put (ae HF5)
  have hcs:∀ g ∈ [g10],∃ s,w5.cell? ⟨g,0,none⟩=some (.bool s):=fun g hg=>by simp at hg;subst hg;exact (ae Y10e).bool
  have m11:=(ae Y11e).beside hP (by simp;omega) hcs
  have m13:=(ae X13e).beside hP (by simp;omega) hcs
  have mB:=(ae BW5).trans hP (fun x hx=>by simp at hx;subst hx;exact .inr (by omega))
  change Code.wp _ _ _ _ (mh w5 g10 s5 x5 y5 p5)
  have M10:=af m10
  have M11:=af m11
  have M13:=af m13
  have MB:=af mB
  clear m10 m11 m13 mB hP hcs k0 k1 k2 k3 z5' Y10e Y11e X13e BW5 HF5
  generalize mh w5 g10 s5 x5 y5 p5=V5 at *
  obtain⟨⟨t8,a8,b8,q8,k8,f8⟩,z8⟩:=ae M11
  obtain⟨⟨t9,a9,b9,q9,k9,f9⟩,-⟩:=ae M13
  obtain⟨ws,wx,FW,CW⟩:=zda (k:Int) (by omega) (by omega)
  have lint:Len ((((k:Nat):Int)):Rat) 1:=zfn _ (by omega)
  refine ru 10 _ _ V5 t8 a8 b8 q8 t9 a9 b9 q9 (k:Int) ws wx mn (qw fs gs k) g11 g13 (by simp) (by simp[Act.eval]) k8 z8 (by simp[Act.eval]) (by simp[Act.eval]) k8 k9 CW (fun w' hb=>zal _ _ _ _ w' (f9.but hb) (FW w') ((ae LM k).mono (by omega)) (lint.mono (by omega))) (fun w' v' hb hv'=>xg 10000 10000 (by omega) _ _ _ _ w' (f8.but hb) hv' ((ae LMN).mono (by omega)) ((zaz (ae LM k) lint 4 (by omega)).mono (by omega))) ?_
  intro w6 v4' s6 x6 y6 p6 hb6 hf6
  simp only[bk,List.foldl_cons,List.foldl_nil,Act.put,List.setIfInBounds_toArray,List.set_cons_zero,List.set_cons_succ]
  have hP:=ay w6 g11 s6 x6 y6 p6
  have hcs:∀ g ∈ [g11],∃ s,w6.cell? ⟨g,0,none⟩=some (.bool s):=fun g hg=>by simp at hg;subst hg;exact ((ae M11).but hb6).bool
  have J11:=af (((ae M11).but hb6).put hf6)
  have J10:=af (((ae M10).but hb6).beside hP (by simp;omega) hcs)
  have JB:=af (((ae MB).trans' hb6).trans hP (fun x hx=>by simp at hx;subst hx;exact .inr (by omega)))
  have JL:=af (zci (ae LMN) (zaz (ae LM k) lint 4 (by omega)) ((j+1)*5+1) (by omega))
  clear hP hcs hb6 hf6 k8 k9 f8 f9 z8 lint M10 M11 M13 MB CW FW
  generalize mh w6 g11 s6 x6 y6 p6=V6 at *
  go_wp2
  have e11:mn+qw fs gs k*(((k:Nat):Int):Rat)=upM (qw fs gs) n (j+1):=by
   rw[ae HMN,ae HK];rfl
  have J11':bh V6 g11 (upM (qw fs gs) n (j+1)):=by rw[← e11];exact ae J11
  have JL':Len (upM (qw fs gs) n (j+1)) ((j+1)*5+1):=by rw[← e11];exact ae JL
  exact⟨⟨j+1,false,k,by omega,rfl,rfl,by simp;omega,dm.yes (ae HBL) (ae HK) hlt hab,ae J10,⟨J11',JL'⟩,ae JB⟩,by simp[intOf]⟩
 | false =>
  go_wp2_with fail
  refine (ae AA _ (ae BW1) k (by omega)).mono ?_
  rintro e w2 ⟨s2,x2,y2,p2,rfl,hf2,hb2⟩
  have Y10b:=af ((ae Y10).but hb2)
  have Y11b:=af ((ae Y11').but hb2)
  have BW2:=af ((ae BW1).trans' hb2)
  have F2:=af hf2
  clear hb2 hf2 Y10 Y11' BW1
  go_wp2_with fail
  refine (ae AB _ (ae BW2) k (by omega)).mono ?_
  rintro e w3 ⟨s3,x3,y3,p3,rfl,hf3,hb3⟩
  have Y10c:=af ((ae Y10b).but hb3)
  have Y11c:=af ((ae Y11b).but hb3)
  have BW3:=af ((ae BW2).trans' hb3)
  have SU:=af (l6 (o5 _ _ _ _ w3 ((ae F2).but hb3) hf3 ((ae LA k).mono (by omega)) ((ae LB k).mono (by omega))))
  clear hb3 hf3 F2 Y10b Y11b BW2
  go_wp2_with fail
  refine (ae SU).mono ?_
  rintro e w4 ⟨s4,x4,y4,p4,rfl,hf4,hb4⟩
  have hal:But [] w4 (w4.alloc (.cells #[.bool s4,.int .u64 x4,.int .u64 y4,.pointer p4] 27)):=(But.refl _ _).alloc _
  have Y10d:=af (((ae Y10c).but hb4).but hal)
  have Y11d:=af (((ae Y11c).but hb4).but hal)
  have BW4:=af (((ae BW3).trans' hb4).trans' hal)
  have X13:=af (bh.new w4 s4 x4 y4 p4 (qw fs gs k) 27 hf4)
  have L10:g10<w4.heap.size:=((ae Y10c).but hb4).lt
  have L11:g11<w4.heap.size:=((ae Y11c).but hb4).lt
  clear hb4 hf4 hal SU Y10c Y11c BW3
  obtain⟨⟨t5,a5,b5,q5,⟨k0,k1,k2,k3⟩,f5⟩,z5⟩:=ae Y10d
  obtain⟨⟨t6,a6,b6,q6,⟨l0,l1,l2,l3⟩,f6⟩,-⟩:=ae X13
  have AD:=af (l6 (xg 10000 10000 (by omega) _ _ _ _ _ f5 f6 ((ae LU j).mono (by omega)) ((ae LM k).mono (by omega))))
  clear f5 f6
  go_wp2_with fail
  generalize hg13:w4.heap.size=g13 at *
  generalize w4.alloc (.cells #[.bool s4,.int .u64 x4,.int .u64 y4,.pointer p4] 27)=V4 at *
  refine (ae AD).mono ?_
  rintro e w5 ⟨s5,x5,y5,p5,rfl,hf5,hb5⟩
  have e10:upS (qw fs gs) n j+qw fs gs k=upS (qw fs gs) n (j+1):=by rw[ae HK];rfl
  rw[e10] at hf5
  have Y10e:=af ((ae Y10d).but hb5)
  have Y11e:=af ((ae Y11d).but hb5)
  have X13e:=af ((ae X13).but hb5)
  have BW5:=af ((ae BW4).trans' hb5)
  have HF5:=af hf5
  have z5':∀ i,w5.frozen? ⟨g10,i,none⟩=false:=(ae Y10e).2
  clear hb5 hf5 AD k0 k1 k2 k3 l0 l1 l2 l3 z5 Y10d Y11d X13 BW4
  obtain⟨⟨t7,a7,b7,q7,⟨k0,k1,k2,k3⟩,-⟩,-⟩:=ae Y10e
  have gl10:g10<w5.heap.size:=ai k0
  go_wp2
  have hP:=ay w5 g10 s5 x5 y5 p5
  have m10:=(ae Y10e).put (ae HF5)
  have hcs:∀ g ∈ [g10],∃ s,w5.cell? ⟨g,0,none⟩=some (.bool s):=fun g hg=>by simp at hg;subst hg;exact (ae Y10e).bool
  have m11:=(ae Y11e).beside hP (by simp;omega) hcs
  have m13:=(ae X13e).beside hP (by simp;omega) hcs
  have mB:=(ae BW5).trans hP (fun x hx=>by simp at hx;subst hx;exact .inr (by omega))
  change Code.wp _ _ _ _ (mh w5 g10 s5 x5 y5 p5)
  have M10:=af m10
  have M11:=af m11
  have M13:=af m13
  have MB:=af mB
  clear m10 m11 m13 mB hP hcs k0 k1 k2 k3 z5' Y10e Y11e X13e BW5 HF5
  generalize mh w5 g10 s5 x5 y5 p5=V5 at *
  obtain⟨⟨t8,a8,b8,q8,k8,f8⟩,z8⟩:=ae M11
  obtain⟨⟨t9,a9,b9,q9,k9,f9⟩,-⟩:=ae M13
  obtain⟨ws,wx,FW,CW⟩:=zda (k:Int) (by omega) (by omega)
  have lint:Len ((((k:Nat):Int)):Rat) 1:=zfn _ (by omega)
  refine ru 10 _ _ V5 t8 a8 b8 q8 t9 a9 b9 q9 (k:Int) ws wx mn (qw fs gs k) g11 g13 (by simp) (by simp[Act.eval]) k8 z8 (by simp[Act.eval]) (by simp[Act.eval]) k8 k9 CW (fun w' hb=>zal _ _ _ _ w' (f9.but hb) (FW w') ((ae LM k).mono (by omega)) (lint.mono (by omega))) (fun w' v' hb hv'=>xg 10000 10000 (by omega) _ _ _ _ w' (f8.but hb) hv' ((ae LMN).mono (by omega)) ((zaz (ae LM k) lint 4 (by omega)).mono (by omega))) ?_
  intro w6 v4' s6 x6 y6 p6 hb6 hf6
  simp only[bk,List.foldl_cons,List.foldl_nil,Act.put,List.setIfInBounds_toArray,List.set_cons_zero,List.set_cons_succ]
  have hP:=ay w6 g11 s6 x6 y6 p6
  have hcs:∀ g ∈ [g11],∃ s,w6.cell? ⟨g,0,none⟩=some (.bool s):=fun g hg=>by simp at hg;subst hg;exact ((ae M11).but hb6).bool
  have J11:=af (((ae M11).but hb6).put hf6)
  have J10:=af (((ae M10).but hb6).beside hP (by simp;omega) hcs)
  have JB:=af (((ae MB).trans' hb6).trans hP (fun x hx=>by simp at hx;subst hx;exact .inr (by omega)))
  have JL:=af (zci (ae LMN) (zaz (ae LM k) lint 4 (by omega)) ((j+1)*5+1) (by omega))
  clear hP hcs hb6 hf6 k8 k9 f8 f9 z8 lint M10 M11 M13 MB CW FW
  generalize mh w6 g11 s6 x6 y6 p6=V6 at *
  go_wp2
  have e11:mn+qw fs gs k*(((k:Nat):Int):Rat)=upM (qw fs gs) n (j+1):=by
   rw[ae HMN,ae HK];rfl
  have J11':bh V6 g11 (upM (qw fs gs) n (j+1)):=by rw[← e11];exact ae J11
  have JL':Len (upM (qw fs gs) n (j+1)) ((j+1)*5+1):=by rw[← e11];exact ae JL
  exact⟨⟨j+1,bl,f,by omega,rfl,rfl,by simp;omega,dm.no (ae HBL) (ae HK) hlt hab,ae J10,⟨J11',JL'⟩,ae JB⟩,by simp[intOf]⟩)
 ·(
 obtain rfl:j=n:=by omega
 have hkI:(j:Int)-1-(j:Int)=-1:=by omega
 rw[hkI]
 go_wp2
 exact bodyPost_ret (v:=.tuple #[.bool bl,.int .i64 f]) (by simp[results,results97,go_sem]) rfl ⟨bl,f,rfl,(ae HI).1.done,(ae HI).2.2.2⟩)))
end Go.Proofs.YtagmkkiagjmimaaGreatDoor
