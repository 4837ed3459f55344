/- Two fractions compared, as the Go text o -/
import Derived.Test.YtjlfllhedceigaaGreatDoorRF9
namespace Go.Proofs.YtjlfllhedceigaaGreatDoor
set_option linter.unusedVariables false
open Go.Proofs.Tryz
open Go.RowKit
set_option maxHeartbeats 8000000
set_option maxRecDepth 100000
def zda (x y:Int):Int:=if x<y then -1 else if x=y then 0 else 1
theorem qec (m n:Nat):zda (m:Int) (n:Int)=zn m n:=by(
 unfold zda zn
 rcases Nat.lt_trichotomy m n with h | h | h
 ·rw[if_pos (by omega),if_pos h]
 ·subst h;simp
 ·rw[if_neg (by omega),if_neg (by omega),if_neg (by omega),if_neg (by omega)])
theorem qeb (m n:Nat):zda (-(m:Int)) (-(n:Int))=zn n m:=by(
 unfold zda zn
 rcases Nat.lt_trichotomy n m with h | h | h
 ·rw[if_pos (by omega),if_pos h]
 ·subst h;simp
 ·rw[if_neg (by omega),if_neg (by omega),if_neg (by omega),if_neg (by omega)])
theorem zou {x y:Int} (h:x<y):zda x y=-1:=by unfold zda;rw[if_pos h]
theorem zov {x y:Int} (h:y<x):zda x y=1:=by unfold zda;rw[if_neg (by omega),if_neg (by omega)]
theorem sign_mul (F:Int) (q:Nat) (hq:0<q):(F<0→F*q<0)∧(F=0→F*q=0)∧(0<F→0<F*q) :=
 ⟨fun h=>Int.mul_neg_of_neg_of_pos h (by omega),fun h=>by rw[h,Int.zero_mul],fun h=>Int.mul_pos h (by omega)⟩
theorem zxp (F G:Int) (p q:Nat) (hp:0<p) (hq:0<q) (h:F.sign≠G.sign):zda (F*q) (G*p)=zda F.sign G.sign:=by(
 obtain⟨f1,f2,f3⟩:=sign_mul F q hq
 obtain⟨g1,g2,g3⟩:=sign_mul G p hp
 have s1:=@Int.sign_eq_neg_one_of_neg F
 have s3:=@Int.sign_eq_one_of_pos F
 have t1:=@Int.sign_eq_neg_one_of_neg G
 have t3:=@Int.sign_eq_one_of_pos G
 have s2:F=0→F.sign=0:=fun e=>by rw[e];rfl
 have t2:G=0→G.sign=0:=fun e=>by rw[e];rfl
 generalize F*q=x at *
 generalize G*p=y at *
 generalize F.sign=a at *
 generalize G.sign=b at *
 rcases Int.lt_trichotomy a b with hab | hab | hab
 ·rw[zou hab,zou (by omega)]
 ·exact absurd hab h
 ·rw[zov hab,zov (by omega)])
theorem zxq (F G:Int) (p q:Nat) (h:F.sign=G.sign) (hF:F<0):zda (F*q) (G*p)=zn (G.natAbs*p) (F.natAbs*q):=by(
 have hG:G<0:=by
  have:=Int.sign_eq_neg_one_of_neg hF
  rw[h] at this
  exact Int.neg_of_sign_eq_neg_one this
 have e1:F*q=-((F.natAbs*q:Nat):Int):=by
  rw[Int.natCast_mul,← Int.neg_mul];congr 1;omega
 have e2:G*p=-((G.natAbs*p:Nat):Int):=by
  rw[Int.natCast_mul,← Int.neg_mul];congr 1;omega
 rw[e1,e2,qeb])
theorem zxr (F G:Int) (p q:Nat) (h:F.sign=G.sign) (hF:¬ F<0):zda (F*q) (G*p)=zn (F.natAbs*q) (G.natAbs*p):=by(
 have hG:¬ G<0:=by
  intro hG
  have:=Int.sign_eq_neg_one_of_neg hG
  rw[← h] at this
  exact hF (Int.neg_of_sign_eq_neg_one this)
 have e1:F*q=((F.natAbs*q:Nat):Int):=by
  rw[Int.natCast_mul];congr 1;omega
 have e2:G*p=((G.natAbs*p:Nat):Int):=by
  rw[Int.natCast_mul];congr 1;omega
 rw[e1,e2,qec])
theorem qea (x y:Int) (w:World) (r:Int) (hr:Hid (r=zda x y)) :
   Calls prog 105 #[.int .i64 x,.int .i64 y] w fun e w'=>e=.returned (.int .i64 r)∧w'=w:=by(
 rcases Int.lt_trichotomy x y with h | h | h
 ·(
 have e:Hid (r=-1):=by show _=_;rw[ae hr,zou h]
 clear hr
 go_enter func105,ntmps105
 go_wp2
 go_ret
 exact⟨by rw[ae e];rfl,rfl⟩)
 ·(
 subst h
 have e:Hid (r=0):=by show _=_;rw[ae hr];simp[zda]
 clear hr
 go_enter func105,ntmps105
 go_wp2
 go_ret
 exact⟨by rw[ae e];rfl,rfl⟩)
 ·(
 have e:Hid (r=1):=by show _=_;rw[ae hr,zov h]
 clear hr
 have h':¬ x<y:=by omega
 go_enter func105,ntmps105
 go_wp2
 go_ret
 exact⟨by rw[ae e];rfl,rfl⟩))
theorem zqx (vf vg:Value) (f g:Rat) (w:World) (hf:am w vf f) (hg:am w vg g) (lf:Len f 33554431) (lg:Len g 33554431) (r:Int) (hr:Hid (r=zda (f.num*g.den) (g.num*f.den))) :
   Calls prog 46 #[vf,vg] w fun e w'=>e=.returned (.int .i64 r)∧But [] w w':=by(
 have hq1:=den_pos f
 have hq2:=den_pos g
 have SF:Hid (∀ W,But [] w W→Calls prog 84 #[vf] W fun e w'=>e=.returned (.int .i64 f.num.sign)∧But [] W w'):=fun W hb=>ui vf f W (hf.but hb)
 have SG:Hid (∀ W,But [] w W→Calls prog 84 #[vg] W fun e w'=>e=.returned (.int .i64 g.num.sign)∧But [] W w'):=fun W hb=>ui vg g W (hg.but hb)
 have CS1:Hid (f.num.sign=g.num.sign→¬ f.num<0→∀ W,But [] w W→Calls prog 106 #[vf,vg] W fun e w'=>e=.returned (.int .i64 r)∧But [] W w'):=fun h1 h2 W hb=>zfs vf vg f g W (hf.but hb) (hg.but hb) lf lg r (by show _=_;rw[ae hr,zxr _ _ _ _ h1 h2])
 have CS2:Hid (f.num.sign=g.num.sign→f.num<0→∀ W,But [] w W→Calls prog 106 #[vg,vf] W fun e w'=>e=.returned (.int .i64 r)∧But [] W w'):=fun h1 h2 W hb=>zfs vg vf g f W (hg.but hb) (hf.but hb) lg lf r (by show _=_;rw[ae hr,zxq _ _ _ _ h1 h2])
 have CZ:Hid (f.num.sign≠g.num.sign→∀ W,Calls prog 105 #[.int .i64 f.num.sign,.int .i64 g.num.sign] W fun e w'=>e=.returned (.int .i64 r)∧w'=W):=fun h1 W=>qea _ _ W r (by show _=_;rw[ae hr,zxp _ _ _ _ hq1 hq2 h1])
 obtain⟨x1,y1,p1,rfl,-⟩:=hf.agg
 obtain⟨x2,y2,p2,rfl,-⟩:=hg.agg
 clear hf hg lf lg hr hq1 hq2
 obtain⟨W,hW⟩:∃ W,W=((w.alloc (.cells #[.bool (decide (f.num<0)),.int .u64 x1,.int .u64 y1,.pointer p1] 27)).alloc (.cells #[.bool (decide (g.num<0)),.int .u64 x2,.int .u64 y2,.pointer p2] 27)):=⟨_,rfl⟩
 obtain⟨tA,tB,fzb,hB⟩:=znk w W _ _ _ hW
 have fza:∀ j,W.frozen? ⟨w.heap.size,j,none⟩=false:=fun j=>by rw[hW];simp
 have a0:=tA 0
 have a1:=tA 1
 have a2:=tA 2
 have a3:=tA 3
 have b0:=tB 0
 have b1:=tB 1
 have b2:=tB 2
 have b3:=tB 3
 simp only[List.getElem?_toArray,List.getElem?_cons_zero,List.getElem?_cons_succ] at a0 a1 a2 a3 b0 b1 b2 b3
 clear tA tB
 have HW:=af hW
 have HB:=af hB
 clear hW hB
 obtain⟨s1,hs1⟩:∃ s1,s1=decide (f.num<0):=⟨_,rfl⟩
 obtain⟨s2,hs2⟩:∃ s2,s2=decide (g.num<0):=⟨_,rfl⟩
 rw[← hs1] at HW SF CS1 CS2 a0 ⊢
 rw[← hs2] at HW SG CS1 CS2 b0 ⊢
 have HS1:=af hs1
 clear hs1 hs2
 obtain⟨ga,hga⟩:∃ ga,ga=w.heap.size:=⟨_,rfl⟩
 obtain⟨gb,hgb⟩:∃ gb,gb=w.heap.size+1:=⟨_,rfl⟩
 rw[← hga] at a0 a1 a2 a3 fza
 rw[← hgb] at b0 b1 b2 b3 fzb
 have HGA:Hid (w.heap.size≤ga):=by show _≤_;omega
 have HGB:Hid (w.heap.size≤gb):=by show _≤_;omega
 have nab:ga≠gb:=by omega
 have hsz:=And.intro hga hgb
 have HSZ:=af hsz
 clear hga hgb hsz
 by_cases hsig:f.num.sign=g.num.sign
 ·(
 have dn:(g.num.sign != g.num.sign)=false:=by simp
 rw[hsig] at SF
 have CS1':Hid (s1=false→∀ W,But [] w W→Calls prog 106 #[.agg #[.bool s1,.int .u64 x1,.int .u64 y1,.pointer p1],.agg #[.bool s2,.int .u64 x2,.int .u64 y2,.pointer p2]] W fun e w'=>e=.returned (.int .i64 r)∧But [] W w'):=fun e=>ae CS1 hsig (by rw[ae HS1] at e;exact of_decide_eq_false e)
 have CS2':Hid (s1=true→∀ W,But [] w W→Calls prog 106 #[.agg #[.bool s2,.int .u64 x2,.int .u64 y2,.pointer p2],.agg #[.bool s1,.int .u64 x1,.int .u64 y1,.pointer p1]] W fun e w'=>e=.returned (.int .i64 r)∧But [] W w'):=fun e=>ae CS2 hsig (by rw[ae HS1] at e;exact of_decide_eq_true e)
 clear CS1 CS2 CZ hsig HS1
 generalize g.num.sign=sg at *
 go_enter func46,ntmps46
 go_wp2
 rw[← ae HW,← (ae HSZ).2,← (ae HSZ).1]
 clear HW HSZ
 go_region_held (fun w'=>w'.cell? ⟨ga,0,none⟩=some (.bool s1)∧w'.cell? ⟨ga,1,none⟩=some (.int .u64 x1)∧w'.cell? ⟨ga,2,none⟩=some (.int .u64 y1)∧w'.cell? ⟨ga,3,none⟩=some (.pointer p1)∧w'.cell? ⟨gb,0,none⟩=some (.bool s2)∧w'.cell? ⟨gb,1,none⟩=some (.int .u64 x2)∧w'.cell? ⟨gb,2,none⟩=some (.int .u64 y2)∧w'.cell? ⟨gb,3,none⟩=some (.pointer p2)) (go_keep) (first
  | (go_at_call 84;have hchk:=B1;clear hchk;refine (ae SG _ (by first | exact (ae HB).trans' B1 | exact ((ae HB).trans' B1).drew)).mono ?_;rintro e w2 ⟨rfl,hc2⟩;have B2:But [] W w2:=(by first | exact B1.trans' hc2 | exact (B1.drew).trans' hc2);clear hc2;have m0:=B2.ag a0 (by simp);have m1:=B2.ag a1 (by simp);have m2:=B2.ag a2 (by simp);have m3:=B2.ag a3 (by simp);have n0:=B2.ag b0 (by simp);have n1:=B2.ag b1 (by simp);have n2:=B2.ag b2 (by simp);have n3:=B2.ag b3 (by simp))
  | (go_at_call 84;refine (ae SF _ (by first | exact ae HB | exact (ae HB).drew)).mono ?_;rintro e w1 ⟨rfl,hc1⟩;have B1:But [] W w1:=(by first | exact hc1 | exact (But.refl _ _).drew.trans' hc1);clear hc1;have k0:=B1.ag a0 (by simp);have k1:=B1.ag a1 (by simp);have k2:=B1.ag a2 (by simp);have k3:=B1.ag a3 (by simp);have l0:=B1.ag b0 (by simp);have l1:=B1.ag b1 (by simp);have l2:=B1.ag b2 (by simp);have l3:=B1.ag b3 (by simp)))
 have gla:ga<W.heap.size:=ai a0
 have glb:gb<W.heap.size:=ai b0
 replace fza:∀ j,w2.frozen? ⟨ga,j,none⟩=false:=fun j=>(B2.frozen (p:=⟨ga,j,none⟩) gla (by simp)).trans (fza j)
 replace fzb:∀ j,w2.frozen? ⟨gb,j,none⟩=false:=fun j=>(B2.frozen (p:=⟨gb,j,none⟩) glb (by simp)).trans (fzb j)
 replace HB:Hid (But [] w w2):=(ae HB).trans' B2
 clear B1 B2 a0 a1 a2 a3 b0 b1 b2 b3 k0 k1 k2 k3 l0 l1 l2 l3 gla glb
 have a0:=m0
 have a1:=m1
 have a2:=m2
 have a3:=m3
 have b0:=n0
 have b1:=n1
 have b2:=n2
 have b3:=n3
 clear m0 m1 m2 m3 n0 n1 n2 n3
 cases s1
 ·(
 have C1:=af (ae CS1' rfl)
 clear CS1' CS2'
 go_wp2_with fail
 refine (ae C1 _ (ae HB)).mono ?_
 rintro e w3 ⟨rfl,hb3⟩
 have HB3:Hid (But [] w w3):=(ae HB).trans' hb3
 clear hb3
 go_wp2
 go_ret
 exact⟨rfl,ae HB3⟩)
 ·(
 have C2:=af (ae CS2' rfl)
 clear CS1' CS2'
 go_wp2_with fail
 have HBs:=af ((((((((((ae HB).setCell (p:=⟨ga,0,none⟩) (.inr (ae HGA)) (.bool s2)).setCell (p:=⟨ga,1,none⟩) (.inr (ae HGA)) (.int .u64 x2)).setCell (p:=⟨ga,2,none⟩) (.inr (ae HGA)) (.int .u64 y2)).setCell (p:=⟨ga,3,none⟩) (.inr (ae HGA)) (.pointer p2)).setCell (p:=⟨gb,0,none⟩) (.inr (ae HGB)) (.bool true)).setCell (p:=⟨gb,1,none⟩) (.inr (ae HGB)) (.int .u64 x1)).setCell (p:=⟨gb,2,none⟩) (.inr (ae HGB)) (.int .u64 y1)).setCell (p:=⟨gb,3,none⟩) (.inr (ae HGB)) (.pointer p1)))
 refine (ae C2 _ (ae HBs)).mono ?_
 rintro e w3 ⟨rfl,hb3⟩
 have HB3:Hid (But [] w w3):=(ae HBs).trans' hb3
 clear hb3
 go_wp2
 go_ret
 exact⟨rfl,ae HB3⟩))
 ·(
 have dn:(f.num.sign != g.num.sign)=true:=by simp[hsig]
 have CZ':=af (ae CZ hsig)
 clear CS1 CS2 CZ hsig HS1
 generalize f.num.sign=sf at *
 generalize g.num.sign=sg at *
 go_enter func46,ntmps46
 go_wp2
 rw[← ae HW,← (ae HSZ).2,← (ae HSZ).1]
 clear HW HSZ
 go_region_held (fun w'=>w'.cell? ⟨ga,0,none⟩=some (.bool s1)∧w'.cell? ⟨ga,1,none⟩=some (.int .u64 x1)∧w'.cell? ⟨ga,2,none⟩=some (.int .u64 y1)∧w'.cell? ⟨ga,3,none⟩=some (.pointer p1)∧w'.cell? ⟨gb,0,none⟩=some (.bool s2)∧w'.cell? ⟨gb,1,none⟩=some (.int .u64 x2)∧w'.cell? ⟨gb,2,none⟩=some (.int .u64 y2)∧w'.cell? ⟨gb,3,none⟩=some (.pointer p2)) (go_keep) (first
  | (go_at_call 84;have hchk:=B1;clear hchk;refine (ae SG _ (by first | exact (ae HB).trans' B1 | exact ((ae HB).trans' B1).drew)).mono ?_;rintro e w2 ⟨rfl,hc2⟩;have B2:But [] W w2:=(by first | exact B1.trans' hc2 | exact (B1.drew).trans' hc2);clear hc2;have m0:=B2.ag a0 (by simp);have m1:=B2.ag a1 (by simp);have m2:=B2.ag a2 (by simp);have m3:=B2.ag a3 (by simp);have n0:=B2.ag b0 (by simp);have n1:=B2.ag b1 (by simp);have n2:=B2.ag b2 (by simp);have n3:=B2.ag b3 (by simp))
  | (go_at_call 84;refine (ae SF _ (by first | exact ae HB | exact (ae HB).drew)).mono ?_;rintro e w1 ⟨rfl,hc1⟩;have B1:But [] W w1:=(by first | exact hc1 | exact (But.refl _ _).drew.trans' hc1);clear hc1;have k0:=B1.ag a0 (by simp);have k1:=B1.ag a1 (by simp);have k2:=B1.ag a2 (by simp);have k3:=B1.ag a3 (by simp);have l0:=B1.ag b0 (by simp);have l1:=B1.ag b1 (by simp);have l2:=B1.ag b2 (by simp);have l3:=B1.ag b3 (by simp)))
 have gla:ga<W.heap.size:=ai a0
 have glb:gb<W.heap.size:=ai b0
 replace fza:∀ j,w2.frozen? ⟨ga,j,none⟩=false:=fun j=>(B2.frozen (p:=⟨ga,j,none⟩) gla (by simp)).trans (fza j)
 replace fzb:∀ j,w2.frozen? ⟨gb,j,none⟩=false:=fun j=>(B2.frozen (p:=⟨gb,j,none⟩) glb (by simp)).trans (fzb j)
 replace HB:Hid (But [] w w2):=(ae HB).trans' B2
 clear B1 B2 a0 a1 a2 a3 b0 b1 b2 b3 k0 k1 k2 k3 l0 l1 l2 l3 gla glb
 have a0:=m0
 have a1:=m1
 have a2:=m2
 have a3:=m3
 have b0:=n0
 have b1:=n1
 have b2:=n2
 have b3:=n3
 clear m0 m1 m2 m3 n0 n1 n2 n3
 go_wp2
 go_region_held (fun w'=>w'.cell? ⟨ga,0,none⟩=some (.bool s1)∧w'.cell? ⟨ga,1,none⟩=some (.int .u64 x1)∧w'.cell? ⟨ga,2,none⟩=some (.int .u64 y1)∧w'.cell? ⟨ga,3,none⟩=some (.pointer p1)∧w'.cell? ⟨gb,0,none⟩=some (.bool s2)∧w'.cell? ⟨gb,1,none⟩=some (.int .u64 x2)∧w'.cell? ⟨gb,2,none⟩=some (.int .u64 y2)∧w'.cell? ⟨gb,3,none⟩=some (.pointer p2)) (go_keep) (first
  | (go_at_call 84;have hchk:=B3;clear hchk;refine (ae SG _ (by first | exact (ae HB).trans' B3 | exact ((ae HB).trans' B3).drew)).mono ?_;rintro e w4 ⟨rfl,hc2⟩;have B4:But [] w2 w4:=(by first | exact B3.trans' hc2 | exact (B3.drew).trans' hc2);clear hc2;have m0:=B4.ag a0 (by simp);have m1:=B4.ag a1 (by simp);have m2:=B4.ag a2 (by simp);have m3:=B4.ag a3 (by simp);have n0:=B4.ag b0 (by simp);have n1:=B4.ag b1 (by simp);have n2:=B4.ag b2 (by simp);have n3:=B4.ag b3 (by simp))
  | (go_at_call 84;refine (ae SF _ (by first | exact ae HB | exact (ae HB).drew)).mono ?_;rintro e w3 ⟨rfl,hc1⟩;have B3:But [] w2 w3:=(by first | exact hc1 | exact (But.refl _ _).drew.trans' hc1);clear hc1;have k0:=B3.ag a0 (by simp);have k1:=B3.ag a1 (by simp);have k2:=B3.ag a2 (by simp);have k3:=B3.ag a3 (by simp);have l0:=B3.ag b0 (by simp);have l1:=B3.ag b1 (by simp);have l2:=B3.ag b2 (by simp);have l3:=B3.ag b3 (by simp))
  | (go_at_call 105;refine (ae CZ' _).mono ?_;rintro e w5 ⟨rfl,hw5⟩;obtain rfl:=hw5.symm;clear hw5))
 have HB5:Hid (But [] w w4):=(ae HB).trans' B4
 clear B3 B4
 go_wp2
 go_ret
 exact⟨rfl,ae HB5⟩))
end Go.Proofs.YtjlfllhedceigaaGreatDoor
