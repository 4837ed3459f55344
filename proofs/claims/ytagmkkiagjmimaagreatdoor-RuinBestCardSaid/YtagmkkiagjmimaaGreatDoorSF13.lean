/- Two fractions compared, as the Go text o -/
import Derived.Test.YtagmkkiagjmimaaGreatDoorSPh
namespace Go.Proofs.YtagmkkiagjmimaaGreatDoor
set_option linter.unusedVariables false
open Go.Proofs.Tryz
open Go.RowKit
set_option maxHeartbeats 8000000
set_option maxRecDepth 100000
def zbg (x y:Int):Int:=if x<y then -1 else if x=y then 0 else 1
theorem qdt (m n:Nat):zbg (m:Int) (n:Int)=zq m n:=by(
 unfold zbg zq
 rcases Nat.lt_trichotomy m n with h | h | h
 ·rw[if_pos (by omega),if_pos h]
 ·subst h;simp
 ·rw[if_neg (by omega),if_neg (by omega),if_neg (by omega),if_neg (by omega)])
theorem qds (m n:Nat):zbg (-(m:Int)) (-(n:Int))=zq n m:=by(
 unfold zbg zq
 rcases Nat.lt_trichotomy n m with h | h | h
 ·rw[if_pos (by omega),if_pos h]
 ·subst h;simp
 ·rw[if_neg (by omega),if_neg (by omega),if_neg (by omega),if_neg (by omega)])
theorem zpf {x y:Int} (h:x<y):zbg x y=-1:=by unfold zbg;rw[if_pos h]
theorem zpg {x y:Int} (h:y<x):zbg x y=1:=by unfold zbg;rw[if_neg (by omega),if_neg (by omega)]
theorem sign_mul (F:Int) (q:Nat) (hq:0<q):(F<0→F*q<0)∧(F=0→F*q=0)∧(0<F→0<F*q) :=
 ⟨fun h=>Int.mul_neg_of_neg_of_pos h (by omega),fun h=>by rw[h,Int.zero_mul],fun h=>Int.mul_pos h (by omega)⟩
theorem zzq (F G:Int) (p q:Nat) (hp:0<p) (hq:0<q) (h:F.sign≠G.sign):zbg (F*q) (G*p)=zbg F.sign G.sign:=by(
 obtain⟨f1,f2,f3⟩:=sign_mul F q hq
 obtain⟨g1,g2,g3⟩:=sign_mul G p hp
 have s1:=@Int.sign_eq_neg_one_of_neg F
 have s3:=@Int.sign_eq_one_of_pos F
 have t1:=@Int.sign_eq_neg_one_of_neg G
 have t3:=@Int.sign_eq_one_of_pos G
 have s2:F=0→F.sign=0:=fun e=>by rw[e];rfl
 have t2:G=0→G.sign=0:=fun e=>by rw[e];rfl
 generalize F*q=x at *
 generalize G*p=y at *
 generalize F.sign=a at *
 generalize G.sign=b at *
 rcases Int.lt_trichotomy a b with hab | hab | hab
 ·rw[zpf hab,zpf (by omega)]
 ·exact absurd hab h
 ·rw[zpg hab,zpg (by omega)])
theorem zzr (F G:Int) (p q:Nat) (h:F.sign=G.sign) (hF:F<0):zbg (F*q) (G*p)=zq (G.natAbs*p) (F.natAbs*q):=by(
 have hG:G<0:=by
  have:=Int.sign_eq_neg_one_of_neg hF
  rw[h] at this
  exact Int.neg_of_sign_eq_neg_one this
 have e1:F*q=-((F.natAbs*q:Nat):Int):=by
  rw[Int.natCast_mul,← Int.neg_mul];congr 1;omega
 have e2:G*p=-((G.natAbs*p:Nat):Int):=by
  rw[Int.natCast_mul,← Int.neg_mul];congr 1;omega
 rw[e1,e2,qds])
theorem zzs (F G:Int) (p q:Nat) (h:F.sign=G.sign) (hF:¬ F<0):zbg (F*q) (G*p)=zq (F.natAbs*q) (G.natAbs*p):=by(
 have hG:¬ G<0:=by
  intro hG
  have:=Int.sign_eq_neg_one_of_neg hG
  rw[← h] at this
  exact hF (Int.neg_of_sign_eq_neg_one this)
 have e1:F*q=((F.natAbs*q:Nat):Int):=by
  rw[Int.natCast_mul];congr 1;omega
 have e2:G*p=((G.natAbs*p:Nat):Int):=by
  rw[Int.natCast_mul];congr 1;omega
 rw[e1,e2,qdt])
theorem qdq (x y:Int) (w:World) (r:Int) (hr:Hid (r=zbg x y)) :
   Calls prog 127 #[.int .i64 x,.int .i64 y] w fun e w'=>e=.returned (.int .i64 r)∧w'=w:=by(
 rcases Int.lt_trichotomy x y with h | h | h
 ·(
 have e:Hid (r=-1):=by show _=_;rw[ae hr,zpf h]
 clear hr
 go_enter func127,ntmps127
 go_wp2
 go_ret
 exact⟨by rw[ae e];rfl,rfl⟩)
 ·(
 subst h
 have e:Hid (r=0):=by show _=_;rw[ae hr];simp[zbg]
 clear hr
 go_enter func127,ntmps127
 go_wp2
 go_ret
 exact⟨by rw[ae e];rfl,rfl⟩)
 ·(
 have e:Hid (r=1):=by show _=_;rw[ae hr,zpg h]
 clear hr
 have h':¬ x<y:=by omega
 go_enter func127,ntmps127
 go_wp2
 go_ret
 exact⟨by rw[ae e];rfl,rfl⟩))
theorem zis (vf vg:Value) (f g:Rat) (w:World) (hf:am w vf f) (hg:am w vg g) (lf:Len f 33554431) (lg:Len g 33554431) (r:Int) (hr:Hid (r=zbg (f.num*g.den) (g.num*f.den))) :
   Calls prog 58 #[vf,vg] w fun e w'=>e=.returned (.int .i64 r)∧But [] w w':=by(
 have hq1:=den_pos f
 have hq2:=den_pos g
 have SF:Hid (∀ W,But [] w W→Calls prog 99 #[vf] W fun e w'=>e=.returned (.int .i64 f.num.sign)∧But [] W w'):=fun W hb=>o5 vf f W (hf.but hb)
 have SG:Hid (∀ W,But [] w W→Calls prog 99 #[vg] W fun e w'=>e=.returned (.int .i64 g.num.sign)∧But [] W w'):=fun W hb=>o5 vg g W (hg.but hb)
 have CS1:Hid (f.num.sign=g.num.sign→¬ f.num<0→∀ W,But [] w W→Calls prog 128 #[vf,vg] W fun e w'=>e=.returned (.int .i64 r)∧But [] W w'):=fun h1 h2 W hb=>zgv vf vg f g W (hf.but hb) (hg.but hb) lf lg r (by show _=_;rw[ae hr,zzs _ _ _ _ h1 h2])
 have CS2:Hid (f.num.sign=g.num.sign→f.num<0→∀ W,But [] w W→Calls prog 128 #[vg,vf] W fun e w'=>e=.returned (.int .i64 r)∧But [] W w'):=fun h1 h2 W hb=>zgv vg vf g f W (hg.but hb) (hf.but hb) lg lf r (by show _=_;rw[ae hr,zzr _ _ _ _ h1 h2])
 have CZ:Hid (f.num.sign≠g.num.sign→∀ W,Calls prog 127 #[.int .i64 f.num.sign,.int .i64 g.num.sign] W fun e w'=>e=.returned (.int .i64 r)∧w'=W):=fun h1 W=>qdq _ _ W r (by show _=_;rw[ae hr,zzq _ _ _ _ hq1 hq2 h1])
 obtain⟨x1,y1,p1,rfl,-⟩:=hf.agg
 obtain⟨x2,y2,p2,rfl,-⟩:=hg.agg
 clear hf hg lf lg hr hq1 hq2
 obtain⟨W,hW⟩:∃ W,W=((w.alloc (.cells #[.bool (decide (f.num<0)),.int .u64 x1,.int .u64 y1,.pointer p1] 27)).alloc (.cells #[.bool (decide (g.num<0)),.int .u64 x2,.int .u64 y2,.pointer p2] 27)):=⟨_,rfl⟩
 obtain⟨tA,tB,fzb,hB⟩:=nu w W _ _ _ hW
 have fza:∀ j,W.frozen? ⟨w.heap.size,j,none⟩=false:=fun j=>by rw[hW];simp
 have a0:=tA 0
 have a1:=tA 1
 have a2:=tA 2
 have a3:=tA 3
 have b0:=tB 0
 have b1:=tB 1
 have b2:=tB 2
 have b3:=tB 3
 simp only[List.getElem?_toArray,List.getElem?_cons_zero,List.getElem?_cons_succ] at a0 a1 a2 a3 b0 b1 b2 b3
 clear tA tB
 have HW:=af hW
 have HB:=af hB
 clear hW hB
 obtain⟨s1,hs1⟩:∃ s1,s1=decide (f.num<0):=⟨_,rfl⟩
 obtain⟨s2,hs2⟩:∃ s2,s2=decide (g.num<0):=⟨_,rfl⟩
 rw[← hs1] at HW SF CS1 CS2 a0 ⊢
 rw[← hs2] at HW SG CS1 CS2 b0 ⊢
 have HS1:=af hs1
 clear hs1 hs2
 obtain⟨ga,hga⟩:∃ ga,ga=w.heap.size:=⟨_,rfl⟩
 obtain⟨gb,hgb⟩:∃ gb,gb=w.heap.size+1:=⟨_,rfl⟩
 rw[← hga] at a0 a1 a2 a3 fza
 rw[← hgb] at b0 b1 b2 b3 fzb
 have HGA:Hid (w.heap.size≤ga):=by show _≤_;omega
 have HGB:Hid (w.heap.size≤gb):=by show _≤_;omega
 have nab:ga≠gb:=by omega
 have hsz:=And.intro hga hgb
 have HSZ:=af hsz
 clear hga hgb hsz
 by_cases hsig:f.num.sign=g.num.sign
 ·(
 have dn:(g.num.sign != g.num.sign)=false:=by simp
 rw[hsig] at SF
 have CS1':Hid (s1=false→∀ W,But [] w W→Calls prog 128 #[.agg #[.bool s1,.int .u64 x1,.int .u64 y1,.pointer p1],.agg #[.bool s2,.int .u64 x2,.int .u64 y2,.pointer p2]] W fun e w'=>e=.returned (.int .i64 r)∧But [] W w'):=fun e=>ae CS1 hsig (by rw[ae HS1] at e;exact of_decide_eq_false e)
 have CS2':Hid (s1=true→∀ W,But [] w W→Calls prog 128 #[.agg #[.bool s2,.int .u64 x2,.int .u64 y2,.pointer p2],.agg #[.bool s1,.int .u64 x1,.int .u64 y1,.pointer p1]] W fun e w'=>e=.returned (.int .i64 r)∧But [] W w'):=fun e=>ae CS2 hsig (by rw[ae HS1] at e;exact of_decide_eq_true e)
 clear CS1 CS2 CZ hsig HS1
 generalize g.num.sign=sg at *
 go_enter func58,ntmps58
 go_wp2
 rw[← ae HW,← (ae HSZ).2,← (ae HSZ).1]
 clear HW HSZ
 go_region_held (fun w'=>w'.cell? ⟨ga,0,none⟩=some (.bool s1)∧w'.cell? ⟨ga,1,none⟩=some (.int .u64 x1)∧w'.cell? ⟨ga,2,none⟩=some (.int .u64 y1)∧w'.cell? ⟨ga,3,none⟩=some (.pointer p1)∧w'.cell? ⟨gb,0,none⟩=some (.bool s2)∧w'.cell? ⟨gb,1,none⟩=some (.int .u64 x2)∧w'.cell? ⟨gb,2,none⟩=some (.int .u64 y2)∧w'.cell? ⟨gb,3,none⟩=some (.pointer p2)) (go_keep) (first
  | (go_at_call 99;have hchk:=B1;clear hchk;refine (ae SG _ (by first | exact (ae HB).trans' B1 | exact ((ae HB).trans' B1).drew)).mono ?_;rintro e w2 ⟨rfl,hc2⟩;have B2:But [] W w2:=(by first | exact B1.trans' hc2 | exact (B1.drew).trans' hc2);clear hc2;have m0:=B2.ag a0 (by simp);have m1:=B2.ag a1 (by simp);have m2:=B2.ag a2 (by simp);have m3:=B2.ag a3 (by simp);have n0:=B2.ag b0 (by simp);have n1:=B2.ag b1 (by simp);have n2:=B2.ag b2 (by simp);have n3:=B2.ag b3 (by simp))
  | (go_at_call 99;refine (ae SF _ (by first | exact ae HB | exact (ae HB).drew)).mono ?_;rintro e w1 ⟨rfl,hc1⟩;have B1:But [] W w1:=(by first | exact hc1 | exact (But.refl _ _).drew.trans' hc1);clear hc1;have k0:=B1.ag a0 (by simp);have k1:=B1.ag a1 (by simp);have k2:=B1.ag a2 (by simp);have k3:=B1.ag a3 (by simp);have l0:=B1.ag b0 (by simp);have l1:=B1.ag b1 (by simp);have l2:=B1.ag b2 (by simp);have l3:=B1.ag b3 (by simp)))
 have gla:ga<W.heap.size:=ai a0
 have glb:gb<W.heap.size:=ai b0
 replace fza:∀ j,w2.frozen? ⟨ga,j,none⟩=false:=fun j=>(B2.frozen (p:=⟨ga,j,none⟩) gla (by simp)).trans (fza j)
 replace fzb:∀ j,w2.frozen? ⟨gb,j,none⟩=false:=fun j=>(B2.frozen (p:=⟨gb,j,none⟩) glb (by simp)).trans (fzb j)
 replace HB:Hid (But [] w w2):=(ae HB).trans' B2
 clear B1 B2 a0 a1 a2 a3 b0 b1 b2 b3 k0 k1 k2 k3 l0 l1 l2 l3 gla glb
 have a0:=m0
 have a1:=m1
 have a2:=m2
 have a3:=m3
 have b0:=n0
 have b1:=n1
 have b2:=n2
 have b3:=n3
 clear m0 m1 m2 m3 n0 n1 n2 n3
 cases s1
 ·(
 have C1:=af (ae CS1' rfl)
 clear CS1' CS2'
 go_wp2_with fail
 refine (ae C1 _ (ae HB)).mono ?_
 rintro e w3 ⟨rfl,hb3⟩
 have HB3:Hid (But [] w w3):=(ae HB).trans' hb3
 clear hb3
 go_wp2
 go_ret
 exact⟨rfl,ae HB3⟩)
 ·(
 have C2:=af (ae CS2' rfl)
 clear CS1' CS2'
 go_wp2_with fail
 have HBs:=af ((((((((((ae HB).setCell (p:=⟨ga,0,none⟩) (.inr (ae HGA)) (.bool s2)).setCell (p:=⟨ga,1,none⟩) (.inr (ae HGA)) (.int .u64 x2)).setCell (p:=⟨ga,2,none⟩) (.inr (ae HGA)) (.int .u64 y2)).setCell (p:=⟨ga,3,none⟩) (.inr (ae HGA)) (.pointer p2)).setCell (p:=⟨gb,0,none⟩) (.inr (ae HGB)) (.bool true)).setCell (p:=⟨gb,1,none⟩) (.inr (ae HGB)) (.int .u64 x1)).setCell (p:=⟨gb,2,none⟩) (.inr (ae HGB)) (.int .u64 y1)).setCell (p:=⟨gb,3,none⟩) (.inr (ae HGB)) (.pointer p1)))
 refine (ae C2 _ (ae HBs)).mono ?_
 rintro e w3 ⟨rfl,hb3⟩
 have HB3:Hid (But [] w w3):=(ae HBs).trans' hb3
 clear hb3
 go_wp2
 go_ret
 exact⟨rfl,ae HB3⟩))
 ·(
 have dn:(f.num.sign != g.num.sign)=true:=by simp[hsig]
 have CZ':=af (ae CZ hsig)
 clear CS1 CS2 CZ hsig HS1
 generalize f.num.sign=sf at *
 generalize g.num.sign=sg at *
 go_enter func58,ntmps58
 go_wp2
 rw[← ae HW,← (ae HSZ).2,← (ae HSZ).1]
 clear HW HSZ
 go_region_held (fun w'=>w'.cell? ⟨ga,0,none⟩=some (.bool s1)∧w'.cell? ⟨ga,1,none⟩=some (.int .u64 x1)∧w'.cell? ⟨ga,2,none⟩=some (.int .u64 y1)∧w'.cell? ⟨ga,3,none⟩=some (.pointer p1)∧w'.cell? ⟨gb,0,none⟩=some (.bool s2)∧w'.cell? ⟨gb,1,none⟩=some (.int .u64 x2)∧w'.cell? ⟨gb,2,none⟩=some (.int .u64 y2)∧w'.cell? ⟨gb,3,none⟩=some (.pointer p2)) (go_keep) (first
  | (go_at_call 99;have hchk:=B1;clear hchk;refine (ae SG _ (by first | exact (ae HB).trans' B1 | exact ((ae HB).trans' B1).drew)).mono ?_;rintro e w2 ⟨rfl,hc2⟩;have B2:But [] W w2:=(by first | exact B1.trans' hc2 | exact (B1.drew).trans' hc2);clear hc2;have m0:=B2.ag a0 (by simp);have m1:=B2.ag a1 (by simp);have m2:=B2.ag a2 (by simp);have m3:=B2.ag a3 (by simp);have n0:=B2.ag b0 (by simp);have n1:=B2.ag b1 (by simp);have n2:=B2.ag b2 (by simp);have n3:=B2.ag b3 (by simp))
  | (go_at_call 99;refine (ae SF _ (by first | exact ae HB | exact (ae HB).drew)).mono ?_;rintro e w1 ⟨rfl,hc1⟩;have B1:But [] W w1:=(by first | exact hc1 | exact (But.refl _ _).drew.trans' hc1);clear hc1;have k0:=B1.ag a0 (by simp);have k1:=B1.ag a1 (by simp);have k2:=B1.ag a2 (by simp);have k3:=B1.ag a3 (by simp);have l0:=B1.ag b0 (by simp);have l1:=B1.ag b1 (by simp);have l2:=B1.ag b2 (by simp);have l3:=B1.ag b3 (by simp)))
 have gla:ga<W.heap.size:=ai a0
 have glb:gb<W.heap.size:=ai b0
 replace fza:∀ j,w2.frozen? ⟨ga,j,none⟩=false:=fun j=>(B2.frozen (p:=⟨ga,j,none⟩) gla (by simp)).trans (fza j)
 replace fzb:∀ j,w2.frozen? ⟨gb,j,none⟩=false:=fun j=>(B2.frozen (p:=⟨gb,j,none⟩) glb (by simp)).trans (fzb j)
 replace HB:Hid (But [] w w2):=(ae HB).trans' B2
 clear B1 B2 a0 a1 a2 a3 b0 b1 b2 b3 k0 k1 k2 k3 l0 l1 l2 l3 gla glb
 have a0:=m0
 have a1:=m1
 have a2:=m2
 have a3:=m3
 have b0:=n0
 have b1:=n1
 have b2:=n2
 have b3:=n3
 clear m0 m1 m2 m3 n0 n1 n2 n3
 go_wp2
 go_region_held (fun w'=>w'.cell? ⟨ga,0,none⟩=some (.bool s1)∧w'.cell? ⟨ga,1,none⟩=some (.int .u64 x1)∧w'.cell? ⟨ga,2,none⟩=some (.int .u64 y1)∧w'.cell? ⟨ga,3,none⟩=some (.pointer p1)∧w'.cell? ⟨gb,0,none⟩=some (.bool s2)∧w'.cell? ⟨gb,1,none⟩=some (.int .u64 x2)∧w'.cell? ⟨gb,2,none⟩=some (.int .u64 y2)∧w'.cell? ⟨gb,3,none⟩=some (.pointer p2)) (go_keep) (first
  | (go_at_call 99;have hchk:=B3;clear hchk;refine (ae SG _ (by first | exact (ae HB).trans' B3 | exact ((ae HB).trans' B3).drew)).mono ?_;rintro e w4 ⟨rfl,hc2⟩;have B4:But [] w2 w4:=(by first | exact B3.trans' hc2 | exact (B3.drew).trans' hc2);clear hc2;have m0:=B4.ag a0 (by simp);have m1:=B4.ag a1 (by simp);have m2:=B4.ag a2 (by simp);have m3:=B4.ag a3 (by simp);have n0:=B4.ag b0 (by simp);have n1:=B4.ag b1 (by simp);have n2:=B4.ag b2 (by simp);have n3:=B4.ag b3 (by simp))
  | (go_at_call 99;refine (ae SF _ (by first | exact ae HB | exact (ae HB).drew)).mono ?_;rintro e w3 ⟨rfl,hc1⟩;have B3:But [] w2 w3:=(by first | exact hc1 | exact (But.refl _ _).drew.trans' hc1);clear hc1;have k0:=B3.ag a0 (by simp);have k1:=B3.ag a1 (by simp);have k2:=B3.ag a2 (by simp);have k3:=B3.ag a3 (by simp);have l0:=B3.ag b0 (by simp);have l1:=B3.ag b1 (by simp);have l2:=B3.ag b2 (by simp);have l3:=B3.ag b3 (by simp))
  | (go_at_call 127;refine (ae CZ' _).mono ?_;rintro e w5 ⟨rfl,hw5⟩;obtain rfl:=hw5.symm;clear hw5))
 have HB5:Hid (But [] w w4):=(ae HB).trans' B4
 clear B3 B4
 go_wp2
 go_ret
 exact⟨rfl,ae HB5⟩))
def fl (f:Rat):Int:=f.num/(f.den:Int)
theorem qde (a q:Nat) (hq:0<q) (hm:a%q≠0):(-(a:Int))/(q:Int)=-(((a/q:Nat):Int)+1):=by(
 have h1:=Nat.div_add_mod a q
 have h2:=Nat.mod_lt a hq
 have e:(-(a:Int))=(q:Int)*(-(((a/q:Nat):Int)+1))+((q-a%q:Nat):Int):=by
  have h3:(a:Int)=(q:Int)*((a/q:Nat):Int)+((a%q:Nat):Int):=by
   rw[← Int.natCast_mul,← Int.natCast_add,h1]
  rw[Int.ofNat_sub (Nat.le_of_lt h2)]
  generalize ((a/q:Nat):Int)=d at *
  generalize ((a%q:Nat):Int)=m at *
  rw[h3,Int.mul_neg,Int.mul_add]
  omega
 have:=(Int.ediv_emod_unique (a:=-(a:Int)) (b:=(q:Int)) (r:=((q-a%q:Nat):Int)) (q:=-(((a/q:Nat):Int)+1)) (by omega)).2 ⟨by omega,by omega,by omega⟩
 exact this.1)
theorem zwq {f:Rat} (h:f.den≠1):f.num.natAbs%f.den≠0:=by(
 intro e
 have h1:=f.reduced
 have h2:f.den ∣ f.num.natAbs:=Nat.dvd_of_mod_eq_zero e
 have h3:Nat.gcd f.num.natAbs f.den=f.den:=Nat.gcd_eq_right h2
 rw[Nat.Coprime] at h1
 omega)
theorem zgp (f:Rat) (h:f.den=1):fl f=f.num∧((fl f:Int):Rat)=f:=by(
 have e:fl f=f.num:=by unfold fl;rw[h];simp
 refine⟨e,?_⟩
 rw[e]
 apply Rat.ext
 ·simp
 ·simp[h])
theorem zum (f:Rat) (h:f.den≠1):fl f=sgn (decide (f.num<0)) (if f.num<0 then f.num.natAbs/f.den+1 else f.num.natAbs/f.den):=by(
 have hq:=den_pos f
 unfold fl
 by_cases hn:f.num<0
 ·have e:f.num=-((f.num.natAbs:Nat):Int):=by omega
  rw[if_pos hn,decide_eq_true hn,e,Int.natAbs_neg,Int.natAbs_natCast,qde _ _ hq (zwq h)]
  simp[sgn]
 ·have e:f.num=((f.num.natAbs:Nat):Int):=by omega
  rw[if_neg hn,decide_eq_false hn,e,Int.natAbs_natCast]
  simp[sgn])
theorem zfd (v:Value) (f:Rat) (w:World) (hf:am w v f) (hl:(wd 18446744073709551616 f.den).length<2147483648) (r:Bool) (hr:Hid (r=decide (f.den=1))) :
   Calls prog 182 #[v] w fun e w'=>e=.returned (.bool r)∧But [] w w':=by(
 have hq0:=den_pos f
 rcases hf with ⟨hp,hq,rfl⟩|⟨hbig,b,v1,v2,rfl,hc0,hc1,hs1,hs2⟩
 ·(
 generalize decide (f.num<0)=s
 generalize f.num.natAbs=p at *
 generalize f.den=q at *
 have er:Hid (r=(((q:Int)-1)==0)):=by
  show _=_
  rw[ae hr,Bool.eq_iff_iff,decide_eq_true_iff,beq_iff_eq]
  omega
 have h0:(0:Int)≤(q:Int)-1:=by omega
 have h1:(q:Int)-1<18446744073709551616:=by omega
 generalize (q:Int)-1=z at *
 clear hr hl hq hq0
 go_enter func182,ntmps182
 go_wp2
 go_ret
 exact⟨by rw[ae er];rfl,(But.refl _ _).alloc _⟩)
 ·(
 have ON:Hid (∀ W,But [] w W→Calls prog 64 #[v2] W fun e w'=>e=.returned (.bool r)∧w'=W):=fun W hb=>dm v2 _ W (hs2.ah hb) hl r hr
 obtain⟨a2,e2,rfl,-,-⟩:=hs2
 clear hs1 hbig hr hl hq0
 generalize (wd 18446744073709551616 f.den).length=n2 at *
 generalize decide (f.num<0)=s
 have hbl:b<w.heap.size:=ai hc0
 clear hc0
 go_enter func182,ntmps182
 go_wp2_with fail
 refine (ae ON _ ((But.refl _ _).alloc _)).mono ?_
 rintro e w1 ⟨rfl,hw⟩
 obtain rfl:=hw.symm
 clear hw
 go_wp2
 go_ret
 exact⟨rfl,(But.refl _ _).alloc _⟩))
theorem qiy {W:World} {n:Int} {s:Bool} {p:Nat} (hn:n=sgn s p) (hp:p < 18446744073709551616) (hs:s=true→p≠0):am W (.agg #[.bool s,.int .u64 (p:Int),.int .u64 0,.pointer none]) ((n:Int):Rat):=by(
 have h1:((n:Int):Rat).num=n:=by simp
 have h2:((n:Int):Rat).den=1:=by simp
 unfold am
 rw[h1,h2,hn,jd,zcy]
 refine .inl ⟨hp,by omega,?_⟩
 cases s
 ·rfl
 ·have:=hs rfl
  simp[this])
theorem zse (f:Rat) (w:World) (hp:f.num.natAbs < 18446744073709551616) (hq:f.den < 18446744073709551616) :
   Calls prog 129 #[.agg #[.bool (decide (f.num<0)),.int .u64 (f.num.natAbs:Int),.int .u64 ((f.den:Int)-1),.pointer none]] w fun e w'=>∃ v',e=.returned v'∧am w' v' ((fl f:Int):Rat)∧But [] w w':=by(
 have hq0:=den_pos f
 have hfa:am w (.agg #[.bool (decide (f.num<0)),.int .u64 (f.num.natAbs:Int),.int .u64 ((f.den:Int)-1),.pointer none]) f:=.inl ⟨hp,hq,rfl⟩
 have WH:=af (fun W (hb:But [] w W)=>zfd _ f W (hfa.but hb) (by have:=aj (B:=18446744073709551616) (by omega) f.den 1 (by rw[Nat.pow_one];exact hq);omega) (decide (f.den=1)) rfl)
 by_cases h1:f.den=1
 ·(
 have e1:decide (f.den=1)=true:=decide_eq_true h1
 rw[e1] at WH
 have FIN:Hid (∀ W,am W (.agg #[.bool (decide (f.num<0)),.int .u64 (f.num.natAbs:Int),.int .u64 ((f.den:Int)-1),.pointer none]) ((fl f:Int):Rat)):=fun W=>by rw[(zgp f h1).2];exact .inl ⟨hp,hq,rfl⟩
 clear hfa e1 h1
 generalize decide (f.num<0)=s at *
 generalize f.num.natAbs=p at *
 generalize (f.den:Int)-1=z at *
 obtain⟨W,hW⟩:∃ W,W=((w.alloc (.cells #[.bool s,.int .u64 (p:Int),.int .u64 z,.pointer none] 27)).alloc (.cells #[.bool false,.int .u64 0,.int .u64 0,.pointer none] 27)):=⟨_,rfl⟩
 obtain⟨tA,tC,fz,hB⟩:=nu w W _ _ _ hW
 have a0:=tA 0
 have a1:=tA 1
 have a2:=tA 2
 have a3:=tA 3
 have r0:=tC 0
 have r1:=tC 1
 have r2:=tC 2
 have r3:=tC 3
 simp only[List.getElem?_toArray,List.getElem?_cons_zero,List.getElem?_cons_succ] at a0 a1 a2 a3 r0 r1 r2 r3
 clear tA tC
 have HW:=af hW
 have HB:=af hB
 clear hW hB
 go_enter func129,ntmps129
 go_wp2_with fail
 rw[← ae HW]
 obtain⟨ga,hga⟩:∃ ga,ga=w.heap.size:=⟨_,rfl⟩
 obtain⟨gr,hgr⟩:∃ gr,gr=w.heap.size+1:=⟨_,rfl⟩
 rw[← hga] at a0 a1 a2 a3
 rw[← hgr] at r0 r1 r2 r3 fz
 rw[← hgr,← hga]
 have HGR:Hid (w.heap.size≤gr):=by show _≤_;omega
 have nga:ga≠gr:=by omega
 clear hga hgr HW
 have grl:gr<W.heap.size:=ai r0
 refine (ae WH _ (ae HB)).mono ?_
 rintro e w1 ⟨rfl,hb1⟩
 have uf:∀ j,w1.frozen? ⟨gr,j,none⟩=false:=fun j=>(hb1.frozen (p:=⟨gr,j,none⟩) grl (by simp)).trans (fz j)
 have m0:=hb1.ag a0 (by simp)
 have m1:=hb1.ag a1 (by simp)
 have m2:=hb1.ag a2 (by simp)
 have m3:=hb1.ag a3 (by simp)
 have u0:=hb1.ag r0 (by simp)
 have u1:=hb1.ag r1 (by simp)
 have u2:=hb1.ag r2 (by simp)
 have u3:=hb1.ag r3 (by simp)
 have HB1:Hid (But [] w w1):=(ae HB).trans' hb1
 clear hb1 a0 a1 a2 a3 r0 r1 r2 r3 fz grl
 go_wp2
 have hBf:=((((ae HB1).setCell (p:=⟨gr,0,none⟩) (.inr (ae HGR)) (.bool s)).setCell (p:=⟨gr,1,none⟩) (.inr (ae HGR)) (.int .u64 (p:Int))).setCell (p:=⟨gr,2,none⟩) (.inr (ae HGR)) (.int .u64 z)).setCell (p:=⟨gr,3,none⟩) (.inr (ae HGR)) (.pointer none)
 exact bodyPost_ret (v:=.agg #[.bool s,.int .u64 (p:Int),.int .u64 z,.pointer none]) (by simp[results,results129,go_sem,u0,u1,u2,u3]) rfl ⟨_,rfl,ae FIN _,hBf⟩)
 ·(
 have e1:decide (f.den=1)=false:=decide_eq_false h1
 rw[e1] at WH
 have hfl:=zum f h1
 obtain⟨d,hd⟩:∃ d,d=f.num.natAbs/f.den:=⟨_,rfl⟩
 have hdq:d≤f.num.natAbs/2:=by rw[hd];exact Nat.div_le_div_left (by omega) (by omega)
 rw[← hd] at hfl
 have hd2:d<9223372036854775808:=by omega
 have FIN:Hid (∀ W,am W (.agg #[.bool (decide (f.num<0)),.int .u64 (((if f.num<0 then d+1 else d:Nat)):Int),.int .u64 0,.pointer none]) ((fl f:Int):Rat)):=fun W=>qiy hfl (by split <;> omega) (fun e=>by rw[if_pos (of_decide_eq_true e)];omega)
 have UN:=af (fun W=>iy (decide (f.num<0)) f.num.natAbs f.den hq hq0 W)
 have D1:(f.num.natAbs:Int)/(f.den:Int)=(d:Int):=by rw[hd];exact (Int.natCast_ediv _ _).symm
 have T1:(f.num.natAbs:Int).tdiv (f.den:Int)=(d:Int):=by rw[Int.tdiv_eq_ediv_of_nonneg (by omega)];exact D1
 have W1:IntKind.u64.wrap (d:Int)=(d:Int):=by rw[IntKind.wrap_u64];omega
 have z1:((f.den:Int)==0)=false:=beq_eq_false_iff_ne.2 (by omega)
 clear hfa e1 hfl hdq hd
 by_cases hn:f.num<0
 ·(
 rw[if_pos hn,decide_eq_true hn] at FIN
 rw[decide_eq_true hn] at WH UN ⊢
 have OW:=af (fun W=>zbq true (d+1) 1 (by omega) (by omega) (by omega) true (by show true=_;simp) W)
 clear hn h1
 generalize f.num.natAbs=p at *
 generalize hqq:f.den=q at *
 clear hqq
 obtain⟨W,hW⟩:∃ W,W=((w.alloc (.cells #[.bool true,.int .u64 (p:Int),.int .u64 ((q:Int)-1),.pointer none] 27)).alloc (.cells #[.bool false,.int .u64 0,.int .u64 0,.pointer none] 27)):=⟨_,rfl⟩
 obtain⟨tA,tC,fz,hB⟩:=nu w W _ _ _ hW
 have a0:=tA 0
 have a1:=tA 1
 have a2:=tA 2
 have a3:=tA 3
 have r0:=tC 0
 have r1:=tC 1
 have r2:=tC 2
 have r3:=tC 3
 simp only[List.getElem?_toArray,List.getElem?_cons_zero,List.getElem?_cons_succ] at a0 a1 a2 a3 r0 r1 r2 r3
 clear tA tC
 have HW:=af hW
 have HB:=af hB
 clear hW hB
 go_enter func129,ntmps129
 go_wp2_with fail
 rw[← ae HW]
 obtain⟨ga,hga⟩:∃ ga,ga=w.heap.size:=⟨_,rfl⟩
 obtain⟨gr,hgr⟩:∃ gr,gr=w.heap.size+1:=⟨_,rfl⟩
 rw[← hga] at a0 a1 a2 a3
 rw[← hgr] at r0 r1 r2 r3 fz
 rw[← hgr,← hga]
 have HGR:Hid (w.heap.size≤gr):=by show _≤_;omega
 have nga:ga≠gr:=by omega
 clear hga hgr HW
 have grl:gr<W.heap.size:=ai r0
 refine (ae WH _ (ae HB)).mono ?_
 rintro e w1 ⟨rfl,hb1⟩
 have uf:∀ j,w1.frozen? ⟨gr,j,none⟩=false:=fun j=>(hb1.frozen (p:=⟨gr,j,none⟩) grl (by simp)).trans (fz j)
 have m0:=hb1.ag a0 (by simp)
 have m1:=hb1.ag a1 (by simp)
 have m2:=hb1.ag a2 (by simp)
 have m3:=hb1.ag a3 (by simp)
 have u0:=hb1.ag r0 (by simp)
 have u1:=hb1.ag r1 (by simp)
 have u2:=hb1.ag r2 (by simp)
 have u3:=hb1.ag r3 (by simp)
 have HB1:Hid (But [] w w1):=(ae HB).trans' hb1
 clear hb1 a0 a1 a2 a3 r0 r1 r2 r3 fz grl
 go_wp2_with fail
 go_region_held (fun w'=>w'.cell? ⟨ga,0,none⟩=some (.bool true)∧w'.cell? ⟨ga,1,none⟩=some (.int .u64 (p:Int))∧w'.cell? ⟨ga,2,none⟩=some (.int .u64 ((q:Int)-1))∧w'.cell? ⟨ga,3,none⟩=some (.pointer none)) (go_keep) (first
  | (go_at_call 140;refine (ae UN _).mono ?_;rintro e wu1 ⟨rfl,hcu1⟩;have Bu1:But [] w1 wu1:=(by first | exact hcu1 | exact (But.refl _ _).drew.trans' hcu1);clear hcu1;have m0_u1:=Bu1.ag m0 (by simp);have m1_u1:=Bu1.ag m1 (by simp);have m2_u1:=Bu1.ag m2 (by simp);have m3_u1:=Bu1.ag m3 (by simp)))
 have HB2:Hid (But [] w wu1):=(ae HB1).trans' Bu1
 have gl2:gr<w1.heap.size:=ai u0
 have vf:∀ j,wu1.frozen? ⟨gr,j,none⟩=false:=fun j=>(Bu1.frozen (p:=⟨gr,j,none⟩) gl2 (by simp)).trans (uf j)
 have v0:=Bu1.ag u0 (by simp)
 have v1:=Bu1.ag u1 (by simp)
 have v2:=Bu1.ag u2 (by simp)
 have v3:=Bu1.ag u3 (by simp)
 clear Bu1 m0 m1 m2 m3 u0 u1 u2 u3 uf gl2 UN
 go_wp2_with fail
 refine (ae OW _).mono ?_
 rintro e w3 ⟨rfl,hb3⟩
 have gl3:gr<wu1.heap.size:=ai v0
 have xf:∀ j,w3.frozen? ⟨gr,j,none⟩=false:=fun j=>(hb3.frozen (p:=⟨gr,j,none⟩) gl3 (by simp)).trans (vf j)
 have x0:=hb3.ag v0 (by simp)
 have x1:=hb3.ag v1 (by simp)
 have x2:=hb3.ag v2 (by simp)
 have x3:=hb3.ag v3 (by simp)
 have HB3:Hid (But [] w w3):=(ae HB2).trans' hb3
 clear hb3 v0 v1 v2 v3 vf gl3
 go_wp2
 have hBf:=((((ae HB3).setCell (p:=⟨gr,0,none⟩) (.inr (ae HGR)) (.bool true)).setCell (p:=⟨gr,1,none⟩) (.inr (ae HGR)) (.int .u64 ((d+1:Nat):Int))).setCell (p:=⟨gr,2,none⟩) (.inr (ae HGR)) (.int .u64 0)).setCell (p:=⟨gr,3,none⟩) (.inr (ae HGR)) (.pointer none)
 exact bodyPost_ret (v:=.agg #[.bool true,.int .u64 ((d+1:Nat):Int),.int .u64 0,.pointer none]) (by simp[results,results129,go_sem,x0,x1,x2,x3]) rfl ⟨_,rfl,ae FIN _,hBf⟩)
 ·(
 rw[if_neg hn,decide_eq_false hn] at FIN
 rw[decide_eq_false hn] at WH UN ⊢
 have OW:=af (fun W=>zbq false d 1 (by omega) (by omega) (by omega) false (by show false=_;simp) W)
 clear hn h1
 generalize f.num.natAbs=p at *
 generalize hqq:f.den=q at *
 clear hqq
 obtain⟨W,hW⟩:∃ W,W=((w.alloc (.cells #[.bool false,.int .u64 (p:Int),.int .u64 ((q:Int)-1),.pointer none] 27)).alloc (.cells #[.bool false,.int .u64 0,.int .u64 0,.pointer none] 27)):=⟨_,rfl⟩
 obtain⟨tA,tC,fz,hB⟩:=nu w W _ _ _ hW
 have a0:=tA 0
 have a1:=tA 1
 have a2:=tA 2
 have a3:=tA 3
 have r0:=tC 0
 have r1:=tC 1
 have r2:=tC 2
 have r3:=tC 3
 simp only[List.getElem?_toArray,List.getElem?_cons_zero,List.getElem?_cons_succ] at a0 a1 a2 a3 r0 r1 r2 r3
 clear tA tC
 have HW:=af hW
 have HB:=af hB
 clear hW hB
 go_enter func129,ntmps129
 go_wp2_with fail
 rw[← ae HW]
 obtain⟨ga,hga⟩:∃ ga,ga=w.heap.size:=⟨_,rfl⟩
 obtain⟨gr,hgr⟩:∃ gr,gr=w.heap.size+1:=⟨_,rfl⟩
 rw[← hga] at a0 a1 a2 a3
 rw[← hgr] at r0 r1 r2 r3 fz
 rw[← hgr,← hga]
 have HGR:Hid (w.heap.size≤gr):=by show _≤_;omega
 have nga:ga≠gr:=by omega
 clear hga hgr HW
 have grl:gr<W.heap.size:=ai r0
 refine (ae WH _ (ae HB)).mono ?_
 rintro e w1 ⟨rfl,hb1⟩
 have uf:∀ j,w1.frozen? ⟨gr,j,none⟩=false:=fun j=>(hb1.frozen (p:=⟨gr,j,none⟩) grl (by simp)).trans (fz j)
 have m0:=hb1.ag a0 (by simp)
 have m1:=hb1.ag a1 (by simp)
 have m2:=hb1.ag a2 (by simp)
 have m3:=hb1.ag a3 (by simp)
 have u0:=hb1.ag r0 (by simp)
 have u1:=hb1.ag r1 (by simp)
 have u2:=hb1.ag r2 (by simp)
 have u3:=hb1.ag r3 (by simp)
 have HB1:Hid (But [] w w1):=(ae HB).trans' hb1
 clear hb1 a0 a1 a2 a3 r0 r1 r2 r3 fz grl
 go_wp2_with fail
 go_region_held (fun w'=>w'.cell? ⟨ga,0,none⟩=some (.bool false)∧w'.cell? ⟨ga,1,none⟩=some (.int .u64 (p:Int))∧w'.cell? ⟨ga,2,none⟩=some (.int .u64 ((q:Int)-1))∧w'.cell? ⟨ga,3,none⟩=some (.pointer none)) (go_keep) (first
  | (go_at_call 140;refine (ae UN _).mono ?_;rintro e wu1 ⟨rfl,hcu1⟩;have Bu1:But [] w1 wu1:=(by first | exact hcu1 | exact (But.refl _ _).drew.trans' hcu1);clear hcu1;have m0_u1:=Bu1.ag m0 (by simp);have m1_u1:=Bu1.ag m1 (by simp);have m2_u1:=Bu1.ag m2 (by simp);have m3_u1:=Bu1.ag m3 (by simp)))
 have HB2:Hid (But [] w wu1):=(ae HB1).trans' Bu1
 have gl2:gr<w1.heap.size:=ai u0
 have vf:∀ j,wu1.frozen? ⟨gr,j,none⟩=false:=fun j=>(Bu1.frozen (p:=⟨gr,j,none⟩) gl2 (by simp)).trans (uf j)
 have v0:=Bu1.ag u0 (by simp)
 have v1:=Bu1.ag u1 (by simp)
 have v2:=Bu1.ag u2 (by simp)
 have v3:=Bu1.ag u3 (by simp)
 clear Bu1 m0 m1 m2 m3 u0 u1 u2 u3 uf gl2 UN
 go_wp2_with fail
 refine (ae OW _).mono ?_
 rintro e w3 ⟨rfl,hb3⟩
 have gl3:gr<wu1.heap.size:=ai v0
 have xf:∀ j,w3.frozen? ⟨gr,j,none⟩=false:=fun j=>(hb3.frozen (p:=⟨gr,j,none⟩) gl3 (by simp)).trans (vf j)
 have x0:=hb3.ag v0 (by simp)
 have x1:=hb3.ag v1 (by simp)
 have x2:=hb3.ag v2 (by simp)
 have x3:=hb3.ag v3 (by simp)
 have HB3:Hid (But [] w w3):=(ae HB2).trans' hb3
 clear hb3 v0 v1 v2 v3 vf gl3
 go_wp2
 have hBf:=((((ae HB3).setCell (p:=⟨gr,0,none⟩) (.inr (ae HGR)) (.bool false)).setCell (p:=⟨gr,1,none⟩) (.inr (ae HGR)) (.int .u64 (d:Int))).setCell (p:=⟨gr,2,none⟩) (.inr (ae HGR)) (.int .u64 0)).setCell (p:=⟨gr,3,none⟩) (.inr (ae HGR)) (.pointer none)
 exact bodyPost_ret (v:=.agg #[.bool false,.int .u64 (d:Int),.int .u64 0,.pointer none]) (by simp[results,results129,go_sem,x0,x1,x2,x3]) rfl ⟨_,rfl,ae FIN _,hBf⟩)))
end Go.Proofs.YtagmkkiagjmimaaGreatDoor
