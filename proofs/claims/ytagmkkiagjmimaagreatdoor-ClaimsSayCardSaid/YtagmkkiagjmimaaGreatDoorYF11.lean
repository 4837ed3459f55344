/- The first of two numbers that is not nou -/
import Derived.Test.YtagmkkiagjmimaaGreatDoorYF5
import Derived.Test.YtagmkkiagjmimaaGreatDoorYN30
import Derived.Test.YtagmkkiagjmimaaGreatDoorYPh
namespace Go.Proofs.YtagmkkiagjmimaaGreatDoor
set_option linter.unusedVariables false
open Go.Proofs.Tryz
open Go.RowKit
set_option maxHeartbeats 8000000
set_option maxRecDepth 100000
theorem qbg (b:Nat) (x y:Int) (w:World) (hx:w.cell? ⟨b,0,none⟩=some (.int .i64 x)) (hy:w.cell? ⟨b,1,none⟩=some (.int .i64 y)) (r:Int) (hr:Hid (r=if x≠0 then x else y)) :
   Calls prog 179 #[.slice (some ⟨b,0,none⟩) 2 2] w fun e w'=>e=.returned (.int .i64 r)∧But [] w w':=by(
 by_cases h0:x=0
 ·(
 subst h0
 by_cases h1:y=0
 ·(
 subst h1
 have er:Hid (r=0):=by show _=_;rw[ae hr];simp
 clear hr
 go_enter func179,ntmps179
 go_wp2
 refine wp_loop_rounds 3 ?_
 rw[rounds_succ]
 go_wp2
 rw[rounds_succ]
 go_wp2
 rw[rounds_succ]
 go_wp2
 go_ret
 exact⟨by rw[ae er];rfl,But.refl _ _⟩)
 ·(
 have er:Hid (r=y):=by show _=_;rw[ae hr];simp
 have n1:(y != 0)=true:=by simp[h1]
 clear hr
 go_enter func179,ntmps179
 go_wp2
 refine wp_loop_rounds 2 ?_
 rw[rounds_succ]
 go_wp2
 rw[rounds_succ]
 go_wp2
 go_ret
 exact⟨by rw[ae er];rfl,But.refl _ _⟩))
 ·(
 have er:Hid (r=x):=by show _=_;rw[ae hr];simp[h0]
 have n1:(x != 0)=true:=by simp[h0]
 clear hr
 go_enter func179,ntmps179
 go_wp2
 refine wp_loop_rounds 1 ?_
 rw[rounds_succ]
 go_wp2
 go_ret
 exact⟨by rw[ae er];rfl,But.refl _ _⟩))
theorem qid (h1 l1 h2 l2:Nat) (b1:l1 < 18446744073709551616) (b2:l2 < 18446744073709551616):zy (l1 + 18446744073709551616*h1) (l2 + 18446744073709551616*h2)=if zy h1 h2≠0 then zy h1 h2 else zy l1 l2:=by(
 rcases Nat.lt_trichotomy h1 h2 with h | h | h
 ·rw[u6 h,u6 (by omega)];simp
 ·(
 subst h
 have e:zy h1 h1=0:=by simp[zy]
 rw[e,if_neg (by simp)]
 rcases Nat.lt_trichotomy l1 l2 with h | h | h
 ·rw[u6 h,u6 (by omega)]
 ·subst h;simp[zy]
 ·rw[zdp h,zdp (by omega)])
 ·rw[zdp h,zdp (by omega)];simp)
theorem zmz (s1 s2:Bool) (a b c d:Nat) (ha:a < 18446744073709551616) (hb:b < 18446744073709551616) (hc:c < 18446744073709551616) (hd:d < 18446744073709551616) (hb0:0<b) (hd0:0<d) (w:World) (r:Int) (hr:Hid (r=zy (a*d) (c*b))) :
   Calls prog 128 #[.agg #[.bool s1,.int .u64 (a:Int),.int .u64 ((b:Int)-1),.pointer none],.agg #[.bool s2,.int .u64 (c:Int),.int .u64 ((d:Int)-1),.pointer none]] w fun e w'=>e=.returned (.int .i64 r)∧But [] w w':=by(
 have U1:=af (fun W=>o6 s1 a b hb hb0 W)
 have U2:=af (fun W=>o6 s2 c d hd hd0 W)
 obtain⟨lo1,hi1,hlo1,hhi1,e1⟩:=bp a d 0 ha hd (by omega)
 obtain⟨lo2,hi2,hlo2,hhi2,e2⟩:=bp c b 0 hc hb (by omega)
 rw[Nat.add_zero] at e1 e2
 have M1:=af (fun W=>yo a d hi1 lo1 ha hd hlo1 e1 W)
 have M2:=af (fun W=>yo c b hi2 lo2 hc hb hlo2 e2 W)
 have hrr:Hid (r=if zy hi1 hi2≠0 then zy hi1 hi2 else zy lo1 lo2):=by show _=_;rw[ae hr,e1,e2,qid _ _ _ _ hlo1 hlo2]
 have C1:=af (fun W=>zif hi1 hi2 W (zy hi1 hi2) rfl)
 have C2:=af (fun W=>zif lo1 lo2 W (zy lo1 lo2) rfl)
 clear hr e1 e2
 generalize zy hi1 hi2=z1 at *
 generalize zy lo1 lo2=z2 at *
 obtain⟨W,hW⟩:∃ W,W=((w.alloc (.cells #[.bool s1,.int .u64 (a:Int),.int .u64 ((b:Int)-1),.pointer none] 27)).alloc (.cells #[.bool s2,.int .u64 (c:Int),.int .u64 ((d:Int)-1),.pointer none] 27)):=⟨_,rfl⟩
 obtain⟨tA,tB,-,hB⟩:=zgz w W _ _ _ hW
 have x0:=tA 0
 have x1:=tA 1
 have x2:=tA 2
 have x3:=tA 3
 have y0:=tB 0
 have y1:=tB 1
 have y2:=tB 2
 have y3:=tB 3
 simp only[List.getElem?_toArray,List.getElem?_cons_zero,List.getElem?_cons_succ] at x0 x1 x2 x3 y0 y1 y2 y3
 clear tA tB
 have HW:=af hW
 have HB:=af hB
 clear hW hB
 go_enter func128,ntmps128
 go_wp2
 rw[← ae HW]
 obtain⟨ga,hga⟩:∃ ga,ga=w.heap.size:=⟨_,rfl⟩
 obtain⟨gb,hgb⟩:∃ gb,gb=w.heap.size+1:=⟨_,rfl⟩
 rw[← hga] at x0 x1 x2 x3
 rw[← hgb] at y0 y1 y2 y3
 rw[← hgb,← hga]
 clear hga hgb HW
 go_region_held (fun w'=>w'.cell? ⟨ga,0,none⟩=some (.bool s1)∧w'.cell? ⟨ga,1,none⟩=some (.int .u64 (a:Int))∧w'.cell? ⟨ga,2,none⟩=some (.int .u64 ((b:Int)-1))∧w'.cell? ⟨ga,3,none⟩=some (.pointer none)∧w'.cell? ⟨gb,0,none⟩=some (.bool s2)∧w'.cell? ⟨gb,1,none⟩=some (.int .u64 (c:Int))∧w'.cell? ⟨gb,2,none⟩=some (.int .u64 ((d:Int)-1))∧w'.cell? ⟨gb,3,none⟩=some (.pointer none)) (go_keep) (first
  | (go_at_call 140;refine (ae U2 _).mono ?_;rintro e w1 ⟨rfl,hb1⟩;have B1:But [] W w1:=(by first | exact hb1 | exact (But.refl _ _).drew.trans' hb1);have k0:=B1.ag x0 (by simp);have k1:=B1.ag x1 (by simp);have k2:=B1.ag x2 (by simp);have k3:=B1.ag x3 (by simp);have l0:=B1.ag y0 (by simp);have l1:=B1.ag y1 (by simp);have l2:=B1.ag y2 (by simp);have l3:=B1.ag y3 (by simp))
  | (go_at_call 178;refine (ae M1 _).mono ?_;rintro e w2 ⟨rfl,hw2⟩;obtain rfl:=hw2.symm;clear hw2))
 have HB1:Hid (But [] w w1):=(ae HB).trans' B1
 clear B1 hb1 x0 x1 x2 x3 y0 y1 y2 y3 HB
 go_wp2
 go_region_held (fun w'=>w'.cell? ⟨ga,0,none⟩=some (.bool s1)∧w'.cell? ⟨ga,1,none⟩=some (.int .u64 (a:Int))∧w'.cell? ⟨ga,2,none⟩=some (.int .u64 ((b:Int)-1))∧w'.cell? ⟨ga,3,none⟩=some (.pointer none)∧w'.cell? ⟨gb,0,none⟩=some (.bool s2)∧w'.cell? ⟨gb,1,none⟩=some (.int .u64 (c:Int))∧w'.cell? ⟨gb,2,none⟩=some (.int .u64 ((d:Int)-1))∧w'.cell? ⟨gb,3,none⟩=some (.pointer none)) (go_keep) (first
  | (go_at_call 140;refine (ae U1 _).mono ?_;rintro e w3 ⟨rfl,hb3⟩;have B3:But [] w1 w3:=(by first | exact hb3 | exact (But.refl _ _).drew.trans' hb3);have m0:=B3.ag k0 (by simp);have m1:=B3.ag k1 (by simp);have m2:=B3.ag k2 (by simp);have m3:=B3.ag k3 (by simp);have n0:=B3.ag l0 (by simp);have n1:=B3.ag l1 (by simp);have n2:=B3.ag l2 (by simp);have n3:=B3.ag l3 (by simp))
  | (go_at_call 178;refine (ae M2 _).mono ?_;rintro e w4 ⟨rfl,hw4⟩;obtain rfl:=hw4.symm;clear hw4))
 have HB3:Hid (But [] w w3):=(ae HB1).trans' B3
 clear B3 hb3 k0 k1 k2 k3 l0 l1 l2 l3 m0 m1 m2 m3 n0 n1 n2 n3 HB1
 go_wp2_with fail
 refine (ae C1 _).mono ?_
 rintro e w5 ⟨rfl,hw5⟩
 obtain rfl:=hw5.symm
 clear hw5
 go_wp2_with fail
 refine (ae C2 _).mono ?_
 rintro e w5 ⟨rfl,hw5⟩
 obtain rfl:=hw5.symm
 clear hw5
 go_wp2_with fail
 refine (qbg w3.heap.size z1 z2 _ (by simp) (by simp) r hrr).mono ?_
 rintro e w6 ⟨rfl,hb6⟩
 have HB6:Hid (But [] w w6):=((ae HB3).alloc _).trans' hb6
 clear hb6
 go_wp2
 go_ret
 exact⟨rfl,ae HB6⟩)
theorem zih (vf vg:Value) (f g:Rat) (w:World) (hf:aq w vf f) (hg:aq w vg g) (lf:Len f 33554431) (lg:Len g 33554431) (r:Int) (hr:Hid (r=zy (f.num.natAbs*g.den) (g.num.natAbs*f.den))) :
   Calls prog 128 #[vf,vg] w fun e w'=>e=.returned (.int .i64 r)∧But [] w w':=by(
 have hq1:=den_pos f
 have hq2:=den_pos g
 have NF:Hid (∀ W,But [] w W→Calls prog 62 #[vf] W fun e w'=>∃ v1 v2,e=.returned (.tuple #[v1,v2])∧Sl .u64 w' v1 (wd 18446744073709551616 f.num.natAbs)∧Sl .u64 w' v2 (wd 18446744073709551616 f.den)∧But [] W w'):=fun W hb=>l6 vf f W (hf.but hb)
 have NG:Hid (∀ W,But [] w W→Calls prog 62 #[vg] W fun e w'=>∃ v1 v2,e=.returned (.tuple #[v1,v2])∧Sl .u64 w' v1 (wd 18446744073709551616 g.num.natAbs)∧Sl .u64 w' v2 (wd 18446744073709551616 g.den)∧But [] W w'):=fun W hb=>l6 vg g W (hg.but hb)
 have CP:Hid (∀ W na nb nc nd,Sl .u64 W na (wd 18446744073709551616 f.num.natAbs)→Sl .u64 W nb (wd 18446744073709551616 f.den)→Sl .u64 W nc (wd 18446744073709551616 g.num.natAbs)→Sl .u64 W nd (wd 18446744073709551616 g.den)→Calls prog 181 #[na,nd,nc,nb] W fun e w'=>e=.returned (.int .i64 r)∧But [] W w'):=fun W na nb nc nd h1 h2 h3 h4=>zlc na nd nc nb _ _ _ _ W h1 h4 h3 h2 (by have:=lf.1;omega) (by have:=lg.2;omega) (by have:=lg.1;omega) (by have:=lf.2;omega) r hr
 have LARGE:∀ (s1 s2:Bool) (x1 y1 x2 y2:Int) (p1 p2:Option Addr),vf=.agg #[.bool s1,.int .u64 x1,.int .u64 y1,.pointer p1]→vg=.agg #[.bool s2,.int .u64 x2,.int .u64 y2,.pointer p2]→(p1≠none∨p2≠none)→Calls prog 128 #[vf,vg] w fun e w'=>e=.returned (.int .i64 r)∧But [] w w':=by
  intro s1 s2 x1 y1 x2 y2 p1 p2 ef eg hp
  subst ef
  subst eg
  clear hf hg lf lg hr hq1 hq2
  obtain⟨W,hW⟩:∃ W,W=((w.alloc (.cells #[.bool s1,.int .u64 x1,.int .u64 y1,.pointer p1] 27)).alloc (.cells #[.bool s2,.int .u64 x2,.int .u64 y2,.pointer p2] 27)):=⟨_,rfl⟩
  obtain⟨tA,tB,-,hB⟩:=zgz w W _ _ _ hW
  have y0:=tB 0
  have y1:=tB 1
  have y2:=tB 2
  have y3:=tB 3
  simp only[List.getElem?_toArray,List.getElem?_cons_zero,List.getElem?_cons_succ] at y0 y1 y2 y3
  clear tA tB
  have HW:=af hW
  have HB:=af hB
  clear hW hB
  rcases p1 with _ | p1
  ·rcases p2 with _ | p2
   ·simp at hp
   ·clear hp
    go_enter func128,ntmps128
    go_wp2_with fail
    rw[← ae HW]
    obtain⟨gb,hgb⟩:∃ gb,gb=w.heap.size+1:=⟨_,rfl⟩
    rw[← hgb] at y0 y1 y2 y3
    rw[← hgb]
    clear hgb HW
    refine (ae NF _ (ae HB)).mono ?_
    rintro e w1 ⟨na,nb,rfl,hna,hnb,hb1⟩
    have d0:=hb1.ag y0 (by simp)
    have d1:=hb1.ag y1 (by simp)
    have d2:=hb1.ag y2 (by simp)
    have d3:=hb1.ag y3 (by simp)
    have HB1:Hid (But [] w w1):=(ae HB).trans' hb1
    have SA:=af hna
    have SB:=af hnb
    clear hb1 hna hnb y0 y1 y2 y3
    go_wp2_with fail
    refine (ae NG _ (ae HB1)).mono ?_
    rintro e w2 ⟨nc,nd,rfl,hnc,hnd,hb2⟩
    have HB2:Hid (But [] w w2):=(ae HB1).trans' hb2
    have SA2:=af ((ae SA).ah hb2)
    have SB2:=af ((ae SB).ah hb2)
    have SC:=af hnc
    have SD:=af hnd
    clear hb2 hnc hnd d0 d1 d2 d3
    go_wp2_with fail
    refine (ae CP _ na nb nc nd (ae SA2) (ae SB2) (ae SC) (ae SD)).mono ?_
    rintro e w3 ⟨rfl,hb3⟩
    have HB3:Hid (But [] w w3):=(ae HB2).trans' hb3
    clear hb3
    go_wp2
    go_ret
    exact⟨rfl,ae HB3⟩
  ·clear hp
   go_enter func128,ntmps128
   go_wp2_with fail
   rw[← ae HW]
   obtain⟨gb,hgb⟩:∃ gb,gb=w.heap.size+1:=⟨_,rfl⟩
   rw[← hgb] at y0 y1 y2 y3
   rw[← hgb]
   clear hgb HW
   refine (ae NF _ (ae HB)).mono ?_
   rintro e w1 ⟨na,nb,rfl,hna,hnb,hb1⟩
   have d0:=hb1.ag y0 (by simp)
   have d1:=hb1.ag y1 (by simp)
   have d2:=hb1.ag y2 (by simp)
   have d3:=hb1.ag y3 (by simp)
   have HB1:Hid (But [] w w1):=(ae HB).trans' hb1
   have SA:=af hna
   have SB:=af hnb
   clear hb1 hna hnb y0 y1 y2 y3
   go_wp2_with fail
   refine (ae NG _ (ae HB1)).mono ?_
   rintro e w2 ⟨nc,nd,rfl,hnc,hnd,hb2⟩
   have HB2:Hid (But [] w w2):=(ae HB1).trans' hb2
   have SA2:=af ((ae SA).ah hb2)
   have SB2:=af ((ae SB).ah hb2)
   have SC:=af hnc
   have SD:=af hnd
   clear hb2 hnc hnd d0 d1 d2 d3
   go_wp2_with fail
   refine (ae CP _ na nb nc nd (ae SA2) (ae SB2) (ae SC) (ae SD)).mono ?_
   rintro e w3 ⟨rfl,hb3⟩
   have HB3:Hid (But [] w w3):=(ae HB2).trans' hb3
   clear hb3
   go_wp2
   go_ret
   exact⟨rfl,ae HB3⟩
 rcases hf.agg with ⟨x1,y1,p1,ef,h1⟩
 rcases hg.agg with ⟨x2,y2,p2,eg,h2⟩
 rcases p1 with _ | p1
 ·(
 rcases p2 with _ | p2
 ·obtain⟨a1,a2,a3,a4⟩:=h1 rfl
  obtain⟨c1,c2,c3,c4⟩:=h2 rfl
  rw[ef,eg,a3,a4,c3,c4]
  exact zmz _ _ _ _ _ _ a1 a2 c1 c2 hq1 hq2 w r hr
 ·exact LARGE _ _ _ _ _ _ _ _ ef eg (.inr (by simp)))
 ·exact LARGE _ _ _ _ _ _ _ _ ef eg (.inl (by simp)))
def zbk (x y:Int):Int:=if x<y then -1 else if x=y then 0 else 1
theorem qgb (m n:Nat):zbk (m:Int) (n:Int)=zy m n:=by(
 unfold zbk zy
 rcases Nat.lt_trichotomy m n with h | h | h
 ·rw[if_pos (by omega),if_pos h]
 ·subst h;simp
 ·rw[if_neg (by omega),if_neg (by omega),if_neg (by omega),if_neg (by omega)])
theorem qga (m n:Nat):zbk (-(m:Int)) (-(n:Int))=zy n m:=by(
 unfold zbk zy
 rcases Nat.lt_trichotomy n m with h | h | h
 ·rw[if_pos (by omega),if_pos h]
 ·subst h;simp
 ·rw[if_neg (by omega),if_neg (by omega),if_neg (by omega),if_neg (by omega)])
theorem zqy {x y:Int} (h:x<y):zbk x y=-1:=by unfold zbk;rw[if_pos h]
theorem zqz {x y:Int} (h:y<x):zbk x y=1:=by unfold zbk;rw[if_neg (by omega),if_neg (by omega)]
theorem sign_mul (F:Int) (q:Nat) (hq:0<q):(F<0→F*q<0)∧(F=0→F*q=0)∧(0<F→0<F*q) :=
 ⟨fun h=>Int.mul_neg_of_neg_of_pos h (by omega),fun h=>by rw[h,Int.zero_mul],fun h=>Int.mul_pos h (by omega)⟩
theorem qbd (F G:Int) (p q:Nat) (hp:0<p) (hq:0<q) (h:F.sign≠G.sign):zbk (F*q) (G*p)=zbk F.sign G.sign:=by(
 obtain⟨f1,f2,f3⟩:=sign_mul F q hq
 obtain⟨g1,g2,g3⟩:=sign_mul G p hp
 have s1:=@Int.sign_eq_neg_one_of_neg F
 have s3:=@Int.sign_eq_one_of_pos F
 have t1:=@Int.sign_eq_neg_one_of_neg G
 have t3:=@Int.sign_eq_one_of_pos G
 have s2:F=0→F.sign=0:=fun e=>by rw[e];rfl
 have t2:G=0→G.sign=0:=fun e=>by rw[e];rfl
 generalize F*q=x at *
 generalize G*p=y at *
 generalize F.sign=a at *
 generalize G.sign=b at *
 rcases Int.lt_trichotomy a b with hab | hab | hab
 ·rw[zqy hab,zqy (by omega)]
 ·exact absurd hab h
 ·rw[zqz hab,zqz (by omega)])
theorem qbe (F G:Int) (p q:Nat) (h:F.sign=G.sign) (hF:F<0):zbk (F*q) (G*p)=zy (G.natAbs*p) (F.natAbs*q):=by(
 have hG:G<0:=by
  have:=Int.sign_eq_neg_one_of_neg hF
  rw[h] at this
  exact Int.neg_of_sign_eq_neg_one this
 have e1:F*q=-((F.natAbs*q:Nat):Int):=by
  rw[Int.natCast_mul,← Int.neg_mul];congr 1;omega
 have e2:G*p=-((G.natAbs*p:Nat):Int):=by
  rw[Int.natCast_mul,← Int.neg_mul];congr 1;omega
 rw[e1,e2,qga])
theorem qbf (F G:Int) (p q:Nat) (h:F.sign=G.sign) (hF:¬ F<0):zbk (F*q) (G*p)=zy (F.natAbs*q) (G.natAbs*p):=by(
 have hG:¬ G<0:=by
  intro hG
  have:=Int.sign_eq_neg_one_of_neg hG
  rw[← h] at this
  exact hF (Int.neg_of_sign_eq_neg_one this)
 have e1:F*q=((F.natAbs*q:Nat):Int):=by
  rw[Int.natCast_mul];congr 1;omega
 have e2:G*p=((G.natAbs*p:Nat):Int):=by
  rw[Int.natCast_mul];congr 1;omega
 rw[e1,e2,qgb])
theorem qfy (x y:Int) (w:World) (r:Int) (hr:Hid (r=zbk x y)) :
   Calls prog 127 #[.int .i64 x,.int .i64 y] w fun e w'=>e=.returned (.int .i64 r)∧w'=w:=by(
 rcases Int.lt_trichotomy x y with h | h | h
 ·(
 have e:Hid (r=-1):=by show _=_;rw[ae hr,zqy h]
 clear hr
 go_enter func127,ntmps127
 go_wp2
 go_ret
 exact⟨by rw[ae e];rfl,rfl⟩)
 ·(
 subst h
 have e:Hid (r=0):=by show _=_;rw[ae hr];simp[zbk]
 clear hr
 go_enter func127,ntmps127
 go_wp2
 go_ret
 exact⟨by rw[ae e];rfl,rfl⟩)
 ·(
 have e:Hid (r=1):=by show _=_;rw[ae hr,zqz h]
 clear hr
 have h':¬ x<y:=by omega
 go_enter func127,ntmps127
 go_wp2
 go_ret
 exact⟨by rw[ae e];rfl,rfl⟩))
theorem zaz (vf vg:Value) (f g:Rat) (w:World) (hf:aq w vf f) (hg:aq w vg g) (lf:Len f 33554431) (lg:Len g 33554431) (r:Int) (hr:Hid (r=zbk (f.num*g.den) (g.num*f.den))) :
   Calls prog 58 #[vf,vg] w fun e w'=>e=.returned (.int .i64 r)∧But [] w w':=by(
 have hq1:=den_pos f
 have hq2:=den_pos g
 have SF:Hid (∀ W,But [] w W→Calls prog 99 #[vf] W fun e w'=>e=.returned (.int .i64 f.num.sign)∧But [] W w'):=fun W hb=>ko vf f W (hf.but hb)
 have SG:Hid (∀ W,But [] w W→Calls prog 99 #[vg] W fun e w'=>e=.returned (.int .i64 g.num.sign)∧But [] W w'):=fun W hb=>ko vg g W (hg.but hb)
 have CS1:Hid (f.num.sign=g.num.sign→¬ f.num<0→∀ W,But [] w W→Calls prog 128 #[vf,vg] W fun e w'=>e=.returned (.int .i64 r)∧But [] W w'):=fun h1 h2 W hb=>zih vf vg f g W (hf.but hb) (hg.but hb) lf lg r (by show _=_;rw[ae hr,qbf _ _ _ _ h1 h2])
 have CS2:Hid (f.num.sign=g.num.sign→f.num<0→∀ W,But [] w W→Calls prog 128 #[vg,vf] W fun e w'=>e=.returned (.int .i64 r)∧But [] W w'):=fun h1 h2 W hb=>zih vg vf g f W (hg.but hb) (hf.but hb) lg lf r (by show _=_;rw[ae hr,qbe _ _ _ _ h1 h2])
 have CZ:Hid (f.num.sign≠g.num.sign→∀ W,Calls prog 127 #[.int .i64 f.num.sign,.int .i64 g.num.sign] W fun e w'=>e=.returned (.int .i64 r)∧w'=W):=fun h1 W=>qfy _ _ W r (by show _=_;rw[ae hr,qbd _ _ _ _ hq1 hq2 h1])
 obtain⟨x1,y1,p1,rfl,-⟩:=hf.agg
 obtain⟨x2,y2,p2,rfl,-⟩:=hg.agg
 clear hf hg lf lg hr hq1 hq2
 obtain⟨W,hW⟩:∃ W,W=((w.alloc (.cells #[.bool (decide (f.num<0)),.int .u64 x1,.int .u64 y1,.pointer p1] 27)).alloc (.cells #[.bool (decide (g.num<0)),.int .u64 x2,.int .u64 y2,.pointer p2] 27)):=⟨_,rfl⟩
 obtain⟨tA,tB,fzb,hB⟩:=zgz w W _ _ _ hW
 have fza:∀ j,W.frozen? ⟨w.heap.size,j,none⟩=false:=fun j=>by rw[hW];simp
 have a0:=tA 0
 have a1:=tA 1
 have a2:=tA 2
 have a3:=tA 3
 have b0:=tB 0
 have b1:=tB 1
 have b2:=tB 2
 have b3:=tB 3
 simp only[List.getElem?_toArray,List.getElem?_cons_zero,List.getElem?_cons_succ] at a0 a1 a2 a3 b0 b1 b2 b3
 clear tA tB
 have HW:=af hW
 have HB:=af hB
 clear hW hB
 obtain⟨s1,hs1⟩:∃ s1,s1=decide (f.num<0):=⟨_,rfl⟩
 obtain⟨s2,hs2⟩:∃ s2,s2=decide (g.num<0):=⟨_,rfl⟩
 rw[← hs1] at HW SF CS1 CS2 a0 ⊢
 rw[← hs2] at HW SG CS1 CS2 b0 ⊢
 have HS1:=af hs1
 clear hs1 hs2
 obtain⟨ga,hga⟩:∃ ga,ga=w.heap.size:=⟨_,rfl⟩
 obtain⟨gb,hgb⟩:∃ gb,gb=w.heap.size+1:=⟨_,rfl⟩
 rw[← hga] at a0 a1 a2 a3 fza
 rw[← hgb] at b0 b1 b2 b3 fzb
 have HGA:Hid (w.heap.size≤ga):=by show _≤_;omega
 have HGB:Hid (w.heap.size≤gb):=by show _≤_;omega
 have nab:ga≠gb:=by omega
 have hsz:=And.intro hga hgb
 have HSZ:=af hsz
 clear hga hgb hsz
 by_cases hsig:f.num.sign=g.num.sign
 ·(
 have dn:(g.num.sign != g.num.sign)=false:=by simp
 rw[hsig] at SF
 have CS1':Hid (s1=false→∀ W,But [] w W→Calls prog 128 #[.agg #[.bool s1,.int .u64 x1,.int .u64 y1,.pointer p1],.agg #[.bool s2,.int .u64 x2,.int .u64 y2,.pointer p2]] W fun e w'=>e=.returned (.int .i64 r)∧But [] W w'):=fun e=>ae CS1 hsig (by rw[ae HS1] at e;exact of_decide_eq_false e)
 have CS2':Hid (s1=true→∀ W,But [] w W→Calls prog 128 #[.agg #[.bool s2,.int .u64 x2,.int .u64 y2,.pointer p2],.agg #[.bool s1,.int .u64 x1,.int .u64 y1,.pointer p1]] W fun e w'=>e=.returned (.int .i64 r)∧But [] W w'):=fun e=>ae CS2 hsig (by rw[ae HS1] at e;exact of_decide_eq_true e)
 clear CS1 CS2 CZ hsig HS1
 generalize g.num.sign=sg at *
 go_enter func58,ntmps58
 go_wp2
 rw[← ae HW,← (ae HSZ).2,← (ae HSZ).1]
 clear HW HSZ
 go_region_held (fun w'=>w'.cell? ⟨ga,0,none⟩=some (.bool s1)∧w'.cell? ⟨ga,1,none⟩=some (.int .u64 x1)∧w'.cell? ⟨ga,2,none⟩=some (.int .u64 y1)∧w'.cell? ⟨ga,3,none⟩=some (.pointer p1)∧w'.cell? ⟨gb,0,none⟩=some (.bool s2)∧w'.cell? ⟨gb,1,none⟩=some (.int .u64 x2)∧w'.cell? ⟨gb,2,none⟩=some (.int .u64 y2)∧w'.cell? ⟨gb,3,none⟩=some (.pointer p2)) (go_keep) (first
  | (go_at_call 99;have hchk:=B1;clear hchk;refine (ae SG _ (by first | exact (ae HB).trans' B1 | exact ((ae HB).trans' B1).drew)).mono ?_;rintro e w2 ⟨rfl,hc2⟩;have B2:But [] W w2:=(by first | exact B1.trans' hc2 | exact (B1.drew).trans' hc2);clear hc2;have m0:=B2.ag a0 (by simp);have m1:=B2.ag a1 (by simp);have m2:=B2.ag a2 (by simp);have m3:=B2.ag a3 (by simp);have n0:=B2.ag b0 (by simp);have n1:=B2.ag b1 (by simp);have n2:=B2.ag b2 (by simp);have n3:=B2.ag b3 (by simp))
  | (go_at_call 99;refine (ae SF _ (by first | exact ae HB | exact (ae HB).drew)).mono ?_;rintro e w1 ⟨rfl,hc1⟩;have B1:But [] W w1:=(by first | exact hc1 | exact (But.refl _ _).drew.trans' hc1);clear hc1;have k0:=B1.ag a0 (by simp);have k1:=B1.ag a1 (by simp);have k2:=B1.ag a2 (by simp);have k3:=B1.ag a3 (by simp);have l0:=B1.ag b0 (by simp);have l1:=B1.ag b1 (by simp);have l2:=B1.ag b2 (by simp);have l3:=B1.ag b3 (by simp)))
 have gla:ga<W.heap.size:=ai a0
 have glb:gb<W.heap.size:=ai b0
 replace fza:∀ j,w2.frozen? ⟨ga,j,none⟩=false:=fun j=>(B2.frozen (p:=⟨ga,j,none⟩) gla (by simp)).trans (fza j)
 replace fzb:∀ j,w2.frozen? ⟨gb,j,none⟩=false:=fun j=>(B2.frozen (p:=⟨gb,j,none⟩) glb (by simp)).trans (fzb j)
 replace HB:Hid (But [] w w2):=(ae HB).trans' B2
 clear B1 B2 a0 a1 a2 a3 b0 b1 b2 b3 k0 k1 k2 k3 l0 l1 l2 l3 gla glb
 have a0:=m0
 have a1:=m1
 have a2:=m2
 have a3:=m3
 have b0:=n0
 have b1:=n1
 have b2:=n2
 have b3:=n3
 clear m0 m1 m2 m3 n0 n1 n2 n3
 cases s1
 ·(
 have C1:=af (ae CS1' rfl)
 clear CS1' CS2'
 go_wp2_with fail
 refine (ae C1 _ (ae HB)).mono ?_
 rintro e w3 ⟨rfl,hb3⟩
 have HB3:Hid (But [] w w3):=(ae HB).trans' hb3
 clear hb3
 go_wp2
 go_ret
 exact⟨rfl,ae HB3⟩)
 ·(
 have C2:=af (ae CS2' rfl)
 clear CS1' CS2'
 go_wp2_with fail
 have HBs:=af ((((((((((ae HB).setCell (p:=⟨ga,0,none⟩) (.inr (ae HGA)) (.bool s2)).setCell (p:=⟨ga,1,none⟩) (.inr (ae HGA)) (.int .u64 x2)).setCell (p:=⟨ga,2,none⟩) (.inr (ae HGA)) (.int .u64 y2)).setCell (p:=⟨ga,3,none⟩) (.inr (ae HGA)) (.pointer p2)).setCell (p:=⟨gb,0,none⟩) (.inr (ae HGB)) (.bool true)).setCell (p:=⟨gb,1,none⟩) (.inr (ae HGB)) (.int .u64 x1)).setCell (p:=⟨gb,2,none⟩) (.inr (ae HGB)) (.int .u64 y1)).setCell (p:=⟨gb,3,none⟩) (.inr (ae HGB)) (.pointer p1)))
 refine (ae C2 _ (ae HBs)).mono ?_
 rintro e w3 ⟨rfl,hb3⟩
 have HB3:Hid (But [] w w3):=(ae HBs).trans' hb3
 clear hb3
 go_wp2
 go_ret
 exact⟨rfl,ae HB3⟩))
 ·(
 have dn:(f.num.sign != g.num.sign)=true:=by simp[hsig]
 have CZ':=af (ae CZ hsig)
 clear CS1 CS2 CZ hsig HS1
 generalize f.num.sign=sf at *
 generalize g.num.sign=sg at *
 go_enter func58,ntmps58
 go_wp2
 rw[← ae HW,← (ae HSZ).2,← (ae HSZ).1]
 clear HW HSZ
 go_region_held (fun w'=>w'.cell? ⟨ga,0,none⟩=some (.bool s1)∧w'.cell? ⟨ga,1,none⟩=some (.int .u64 x1)∧w'.cell? ⟨ga,2,none⟩=some (.int .u64 y1)∧w'.cell? ⟨ga,3,none⟩=some (.pointer p1)∧w'.cell? ⟨gb,0,none⟩=some (.bool s2)∧w'.cell? ⟨gb,1,none⟩=some (.int .u64 x2)∧w'.cell? ⟨gb,2,none⟩=some (.int .u64 y2)∧w'.cell? ⟨gb,3,none⟩=some (.pointer p2)) (go_keep) (first
  | (go_at_call 99;have hchk:=B1;clear hchk;refine (ae SG _ (by first | exact (ae HB).trans' B1 | exact ((ae HB).trans' B1).drew)).mono ?_;rintro e w2 ⟨rfl,hc2⟩;have B2:But [] W w2:=(by first | exact B1.trans' hc2 | exact (B1.drew).trans' hc2);clear hc2;have m0:=B2.ag a0 (by simp);have m1:=B2.ag a1 (by simp);have m2:=B2.ag a2 (by simp);have m3:=B2.ag a3 (by simp);have n0:=B2.ag b0 (by simp);have n1:=B2.ag b1 (by simp);have n2:=B2.ag b2 (by simp);have n3:=B2.ag b3 (by simp))
  | (go_at_call 99;refine (ae SF _ (by first | exact ae HB | exact (ae HB).drew)).mono ?_;rintro e w1 ⟨rfl,hc1⟩;have B1:But [] W w1:=(by first | exact hc1 | exact (But.refl _ _).drew.trans' hc1);clear hc1;have k0:=B1.ag a0 (by simp);have k1:=B1.ag a1 (by simp);have k2:=B1.ag a2 (by simp);have k3:=B1.ag a3 (by simp);have l0:=B1.ag b0 (by simp);have l1:=B1.ag b1 (by simp);have l2:=B1.ag b2 (by simp);have l3:=B1.ag b3 (by simp)))
 have gla:ga<W.heap.size:=ai a0
 have glb:gb<W.heap.size:=ai b0
 replace fza:∀ j,w2.frozen? ⟨ga,j,none⟩=false:=fun j=>(B2.frozen (p:=⟨ga,j,none⟩) gla (by simp)).trans (fza j)
 replace fzb:∀ j,w2.frozen? ⟨gb,j,none⟩=false:=fun j=>(B2.frozen (p:=⟨gb,j,none⟩) glb (by simp)).trans (fzb j)
 replace HB:Hid (But [] w w2):=(ae HB).trans' B2
 clear B1 B2 a0 a1 a2 a3 b0 b1 b2 b3 k0 k1 k2 k3 l0 l1 l2 l3 gla glb
 have a0:=m0
 have a1:=m1
 have a2:=m2
 have a3:=m3
 have b0:=n0
 have b1:=n1
 have b2:=n2
 have b3:=n3
 clear m0 m1 m2 m3 n0 n1 n2 n3
 go_wp2
 go_region_held (fun w'=>w'.cell? ⟨ga,0,none⟩=some (.bool s1)∧w'.cell? ⟨ga,1,none⟩=some (.int .u64 x1)∧w'.cell? ⟨ga,2,none⟩=some (.int .u64 y1)∧w'.cell? ⟨ga,3,none⟩=some (.pointer p1)∧w'.cell? ⟨gb,0,none⟩=some (.bool s2)∧w'.cell? ⟨gb,1,none⟩=some (.int .u64 x2)∧w'.cell? ⟨gb,2,none⟩=some (.int .u64 y2)∧w'.cell? ⟨gb,3,none⟩=some (.pointer p2)) (go_keep) (first
  | (go_at_call 99;have hchk:=B3;clear hchk;refine (ae SG _ (by first | exact (ae HB).trans' B3 | exact ((ae HB).trans' B3).drew)).mono ?_;rintro e w4 ⟨rfl,hc2⟩;have B4:But [] w2 w4:=(by first | exact B3.trans' hc2 | exact (B3.drew).trans' hc2);clear hc2;have m0:=B4.ag a0 (by simp);have m1:=B4.ag a1 (by simp);have m2:=B4.ag a2 (by simp);have m3:=B4.ag a3 (by simp);have n0:=B4.ag b0 (by simp);have n1:=B4.ag b1 (by simp);have n2:=B4.ag b2 (by simp);have n3:=B4.ag b3 (by simp))
  | (go_at_call 99;refine (ae SF _ (by first | exact ae HB | exact (ae HB).drew)).mono ?_;rintro e w3 ⟨rfl,hc1⟩;have B3:But [] w2 w3:=(by first | exact hc1 | exact (But.refl _ _).drew.trans' hc1);clear hc1;have k0:=B3.ag a0 (by simp);have k1:=B3.ag a1 (by simp);have k2:=B3.ag a2 (by simp);have k3:=B3.ag a3 (by simp);have l0:=B3.ag b0 (by simp);have l1:=B3.ag b1 (by simp);have l2:=B3.ag b2 (by simp);have l3:=B3.ag b3 (by simp))
  | (go_at_call 127;refine (ae CZ' _).mono ?_;rintro e w5 ⟨rfl,hw5⟩;obtain rfl:=hw5.symm;clear hw5))
 have HB5:Hid (But [] w w4):=(ae HB).trans' B4
 clear B3 B4
 go_wp2
 go_ret
 exact⟨rfl,ae HB5⟩))
theorem qlp (s:Bool) (p q:Nat) (hq:0<q) (hc:Nat.Coprime p q):∃ f:Rat,f.num=sgn s p∧f.den=q :=
 ⟨⟨sgn s p,q,by omega,by rw[yg];exact hc⟩,rfl,rfl⟩
theorem qia (x y:Nat) (hy:0<y):Nat.Coprime (x/Nat.gcd x y) (y/Nat.gcd x y):=Nat.coprime_div_gcd_div_gcd (Nat.gcd_pos_of_pos_right _ hy)
theorem zql {f:Rat} {m n:Nat} (h1:f.num.natAbs < 18446744073709551616^m) (h2:f.den < 18446744073709551616^n) (k:Nat) (hm:m≤k) (hn:n≤k):Len f k :=
 ⟨Nat.le_trans (aj (by omega) _ _ h1) hm,Nat.le_trans (aj (by omega) _ _ h2) hn⟩
theorem Len.mono {f:Rat} {m n:Nat} (h:Len f m) (hn:m≤n):Len f n:=⟨Nat.le_trans h.1 hn,Nat.le_trans h.2 hn⟩
theorem Len.lt {f:Rat} {m:Nat} (h:Len f m):f.num.natAbs < 18446744073709551616^m∧f.den < 18446744073709551616^m:=⟨ak (by omega) _ _ h.1,ak (by omega) _ _ h.2⟩
theorem zgc {f g:Rat} {m n:Nat} (h1:Len f m) (h2:Len g n) (k:Nat) (hk:m+n≤k):Len (f*g) k:=by(
 obtain⟨a1,a2⟩:=h1.lt
 obtain⟨c1,c2⟩:=h2.lt
 obtain⟨e1,e2⟩:=zqj f g _ _ rfl rfl
 refine zql (m:=m+n) (n:=m+n) ?_ ?_ k hk hk
 ·rw[e1,yg,Nat.pow_add]
  exact Nat.mul_lt_mul'' (Nat.lt_of_le_of_lt (Nat.div_le_self _ _) a1) (Nat.lt_of_le_of_lt (Nat.div_le_self _ _) c1)
 ·rw[e2,Nat.pow_add]
  exact Nat.mul_lt_mul'' (Nat.lt_of_le_of_lt (Nat.div_le_self _ _) a2) (Nat.lt_of_le_of_lt (Nat.div_le_self _ _) c2))
theorem zhx {f g:Rat} {m n:Nat} (h1:Len f m) (h2:Len g n) (k:Nat) (hk:m+n+1≤k):Len (f+g) k:=by(
 obtain⟨a1,a2⟩:=h1.lt
 obtain⟨c1,c2⟩:=h2.lt
 obtain⟨M,s,hM⟩:∃ (M:Nat) (s:Bool),f.num*(g.den/Nat.gcd f.den g.den:Nat)+g.num*(f.den/Nat.gcd f.den g.den:Nat)=sgn s M:=by
  generalize f.num*(g.den/Nat.gcd f.den g.den:Nat)+g.num*(f.den/Nat.gcd f.den g.den:Nat)=z
  by_cases hz:z<0
  ·exact⟨z.natAbs,true,by simp[sgn];omega⟩
  ·exact⟨z.natAbs,false,by simp[sgn];omega⟩
 obtain⟨e1,e2⟩:=zre f g s M _ _ rfl rfl hM
 have hMl:M < 18446744073709551616^(m+n+1):=by
  have h3:M≤f.num.natAbs*(g.den/Nat.gcd f.den g.den)+g.num.natAbs*(f.den/Nat.gcd f.den g.den):=by
   rw[← yg s M,← hM]
   refine Nat.le_trans (Int.natAbs_add_le _ _) ?_
   rw[Int.natAbs_mul,Int.natAbs_mul,Int.natAbs_natCast,Int.natAbs_natCast]
   exact Nat.le_refl _
  have h4:f.num.natAbs*(g.den/Nat.gcd f.den g.den) < 18446744073709551616^m * 18446744073709551616^n:=Nat.mul_lt_mul'' a1 (Nat.lt_of_le_of_lt (Nat.div_le_self _ _) c2)
  have h5:g.num.natAbs*(f.den/Nat.gcd f.den g.den) < 18446744073709551616^n * 18446744073709551616^m:=Nat.mul_lt_mul'' c1 (Nat.lt_of_le_of_lt (Nat.div_le_self _ _) a2)
  rw[Nat.mul_comm (18446744073709551616^n)] at h5
  rw[Nat.pow_succ,Nat.pow_add]
  generalize 18446744073709551616^m * 18446744073709551616^n=P at *
  omega
 refine zql (m:=m+n+1) (n:=m+n) ?_ ?_ k hk (by omega)
 ·rw[e1,yg];exact Nat.lt_of_le_of_lt (Nat.div_le_self _ _) hMl
 ·rw[e2,Nat.pow_add]
  exact Nat.mul_lt_mul'' (Nat.lt_of_le_of_lt (Nat.div_le_self _ _) a2) (Nat.lt_of_le_of_lt (Nat.div_le_self _ _) c2))
theorem qhy {f:Rat} {m:Nat} (h:Len f m):Len (-f) m:=by(
 unfold Len
 rw[Rat.neg_num,Rat.neg_den,Int.natAbs_neg]
 exact h)
theorem zyb {f g:Rat} {m n:Nat} (h1:Len f m) (h2:Len g n) (k:Nat) (hk:m+n+1≤k):Len (f-g) k:=by
 rw[Rat.sub_eq_add_neg];exact zhx h1 (qhy h2) k hk
theorem qlt (x y:Int) (p q k:Nat) (hx:x.natAbs=p*k) (hy:y.natAbs=q*k):sgn (decide (x<0) != decide (y<0)) p*y=x*q:=by(
 have ex:x=sgn (decide (x<0)) (p*k):=by
  by_cases h:x<0
  ·simp[sgn,h];omega
  ·simp[sgn,h];omega
 have ey:y=sgn (decide (y<0)) (q*k):=by
  by_cases h:y<0
  ·simp[sgn,h];omega
  ·simp[sgn,h];omega
 generalize decide (x<0)=a at *
 generalize decide (y<0)=b at *
 rw[ex,ey]
 cases a <;> cases b <;> simp[sgn,Int.natCast_mul] <;> grind)
theorem zpa (x y:Int) (hx1:-9223372036854775808≤x) (hx2:x<9223372036854775808) (hy1:-9223372036854775808≤y) (hy2:y<9223372036854775808) (hy0:y≠0) :
   ∃ (f:Rat) (r:Bool) (p q:Int),Len f 1∧f.num*y=x*f.den∧(∀ W,aq W (.agg #[.bool r,.int .u64 p,.int .u64 q,.pointer none]) f)∧∀ W,Calls prog 60 #[.int .i64 x,.int .i64 y] W fun e w'=>e=.returned (.tuple #[.agg #[.bool r,.int .u64 p,.int .u64 q,.pointer none],.nilIface])∧But [] W w':=by(
 have hyp:0<y.natAbs:=by omega
 have hg:0<Nat.gcd x.natAbs y.natAbs:=Nat.gcd_pos_of_pos_right _ hyp
 have hd1:=Nat.div_mul_cancel (Nat.gcd_dvd_left x.natAbs y.natAbs)
 have hd2:=Nat.div_mul_cancel (Nat.gcd_dvd_right x.natAbs y.natAbs)
 have hq0:0<y.natAbs/Nat.gcd x.natAbs y.natAbs:=Nat.div_pos (Nat.le_of_dvd hyp (Nat.gcd_dvd_right _ _)) hg
 have hpB:x.natAbs/Nat.gcd x.natAbs y.natAbs < 18446744073709551616:=Nat.lt_of_le_of_lt (Nat.div_le_self _ _) (by omega)
 have hqB:y.natAbs/Nat.gcd x.natAbs y.natAbs < 18446744073709551616:=Nat.lt_of_le_of_lt (Nat.div_le_self _ _) (by omega)
 obtain⟨f,hn,hd⟩:=qlp (decide (x<0) != decide (y<0)) _ _ hq0 (qia x.natAbs y.natAbs hyp)
 have habs:f.num.natAbs=x.natAbs/Nat.gcd x.natAbs y.natAbs:=by rw[hn,yg]
 refine⟨f,decide (f.num<0),(f.num.natAbs:Int),(f.den:Int)-1,?_,?_,fun W=>.inl ⟨by rw[habs];exact hpB,by rw[hd];exact hqB,rfl⟩,fun W=>?_⟩
 ·exact zql (m:=1) (n:=1) (by rw[habs,Nat.pow_one];exact hpB) (by rw[hd,Nat.pow_one];exact hqB) 1 (Nat.le_refl _) (Nat.le_refl _)
 ·rw[hn,hd]
  exact qlt x y _ _ _ hd1.symm hd2.symm
 ·rw[habs,hd]
  exact zwf x y hx1 hx2 hy1 hy2 hy0 W _ _ _ (by show _=_;rw[hn,zfw]) rfl rfl)
theorem zmm (x y:Int) (hx1:-9223372036854775808≤x) (hx2:x<9223372036854775808) (hy1:-9223372036854775808≤y) (hy2:y<9223372036854775808) :
   ∃ (f:Rat) (r:Bool) (p q:Int),Len f 1∧f.num*(if y=0 then 1 else y)=x*f.den∧(∀ W,aq W (.agg #[.bool r,.int .u64 p,.int .u64 q,.pointer none]) f)∧∀ W,Calls prog 9 #[.agg #[.int .i64 x,.int .i64 y]] W fun e w'=>e=.returned (.agg #[.bool r,.int .u64 p,.int .u64 q,.pointer none])∧But [] W w':=by(
 by_cases hy0:y=0
 ·(
 subst hy0
 obtain⟨f,r,p,q,h1,h2,h3,h4⟩:=zpa x 1 hx1 hx2 (by omega) (by omega) (by omega)
 refine⟨f,r,p,q,h1,by rw[if_pos rfl];exact h2,h3,fun w=>?_⟩
 have OF:=af h4
 clear h1 h2 h3 h4
 go_enter func9,ntmps9
 go_wp2_with fail
 obtain⟨W,hW⟩:∃ W,W=(w.alloc (.cells #[.int .i64 x,.int .i64 1] 23)).alloc (.cells #[.bool false,.int .u64 0,.int .u64 0,.pointer none] 27):=⟨_,rfl⟩
 have r0:W.cell? ⟨w.heap.size+1,0,none⟩=some (.bool false):=by rw[hW];simp
 have r1:W.cell? ⟨w.heap.size+1,1,none⟩=some (.int .u64 0):=by rw[hW];simp
 have r2:W.cell? ⟨w.heap.size+1,2,none⟩=some (.int .u64 0):=by rw[hW];simp
 have r3:W.cell? ⟨w.heap.size+1,3,none⟩=some (.pointer none):=by rw[hW];simp
 have fz:∀ j,W.frozen? ⟨w.heap.size+1,j,none⟩=false:=fun j=>by rw[hW];simp
 have hB:But [] w W:=by rw[hW];exact ((But.refl _ _).alloc _).alloc _
 rw[← hW]
 clear hW
 obtain⟨gr,hgr⟩:∃ gr,gr=w.heap.size+1:=⟨_,rfl⟩
 rw[← hgr] at r0 r1 r2 r3 fz
 rw[← hgr]
 have HGR:Hid (w.heap.size≤gr):=by show _≤_;omega
 clear hgr
 have grl:gr<W.heap.size:=ai r0
 refine (ae OF _).mono ?_
 rintro e w1 ⟨rfl,hb1⟩
 have u0:=hb1.ag r0 (by simp)
 have u1:=hb1.ag r1 (by simp)
 have u2:=hb1.ag r2 (by simp)
 have u3:=hb1.ag r3 (by simp)
 have uf:∀ j,w1.frozen? ⟨gr,j,none⟩=false:=fun j=>(hb1.frozen (p:=⟨gr,j,none⟩) grl (by simp)).trans (fz j)
 have HB1:Hid (But [] w w1):=hB.trans' hb1
 have gl1:gr<w1.heap.size:=ai u0
 clear hb1 hB r0 r1 r2 r3 fz grl
 go_wp2
 have hBf:=(((((ae HB1).setCell (p:=⟨gr,0,none⟩) (.inr (ae HGR)) (.bool r)).setCell (p:=⟨gr,1,none⟩) (.inr (ae HGR)) (.int .u64 p)).setCell (p:=⟨gr,2,none⟩) (.inr (ae HGR)) (.int .u64 q)).setCell (p:=⟨gr,3,none⟩) (.inr (ae HGR)) (.pointer none)).alloc (.cells #[.bool r,.int .u64 p,.int .u64 q,.pointer none] 27)
 exact bodyPost_ret (v:=.agg #[.bool r,.int .u64 p,.int .u64 q,.pointer none]) (by simp[results,results9,go_sem,u0,u1,u2,u3,gl1]) rfl ⟨rfl,hBf⟩)
 ·(
 obtain⟨f,r,p,q,h1,h2,h3,h4⟩:=zpa x y hx1 hx2 hy1 hy2 hy0
 refine⟨f,r,p,q,h1,by rw[if_neg hy0];exact h2,h3,fun w=>?_⟩
 have n0:(y==0)=false:=by simp[hy0]
 have OF:=af h4
 clear h1 h2 h3 h4
 go_enter func9,ntmps9
 go_wp2_with fail
 obtain⟨W,hW⟩:∃ W,W=(w.alloc (.cells #[.int .i64 x,.int .i64 y] 23)).alloc (.cells #[.bool false,.int .u64 0,.int .u64 0,.pointer none] 27):=⟨_,rfl⟩
 have r0:W.cell? ⟨w.heap.size+1,0,none⟩=some (.bool false):=by rw[hW];simp
 have r1:W.cell? ⟨w.heap.size+1,1,none⟩=some (.int .u64 0):=by rw[hW];simp
 have r2:W.cell? ⟨w.heap.size+1,2,none⟩=some (.int .u64 0):=by rw[hW];simp
 have r3:W.cell? ⟨w.heap.size+1,3,none⟩=some (.pointer none):=by rw[hW];simp
 have fz:∀ j,W.frozen? ⟨w.heap.size+1,j,none⟩=false:=fun j=>by rw[hW];simp
 have hB:But [] w W:=by rw[hW];exact ((But.refl _ _).alloc _).alloc _
 rw[← hW]
 clear hW
 obtain⟨gr,hgr⟩:∃ gr,gr=w.heap.size+1:=⟨_,rfl⟩
 rw[← hgr] at r0 r1 r2 r3 fz
 rw[← hgr]
 have HGR:Hid (w.heap.size≤gr):=by show _≤_;omega
 clear hgr
 have grl:gr<W.heap.size:=ai r0
 refine (ae OF _).mono ?_
 rintro e w1 ⟨rfl,hb1⟩
 have u0:=hb1.ag r0 (by simp)
 have u1:=hb1.ag r1 (by simp)
 have u2:=hb1.ag r2 (by simp)
 have u3:=hb1.ag r3 (by simp)
 have uf:∀ j,w1.frozen? ⟨gr,j,none⟩=false:=fun j=>(hb1.frozen (p:=⟨gr,j,none⟩) grl (by simp)).trans (fz j)
 have HB1:Hid (But [] w w1):=hB.trans' hb1
 have gl1:gr<w1.heap.size:=ai u0
 clear hb1 hB r0 r1 r2 r3 fz grl
 go_wp2
 have hBf:=(((((ae HB1).setCell (p:=⟨gr,0,none⟩) (.inr (ae HGR)) (.bool r)).setCell (p:=⟨gr,1,none⟩) (.inr (ae HGR)) (.int .u64 p)).setCell (p:=⟨gr,2,none⟩) (.inr (ae HGR)) (.int .u64 q)).setCell (p:=⟨gr,3,none⟩) (.inr (ae HGR)) (.pointer none)).alloc (.cells #[.bool r,.int .u64 p,.int .u64 q,.pointer none] 27)
 exact bodyPost_ret (v:=.agg #[.bool r,.int .u64 p,.int .u64 q,.pointer none]) (by simp[results,results9,go_sem,u0,u1,u2,u3,gl1]) rfl ⟨rfl,hBf⟩))
theorem bk (n:Int):((n:Int):Rat).num=n∧((n:Int):Rat).den=1:=⟨by simp,by simp⟩
theorem zan (n:Int) (h:n.natAbs < 18446744073709551616):Len ((n:Int):Rat) 1:=by
 obtain⟨h1,h2⟩:=bk n
 exact zql (m:=1) (n:=1) (by rw[h1,Nat.pow_one];exact h) (by rw[h2];decide) 1 (Nat.le_refl _) (Nat.le_refl _)
theorem zbq (x:Int) (h1:-9223372036854775808≤x) (h2:x<9223372036854775808) :
   ∃ (r:Bool) (p:Int),(∀ W,aq W (.agg #[.bool r,.int .u64 p,.int .u64 0,.pointer none]) ((x:Int):Rat))∧∀ W,Calls prog 79 #[.int .i64 x] W fun e w'=>e=.returned (.agg #[.bool r,.int .u64 p,.int .u64 0,.pointer none])∧But [] W w':=by(
 obtain⟨e1,e2⟩:=bk x
 refine⟨decide (x<0),((x.natAbs:Nat):Int),fun W=>.inl ⟨by rw[e1];omega,by rw[e2];decide,by rw[e1,e2];rfl⟩,fun W=>?_⟩
 have h:=zyq x h1 h2 W
 rw[show (((1:Nat):Int)-1)=0 from rfl] at h
 exact h)
end Go.Proofs.YtagmkkiagjmimaaGreatDoor
