/- The first of two numbers that is not nou -/
import Derived.Test.YtpmjeclpkahkmaaGreatDoorVF7
namespace Go.Proofs.YtpmjeclpkahkmaaGreatDoor
set_option linter.unusedVariables false
open Go.Proofs.Tryz
open Go.RowKit
set_option maxHeartbeats 8000000
set_option maxRecDepth 100000
theorem qci (b:Nat) (x y:Int) (w:World) (hx:w.cell? ⟨b,0,none⟩=some (.int .i64 x)) (hy:w.cell? ⟨b,1,none⟩=some (.int .i64 y)) (r:Int) (hr:Hid (r=if x≠0 then x else y)) :
  Calls prog 219 #[.slice (some ⟨b,0,none⟩) 2 2] w fun e w'=>e=.returned (.int .i64 r)∧But [] w w':=by(
by_cases h0:x=0
·(
subst h0
by_cases h1:y=0
·(
subst h1
have er:Hid (r=0):=by show _=_;rw[ae hr];simp
clear hr
go_enter func219,ntmps219
go_wp2
refine wp_loop_rounds 3 ?_
rw[rounds_succ]
go_wp2
rw[rounds_succ]
go_wp2
rw[rounds_succ]
go_wp2
go_ret
exact⟨by rw[ae er];rfl,But.refl _ _⟩)
·(
have er:Hid (r=y):=by show _=_;rw[ae hr];simp
have n1:(y != 0)=true:=by simp[h1]
clear hr
go_enter func219,ntmps219
go_wp2
refine wp_loop_rounds 2 ?_
rw[rounds_succ]
go_wp2
rw[rounds_succ]
go_wp2
go_ret
exact⟨by rw[ae er];rfl,But.refl _ _⟩))
·(
have er:Hid (r=x):=by show _=_;rw[ae hr];simp[h0]
have n1:(x != 0)=true:=by simp[h0]
clear hr
go_enter func219,ntmps219
go_wp2
refine wp_loop_rounds 1 ?_
rw[rounds_succ]
go_wp2
go_ret
exact⟨by rw[ae er];rfl,But.refl _ _⟩))
theorem qjg (h1 l1 h2 l2:Nat) (b1:l1 < 18446744073709551616) (b2:l2 < 18446744073709551616):zq (l1 + 18446744073709551616*h1) (l2 + 18446744073709551616*h2)=if zq h1 h2≠0 then zq h1 h2 else zq l1 l2:=by(
rcases Nat.lt_trichotomy h1 h2 with h | h | h
·rw[zaj h,zaj (by omega)];simp
·(
subst h
have e:zq h1 h1=0:=by simp[zq]
rw[e,if_neg (by simp)]
rcases Nat.lt_trichotomy l1 l2 with h | h | h
·rw[zaj h,zaj (by omega)]
·subst h;simp[zq]
·rw[zef h,zef (by omega)])
·rw[zef h,zef (by omega)];simp)
theorem znv (s1 s2:Bool) (a b c d:Nat) (ha:a < 18446744073709551616) (hb:b < 18446744073709551616) (hc:c < 18446744073709551616) (hd:d < 18446744073709551616) (hb0:0<b) (hd0:0<d) (w:World) (r:Int) (hr:Hid (r=zq (a*d) (c*b))) :
  Calls prog 155 #[.agg #[.bool s1,.int .u64 (a:Int),.int .u64 ((b:Int)-1),.pointer none],.agg #[.bool s2,.int .u64 (c:Int),.int .u64 ((d:Int)-1),.pointer none]] w fun e w'=>e=.returned (.int .i64 r)∧But [] w w':=by(
have U1:=af (fun W=>nu s1 a b hb hb0 W)
have U2:=af (fun W=>nu s2 c d hd hd0 W)
obtain⟨lo1,hi1,hlo1,hhi1,e1⟩:=br a d 0 ha hd (by omega)
obtain⟨lo2,hi2,hlo2,hhi2,e2⟩:=br c b 0 hc hb (by omega)
rw[Nat.add_zero] at e1 e2
have M1:=af (fun W=>wh a d hi1 lo1 ha hd hlo1 e1 W)
have M2:=af (fun W=>wh c b hi2 lo2 hc hb hlo2 e2 W)
have hrr:Hid (r=if zq hi1 hi2≠0 then zq hi1 hi2 else zq lo1 lo2):=by show _=_;rw[ae hr,e1,e2,qjg _ _ _ _ hlo1 hlo2]
have C1:=af (fun W=>zje hi1 hi2 W (zq hi1 hi2) rfl)
have C2:=af (fun W=>zje lo1 lo2 W (zq lo1 lo2) rfl)
clear hr e1 e2
generalize zq hi1 hi2=z1 at *
generalize zq lo1 lo2=z2 at *
obtain⟨W,hW⟩:∃ W,W=((w.alloc (.cells #[.bool s1,.int .u64 (a:Int),.int .u64 ((b:Int)-1),.pointer none] 27)).alloc (.cells #[.bool s2,.int .u64 (c:Int),.int .u64 ((d:Int)-1),.pointer none] 27)):=⟨_,rfl⟩
obtain⟨tA,tB,-,hB⟩:=ol w W _ _ _ hW
have x0:=tA 0
have x1:=tA 1
have x2:=tA 2
have x3:=tA 3
have y0:=tB 0
have y1:=tB 1
have y2:=tB 2
have y3:=tB 3
simp only[List.getElem?_toArray,List.getElem?_cons_zero,List.getElem?_cons_succ] at x0 x1 x2 x3 y0 y1 y2 y3
clear tA tB
have HW:=af hW
have HB:=af hB
clear hW hB
go_enter func155,ntmps155
go_wp2
rw[← ae HW]
obtain⟨ga,hga⟩:∃ ga,ga=w.heap.size:=⟨_,rfl⟩
obtain⟨gb,hgb⟩:∃ gb,gb=w.heap.size+1:=⟨_,rfl⟩
rw[← hga] at x0 x1 x2 x3
rw[← hgb] at y0 y1 y2 y3
rw[← hgb,← hga]
clear hga hgb HW
go_region_held (fun w'=>w'.cell? ⟨ga,0,none⟩=some (.bool s1)∧w'.cell? ⟨ga,1,none⟩=some (.int .u64 (a:Int))∧w'.cell? ⟨ga,2,none⟩=some (.int .u64 ((b:Int)-1))∧w'.cell? ⟨ga,3,none⟩=some (.pointer none)∧w'.cell? ⟨gb,0,none⟩=some (.bool s2)∧w'.cell? ⟨gb,1,none⟩=some (.int .u64 (c:Int))∧w'.cell? ⟨gb,2,none⟩=some (.int .u64 ((d:Int)-1))∧w'.cell? ⟨gb,3,none⟩=some (.pointer none)) (go_keep) (first
 | (go_at_call 167;refine (ae U2 _).mono ?_;rintro e w1 ⟨rfl,hb1⟩;have B1:But [] W w1:=(by first | exact hb1 | exact (But.refl _ _).drew.trans' hb1);have k0:=B1.ag x0 (by simp);have k1:=B1.ag x1 (by simp);have k2:=B1.ag x2 (by simp);have k3:=B1.ag x3 (by simp);have l0:=B1.ag y0 (by simp);have l1:=B1.ag y1 (by simp);have l2:=B1.ag y2 (by simp);have l3:=B1.ag y3 (by simp))
 | (go_at_call 218;refine (ae M1 _).mono ?_;rintro e w2 ⟨rfl,hw2⟩;obtain rfl:=hw2.symm;clear hw2))
have HB1:Hid (But [] w w1):=(ae HB).trans' B1
clear B1 hb1 x0 x1 x2 x3 y0 y1 y2 y3 HB
go_wp2
go_region_held (fun w'=>w'.cell? ⟨ga,0,none⟩=some (.bool s1)∧w'.cell? ⟨ga,1,none⟩=some (.int .u64 (a:Int))∧w'.cell? ⟨ga,2,none⟩=some (.int .u64 ((b:Int)-1))∧w'.cell? ⟨ga,3,none⟩=some (.pointer none)∧w'.cell? ⟨gb,0,none⟩=some (.bool s2)∧w'.cell? ⟨gb,1,none⟩=some (.int .u64 (c:Int))∧w'.cell? ⟨gb,2,none⟩=some (.int .u64 ((d:Int)-1))∧w'.cell? ⟨gb,3,none⟩=some (.pointer none)) (go_keep) (first
 | (go_at_call 167;refine (ae U1 _).mono ?_;rintro e w3 ⟨rfl,hb3⟩;have B3:But [] w1 w3:=(by first | exact hb3 | exact (But.refl _ _).drew.trans' hb3);have m0:=B3.ag k0 (by simp);have m1:=B3.ag k1 (by simp);have m2:=B3.ag k2 (by simp);have m3:=B3.ag k3 (by simp);have n0:=B3.ag l0 (by simp);have n1:=B3.ag l1 (by simp);have n2:=B3.ag l2 (by simp);have n3:=B3.ag l3 (by simp))
 | (go_at_call 218;refine (ae M2 _).mono ?_;rintro e w4 ⟨rfl,hw4⟩;obtain rfl:=hw4.symm;clear hw4))
have HB3:Hid (But [] w w3):=(ae HB1).trans' B3
clear B3 hb3 k0 k1 k2 k3 l0 l1 l2 l3 m0 m1 m2 m3 n0 n1 n2 n3 HB1
go_wp2_with fail
refine (ae C1 _).mono ?_
rintro e w5 ⟨rfl,hw5⟩
obtain rfl:=hw5.symm
clear hw5
go_wp2_with fail
refine (ae C2 _).mono ?_
rintro e w5 ⟨rfl,hw5⟩
obtain rfl:=hw5.symm
clear hw5
go_wp2_with fail
refine (qci w3.heap.size z1 z2 _ (by simp) (by simp) r hrr).mono ?_
rintro e w6 ⟨rfl,hb6⟩
have HB6:Hid (But [] w w6):=((ae HB3).alloc _).trans' hb6
clear hb6
go_wp2
go_ret
exact⟨rfl,ae HB6⟩)
theorem zjg (vf vg:Value) (f g:Rat) (w:World) (hf:aq w vf f) (hg:aq w vg g) (lf:Len f 33554431) (lg:Len g 33554431) (r:Int) (hr:Hid (r=zq (f.num.natAbs*g.den) (g.num.natAbs*f.den))) :
  Calls prog 155 #[vf,vg] w fun e w'=>e=.returned (.int .i64 r)∧But [] w w':=by(
have hq1:=den_pos f
have hq2:=den_pos g
have NF:Hid (∀ W,But [] w W→Calls prog 86 #[vf] W fun e w'=>∃ v1 v2,e=.returned (.tuple #[v1,v2])∧Sl .u64 w' v1 (wd 18446744073709551616 f.num.natAbs)∧Sl .u64 w' v2 (wd 18446744073709551616 f.den)∧But [] W w'):=fun W hb=>dh vf f W (hf.but hb)
have NG:Hid (∀ W,But [] w W→Calls prog 86 #[vg] W fun e w'=>∃ v1 v2,e=.returned (.tuple #[v1,v2])∧Sl .u64 w' v1 (wd 18446744073709551616 g.num.natAbs)∧Sl .u64 w' v2 (wd 18446744073709551616 g.den)∧But [] W w'):=fun W hb=>dh vg g W (hg.but hb)
have CP:Hid (∀ W na nb nc nd,Sl .u64 W na (wd 18446744073709551616 f.num.natAbs)→Sl .u64 W nb (wd 18446744073709551616 f.den)→Sl .u64 W nc (wd 18446744073709551616 g.num.natAbs)→Sl .u64 W nd (wd 18446744073709551616 g.den)→Calls prog 221 #[na,nd,nc,nb] W fun e w'=>e=.returned (.int .i64 r)∧But [] W w'):=fun W na nb nc nd h1 h2 h3 h4=>zlm na nd nc nb _ _ _ _ W h1 h4 h3 h2 (by have:=lf.1;omega) (by have:=lg.2;omega) (by have:=lg.1;omega) (by have:=lf.2;omega) r hr
have LARGE:∀ (s1 s2:Bool) (x1 y1 x2 y2:Int) (p1 p2:Option Addr),vf=.agg #[.bool s1,.int .u64 x1,.int .u64 y1,.pointer p1]→vg=.agg #[.bool s2,.int .u64 x2,.int .u64 y2,.pointer p2]→(p1≠none∨p2≠none)→Calls prog 155 #[vf,vg] w fun e w'=>e=.returned (.int .i64 r)∧But [] w w':=by
 intro s1 s2 x1 y1 x2 y2 p1 p2 ef eg hp
 subst ef
 subst eg
 clear hf hg lf lg hr hq1 hq2
 obtain⟨W,hW⟩:∃ W,W=((w.alloc (.cells #[.bool s1,.int .u64 x1,.int .u64 y1,.pointer p1] 27)).alloc (.cells #[.bool s2,.int .u64 x2,.int .u64 y2,.pointer p2] 27)):=⟨_,rfl⟩
 obtain⟨tA,tB,-,hB⟩:=ol w W _ _ _ hW
 have y0:=tB 0
 have y1:=tB 1
 have y2:=tB 2
 have y3:=tB 3
 simp only[List.getElem?_toArray,List.getElem?_cons_zero,List.getElem?_cons_succ] at y0 y1 y2 y3
 clear tA tB
 have HW:=af hW
 have HB:=af hB
 clear hW hB
 rcases p1 with _ | p1
 ·rcases p2 with _ | p2
  ·simp at hp
  ·clear hp
   go_enter func155,ntmps155
   go_wp2_with fail
   rw[← ae HW]
   obtain⟨gb,hgb⟩:∃ gb,gb=w.heap.size+1:=⟨_,rfl⟩
   rw[← hgb] at y0 y1 y2 y3
   rw[← hgb]
   clear hgb HW
   refine (ae NF _ (ae HB)).mono ?_
   rintro e w1 ⟨na,nb,rfl,hna,hnb,hb1⟩
   have d0:=hb1.ag y0 (by simp)
   have d1:=hb1.ag y1 (by simp)
   have d2:=hb1.ag y2 (by simp)
   have d3:=hb1.ag y3 (by simp)
   have HB1:Hid (But [] w w1):=(ae HB).trans' hb1
   have SA:=af hna
   have SB:=af hnb
   clear hb1 hna hnb y0 y1 y2 y3
   go_wp2_with fail
   refine (ae NG _ (ae HB1)).mono ?_
   rintro e w2 ⟨nc,nd,rfl,hnc,hnd,hb2⟩
   have HB2:Hid (But [] w w2):=(ae HB1).trans' hb2
   have SA2:=af ((ae SA).ah hb2)
   have SB2:=af ((ae SB).ah hb2)
   have SC:=af hnc
   have SD:=af hnd
   clear hb2 hnc hnd d0 d1 d2 d3
   go_wp2_with fail
   refine (ae CP _ na nb nc nd (ae SA2) (ae SB2) (ae SC) (ae SD)).mono ?_
   rintro e w3 ⟨rfl,hb3⟩
   have HB3:Hid (But [] w w3):=(ae HB2).trans' hb3
   clear hb3
   go_wp2
   go_ret
   exact⟨rfl,ae HB3⟩
 ·clear hp
  go_enter func155,ntmps155
  go_wp2_with fail
  rw[← ae HW]
  obtain⟨gb,hgb⟩:∃ gb,gb=w.heap.size+1:=⟨_,rfl⟩
  rw[← hgb] at y0 y1 y2 y3
  rw[← hgb]
  clear hgb HW
  refine (ae NF _ (ae HB)).mono ?_
  rintro e w1 ⟨na,nb,rfl,hna,hnb,hb1⟩
  have d0:=hb1.ag y0 (by simp)
  have d1:=hb1.ag y1 (by simp)
  have d2:=hb1.ag y2 (by simp)
  have d3:=hb1.ag y3 (by simp)
  have HB1:Hid (But [] w w1):=(ae HB).trans' hb1
  have SA:=af hna
  have SB:=af hnb
  clear hb1 hna hnb y0 y1 y2 y3
  go_wp2_with fail
  refine (ae NG _ (ae HB1)).mono ?_
  rintro e w2 ⟨nc,nd,rfl,hnc,hnd,hb2⟩
  have HB2:Hid (But [] w w2):=(ae HB1).trans' hb2
  have SA2:=af ((ae SA).ah hb2)
  have SB2:=af ((ae SB).ah hb2)
  have SC:=af hnc
  have SD:=af hnd
  clear hb2 hnc hnd d0 d1 d2 d3
  go_wp2_with fail
  refine (ae CP _ na nb nc nd (ae SA2) (ae SB2) (ae SC) (ae SD)).mono ?_
  rintro e w3 ⟨rfl,hb3⟩
  have HB3:Hid (But [] w w3):=(ae HB2).trans' hb3
  clear hb3
  go_wp2
  go_ret
  exact⟨rfl,ae HB3⟩
rcases hf.agg with ⟨x1,y1,p1,ef,h1⟩
rcases hg.agg with ⟨x2,y2,p2,eg,h2⟩
rcases p1 with _ | p1
·(
rcases p2 with _ | p2
·obtain⟨a1,a2,a3,a4⟩:=h1 rfl
 obtain⟨c1,c2,c3,c4⟩:=h2 rfl
 rw[ef,eg,a3,a4,c3,c4]
 exact znv _ _ _ _ _ _ a1 a2 c1 c2 hq1 hq2 w r hr
·exact LARGE _ _ _ _ _ _ _ _ ef eg (.inr (by simp)))
·exact LARGE _ _ _ _ _ _ _ _ ef eg (.inl (by simp)))
def zdb (x y:Int):Int:=if x<y then -1 else if x=y then 0 else 1
theorem qgv (m n:Nat):zdb (m:Int) (n:Int)=zq m n:=by(
unfold zdb zq
rcases Nat.lt_trichotomy m n with h | h | h
·rw[if_pos (by omega),if_pos h]
·subst h;simp
·rw[if_neg (by omega),if_neg (by omega),if_neg (by omega),if_neg (by omega)])
theorem qgu (m n:Nat):zdb (-(m:Int)) (-(n:Int))=zq n m:=by(
unfold zdb zq
rcases Nat.lt_trichotomy n m with h | h | h
·rw[if_pos (by omega),if_pos h]
·subst h;simp
·rw[if_neg (by omega),if_neg (by omega),if_neg (by omega),if_neg (by omega)])
theorem zrv {x y:Int} (h:x<y):zdb x y=-1:=by unfold zdb;rw[if_pos h]
theorem zrw {x y:Int} (h:y<x):zdb x y=1:=by unfold zdb;rw[if_neg (by omega),if_neg (by omega)]
theorem sign_mul (F:Int) (q:Nat) (hq:0<q):(F<0→F*q<0)∧(F=0→F*q=0)∧(0<F→0<F*q) :=
 ⟨fun h=>Int.mul_neg_of_neg_of_pos h (by omega),fun h=>by rw[h,Int.zero_mul],fun h=>Int.mul_pos h (by omega)⟩
theorem qcf (F G:Int) (p q:Nat) (hp:0<p) (hq:0<q) (h:F.sign≠G.sign):zdb (F*q) (G*p)=zdb F.sign G.sign:=by(
obtain⟨f1,f2,f3⟩:=sign_mul F q hq
obtain⟨g1,g2,g3⟩:=sign_mul G p hp
have s1:=@Int.sign_eq_neg_one_of_neg F
have s3:=@Int.sign_eq_one_of_pos F
have t1:=@Int.sign_eq_neg_one_of_neg G
have t3:=@Int.sign_eq_one_of_pos G
have s2:F=0→F.sign=0:=fun e=>by rw[e];rfl
have t2:G=0→G.sign=0:=fun e=>by rw[e];rfl
generalize F*q=x at *
generalize G*p=y at *
generalize F.sign=a at *
generalize G.sign=b at *
rcases Int.lt_trichotomy a b with hab | hab | hab
·rw[zrv hab,zrv (by omega)]
·exact absurd hab h
·rw[zrw hab,zrw (by omega)])
theorem qcg (F G:Int) (p q:Nat) (h:F.sign=G.sign) (hF:F<0):zdb (F*q) (G*p)=zq (G.natAbs*p) (F.natAbs*q):=by(
have hG:G<0:=by
 have:=Int.sign_eq_neg_one_of_neg hF
 rw[h] at this
 exact Int.neg_of_sign_eq_neg_one this
have e1:F*q=-((F.natAbs*q:Nat):Int):=by
 rw[Int.natCast_mul,← Int.neg_mul];congr 1;omega
have e2:G*p=-((G.natAbs*p:Nat):Int):=by
 rw[Int.natCast_mul,← Int.neg_mul];congr 1;omega
rw[e1,e2,qgu])
theorem qch (F G:Int) (p q:Nat) (h:F.sign=G.sign) (hF:¬ F<0):zdb (F*q) (G*p)=zq (F.natAbs*q) (G.natAbs*p):=by(
have hG:¬ G<0:=by
 intro hG
 have:=Int.sign_eq_neg_one_of_neg hG
 rw[← h] at this
 exact hF (Int.neg_of_sign_eq_neg_one this)
have e1:F*q=((F.natAbs*q:Nat):Int):=by
 rw[Int.natCast_mul];congr 1;omega
have e2:G*p=((G.natAbs*p:Nat):Int):=by
 rw[Int.natCast_mul];congr 1;omega
rw[e1,e2,qgv])
theorem qgs (x y:Int) (w:World) (r:Int) (hr:Hid (r=zdb x y)) :
  Calls prog 154 #[.int .i64 x,.int .i64 y] w fun e w'=>e=.returned (.int .i64 r)∧w'=w:=by(
rcases Int.lt_trichotomy x y with h | h | h
·(
have e:Hid (r=-1):=by show _=_;rw[ae hr,zrv h]
clear hr
go_enter func154,ntmps154
go_wp2
go_ret
exact⟨by rw[ae e];rfl,rfl⟩)
·(
subst h
have e:Hid (r=0):=by show _=_;rw[ae hr];simp[zdb]
clear hr
go_enter func154,ntmps154
go_wp2
go_ret
exact⟨by rw[ae e];rfl,rfl⟩)
·(
have e:Hid (r=1):=by show _=_;rw[ae hr,zrw h]
clear hr
have h':¬ x<y:=by omega
go_enter func154,ntmps154
go_wp2
go_ret
exact⟨by rw[ae e];rfl,rfl⟩))
theorem zlf (vf vg:Value) (f g:Rat) (w:World) (hf:aq w vf f) (hg:aq w vg g) (lf:Len f 33554431) (lg:Len g 33554431) (r:Int) (hr:Hid (r=zdb (f.num*g.den) (g.num*f.den))) :
  Calls prog 82 #[vf,vg] w fun e w'=>e=.returned (.int .i64 r)∧But [] w w':=by(
have hq1:=den_pos f
have hq2:=den_pos g
have SF:Hid (∀ W,But [] w W→Calls prog 153 #[vf] W fun e w'=>e=.returned (.int .i64 f.num.sign)∧But [] W w'):=fun W hb=>om vf f W (hf.but hb)
have SG:Hid (∀ W,But [] w W→Calls prog 153 #[vg] W fun e w'=>e=.returned (.int .i64 g.num.sign)∧But [] W w'):=fun W hb=>om vg g W (hg.but hb)
have CS1:Hid (f.num.sign=g.num.sign→¬ f.num<0→∀ W,But [] w W→Calls prog 155 #[vf,vg] W fun e w'=>e=.returned (.int .i64 r)∧But [] W w'):=fun h1 h2 W hb=>zjg vf vg f g W (hf.but hb) (hg.but hb) lf lg r (by show _=_;rw[ae hr,qch _ _ _ _ h1 h2])
have CS2:Hid (f.num.sign=g.num.sign→f.num<0→∀ W,But [] w W→Calls prog 155 #[vg,vf] W fun e w'=>e=.returned (.int .i64 r)∧But [] W w'):=fun h1 h2 W hb=>zjg vg vf g f W (hg.but hb) (hf.but hb) lg lf r (by show _=_;rw[ae hr,qcg _ _ _ _ h1 h2])
have CZ:Hid (f.num.sign≠g.num.sign→∀ W,Calls prog 154 #[.int .i64 f.num.sign,.int .i64 g.num.sign] W fun e w'=>e=.returned (.int .i64 r)∧w'=W):=fun h1 W=>qgs _ _ W r (by show _=_;rw[ae hr,qcf _ _ _ _ hq1 hq2 h1])
obtain⟨x1,y1,p1,rfl,-⟩:=hf.agg
obtain⟨x2,y2,p2,rfl,-⟩:=hg.agg
clear hf hg lf lg hr hq1 hq2
obtain⟨W,hW⟩:∃ W,W=((w.alloc (.cells #[.bool (decide (f.num<0)),.int .u64 x1,.int .u64 y1,.pointer p1] 27)).alloc (.cells #[.bool (decide (g.num<0)),.int .u64 x2,.int .u64 y2,.pointer p2] 27)):=⟨_,rfl⟩
obtain⟨tA,tB,fzb,hB⟩:=ol w W _ _ _ hW
have fza:∀ j,W.frozen? ⟨w.heap.size,j,none⟩=false:=fun j=>by rw[hW];simp
have a0:=tA 0
have a1:=tA 1
have a2:=tA 2
have a3:=tA 3
have b0:=tB 0
have b1:=tB 1
have b2:=tB 2
have b3:=tB 3
simp only[List.getElem?_toArray,List.getElem?_cons_zero,List.getElem?_cons_succ] at a0 a1 a2 a3 b0 b1 b2 b3
clear tA tB
have HW:=af hW
have HB:=af hB
clear hW hB
obtain⟨s1,hs1⟩:∃ s1,s1=decide (f.num<0):=⟨_,rfl⟩
obtain⟨s2,hs2⟩:∃ s2,s2=decide (g.num<0):=⟨_,rfl⟩
rw[← hs1] at HW SF CS1 CS2 a0 ⊢
rw[← hs2] at HW SG CS1 CS2 b0 ⊢
have HS1:=af hs1
clear hs1 hs2
obtain⟨ga,hga⟩:∃ ga,ga=w.heap.size:=⟨_,rfl⟩
obtain⟨gb,hgb⟩:∃ gb,gb=w.heap.size+1:=⟨_,rfl⟩
rw[← hga] at a0 a1 a2 a3 fza
rw[← hgb] at b0 b1 b2 b3 fzb
have HGA:Hid (w.heap.size≤ga):=by show _≤_;omega
have HGB:Hid (w.heap.size≤gb):=by show _≤_;omega
have nab:ga≠gb:=by omega
have hsz:=And.intro hga hgb
have HSZ:=af hsz
clear hga hgb hsz
by_cases hsig:f.num.sign=g.num.sign
·(
have dn:(g.num.sign != g.num.sign)=false:=by simp
rw[hsig] at SF
have CS1':Hid (s1=false→∀ W,But [] w W→Calls prog 155 #[.agg #[.bool s1,.int .u64 x1,.int .u64 y1,.pointer p1],.agg #[.bool s2,.int .u64 x2,.int .u64 y2,.pointer p2]] W fun e w'=>e=.returned (.int .i64 r)∧But [] W w'):=fun e=>ae CS1 hsig (by rw[ae HS1] at e;exact of_decide_eq_false e)
have CS2':Hid (s1=true→∀ W,But [] w W→Calls prog 155 #[.agg #[.bool s2,.int .u64 x2,.int .u64 y2,.pointer p2],.agg #[.bool s1,.int .u64 x1,.int .u64 y1,.pointer p1]] W fun e w'=>e=.returned (.int .i64 r)∧But [] W w'):=fun e=>ae CS2 hsig (by rw[ae HS1] at e;exact of_decide_eq_true e)
clear CS1 CS2 CZ hsig HS1
generalize g.num.sign=sg at *
go_enter func82,ntmps82
go_wp2
rw[← ae HW,← (ae HSZ).2,← (ae HSZ).1]
clear HW HSZ
go_region_held (fun w'=>w'.cell? ⟨ga,0,none⟩=some (.bool s1)∧w'.cell? ⟨ga,1,none⟩=some (.int .u64 x1)∧w'.cell? ⟨ga,2,none⟩=some (.int .u64 y1)∧w'.cell? ⟨ga,3,none⟩=some (.pointer p1)∧w'.cell? ⟨gb,0,none⟩=some (.bool s2)∧w'.cell? ⟨gb,1,none⟩=some (.int .u64 x2)∧w'.cell? ⟨gb,2,none⟩=some (.int .u64 y2)∧w'.cell? ⟨gb,3,none⟩=some (.pointer p2)) (go_keep) (first
 | (go_at_call 153;have hchk:=B1;clear hchk;refine (ae SG _ (by first | exact (ae HB).trans' B1 | exact ((ae HB).trans' B1).drew)).mono ?_;rintro e w2 ⟨rfl,hc2⟩;have B2:But [] W w2:=(by first | exact B1.trans' hc2 | exact (B1.drew).trans' hc2);clear hc2;have m0:=B2.ag a0 (by simp);have m1:=B2.ag a1 (by simp);have m2:=B2.ag a2 (by simp);have m3:=B2.ag a3 (by simp);have n0:=B2.ag b0 (by simp);have n1:=B2.ag b1 (by simp);have n2:=B2.ag b2 (by simp);have n3:=B2.ag b3 (by simp))
 | (go_at_call 153;refine (ae SF _ (by first | exact ae HB | exact (ae HB).drew)).mono ?_;rintro e w1 ⟨rfl,hc1⟩;have B1:But [] W w1:=(by first | exact hc1 | exact (But.refl _ _).drew.trans' hc1);clear hc1;have k0:=B1.ag a0 (by simp);have k1:=B1.ag a1 (by simp);have k2:=B1.ag a2 (by simp);have k3:=B1.ag a3 (by simp);have l0:=B1.ag b0 (by simp);have l1:=B1.ag b1 (by simp);have l2:=B1.ag b2 (by simp);have l3:=B1.ag b3 (by simp)))
have gla:ga<W.heap.size:=ai a0
have glb:gb<W.heap.size:=ai b0
replace fza:∀ j,w2.frozen? ⟨ga,j,none⟩=false:=fun j=>(B2.frozen (p:=⟨ga,j,none⟩) gla (by simp)).trans (fza j)
replace fzb:∀ j,w2.frozen? ⟨gb,j,none⟩=false:=fun j=>(B2.frozen (p:=⟨gb,j,none⟩) glb (by simp)).trans (fzb j)
replace HB:Hid (But [] w w2):=(ae HB).trans' B2
clear B1 B2 a0 a1 a2 a3 b0 b1 b2 b3 k0 k1 k2 k3 l0 l1 l2 l3 gla glb
have a0:=m0
have a1:=m1
have a2:=m2
have a3:=m3
have b0:=n0
have b1:=n1
have b2:=n2
have b3:=n3
clear m0 m1 m2 m3 n0 n1 n2 n3
cases s1
·(
have C1:=af (ae CS1' rfl)
clear CS1' CS2'
go_wp2_with fail
refine (ae C1 _ (ae HB)).mono ?_
rintro e w3 ⟨rfl,hb3⟩
have HB3:Hid (But [] w w3):=(ae HB).trans' hb3
clear hb3
go_wp2
go_ret
exact⟨rfl,ae HB3⟩)
·(
have C2:=af (ae CS2' rfl)
clear CS1' CS2'
go_wp2_with fail
have HBs:=af ((((((((((ae HB).setCell (p:=⟨ga,0,none⟩) (.inr (ae HGA)) (.bool s2)).setCell (p:=⟨ga,1,none⟩) (.inr (ae HGA)) (.int .u64 x2)).setCell (p:=⟨ga,2,none⟩) (.inr (ae HGA)) (.int .u64 y2)).setCell (p:=⟨ga,3,none⟩) (.inr (ae HGA)) (.pointer p2)).setCell (p:=⟨gb,0,none⟩) (.inr (ae HGB)) (.bool true)).setCell (p:=⟨gb,1,none⟩) (.inr (ae HGB)) (.int .u64 x1)).setCell (p:=⟨gb,2,none⟩) (.inr (ae HGB)) (.int .u64 y1)).setCell (p:=⟨gb,3,none⟩) (.inr (ae HGB)) (.pointer p1)))
refine (ae C2 _ (ae HBs)).mono ?_
rintro e w3 ⟨rfl,hb3⟩
have HB3:Hid (But [] w w3):=(ae HBs).trans' hb3
clear hb3
go_wp2
go_ret
exact⟨rfl,ae HB3⟩))
·(
have dn:(f.num.sign != g.num.sign)=true:=by simp[hsig]
have CZ':=af (ae CZ hsig)
clear CS1 CS2 CZ hsig HS1
generalize f.num.sign=sf at *
generalize g.num.sign=sg at *
go_enter func82,ntmps82
go_wp2
rw[← ae HW,← (ae HSZ).2,← (ae HSZ).1]
clear HW HSZ
go_region_held (fun w'=>w'.cell? ⟨ga,0,none⟩=some (.bool s1)∧w'.cell? ⟨ga,1,none⟩=some (.int .u64 x1)∧w'.cell? ⟨ga,2,none⟩=some (.int .u64 y1)∧w'.cell? ⟨ga,3,none⟩=some (.pointer p1)∧w'.cell? ⟨gb,0,none⟩=some (.bool s2)∧w'.cell? ⟨gb,1,none⟩=some (.int .u64 x2)∧w'.cell? ⟨gb,2,none⟩=some (.int .u64 y2)∧w'.cell? ⟨gb,3,none⟩=some (.pointer p2)) (go_keep) (first
 | (go_at_call 153;have hchk:=B1;clear hchk;refine (ae SG _ (by first | exact (ae HB).trans' B1 | exact ((ae HB).trans' B1).drew)).mono ?_;rintro e w2 ⟨rfl,hc2⟩;have B2:But [] W w2:=(by first | exact B1.trans' hc2 | exact (B1.drew).trans' hc2);clear hc2;have m0:=B2.ag a0 (by simp);have m1:=B2.ag a1 (by simp);have m2:=B2.ag a2 (by simp);have m3:=B2.ag a3 (by simp);have n0:=B2.ag b0 (by simp);have n1:=B2.ag b1 (by simp);have n2:=B2.ag b2 (by simp);have n3:=B2.ag b3 (by simp))
 | (go_at_call 153;refine (ae SF _ (by first | exact ae HB | exact (ae HB).drew)).mono ?_;rintro e w1 ⟨rfl,hc1⟩;have B1:But [] W w1:=(by first | exact hc1 | exact (But.refl _ _).drew.trans' hc1);clear hc1;have k0:=B1.ag a0 (by simp);have k1:=B1.ag a1 (by simp);have k2:=B1.ag a2 (by simp);have k3:=B1.ag a3 (by simp);have l0:=B1.ag b0 (by simp);have l1:=B1.ag b1 (by simp);have l2:=B1.ag b2 (by simp);have l3:=B1.ag b3 (by simp)))
have gla:ga<W.heap.size:=ai a0
have glb:gb<W.heap.size:=ai b0
replace fza:∀ j,w2.frozen? ⟨ga,j,none⟩=false:=fun j=>(B2.frozen (p:=⟨ga,j,none⟩) gla (by simp)).trans (fza j)
replace fzb:∀ j,w2.frozen? ⟨gb,j,none⟩=false:=fun j=>(B2.frozen (p:=⟨gb,j,none⟩) glb (by simp)).trans (fzb j)
replace HB:Hid (But [] w w2):=(ae HB).trans' B2
clear B1 B2 a0 a1 a2 a3 b0 b1 b2 b3 k0 k1 k2 k3 l0 l1 l2 l3 gla glb
have a0:=m0
have a1:=m1
have a2:=m2
have a3:=m3
have b0:=n0
have b1:=n1
have b2:=n2
have b3:=n3
clear m0 m1 m2 m3 n0 n1 n2 n3
go_wp2
go_region_held (fun w'=>w'.cell? ⟨ga,0,none⟩=some (.bool s1)∧w'.cell? ⟨ga,1,none⟩=some (.int .u64 x1)∧w'.cell? ⟨ga,2,none⟩=some (.int .u64 y1)∧w'.cell? ⟨ga,3,none⟩=some (.pointer p1)∧w'.cell? ⟨gb,0,none⟩=some (.bool s2)∧w'.cell? ⟨gb,1,none⟩=some (.int .u64 x2)∧w'.cell? ⟨gb,2,none⟩=some (.int .u64 y2)∧w'.cell? ⟨gb,3,none⟩=some (.pointer p2)) (go_keep) (first
 | (go_at_call 153;have hchk:=B3;clear hchk;refine (ae SG _ (by first | exact (ae HB).trans' B3 | exact ((ae HB).trans' B3).drew)).mono ?_;rintro e w4 ⟨rfl,hc2⟩;have B4:But [] w2 w4:=(by first | exact B3.trans' hc2 | exact (B3.drew).trans' hc2);clear hc2;have m0:=B4.ag a0 (by simp);have m1:=B4.ag a1 (by simp);have m2:=B4.ag a2 (by simp);have m3:=B4.ag a3 (by simp);have n0:=B4.ag b0 (by simp);have n1:=B4.ag b1 (by simp);have n2:=B4.ag b2 (by simp);have n3:=B4.ag b3 (by simp))
 | (go_at_call 153;refine (ae SF _ (by first | exact ae HB | exact (ae HB).drew)).mono ?_;rintro e w3 ⟨rfl,hc1⟩;have B3:But [] w2 w3:=(by first | exact hc1 | exact (But.refl _ _).drew.trans' hc1);clear hc1;have k0:=B3.ag a0 (by simp);have k1:=B3.ag a1 (by simp);have k2:=B3.ag a2 (by simp);have k3:=B3.ag a3 (by simp);have l0:=B3.ag b0 (by simp);have l1:=B3.ag b1 (by simp);have l2:=B3.ag b2 (by simp);have l3:=B3.ag b3 (by simp))
 | (go_at_call 154;refine (ae CZ' _).mono ?_;rintro e w5 ⟨rfl,hw5⟩;obtain rfl:=hw5.symm;clear hw5))
have HB5:Hid (But [] w w4):=(ae HB).trans' B4
clear B3 B4
go_wp2
go_ret
exact⟨rfl,ae HB5⟩))
end Go.Proofs.YtpmjeclpkahkmaaGreatDoor
