/- One divided by a fraction, as the Go tex -/
import Derived.Test.YtjlfllhedceigaaGreatDoorRN26
import Derived.Test.YtjlfllhedceigaaGreatDoorRN34
namespace Go.Proofs.YtjlfllhedceigaaGreatDoor
set_option linter.unusedVariables false
open Go.Proofs.Tryz
open Go.RowKit
set_option maxHeartbeats 8000000
set_option maxRecDepth 100000
theorem znk (w W:World) (A B:Array Value) (t:TypeId) (hW:W=(w.alloc (.cells A t)).alloc (.cells B t)) :
   (∀ j,W.cell? ⟨w.heap.size,j,none⟩=A[j]?)∧(∀ j,W.cell? ⟨w.heap.size+1,j,none⟩=B[j]?)∧(∀ j,W.frozen? ⟨w.heap.size+1,j,none⟩=false)∧But [] w W:=by(
 subst hW
 refine⟨fun j=>?_,fun j=>?_,fun j=>?_,((But.refl _ _).alloc _).alloc _⟩
 ·have h:=((But.refl [] (w.alloc (.cells A t))).alloc (.cells B t)).cell (p:=⟨w.heap.size,j,none⟩) (by simp) (by simp)
  rw[h,World.cell?_alloc_new]
 ·simp
 ·simp)
theorem zxs (b:Nat) (x y:Int) (w:World) (hx:w.cell? ⟨b,0,none⟩=some (.int .i64 x)) (hy:w.cell? ⟨b,1,none⟩=some (.int .i64 y)) (r:Int) (hr:Hid (r=if x≠0 then x else y)) :
   Calls prog 188 #[.slice (some ⟨b,0,none⟩) 2 2] w fun e w'=>e=.returned (.int .i64 r)∧But [] w w':=by(
 by_cases h0:x=0
 ·(
 subst h0
 by_cases h1:y=0
 ·(
 subst h1
 have er:Hid (r=0):=by show _=_;rw[ae hr];simp
 clear hr
 go_enter func188,ntmps188
 go_wp2
 refine wp_loop_rounds 3 ?_
 rw[rounds_succ]
 go_wp2
 rw[rounds_succ]
 go_wp2
 rw[rounds_succ]
 go_wp2
 go_ret
 exact⟨by rw[ae er];rfl,But.refl _ _⟩)
 ·(
 have er:Hid (r=y):=by show _=_;rw[ae hr];simp
 have n1:(y != 0)=true:=by simp[h1]
 clear hr
 go_enter func188,ntmps188
 go_wp2
 refine wp_loop_rounds 2 ?_
 rw[rounds_succ]
 go_wp2
 rw[rounds_succ]
 go_wp2
 go_ret
 exact⟨by rw[ae er];rfl,But.refl _ _⟩))
 ·(
 have er:Hid (r=x):=by show _=_;rw[ae hr];simp[h0]
 have n1:(x != 0)=true:=by simp[h0]
 clear hr
 go_enter func188,ntmps188
 go_wp2
 refine wp_loop_rounds 1 ?_
 rw[rounds_succ]
 go_wp2
 go_ret
 exact⟨by rw[ae er];rfl,But.refl _ _⟩))
theorem qgc (h1 l1 h2 l2:Nat) (b1:l1 < 18446744073709551616) (b2:l2 < 18446744073709551616):zn (l1 + 18446744073709551616*h1) (l2 + 18446744073709551616*h2)=if zn h1 h2≠0 then zn h1 h2 else zn l1 l2:=by(
 rcases Nat.lt_trichotomy h1 h2 with h | h | h
 ·rw[uj h,uj (by omega)];simp
 ·(
 subst h
 have e:zn h1 h1=0:=by simp[zn]
 rw[e,if_neg (by simp)]
 rcases Nat.lt_trichotomy l1 l2 with h | h | h
 ·rw[uj h,uj (by omega)]
 ·subst h;simp[zn]
 ·rw[zbk h,zbk (by omega)])
 ·rw[zbk h,zbk (by omega)];simp)
theorem zlg (s1 s2:Bool) (a b c d:Nat) (ha:a < 18446744073709551616) (hb:b < 18446744073709551616) (hc:c < 18446744073709551616) (hd:d < 18446744073709551616) (hb0:0<b) (hd0:0<d) (w:World) (r:Int) (hr:Hid (r=zn (a*d) (c*b))) :
   Calls prog 106 #[.agg #[.bool s1,.int .u64 (a:Int),.int .u64 ((b:Int)-1),.pointer none],.agg #[.bool s2,.int .u64 (c:Int),.int .u64 ((d:Int)-1),.pointer none]] w fun e w'=>e=.returned (.int .i64 r)∧But [] w w':=by(
 have U1:=af (fun W=>zfy s1 a b hb hb0 W)
 have U2:=af (fun W=>zfy s2 c d hd hd0 W)
 obtain⟨lo1,hi1,hlo1,hhi1,e1⟩:=bp a d 0 ha hd (by omega)
 obtain⟨lo2,hi2,hlo2,hhi2,e2⟩:=bp c b 0 hc hb (by omega)
 rw[Nat.add_zero] at e1 e2
 have M1:=af (fun W=>zdk a d hi1 lo1 ha hd hlo1 e1 W)
 have M2:=af (fun W=>zdk c b hi2 lo2 hc hb hlo2 e2 W)
 have hrr:Hid (r=if zn hi1 hi2≠0 then zn hi1 hi2 else zn lo1 lo2):=by show _=_;rw[ae hr,e1,e2,qgc _ _ _ _ hlo1 hlo2]
 have C1:=af (fun W=>zfr hi1 hi2 W (zn hi1 hi2) rfl)
 have C2:=af (fun W=>zfr lo1 lo2 W (zn lo1 lo2) rfl)
 clear hr e1 e2
 generalize zn hi1 hi2=z1 at *
 generalize zn lo1 lo2=z2 at *
 obtain⟨W,hW⟩:∃ W,W=((w.alloc (.cells #[.bool s1,.int .u64 (a:Int),.int .u64 ((b:Int)-1),.pointer none] 27)).alloc (.cells #[.bool s2,.int .u64 (c:Int),.int .u64 ((d:Int)-1),.pointer none] 27)):=⟨_,rfl⟩
 obtain⟨tA,tB,-,hB⟩:=znk w W _ _ _ hW
 have x0:=tA 0
 have x1:=tA 1
 have x2:=tA 2
 have x3:=tA 3
 have y0:=tB 0
 have y1:=tB 1
 have y2:=tB 2
 have y3:=tB 3
 simp only[List.getElem?_toArray,List.getElem?_cons_zero,List.getElem?_cons_succ] at x0 x1 x2 x3 y0 y1 y2 y3
 clear tA tB
 have HW:=af hW
 have HB:=af hB
 clear hW hB
 go_enter func106,ntmps106
 go_wp2
 rw[← ae HW]
 obtain⟨ga,hga⟩:∃ ga,ga=w.heap.size:=⟨_,rfl⟩
 obtain⟨gb,hgb⟩:∃ gb,gb=w.heap.size+1:=⟨_,rfl⟩
 rw[← hga] at x0 x1 x2 x3
 rw[← hgb] at y0 y1 y2 y3
 rw[← hgb,← hga]
 clear hga hgb HW
 go_region_held (fun w'=>w'.cell? ⟨ga,0,none⟩=some (.bool s1)∧w'.cell? ⟨ga,1,none⟩=some (.int .u64 (a:Int))∧w'.cell? ⟨ga,2,none⟩=some (.int .u64 ((b:Int)-1))∧w'.cell? ⟨ga,3,none⟩=some (.pointer none)∧w'.cell? ⟨gb,0,none⟩=some (.bool s2)∧w'.cell? ⟨gb,1,none⟩=some (.int .u64 (c:Int))∧w'.cell? ⟨gb,2,none⟩=some (.int .u64 ((d:Int)-1))∧w'.cell? ⟨gb,3,none⟩=some (.pointer none)) (go_keep) (first
  | (go_at_call 118;refine (ae U2 _).mono ?_;rintro e w1 ⟨rfl,hb1⟩;have B1:But [] W w1:=(by first | exact hb1 | exact (But.refl _ _).drew.trans' hb1);have k0:=B1.ag x0 (by simp);have k1:=B1.ag x1 (by simp);have k2:=B1.ag x2 (by simp);have k3:=B1.ag x3 (by simp);have l0:=B1.ag y0 (by simp);have l1:=B1.ag y1 (by simp);have l2:=B1.ag y2 (by simp);have l3:=B1.ag y3 (by simp))
  | (go_at_call 187;refine (ae M1 _).mono ?_;rintro e w2 ⟨rfl,hw2⟩;obtain rfl:=hw2.symm;clear hw2))
 have HB1:Hid (But [] w w1):=(ae HB).trans' B1
 clear B1 hb1 x0 x1 x2 x3 y0 y1 y2 y3 HB
 go_wp2
 go_region_held (fun w'=>w'.cell? ⟨ga,0,none⟩=some (.bool s1)∧w'.cell? ⟨ga,1,none⟩=some (.int .u64 (a:Int))∧w'.cell? ⟨ga,2,none⟩=some (.int .u64 ((b:Int)-1))∧w'.cell? ⟨ga,3,none⟩=some (.pointer none)∧w'.cell? ⟨gb,0,none⟩=some (.bool s2)∧w'.cell? ⟨gb,1,none⟩=some (.int .u64 (c:Int))∧w'.cell? ⟨gb,2,none⟩=some (.int .u64 ((d:Int)-1))∧w'.cell? ⟨gb,3,none⟩=some (.pointer none)) (go_keep) (first
  | (go_at_call 118;refine (ae U1 _).mono ?_;rintro e w3 ⟨rfl,hb3⟩;have B3:But [] w1 w3:=(by first | exact hb3 | exact (But.refl _ _).drew.trans' hb3);have m0:=B3.ag k0 (by simp);have m1:=B3.ag k1 (by simp);have m2:=B3.ag k2 (by simp);have m3:=B3.ag k3 (by simp);have n0:=B3.ag l0 (by simp);have n1:=B3.ag l1 (by simp);have n2:=B3.ag l2 (by simp);have n3:=B3.ag l3 (by simp))
  | (go_at_call 187;refine (ae M2 _).mono ?_;rintro e w4 ⟨rfl,hw4⟩;obtain rfl:=hw4.symm;clear hw4))
 have HB3:Hid (But [] w w3):=(ae HB1).trans' B3
 clear B3 hb3 k0 k1 k2 k3 l0 l1 l2 l3 m0 m1 m2 m3 n0 n1 n2 n3 HB1
 go_wp2_with fail
 refine (ae C1 _).mono ?_
 rintro e w5 ⟨rfl,hw5⟩
 obtain rfl:=hw5.symm
 clear hw5
 go_wp2_with fail
 refine (ae C2 _).mono ?_
 rintro e w5 ⟨rfl,hw5⟩
 obtain rfl:=hw5.symm
 clear hw5
 go_wp2_with fail
 refine (zxs w3.heap.size z1 z2 _ (by simp) (by simp) r hrr).mono ?_
 rintro e w6 ⟨rfl,hb6⟩
 have HB6:Hid (But [] w w6):=((ae HB3).alloc _).trans' hb6
 clear hb6
 go_wp2
 go_ret
 exact⟨rfl,ae HB6⟩)
theorem zfs (vf vg:Value) (f g:Rat) (w:World) (hf:am w vf f) (hg:am w vg g) (lf:Len f 33554431) (lg:Len g 33554431) (r:Int) (hr:Hid (r=zn (f.num.natAbs*g.den) (g.num.natAbs*f.den))) :
   Calls prog 106 #[vf,vg] w fun e w'=>e=.returned (.int .i64 r)∧But [] w w':=by(
 have hq1:=den_pos f
 have hq2:=den_pos g
 have NF:Hid (∀ W,But [] w W→Calls prog 50 #[vf] W fun e w'=>∃ v1 v2,e=.returned (.tuple #[v1,v2])∧Sl .u64 w' v1 (wd 18446744073709551616 f.num.natAbs)∧Sl .u64 w' v2 (wd 18446744073709551616 f.den)∧But [] W w'):=fun W hb=>zcr vf f W (hf.but hb)
 have NG:Hid (∀ W,But [] w W→Calls prog 50 #[vg] W fun e w'=>∃ v1 v2,e=.returned (.tuple #[v1,v2])∧Sl .u64 w' v1 (wd 18446744073709551616 g.num.natAbs)∧Sl .u64 w' v2 (wd 18446744073709551616 g.den)∧But [] W w'):=fun W hb=>zcr vg g W (hg.but hb)
 have CP:Hid (∀ W na nb nc nd,Sl .u64 W na (wd 18446744073709551616 f.num.natAbs)→Sl .u64 W nb (wd 18446744073709551616 f.den)→Sl .u64 W nc (wd 18446744073709551616 g.num.natAbs)→Sl .u64 W nd (wd 18446744073709551616 g.den)→Calls prog 190 #[na,nd,nc,nb] W fun e w'=>e=.returned (.int .i64 r)∧But [] W w'):=fun W na nb nc nd h1 h2 h3 h4=>zim na nd nc nb _ _ _ _ W h1 h4 h3 h2 (by have:=lf.1;omega) (by have:=lg.2;omega) (by have:=lg.1;omega) (by have:=lf.2;omega) r hr
 have LARGE:∀ (s1 s2:Bool) (x1 y1 x2 y2:Int) (p1 p2:Option Addr),vf=.agg #[.bool s1,.int .u64 x1,.int .u64 y1,.pointer p1]→vg=.agg #[.bool s2,.int .u64 x2,.int .u64 y2,.pointer p2]→(p1≠none∨p2≠none)→Calls prog 106 #[vf,vg] w fun e w'=>e=.returned (.int .i64 r)∧But [] w w':=by
  intro s1 s2 x1 y1 x2 y2 p1 p2 ef eg hp
  subst ef
  subst eg
  clear hf hg lf lg hr hq1 hq2
  obtain⟨W,hW⟩:∃ W,W=((w.alloc (.cells #[.bool s1,.int .u64 x1,.int .u64 y1,.pointer p1] 27)).alloc (.cells #[.bool s2,.int .u64 x2,.int .u64 y2,.pointer p2] 27)):=⟨_,rfl⟩
  obtain⟨tA,tB,-,hB⟩:=znk w W _ _ _ hW
  have y0:=tB 0
  have y1:=tB 1
  have y2:=tB 2
  have y3:=tB 3
  simp only[List.getElem?_toArray,List.getElem?_cons_zero,List.getElem?_cons_succ] at y0 y1 y2 y3
  clear tA tB
  have HW:=af hW
  have HB:=af hB
  clear hW hB
  rcases p1 with _ | p1
  ·rcases p2 with _ | p2
   ·simp at hp
   ·clear hp
    go_enter func106,ntmps106
    go_wp2_with fail
    rw[← ae HW]
    obtain⟨gb,hgb⟩:∃ gb,gb=w.heap.size+1:=⟨_,rfl⟩
    rw[← hgb] at y0 y1 y2 y3
    rw[← hgb]
    clear hgb HW
    refine (ae NF _ (ae HB)).mono ?_
    rintro e w1 ⟨na,nb,rfl,hna,hnb,hb1⟩
    have d0:=hb1.ag y0 (by simp)
    have d1:=hb1.ag y1 (by simp)
    have d2:=hb1.ag y2 (by simp)
    have d3:=hb1.ag y3 (by simp)
    have HB1:Hid (But [] w w1):=(ae HB).trans' hb1
    have SA:=af hna
    have SB:=af hnb
    clear hb1 hna hnb y0 y1 y2 y3
    go_wp2_with fail
    refine (ae NG _ (ae HB1)).mono ?_
    rintro e w2 ⟨nc,nd,rfl,hnc,hnd,hb2⟩
    have HB2:Hid (But [] w w2):=(ae HB1).trans' hb2
    have SA2:=af ((ae SA).ah hb2)
    have SB2:=af ((ae SB).ah hb2)
    have SC:=af hnc
    have SD:=af hnd
    clear hb2 hnc hnd d0 d1 d2 d3
    go_wp2_with fail
    refine (ae CP _ na nb nc nd (ae SA2) (ae SB2) (ae SC) (ae SD)).mono ?_
    rintro e w3 ⟨rfl,hb3⟩
    have HB3:Hid (But [] w w3):=(ae HB2).trans' hb3
    clear hb3
    go_wp2
    go_ret
    exact⟨rfl,ae HB3⟩
  ·clear hp
   go_enter func106,ntmps106
   go_wp2_with fail
   rw[← ae HW]
   obtain⟨gb,hgb⟩:∃ gb,gb=w.heap.size+1:=⟨_,rfl⟩
   rw[← hgb] at y0 y1 y2 y3
   rw[← hgb]
   clear hgb HW
   refine (ae NF _ (ae HB)).mono ?_
   rintro e w1 ⟨na,nb,rfl,hna,hnb,hb1⟩
   have d0:=hb1.ag y0 (by simp)
   have d1:=hb1.ag y1 (by simp)
   have d2:=hb1.ag y2 (by simp)
   have d3:=hb1.ag y3 (by simp)
   have HB1:Hid (But [] w w1):=(ae HB).trans' hb1
   have SA:=af hna
   have SB:=af hnb
   clear hb1 hna hnb y0 y1 y2 y3
   go_wp2_with fail
   refine (ae NG _ (ae HB1)).mono ?_
   rintro e w2 ⟨nc,nd,rfl,hnc,hnd,hb2⟩
   have HB2:Hid (But [] w w2):=(ae HB1).trans' hb2
   have SA2:=af ((ae SA).ah hb2)
   have SB2:=af ((ae SB).ah hb2)
   have SC:=af hnc
   have SD:=af hnd
   clear hb2 hnc hnd d0 d1 d2 d3
   go_wp2_with fail
   refine (ae CP _ na nb nc nd (ae SA2) (ae SB2) (ae SC) (ae SD)).mono ?_
   rintro e w3 ⟨rfl,hb3⟩
   have HB3:Hid (But [] w w3):=(ae HB2).trans' hb3
   clear hb3
   go_wp2
   go_ret
   exact⟨rfl,ae HB3⟩
 rcases hf.agg with ⟨x1,y1,p1,ef,h1⟩
 rcases hg.agg with ⟨x2,y2,p2,eg,h2⟩
 rcases p1 with _ | p1
 ·(
 rcases p2 with _ | p2
 ·obtain⟨a1,a2,a3,a4⟩:=h1 rfl
  obtain⟨c1,c2,c3,c4⟩:=h2 rfl
  rw[ef,eg,a3,a4,c3,c4]
  exact zlg _ _ _ _ _ _ a1 a2 c1 c2 hq1 hq2 w r hr
 ·exact LARGE _ _ _ _ _ _ _ _ ef eg (.inr (by simp)))
 ·exact LARGE _ _ _ _ _ _ _ _ ef eg (.inl (by simp)))
end Go.Proofs.YtjlfllhedceigaaGreatDoor
