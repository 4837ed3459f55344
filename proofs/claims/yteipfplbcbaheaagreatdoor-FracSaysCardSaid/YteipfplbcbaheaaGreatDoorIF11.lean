/- Facts. -/
import Derived.Test.YteipfplbcbaheaaGreatDoorIF7
import Derived.Test.YteipfplbcbaheaaGreatDoorIH5
import Derived.Test.YteipfplbcbaheaaGreatDoorIN26
namespace Go.Proofs.YteipfplbcbaheaaGreatDoor
open Go.RowKit
set_option maxHeartbeats 1000000
set_option maxRecDepth 100000
theorem cmpOr_two (b:Nat) (x y:Int) (w:World) (hx:w.cell? ⟨b,0,none⟩=some (.int .i64 x)) (hy:w.cell? ⟨b,1,none⟩=some (.int .i64 y)) (r:Int) (hr:Hid (r=if x≠0 then x else y)) :
  Calls Tryz.prog 142 #[.slice (some ⟨b,0,none⟩) 2 2] w fun e w'=>e=.returned (.int .i64 r)∧But [] w w':=by
 by_cases h0:x=0
 ·subst h0
  by_cases h1:y=0
  ·subst h1
   have er:Hid (r=0):=by show _=_;rw [unhide hr];simp
   clear hr
   go_enter Tryz.func142,Tryz.ntmps142
   go_wp2
   refine wp_loop_rounds 3 ?_
   rw [rounds_succ]
   go_wp2
   rw [rounds_succ]
   go_wp2
   rw [rounds_succ]
   go_wp2
   go_ret
   exact ⟨by rw [unhide er];rfl,But.refl _ _⟩
  ·have er:Hid (r=y):=by show _=_;rw [unhide hr];simp
   have n1:(y != 0)=true:=by simp [h1]
   clear hr
   go_enter Tryz.func142,Tryz.ntmps142
   go_wp2
   refine wp_loop_rounds 2 ?_
   rw [rounds_succ]
   go_wp2
   rw [rounds_succ]
   go_wp2
   go_ret
   exact ⟨by rw [unhide er];rfl,But.refl _ _⟩
 ·have er:Hid (r=x):=by show _=_;rw [unhide hr];simp [h0]
  have n1:(x != 0)=true:=by simp [h0]
  clear hr
  go_enter Tryz.func142,Tryz.ntmps142
  go_wp2
  refine wp_loop_rounds 1 ?_
  rw [rounds_succ]
  go_wp2
  go_ret
  exact ⟨by rw [unhide er];rfl,But.refl _ _⟩
end Go.Proofs.YteipfplbcbaheaaGreatDoor

namespace Go.Proofs.YteipfplbcbaheaaGreatDoor
open Go.RowKit
set_option maxHeartbeats 8000000
set_option maxRecDepth 100000
theorem cmp_lex (h1 l1 h2 l2:Nat) (b1:l1 < 18446744073709551616) (b2:l2 < 18446744073709551616):cmpN (l1 + 18446744073709551616*h1) (l2 + 18446744073709551616*h2)=if cmpN h1 h2≠0 then cmpN h1 h2 else cmpN l1 l2:=by
 rcases Nat.lt_trichotomy h1 h2 with h | h | h
 ·rw [cmpN_lt h,cmpN_lt (by omega)];simp
 ·subst h
  have e:cmpN h1 h1=0:=by simp [cmpN]
  rw [e,if_neg (by simp)]
  rcases Nat.lt_trichotomy l1 l2 with h | h | h
  ·rw [cmpN_lt h,cmpN_lt (by omega)]
  ·subst h;simp [cmpN]
  ·rw [cmpN_one h,cmpN_one (by omega)]
 ·rw [cmpN_one h,cmpN_one (by omega)];simp
theorem cmpSizes_words (s1 s2:Bool) (a b c d:Nat) (ha:a < 18446744073709551616) (hb:b < 18446744073709551616) (hc:c < 18446744073709551616) (hd:d < 18446744073709551616) (hb0:0<b) (hd0:0<d) (w:World) (r:Int) (hr:Hid (r=cmpN (a*d) (c*b))) :
  Calls Tryz.prog 78 #[.agg #[.bool s1,.int .u64 (a:Int),.int .u64 ((b:Int)-1),.pointer none],.agg #[.bool s2,.int .u64 (c:Int),.int .u64 ((d:Int)-1),.pointer none]] w fun e w'=>e=.returned (.int .i64 r)∧But [] w w':=by
 have U1:=hide (fun W=>under_any s1 a b hb hb0 W)
 have U2:=hide (fun W=>under_any s2 c d hd hd0 W)
 obtain ⟨lo1,hi1,hlo1,hhi1,e1⟩:=mul_letters a d 0 ha hd (by omega)
 obtain ⟨lo2,hi2,hlo2,hhi2,e2⟩:=mul_letters c b 0 hc hb (by omega)
 rw [Nat.add_zero] at e1 e2
 have M1:=hide (fun W=>mul64_any a d hi1 lo1 ha hd hlo1 e1 W)
 have M2:=hide (fun W=>mul64_any c b hi2 lo2 hc hb hlo2 e2 W)
 have hrr:Hid (r=if cmpN hi1 hi2≠0 then cmpN hi1 hi2 else cmpN lo1 lo2):=by show _=_;rw [unhide hr,e1,e2,cmp_lex _ _ _ _ hlo1 hlo2]
 have C1:=hide (fun W=>compareU hi1 hi2 W (cmpN hi1 hi2) rfl)
 have C2:=hide (fun W=>compareU lo1 lo2 W (cmpN lo1 lo2) rfl)
 clear hr e1 e2
 generalize cmpN hi1 hi2=z1 at *
 generalize cmpN lo1 lo2=z2 at *
 obtain ⟨W,hW⟩:∃ W,W=((w.alloc (.cells #[.bool s1,.int .u64 (a:Int),.int .u64 ((b:Int)-1),.pointer none] 27)).alloc (.cells #[.bool s2,.int .u64 (c:Int),.int .u64 ((d:Int)-1),.pointer none] 27)):=⟨_,rfl⟩
 obtain ⟨tA,tB,-,hB⟩:=two_new w W _ _ _ hW
 have x0:=tA 0
 have x1:=tA 1
 have x2:=tA 2
 have x3:=tA 3
 have y0:=tB 0
 have y1:=tB 1
 have y2:=tB 2
 have y3:=tB 3
 simp only [List.getElem?_toArray,List.getElem?_cons_zero,List.getElem?_cons_succ] at x0 x1 x2 x3 y0 y1 y2 y3
 clear tA tB
 have HW:=hide hW
 have HB:=hide hB
 clear hW hB
 go_enter Tryz.func78,Tryz.ntmps78
 go_wp2
 rw [← unhide HW]
 obtain ⟨ga,hga⟩:∃ ga,ga=w.heap.size:=⟨_,rfl⟩
 obtain ⟨gb,hgb⟩:∃ gb,gb=w.heap.size+1:=⟨_,rfl⟩
 rw [← hga] at x0 x1 x2 x3
 rw [← hgb] at y0 y1 y2 y3
 rw [← hgb,← hga]
 clear hga hgb HW
 go_region_held (fun w'=>w'.cell? ⟨ga,0,none⟩=some (.bool s1)∧w'.cell? ⟨ga,1,none⟩=some (.int .u64 (a:Int))∧w'.cell? ⟨ga,2,none⟩=some (.int .u64 ((b:Int)-1))∧w'.cell? ⟨ga,3,none⟩=some (.pointer none)∧w'.cell? ⟨gb,0,none⟩=some (.bool s2)∧w'.cell? ⟨gb,1,none⟩=some (.int .u64 (c:Int))∧w'.cell? ⟨gb,2,none⟩=some (.int .u64 ((d:Int)-1))∧w'.cell? ⟨gb,3,none⟩=some (.pointer none)) (go_keep) (first
  | (go_at_call 83;refine (unhide U2 _).mono ?_;rintro e w1 ⟨rfl,hb1⟩;have B1:But [] W w1:=(by first | exact hb1 | exact (But.refl _ _).drew.trans' hb1);have k0:=B1.cell_some x0 (by simp);have k1:=B1.cell_some x1 (by simp);have k2:=B1.cell_some x2 (by simp);have k3:=B1.cell_some x3 (by simp);have l0:=B1.cell_some y0 (by simp);have l1:=B1.cell_some y1 (by simp);have l2:=B1.cell_some y2 (by simp);have l3:=B1.cell_some y3 (by simp))
  | (go_at_call 128;refine (unhide M1 _).mono ?_;rintro e w2 ⟨rfl,hw2⟩;obtain rfl:=hw2.symm;clear hw2))
 have HB1:Hid (But [] w w1):=(unhide HB).trans' B1
 clear B1 hb1 x0 x1 x2 x3 y0 y1 y2 y3 HB
 go_wp2
 go_region_held (fun w'=>w'.cell? ⟨ga,0,none⟩=some (.bool s1)∧w'.cell? ⟨ga,1,none⟩=some (.int .u64 (a:Int))∧w'.cell? ⟨ga,2,none⟩=some (.int .u64 ((b:Int)-1))∧w'.cell? ⟨ga,3,none⟩=some (.pointer none)∧w'.cell? ⟨gb,0,none⟩=some (.bool s2)∧w'.cell? ⟨gb,1,none⟩=some (.int .u64 (c:Int))∧w'.cell? ⟨gb,2,none⟩=some (.int .u64 ((d:Int)-1))∧w'.cell? ⟨gb,3,none⟩=some (.pointer none)) (go_keep) (first
  | (go_at_call 83;refine (unhide U1 _).mono ?_;rintro e w3 ⟨rfl,hb3⟩;have B3:But [] w1 w3:=(by first | exact hb3 | exact (But.refl _ _).drew.trans' hb3);have m0:=B3.cell_some k0 (by simp);have m1:=B3.cell_some k1 (by simp);have m2:=B3.cell_some k2 (by simp);have m3:=B3.cell_some k3 (by simp);have n0:=B3.cell_some l0 (by simp);have n1:=B3.cell_some l1 (by simp);have n2:=B3.cell_some l2 (by simp);have n3:=B3.cell_some l3 (by simp))
  | (go_at_call 128;refine (unhide M2 _).mono ?_;rintro e w4 ⟨rfl,hw4⟩;obtain rfl:=hw4.symm;clear hw4))
 have HB3:Hid (But [] w w3):=(unhide HB1).trans' B3
 clear B3 hb3 k0 k1 k2 k3 l0 l1 l2 l3 m0 m1 m2 m3 n0 n1 n2 n3 HB1
 go_wp2_with fail
 refine (unhide C1 _).mono ?_
 rintro e w5 ⟨rfl,hw5⟩
 obtain rfl:=hw5.symm
 clear hw5
 go_wp2_with fail
 refine (unhide C2 _).mono ?_
 rintro e w5 ⟨rfl,hw5⟩
 obtain rfl:=hw5.symm
 clear hw5
 go_wp2_with fail
 refine (cmpOr_two w3.heap.size z1 z2 _ (by simp) (by simp) r hrr).mono ?_
 rintro e w6 ⟨rfl,hb6⟩
 have HB6:Hid (But [] w w6):=((unhide HB3).alloc _).trans' hb6
 clear hb6
 go_wp2
 go_ret
 exact ⟨rfl,unhide HB6⟩
theorem cmpSizes_any (vf vg:Value) (f g:Rat) (w:World) (hf:FracAt w vf f) (hg:FracAt w vg g) (lf:Len f 33554431) (lg:Len g 33554431) (r:Int) (hr:Hid (r=cmpN (f.num.natAbs*g.den) (g.num.natAbs*f.den))) :
  Calls Tryz.prog 78 #[vf,vg] w fun e w'=>e=.returned (.int .i64 r)∧But [] w w':=by
 have hq1:=den_pos f
 have hq2:=den_pos g
 have NF:Hid (∀ W,But [] w W→Calls Tryz.prog 60 #[vf] W fun e w'=>∃ v1 v2,e=.returned (.tuple #[v1,v2])∧Sl .u64 w' v1 (wd 18446744073709551616 f.num.natAbs)∧Sl .u64 w' v2 (wd 18446744073709551616 f.den)∧But [] W w'):=fun W hb=>numbers_any vf f W (hf.but hb)
 have NG:Hid (∀ W,But [] w W→Calls Tryz.prog 60 #[vg] W fun e w'=>∃ v1 v2,e=.returned (.tuple #[v1,v2])∧Sl .u64 w' v1 (wd 18446744073709551616 g.num.natAbs)∧Sl .u64 w' v2 (wd 18446744073709551616 g.den)∧But [] W w'):=fun W hb=>numbers_any vg g W (hg.but hb)
 have CP:Hid (∀ W na nb nc nd,Sl .u64 W na (wd 18446744073709551616 f.num.natAbs)→Sl .u64 W nb (wd 18446744073709551616 f.den)→Sl .u64 W nc (wd 18446744073709551616 g.num.natAbs)→Sl .u64 W nd (wd 18446744073709551616 g.den)→Calls Tryz.prog 144 #[na,nd,nc,nb] W fun e w'=>e=.returned (.int .i64 r)∧But [] W w'):=fun W na nb nc nd h1 h2 h3 h4=>cmpProducts_any na nd nc nb _ _ _ _ W h1 h4 h3 h2 (by have:=lf.1;omega) (by have:=lg.2;omega) (by have:=lg.1;omega) (by have:=lf.2;omega) r hr
 have LARGE:∀ (s1 s2:Bool) (x1 y1 x2 y2:Int) (p1 p2:Option Addr),vf=.agg #[.bool s1,.int .u64 x1,.int .u64 y1,.pointer p1]→vg=.agg #[.bool s2,.int .u64 x2,.int .u64 y2,.pointer p2]→(p1≠none∨p2≠none)→Calls Tryz.prog 78 #[vf,vg] w fun e w'=>e=.returned (.int .i64 r)∧But [] w w':=by
  intro s1 s2 x1 y1 x2 y2 p1 p2 ef eg hp
  subst ef
  subst eg
  clear hf hg lf lg hr hq1 hq2
  obtain ⟨W,hW⟩:∃ W,W=((w.alloc (.cells #[.bool s1,.int .u64 x1,.int .u64 y1,.pointer p1] 27)).alloc (.cells #[.bool s2,.int .u64 x2,.int .u64 y2,.pointer p2] 27)):=⟨_,rfl⟩
  obtain ⟨tA,tB,-,hB⟩:=two_new w W _ _ _ hW
  have y0:=tB 0
  have y1:=tB 1
  have y2:=tB 2
  have y3:=tB 3
  simp only [List.getElem?_toArray,List.getElem?_cons_zero,List.getElem?_cons_succ] at y0 y1 y2 y3
  clear tA tB
  have HW:=hide hW
  have HB:=hide hB
  clear hW hB
  rcases p1 with _ | p1
  ·rcases p2 with _ | p2
   ·simp at hp
   ·clear hp
    go_enter Tryz.func78,Tryz.ntmps78
    go_wp2_with fail
    rw [← unhide HW]
    obtain ⟨gb,hgb⟩:∃ gb,gb=w.heap.size+1:=⟨_,rfl⟩
    rw [← hgb] at y0 y1 y2 y3
    rw [← hgb]
    clear hgb HW
    refine (unhide NF _ (unhide HB)).mono ?_
    rintro e w1 ⟨na,nb,rfl,hna,hnb,hb1⟩
    have d0:=hb1.cell_some y0 (by simp)
    have d1:=hb1.cell_some y1 (by simp)
    have d2:=hb1.cell_some y2 (by simp)
    have d3:=hb1.cell_some y3 (by simp)
    have HB1:Hid (But [] w w1):=(unhide HB).trans' hb1
    have SA:=hide hna
    have SB:=hide hnb
    clear hb1 hna hnb y0 y1 y2 y3
    go_wp2_with fail
    refine (unhide NG _ (unhide HB1)).mono ?_
    rintro e w2 ⟨nc,nd,rfl,hnc,hnd,hb2⟩
    have HB2:Hid (But [] w w2):=(unhide HB1).trans' hb2
    have SA2:=hide ((unhide SA).but_nil hb2)
    have SB2:=hide ((unhide SB).but_nil hb2)
    have SC:=hide hnc
    have SD:=hide hnd
    clear hb2 hnc hnd d0 d1 d2 d3
    go_wp2_with fail
    refine (unhide CP _ na nb nc nd (unhide SA2) (unhide SB2) (unhide SC) (unhide SD)).mono ?_
    rintro e w3 ⟨rfl,hb3⟩
    have HB3:Hid (But [] w w3):=(unhide HB2).trans' hb3
    clear hb3
    go_wp2
    go_ret
    exact ⟨rfl,unhide HB3⟩
  ·clear hp
   go_enter Tryz.func78,Tryz.ntmps78
   go_wp2_with fail
   rw [← unhide HW]
   obtain ⟨gb,hgb⟩:∃ gb,gb=w.heap.size+1:=⟨_,rfl⟩
   rw [← hgb] at y0 y1 y2 y3
   rw [← hgb]
   clear hgb HW
   refine (unhide NF _ (unhide HB)).mono ?_
   rintro e w1 ⟨na,nb,rfl,hna,hnb,hb1⟩
   have d0:=hb1.cell_some y0 (by simp)
   have d1:=hb1.cell_some y1 (by simp)
   have d2:=hb1.cell_some y2 (by simp)
   have d3:=hb1.cell_some y3 (by simp)
   have HB1:Hid (But [] w w1):=(unhide HB).trans' hb1
   have SA:=hide hna
   have SB:=hide hnb
   clear hb1 hna hnb y0 y1 y2 y3
   go_wp2_with fail
   refine (unhide NG _ (unhide HB1)).mono ?_
   rintro e w2 ⟨nc,nd,rfl,hnc,hnd,hb2⟩
   have HB2:Hid (But [] w w2):=(unhide HB1).trans' hb2
   have SA2:=hide ((unhide SA).but_nil hb2)
   have SB2:=hide ((unhide SB).but_nil hb2)
   have SC:=hide hnc
   have SD:=hide hnd
   clear hb2 hnc hnd d0 d1 d2 d3
   go_wp2_with fail
   refine (unhide CP _ na nb nc nd (unhide SA2) (unhide SB2) (unhide SC) (unhide SD)).mono ?_
   rintro e w3 ⟨rfl,hb3⟩
   have HB3:Hid (But [] w w3):=(unhide HB2).trans' hb3
   clear hb3
   go_wp2
   go_ret
   exact ⟨rfl,unhide HB3⟩
 rcases hf.agg with ⟨x1,y1,p1,ef,h1⟩
 rcases hg.agg with ⟨x2,y2,p2,eg,h2⟩
 rcases p1 with _ | p1
 ·rcases p2 with _ | p2
  ·obtain ⟨a1,a2,a3,a4⟩:=h1 rfl
   obtain ⟨c1,c2,c3,c4⟩:=h2 rfl
   rw [ef,eg,a3,a4,c3,c4]
   exact cmpSizes_words _ _ _ _ _ _ a1 a2 c1 c2 hq1 hq2 w r hr
  ·exact LARGE _ _ _ _ _ _ _ _ ef eg (.inr (by simp))
 ·exact LARGE _ _ _ _ _ _ _ _ ef eg (.inl (by simp))
end Go.Proofs.YteipfplbcbaheaaGreatDoor

namespace Go.Proofs.YteipfplbcbaheaaGreatDoor
open Go.RowKit
set_option maxHeartbeats 4000000
set_option maxRecDepth 100000
theorem wd_get (k:Nat):∀ X,(wd 4294967296 X)[k]?.getD 0=X/4294967296^k%4294967296:=by
 induction k with
 | zero =>
  intro X
  rcases Nat.eq_zero_or_pos X with rfl | h
  ·rw [wd_zero];rfl
  ·rw [wd_pos (by omega) h];simp
 | succ k ih =>
  intro X
  rcases Nat.eq_zero_or_pos X with rfl | h
  ·rw [wd_zero];simp
  ·rw [wd_pos (by omega) h,List.getElem?_cons_succ,ih (X/4294967296),Nat.div_div_eq_div_mul,Nat.pow_succ,Nat.mul_comm]
theorem bit_of (X i:Nat):(wd 4294967296 X)[i/32]?.getD 0/2^(i%32)%2=X/2^i%2:=by
 rw [wd_get]
 have e:(4294967296:Nat)^(i/32)=2^(32*(i/32)):=by rw [Nat.pow_mul]
 have e2:(4294967296:Nat)=2^32:=by rfl
 have hd:X/2^i=X/2^(32*(i/32))/2^(i%32):=by rw [Nat.div_div_eq_div_mul,← Nat.pow_add,Nat.div_add_mod]
 rw [e,hd]
 generalize X/2^(32*(i/32))=Y
 have hs:i%32<32:=Nat.mod_lt _ (by omega)
 generalize i%32=s at *
 have h:=Nat.testBit_mod_two_pow Y 32 s
 rw [Nat.testBit_eq_decide_div_mod_eq,Nat.testBit_eq_decide_div_mod_eq,decide_eq_true hs,Bool.true_and] at h
 have h1:(Y%2^32)/2^s%2=1↔Y/2^s%2=1:=by simpa using h
 rw [e2]
 omega
theorem bit_any (v:Value) (X i y:Nat) (w:World) (hv:Sl .u32 w v (wd 4294967296 X)) (hi:i<1000000) (hl:(wd 4294967296 X).length<8388608) (hy:Hid (y=X/2^i%2)) :
  Calls Tryz.prog 155 #[v,.int .i64 (i:Int)] w fun e w'=>e=.returned (.int .u64 (y:Int))∧w'=w:=by
 have hb:=bit_of X i
 by_cases hk:i/32<(wd 4294967296 X).length
 ·rcases hv.open with ⟨e,-⟩ | ⟨-,b,off,c,rfl,hc,hbl,hcell⟩
  ·rw [e] at hk;simp at hk
  have cx:=hcell (i/32) hk
  have hx:=mem_getD (wd_mem (B:=4294967296) (by omega) X) (by omega:0<4294967296) (i/32)
  generalize (wd 4294967296 X)[i/32]?.getD 0=x at *
  generalize (wd 4294967296 X).length=l at *
  have hs:i%32<32:=Nat.mod_lt _ (by omega)
  have hz:x/2^(i%32)<4294967296:=Nat.lt_of_le_of_lt (Nat.div_le_self _ _) hx
  have E1:bits .and .u64 ((x/2^(i%32):Nat):Int) 1=((x/2^(i%32)%2:Nat):Int):=by
   have:=bits_and_u64_nat (x/2^(i%32)) 1 (by omega) (by omega)
   rw [Nat.and_one_is_mod] at this
   exact this
  rw [hb,← unhide hy] at E1
  have HS:Hid ((x:Int)/(2:Int)^(i%32)=((x/2^(i%32):Nat):Int)):=by show _=_;simp
  clear hcell hv hb hy
  obtain ⟨k,hk'⟩:∃ k,k=i/32:=⟨_,rfl⟩
  obtain ⟨s,hs'⟩:∃ s,s=i%32:=⟨_,rfl⟩
  rw [← hk'] at hk cx
  rw [← hs'] at hs hz E1 HS
  have q1:Int.tdiv (i:Int) 32=(k:Int):=by rw [Int.tdiv_eq_ediv_of_nonneg (by omega),hk'];omega
  have q2:(i:Int)%32=(s:Int):=by rw [hs'];omega
  have q3:(i:Int)/32=(k:Int):=by rw [hk'];omega
  have hkl:¬ (l:Int)≤(k:Int):=by omega
  have hkl2:(k:Int)<(l:Int):=by omega
  clear hk' hs'
  have HE:Hid (bits .and .u64 (IntKind.u64.wrap ((x:Int)/(2:Int)^s)) 1=(y:Int)):=by
   show _=_
   rw [unhide HS]
   generalize x/2^s=q at hz E1
   rw [show IntKind.u64.wrap ((q:Nat):Int)=((q:Nat):Int) from by rw [IntKind.wrap_u64];omega]
   exact E1
  clear E1 HS
  go_enter Tryz.func155,Tryz.ntmps155
  go_wp2
  go_ret
  exact ⟨by rw [← unhide HE];rfl,rfl⟩
 ·have h0:y=0:=by
   rw [unhide hy,← hb,List.getElem?_eq_none (by omega)]
   simp
  subst h0
  obtain ⟨a,c,rfl,-,-⟩:=hv
  generalize (wd 4294967296 X).length=l at *
  have hkl:(l:Int)≤(i:Int)/32:=by omega
  have q3:Int.tdiv (i:Int) 32=(i:Int)/32:=Int.tdiv_eq_ediv_of_nonneg (by omega)
  clear hb hy
  go_enter Tryz.func155,Tryz.ntmps155
  go_wp2
  go_ret
  exact ⟨rfl,rfl⟩
end Go.Proofs.YteipfplbcbaheaaGreatDoor

namespace Go.Proofs.YteipfplbcbaheaaGreatDoor
open Go.RowKit
set_option maxHeartbeats 4000000
set_option maxRecDepth 100000
theorem intBit0_any (b o:Nat) (z:Int) (w:World) (h:IntAt w b o z) (hl:(wd 4294967296 z.natAbs).length<8388608) :
  Calls Tryz.prog 92 #[.pointer (some ⟨b,o,none⟩),.int .i64 0] w fun e w'=>e=.returned (.int .u64 ((z.natAbs%2:Nat):Int))∧But [] w w':=by
 obtain ⟨h0,v0,h1,hv⟩:=h
 by_cases hz:z<0
 ·rw [decide_eq_true hz] at h0
  obtain ⟨W0,hW0⟩:∃ W0,W0=w.alloc (.cells #[.int .u32 1] 182):=⟨_,rfl⟩
  have bw:But [] w W0:=by rw [hW0];exact (But.refl _ _).alloc _
  have s1:Sl .u32 W0 (.slice (some ⟨w.heap.size,0,none⟩) 1 1) (wd 4294967296 1):=by
   have e:wd 4294967296 1=[1]:=by rw [wd_pos (by omega) (by omega)];simp [wd_zero]
   rw [e,hW0]
   exact Sl.mk (xs:=[1]) w.heap.size 0 1 (by simp) (fun i hi=>by
    match i,hi with
    | 0,_=>simp) (fun _ i v hv=>by
    rw [World.cell?_alloc_new] at hv
    match i,hv with
    | 0,hv=>exact ⟨_,(by simpa using hv.symm)⟩
    | i+1,hv=>simp at hv)
  have SU:=hide (subU_any v0 _ z.natAbs 1 W0 (hv.but_nil bw) s1 (by omega) (by omega))
  have l1:(wd 4294967296 (z.natAbs-1)).length<8388608:=Nat.lt_of_le_of_lt (wd_length_le (by omega) _ _ (Nat.lt_of_le_of_lt (Nat.sub_le _ _) (lt_of_wd_length (by omega) z.natAbs _ (Nat.le_refl _)))) hl
  obtain ⟨y,hy⟩:∃ y,y=(z.natAbs-1)/2^0%2:=⟨_,rfl⟩
  have BI:=hide (fun W v (h:Sl .u32 W v (wd 4294967296 (z.natAbs-1)))=>bit_any v (z.natAbs-1) 0 y W h (by omega) l1 hy)
  have HX:Hid (bits .xor .u64 (y:Int) 1=((z.natAbs%2:Nat):Int)):=by
   show _=_
   have hy2:y=0∨y=1:=by omega
   have hp:z.natAbs%2=1-y:=by rw [hy,Nat.pow_zero,Nat.div_one];omega
   rw [hp]
   rcases hy2 with e | e
   ·rw [e];decide
   ·rw [e];decide
  have HW0:=hide hW0
  have HB:=hide bw
  obtain ⟨a,c,rfl,-,-⟩:=hv
  generalize (wd 4294967296 z.natAbs).length=l at *
  clear hW0 bw s1 l1 hy hl
  go_enter Tryz.func92,Tryz.ntmps92
  go_wp2_with fail
  rw [← unhide HW0]
  refine (unhide SU).mono ?_
  rintro e w1 ⟨v1,rfl,hv1,hb1,-⟩
  have B1:=hide (unhide BI w1 v1 hv1)
  have K1:=hide ((unhide HB).trans' hb1)
  clear hv1 hb1 SU BI
  go_wp2_with fail
  refine (unhide B1).mono ?_
  rintro e w2 ⟨rfl,hw⟩
  obtain rfl:=hw.symm
  clear hw
  go_wp2
  go_ret
  exact ⟨by rw [← unhide HX];rfl,unhide K1⟩
 ·rw [decide_eq_false hz] at h0
  have BI:=hide (bit_any v0 z.natAbs 0 (z.natAbs%2) w hv (by omega) hl (by show _=_;rw [Nat.pow_zero,Nat.div_one]))
  obtain ⟨a,c,rfl,-,-⟩:=hv
  generalize (wd 4294967296 z.natAbs).length=l at *
  generalize z.natAbs%2=y at *
  go_enter Tryz.func92,Tryz.ntmps92
  go_wp2_with fail
  refine (unhide BI).mono ?_
  rintro e w2 ⟨rfl,hw⟩
  obtain rfl:=hw.symm
  clear hw
  go_wp2
  go_ret
  exact ⟨rfl,But.refl _ _⟩
theorem trailing_any (b o:Nat) (z:Int) (w:World) (h:IntAt w b o z) (hz:z.natAbs=9223372036854775808) :
  Calls Tryz.prog 100 #[.pointer (some ⟨b,o,none⟩)] w fun e w'=>e=.returned (.int .u64 63)∧w'=w:=by
 obtain ⟨h0,v0,h1,hv⟩:=h
 rw [hz] at hv
 have hl:(wd 4294967296 9223372036854775808).length≤2:=wd_length_le (by omega) _ 2 (by omega)
 have hl0:=wd_len_zero (B:=4294967296) (by omega) 9223372036854775808
 have BI:=hide (fun i y (hi:i<1000000) (hy:Hid (y=9223372036854775808/2^i%2))=>bit_any v0 9223372036854775808 i y w hv hi (by omega) hy)
 obtain ⟨a,c,rfl,-,-⟩:=hv
 have n0:(((wd 4294967296 9223372036854775808).length:Int)==0)=false:=beq_eq_false_iff_ne.2 (by omega)
 generalize (wd 4294967296 9223372036854775808).length=l at *
 clear hl hl0 hz h0
 go_enter Tryz.func100,Tryz.ntmps100
 go_wp2
 go_loopw [3] (fun i wr=>∃ k:Nat,k≤63∧i=.int .u64 (k:Int)∧wr=w) (fun i _=>63-(intOf i).toNat)
 case atStart=>exact ⟨0,by omega,rfl,rfl⟩
 case round =>
  obtain ⟨k,hk,rfl,rfl⟩:=hrel
  by_cases hlt:k<63
  ·have B1:=hide (unhide BI k 0 (by omega) (by
    show 0=_
    have:∀ k,k<63→9223372036854775808/2^k%2=0:=by decide
    exact (this k hlt).symm))
   go_wp2_with fail
   refine (unhide B1).mono ?_
   rintro e w2 ⟨rfl,hw⟩
   obtain rfl:=hw.symm
   clear hw
   go_wp2
   refine ⟨⟨k+1,by omega,by go_num,by first | rfl | trivial⟩,?_⟩
   simp [intOf];omega
  ·have hk3:k=63:=by omega
   subst hk3
   have B1:=hide (unhide BI 63 1 (by omega) (by show 1=_;decide))
   go_wp2_with fail
   refine (unhide B1).mono ?_
   rintro e w2 ⟨rfl,hw⟩
   obtain rfl:=hw.symm
   clear hw
   go_wp2
   go_ret
   exact ⟨rfl,rfl⟩
theorem bits_of (X l n:Nat) (hl:(wd 4294967296 X).length=l) (hX:0<X) (h1:1≤n) (h2:2^(n-1)≤topU X) (h3:topU X<2^n):2^((l-1)*32+n-1)≤X∧X<2^((l-1)*32+n):=by
 have hl0:0<l:=by
  rcases Nat.eq_zero_or_pos l with e | e
  ·rw [e] at hl;have:=(wd_len_zero (B:=4294967296) (by omega) X).1 hl;omega
  ·exact e
 have ht:topU X=X/4294967296^(l-1):=by
  have e1:topU X=(wd 4294967296 X)[l-1]?.getD 0:=by unfold topU;rw [hl]
  rw [e1,wd_get,Nat.mod_eq_of_lt]
  rw [Nat.div_lt_iff_lt_mul (Nat.pow_pos (by omega)),← Nat.pow_succ']
  have:=lt_of_wd_length (B:=4294967296) (by omega) X l (by omega)
  rw [show (l-1).succ=l from by omega]
  exact this
 have e:(4294967296:Nat)^(l-1)=2^((l-1)*32):=by rw [Nat.mul_comm,Nat.pow_mul]
 rw [ht,e] at h2 h3
 have hp:0<2^((l-1)*32):=Nat.pow_pos (by omega)
 constructor
 ·rw [Nat.le_div_iff_mul_le hp] at h2
  rw [show (l-1)*32+n-1=(n-1)+(l-1)*32 from by omega,Nat.pow_add]
  exact h2
 ·rw [Nat.div_lt_iff_lt_mul hp] at h3
  rw [Nat.add_comm,Nat.pow_add]
  exact h3
theorem isInt64_any (b o:Nat) (z:Int) (w:World) (h:IntAt w b o z) (hz:z.natAbs≤9223372036854775808) (r:Bool) (hr:Hid (r=decide (z<9223372036854775808))) :
  Calls Tryz.prog 41 #[.pointer (some ⟨b,o,none⟩)] w fun e w'=>e=.returned (.bool r)∧w'=w:=by
 have TB:=hide (fun (h2:z.natAbs=9223372036854775808)=>trailing_any b o z w h h2)
 obtain ⟨h0,v0,h1,hv⟩:=h
 rcases Nat.eq_zero_or_pos z.natAbs with hz0 | hz0
 ·have hr1:r=true:=by rw [unhide hr];exact decide_eq_true (by omega)
  subst hr1
  have hl0:=(wd_len_zero (B:=4294967296) (by omega) z.natAbs).2 hz0
  obtain ⟨a,c,rfl,-,-⟩:=hv
  rw [hl0] at h1
  have LZ:Hid (∀ W,Calls Tryz.prog 99 #[.slice a 0 c] W fun e w'=>e=.returned (.int .i64 0)∧w'=W):=fun W=>by
   go_enter Tryz.func99,Tryz.ntmps99
   go_wp2
   go_ret
   exact ⟨rfl,rfl⟩
  generalize decide (z<0)=s at *
  clear hr hl0
  go_enter Tryz.func41,Tryz.ntmps41
  go_wp2_with fail
  refine (unhide LZ _).mono ?_
  rintro e w2 ⟨rfl,hw⟩
  obtain rfl:=hw.symm
  clear hw
  go_wp2
  go_ret
  exact ⟨rfl,rfl⟩
 ·have hl2:(wd 4294967296 z.natAbs).length≤2:=wd_length_le (by omega) _ 2 (by omega)
  have LN:=hide (length_any v0 z.natAbs w hv hz0 (by omega))
  have BO:=hide (fun n h1 h2 h3=>bits_of z.natAbs _ n rfl hz0 h1 h2 h3)
  obtain ⟨a,c,rfl,-,-⟩:=hv
  have hl0:=(wd_len_zero (B:=4294967296) (by omega) z.natAbs)
  generalize hll:(wd 4294967296 z.natAbs).length=l at *
  have hl1:1≤l:=by omega
  clear hl0
  by_cases hn:z.natAbs=9223372036854775808
  ·by_cases hs:z<0
   ·have hr1:r=true:=by rw [unhide hr];exact decide_eq_true (by omega)
    subst hr1
    rw [decide_eq_true hs] at h0
    go_enter Tryz.func41,Tryz.ntmps41
    go_wp2_with fail
    refine (unhide LN).mono ?_
    rintro e w2 ⟨n,rfl,hw,n1,n2,n3,n4⟩
    obtain rfl:=hw.symm
    have hb:=unhide BO n n1 n3 n4
    rw [hn] at hb
    have e64:(l-1)*32+n=64:=by
     generalize (l-1)*32+n=k at hb
     have k1:63≤k:=by
      rcases Nat.lt_or_ge k 63 with hk | hk
      ·have:=Nat.pow_le_pow_right (show 0<2 by omega) (show k≤62 by omega);omega
      ·exact hk
     have k2:k-1≤63:=by
      rcases Nat.lt_or_ge 63 (k-1) with hk | hk
      ·have:=Nat.pow_le_pow_right (show 0<2 by omega) (show 64≤k-1 by omega);omega
      ·exact hk
     rcases (show k=63∨k=64 by omega) with e | e
     ·subst e;omega
     ·exact e
    have E1:((l:Int)-1)*32+(n:Int)=64:=by omega
    rw [E1]
    clear hw n3 n4 hb e64 E1 LN BO n1 n2
    go_wp2_with fail
    refine (unhide TB hn).mono ?_
    rintro e w2 ⟨rfl,hw⟩
    obtain rfl:=hw.symm
    clear hw
    go_wp2
    go_ret
    exact ⟨rfl,rfl⟩
   ·have hr1:r=false:=by rw [unhide hr];exact decide_eq_false (by omega)
    subst hr1
    rw [decide_eq_false hs] at h0
    go_enter Tryz.func41,Tryz.ntmps41
    go_wp2_with fail
    refine (unhide LN).mono ?_
    rintro e w2 ⟨n,rfl,hw,n1,n2,n3,n4⟩
    obtain rfl:=hw.symm
    have hb:=unhide BO n n1 n3 n4
    rw [hn] at hb
    have e64:(l-1)*32+n=64:=by
     generalize (l-1)*32+n=k at hb
     have k1:63≤k:=by
      rcases Nat.lt_or_ge k 63 with hk | hk
      ·have:=Nat.pow_le_pow_right (show 0<2 by omega) (show k≤62 by omega);omega
      ·exact hk
     have k2:k-1≤63:=by
      rcases Nat.lt_or_ge 63 (k-1) with hk | hk
      ·have:=Nat.pow_le_pow_right (show 0<2 by omega) (show 64≤k-1 by omega);omega
      ·exact hk
     rcases (show k=63∨k=64 by omega) with e | e
     ·subst e;omega
     ·exact e
    have E1:((l:Int)-1)*32+(n:Int)=64:=by omega
    rw [E1]
    clear hw n3 n4 hb e64 E1 LN BO n1 n2
    go_wp2
    go_ret
    exact ⟨rfl,rfl⟩
  ·have hr1:r=true:=by rw [unhide hr];exact decide_eq_true (by omega)
   subst hr1
   generalize decide (z<0)=s at *
   go_enter Tryz.func41,Tryz.ntmps41
   go_wp2_with fail
   refine (unhide LN).mono ?_
   rintro e w2 ⟨n,rfl,hw,n1,n2,n3,n4⟩
   obtain rfl:=hw.symm
   have hb:=unhide BO n n1 n3 n4
   have e64:(l-1)*32+n<64:=by
    generalize (l-1)*32+n=k at hb
    rcases Nat.lt_or_ge k 64 with hk | hk
    ·exact hk
    ·have:=Nat.pow_le_pow_right (show 0<2 by omega) (show 63≤k-1 by omega);omega
   obtain ⟨E,hE⟩:∃ E:Int,E=((l:Int)-1)*32+(n:Int):=⟨_,rfl⟩
   rw [← hE]
   have E1:E<64:=by omega
   have E2:0≤E:=by omega
   clear hw n3 n4 hb e64 LN BO n1 n2 hE
   go_wp2
   go_ret
   exact ⟨rfl,rfl⟩
end Go.Proofs.YteipfplbcbaheaaGreatDoor
