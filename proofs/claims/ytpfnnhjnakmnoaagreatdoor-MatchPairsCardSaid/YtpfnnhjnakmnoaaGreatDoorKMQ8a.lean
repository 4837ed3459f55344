/- The first of two numbers that is not nou -/
import Derived.Test.YtpfnnhjnakmnoaaGreatDoorKMF7
import Derived.Test.YtpfnnhjnakmnoaaGreatDoorKMN26
namespace Go.Proofs.YtpfnnhjnakmnoaaGreatDoor
open Go.RowKit
set_option maxHeartbeats 1000000
set_option maxRecDepth 100000
theorem cmpOr_two (b:Nat) (x y:Int) (w:World) (hx:w.cell? ⟨b,0,none⟩=some (.int .i64 x)) (hy:w.cell? ⟨b,1,none⟩=some (.int .i64 y)) (r:Int) (hr:Hid (r=if x≠0 then x else y)) :
  Calls Tryz.prog 117 #[.slice (some ⟨b,0,none⟩) 2 2] w fun e w'=>e=.returned (.int .i64 r)∧But [] w w':=by
 by_cases h0:x=0
 ·subst h0
  by_cases h1:y=0
  ·subst h1
   have er:Hid (r=0):=by show _=_;rw [unhide hr];simp
   clear hr
   go_enter Tryz.func117,Tryz.ntmps117
   go_wp2
   refine wp_loop_rounds 3 ?_
   rw [rounds_succ]
   go_wp2
   rw [rounds_succ]
   go_wp2
   rw [rounds_succ]
   go_wp2
   go_ret
   exact ⟨by rw [unhide er];rfl,But.refl _ _⟩
  ·have er:Hid (r=y):=by show _=_;rw [unhide hr];simp
   have n1:(y != 0)=true:=by simp [h1]
   clear hr
   go_enter Tryz.func117,Tryz.ntmps117
   go_wp2
   refine wp_loop_rounds 2 ?_
   rw [rounds_succ]
   go_wp2
   rw [rounds_succ]
   go_wp2
   go_ret
   exact ⟨by rw [unhide er];rfl,But.refl _ _⟩
 ·have er:Hid (r=x):=by show _=_;rw [unhide hr];simp [h0]
  have n1:(x != 0)=true:=by simp [h0]
  clear hr
  go_enter Tryz.func117,Tryz.ntmps117
  go_wp2
  refine wp_loop_rounds 1 ?_
  rw [rounds_succ]
  go_wp2
  go_ret
  exact ⟨by rw [unhide er];rfl,But.refl _ _⟩
end Go.Proofs.YtpfnnhjnakmnoaaGreatDoor

namespace Go.Proofs.YtpfnnhjnakmnoaaGreatDoor
open Go.RowKit
theorem two_new_open (w W:World) (A B:Array Value) (t:TypeId) (hW:W=(w.alloc (.cells A t)).alloc (.cells B t)):∀ j,W.frozen? ⟨w.heap.size,j,none⟩=false:=by
 subst hW
 intro j
 have h:=((But.refl [] (w.alloc (.cells A t))).alloc (.cells B t)).frozen (p:=⟨w.heap.size,j,none⟩) (by simp) (by simp)
 rw [h]
 simp
end Go.Proofs.YtpfnnhjnakmnoaaGreatDoor

namespace Go.Proofs.YtpfnnhjnakmnoaaGreatDoor
open Go.RowKit
set_option maxHeartbeats 16000000
set_option maxRecDepth 100000
theorem natPow_all (v:Value) (X n:Nat) (w:World) (hv:Sl .u64 w v (wd 18446744073709551616 X)) (hn:n<2147483648) (hl:(wd 18446744073709551616 X).length+(wd 18446744073709551616 (X^n)).length<67108864) :
  Calls Tryz.prog 135 #[v,.int .i64 (n:Int)] w fun e w'=>∃ v',e=.returned v'∧Sl .u64 w' v' (wd 18446744073709551616 (X^n))∧But [] w w':=by
 rcases Nat.eq_zero_or_pos X with h | h
 ·exact natPow_low v X n w hv (by omega) hn
 ·exact natPow_any v X n w hv h hn hl
theorem pow_sign (z:Int) (k:Nat):z^k=sgn (decide (z<0) && decide (k%2=1)) (z.natAbs^k):=by
 by_cases hz:z<0
 ·rw [decide_eq_true hz,Bool.true_and]
  obtain ⟨m,rfl⟩:∃ m:Nat,z=-(m:Int):=⟨z.natAbs,by omega⟩
  rw [Int.natAbs_neg,Int.natAbs_natCast]
  induction k with
  | zero=>simp [sgn]
  | succ k ih =>
   rw [Int.pow_succ,ih,Nat.pow_succ]
   by_cases hk:k%2=1
   ·rw [decide_eq_true hk,decide_eq_false (show ¬ (k+1)%2=1 by omega)]
    simp only [sgn,if_true,Bool.false_eq_true,if_false,Int.natCast_mul]
    grind
   ·rw [decide_eq_false hk,decide_eq_true (show (k+1)%2=1 by omega)]
    simp only [sgn,if_true,Bool.false_eq_true,if_false,Int.natCast_mul]
    grind
 ·rw [decide_eq_false hz,Bool.false_and]
  obtain ⟨m,rfl⟩:∃ m:Nat,z=(m:Int):=⟨z.natAbs,by omega⟩
  rw [Int.natAbs_natCast]
  simp [sgn]
theorem par_cases (s:Bool) (k:Nat) (bl:Bool) (h:bl=(s && decide (k%2=1))):(s=false∧bl=false)∨(s=true∧k%2=0∧bl=false)∨(s=true∧k%2=1∧bl=true):=by
 cases s
 ·exact .inl ⟨rfl,by rw [h];rfl⟩
 ·by_cases hk:k%2=1
  ·exact .inr (.inr ⟨rfl,hk,by rw [h,decide_eq_true hk];rfl⟩)
  ·exact .inr (.inl ⟨rfl,by omega,by rw [h,decide_eq_false hk];rfl⟩)
theorem fracPow_gen (v:Value) (f:Rat) (k:Nat) (w:World) (hf:FracAt w v f) (hk:k≤200) (lf:Len f 10000) (l1:(wd 18446744073709551616 (f.num.natAbs^k)).length≤10000) (l2:(wd 18446744073709551616 (f.den^k)).length≤10000) :
  Calls Tryz.prog 99 #[v,.int .i64 (k:Int)] w fun e w'=>∃ v',e=.returned (.tuple #[v',.nilIface])∧FracAt w' v' (rpow f k)∧But [] w w':=by
 obtain ⟨g,hg⟩:∃ g,g=rpow f k:=⟨_,rfl⟩
 obtain ⟨gn,gd⟩:=rpow_parts f k
 rw [← hg] at gn gd ⊢
 have NU:Hid (∀ W,But [] w W→Calls Tryz.prog 30 #[v] W fun e w'=>∃ v1 v2,e=.returned (.tuple #[v1,v2])∧Sl .u64 w' v1 (wd 18446744073709551616 f.num.natAbs)∧Sl .u64 w' v2 (wd 18446744073709551616 f.den)∧But [] W w'):=fun W hb=>numbers_any v f W (hf.but hb)
 have P1:Hid (∀ W u,Sl .u64 W u (wd 18446744073709551616 f.num.natAbs)→Calls Tryz.prog 135 #[u,.int .i64 (k:Int)] W fun e w'=>∃ v',e=.returned v'∧Sl .u64 w' v' (wd 18446744073709551616 (f.num.natAbs^k))∧But [] W w'):=fun W u hu=>natPow_all u _ k W hu (by omega) (by have:=lf.1;omega)
 have P2:Hid (∀ W u,Sl .u64 W u (wd 18446744073709551616 f.den)→Calls Tryz.prog 135 #[u,.int .i64 (k:Int)] W fun e w'=>∃ v',e=.returned v'∧Sl .u64 w' v' (wd 18446744073709551616 (f.den^k))∧But [] W w'):=fun W u hu=>natPow_all u _ k W hu (by omega) (by have:=lf.2;omega)
 obtain ⟨bl,hbl⟩:∃ bl,bl=(decide (f.num<0) && decide (k%2=1)):=⟨_,rfl⟩
 have ga:g.num.natAbs=f.num.natAbs^k:=by rw [gn,Int.natAbs_pow]
 have OL:Hid (∀ W v1 v2,Sl .u64 W v1 (wd 18446744073709551616 (f.num.natAbs^k))→Sl .u64 W v2 (wd 18446744073709551616 (f.den^k))→Calls Tryz.prog 122 #[.bool bl,v1,v2] W fun e w'=>∃ v,e=.returned v∧FracAt w' v g∧But [] W w'):=fun W v1 v2 h1 h2=>ofLowered_any bl v1 v2 g W (by rw [ga];exact h1) (by rw [gd];exact h2) (by rw [ga,gn,hbl];exact pow_sign f.num k) (by rw [ga];omega) (by rw [gd];omega)
 obtain ⟨x1,y1,p1,rfl,-⟩:=hf.agg
 have pc:=par_cases _ k bl hbl
 clear hf lf l1 l2 gn gd ga hbl hg
 generalize decide (f.num<0)=s1 at *
 have c1:¬ (k:Int) < -200:=by omega
 have c2:¬ (200:Int)<(k:Int):=by omega
 rcases pc with ⟨rfl,rfl⟩ | ⟨rfl,hp,rfl⟩ | ⟨rfl,hp,rfl⟩
 ·obtain ⟨W,hW⟩:∃ W,W=((w.alloc (.cells #[.bool false,.int .u64 x1,.int .u64 y1,.pointer p1] 27)).alloc (.cells #[.bool false,.int .u64 0,.int .u64 0,.pointer none] 27)):=⟨_,rfl⟩
  obtain ⟨tA,tC,fz,hB⟩:=two_new w W _ _ _ hW
  have fa:∀ j,W.frozen? ⟨w.heap.size,j,none⟩=false:=two_new_open w W _ _ _ hW
  have a0:=tA 0
  have a1:=tA 1
  have a2:=tA 2
  have a3:=tA 3
  have r0:=tC 0
  have r1:=tC 1
  have r2:=tC 2
  have r3:=tC 3
  simp only [List.getElem?_toArray,List.getElem?_cons_zero,List.getElem?_cons_succ] at a0 a1 a2 a3 r0 r1 r2 r3
  have BL:Hid (Blank W (w.heap.size+1)):=⟨r0,r1,r2,r3,fun j hj=>by rw [tC j];simp;omega⟩
  clear tA tC
  have HW:=hide hW
  have HB:=hide hB
  clear hW hB
  go_enter Tryz.func99,Tryz.ntmps99
  go_wp2_with fail
  rw [← unhide HW]
  obtain ⟨ga,hga⟩:∃ ga,ga=w.heap.size:=⟨_,rfl⟩
  obtain ⟨gr,hgr⟩:∃ gr,gr=w.heap.size+1:=⟨_,rfl⟩
  rw [← hga] at a0 a1 a2 a3 fa
  rw [← hgr] at r0 r1 r2 r3 fz BL
  rw [← hgr,← hga]
  have HGR:Hid (w.heap.size≤gr):=by show _≤_;omega
  have HGA:Hid (w.heap.size≤ga):=by show _≤_;omega
  have nga:ga≠gr:=by omega
  clear hga hgr HW
  refine (unhide NU _ (unhide HB)).mono ?_
  rintro e w4 ⟨v1,v2,rfl,hs1,hs2,hb4⟩
  have HS1:=hide hs1
  have HS2:=hide hs2
  have grl3:gr<W.heap.size:=lt_of_cell r0
  have uf:∀ j,w4.frozen? ⟨gr,j,none⟩=false:=fun j=>(hb4.frozen (p:=⟨gr,j,none⟩) grl3 (by simp)).trans (fz j)
  have c0:=hb4.cell_some a0 (by simp)
  have u0:=hb4.cell_some r0 (by simp)
  have u1:=hb4.cell_some r1 (by simp)
  have u2:=hb4.cell_some r2 (by simp)
  have u3:=hb4.cell_some r3 (by simp)
  have HB4:Hid (But [] w w4):=(unhide HB).trans' hb4
  have BL4:Hid (Blank w4 gr):=(unhide BL).but hb4
  have grl:gr<w4.heap.size:=lt_of_cell u0
  clear hs1 hs2 hb4 a0 r0 r1 r2 r3 fz fa grl3 BL HB NU
  go_wp2_with fail
  refine (unhide P1 _ _ (unhide HS1)).mono ?_
  rintro e wz1 ⟨vp1,rfl,hsp1,hz1⟩
  have HT1:=hide hsp1
  have HS2':=hide ((unhide HS2).but_nil hz1)
  have c1:=hz1.cell_some c0 (by simp)
  clear hsp1
  go_wp2_with fail
  refine (unhide P2 _ _ (unhide HS2')).mono ?_
  rintro e wz2 ⟨vp2,rfl,hsp2,hz2⟩
  have HT2:=hide hsp2
  have HT1':=hide ((unhide HT1).but_nil hz2)
  have c2:=hz2.cell_some c1 (by simp)
  have Bz2:=hz1.trans' hz2
  clear hsp2 hz1 hz2 c1 c0
  go_wp2_with fail
  refine (unhide OL _ _ _ (unhide HT1') (unhide HT2)).mono ?_
  rintro e wz3 ⟨vr,rfl,hvr,hz3⟩
  have Bz3:=Bz2.trans' hz3
  have HVR:=hide hvr
  obtain ⟨x8,y8,p8,rfl,-⟩:=hvr.agg
  clear hvr hz3 Bz2
  generalize decide (g.num<0)=r8 at *
  have q0:=Bz3.cell_some u0 (by simp)
  have q1:=Bz3.cell_some u1 (by simp)
  have q2:=Bz3.cell_some u2 (by simp)
  have q3:=Bz3.cell_some u3 (by simp)
  have qf:∀ j,wz3.frozen? ⟨gr,j,none⟩=false:=fun j=>(Bz3.frozen (p:=⟨gr,j,none⟩) grl (by simp)).trans (uf j)
  go_wp2
  have hBh:But [gr] wz3 ((((wz3.setCell ⟨gr,0,none⟩ (.bool r8)).setCell ⟨gr,1,none⟩ (.int .u64 x8)).setCell ⟨gr,2,none⟩ (.int .u64 y8)).setCell ⟨gr,3,none⟩ (.pointer p8)):=(((((But.refl [gr] wz3).setCell (.inl (by simp)) _).setCell (.inl (by simp)) _).setCell (.inl (by simp)) _).setCell (.inl (by simp)) _)
  have hBf:=(((((unhide HB4).trans' Bz3).setCell (p:=⟨gr,0,none⟩) (.inr (unhide HGR)) (.bool r8)).setCell (p:=⟨gr,1,none⟩) (.inr (unhide HGR)) (.int .u64 x8)).setCell (p:=⟨gr,2,none⟩) (.inr (unhide HGR)) (.int .u64 y8)).setCell (p:=⟨gr,3,none⟩) (.inr (unhide HGR)) (.pointer p8)
  exact bodyPost_ret (v:=.tuple #[.agg #[.bool r8,.int .u64 x8,.int .u64 y8,.pointer p8],.nilIface]) (by simp [results,Tryz.results99,go_sem,q0,q1,q2,q3]) rfl ⟨_,rfl,((unhide BL4).but Bz3).frac (unhide HVR) hBh,hBf⟩
 ·have m1:(k:Int)%2=0:=by omega
  have m2:Int.tmod (k:Int) 2=0:=by rw [Int.tmod_eq_emod_of_nonneg (by omega)];exact m1
  clear hp
  obtain ⟨W,hW⟩:∃ W,W=((w.alloc (.cells #[.bool true,.int .u64 x1,.int .u64 y1,.pointer p1] 27)).alloc (.cells #[.bool false,.int .u64 0,.int .u64 0,.pointer none] 27)):=⟨_,rfl⟩
  obtain ⟨tA,tC,fz,hB⟩:=two_new w W _ _ _ hW
  have fa:∀ j,W.frozen? ⟨w.heap.size,j,none⟩=false:=two_new_open w W _ _ _ hW
  have a0:=tA 0
  have a1:=tA 1
  have a2:=tA 2
  have a3:=tA 3
  have r0:=tC 0
  have r1:=tC 1
  have r2:=tC 2
  have r3:=tC 3
  simp only [List.getElem?_toArray,List.getElem?_cons_zero,List.getElem?_cons_succ] at a0 a1 a2 a3 r0 r1 r2 r3
  have BL:Hid (Blank W (w.heap.size+1)):=⟨r0,r1,r2,r3,fun j hj=>by rw [tC j];simp;omega⟩
  clear tA tC
  have HW:=hide hW
  have HB:=hide hB
  clear hW hB
  go_enter Tryz.func99,Tryz.ntmps99
  go_wp2_with fail
  rw [← unhide HW]
  obtain ⟨ga,hga⟩:∃ ga,ga=w.heap.size:=⟨_,rfl⟩
  obtain ⟨gr,hgr⟩:∃ gr,gr=w.heap.size+1:=⟨_,rfl⟩
  rw [← hga] at a0 a1 a2 a3 fa
  rw [← hgr] at r0 r1 r2 r3 fz BL
  rw [← hgr,← hga]
  have HGR:Hid (w.heap.size≤gr):=by show _≤_;omega
  have HGA:Hid (w.heap.size≤ga):=by show _≤_;omega
  have nga:ga≠gr:=by omega
  clear hga hgr HW
  refine (unhide NU _ (unhide HB)).mono ?_
  rintro e w4 ⟨v1,v2,rfl,hs1,hs2,hb4⟩
  have HS1:=hide hs1
  have HS2:=hide hs2
  have grl3:gr<W.heap.size:=lt_of_cell r0
  have uf:∀ j,w4.frozen? ⟨gr,j,none⟩=false:=fun j=>(hb4.frozen (p:=⟨gr,j,none⟩) grl3 (by simp)).trans (fz j)
  have c0:=hb4.cell_some a0 (by simp)
  have u0:=hb4.cell_some r0 (by simp)
  have u1:=hb4.cell_some r1 (by simp)
  have u2:=hb4.cell_some r2 (by simp)
  have u3:=hb4.cell_some r3 (by simp)
  have HB4:Hid (But [] w w4):=(unhide HB).trans' hb4
  have BL4:Hid (Blank w4 gr):=(unhide BL).but hb4
  have grl:gr<w4.heap.size:=lt_of_cell u0
  clear hs1 hs2 hb4 a0 r0 r1 r2 r3 fz fa grl3 BL HB NU
  go_wp2_with fail
  refine (unhide P1 _ _ (unhide HS1)).mono ?_
  rintro e wz1 ⟨vp1,rfl,hsp1,hz1⟩
  have HT1:=hide hsp1
  have HS2':=hide ((unhide HS2).but_nil hz1)
  have c1:=hz1.cell_some c0 (by simp)
  clear hsp1
  go_wp2_with fail
  refine (unhide P2 _ _ (unhide HS2')).mono ?_
  rintro e wz2 ⟨vp2,rfl,hsp2,hz2⟩
  have HT2:=hide hsp2
  have HT1':=hide ((unhide HT1).but_nil hz2)
  have c2:=hz2.cell_some c1 (by simp)
  have Bz2:=hz1.trans' hz2
  clear hsp2 hz1 hz2 c1 c0
  go_wp2_with fail
  refine (unhide OL _ _ _ (unhide HT1') (unhide HT2)).mono ?_
  rintro e wz3 ⟨vr,rfl,hvr,hz3⟩
  have Bz3:=Bz2.trans' hz3
  have HVR:=hide hvr
  obtain ⟨x8,y8,p8,rfl,-⟩:=hvr.agg
  clear hvr hz3 Bz2
  generalize decide (g.num<0)=r8 at *
  have q0:=Bz3.cell_some u0 (by simp)
  have q1:=Bz3.cell_some u1 (by simp)
  have q2:=Bz3.cell_some u2 (by simp)
  have q3:=Bz3.cell_some u3 (by simp)
  have qf:∀ j,wz3.frozen? ⟨gr,j,none⟩=false:=fun j=>(Bz3.frozen (p:=⟨gr,j,none⟩) grl (by simp)).trans (uf j)
  go_wp2
  have hBh:But [gr] wz3 ((((wz3.setCell ⟨gr,0,none⟩ (.bool r8)).setCell ⟨gr,1,none⟩ (.int .u64 x8)).setCell ⟨gr,2,none⟩ (.int .u64 y8)).setCell ⟨gr,3,none⟩ (.pointer p8)):=(((((But.refl [gr] wz3).setCell (.inl (by simp)) _).setCell (.inl (by simp)) _).setCell (.inl (by simp)) _).setCell (.inl (by simp)) _)
  have hBf:=(((((unhide HB4).trans' Bz3).setCell (p:=⟨gr,0,none⟩) (.inr (unhide HGR)) (.bool r8)).setCell (p:=⟨gr,1,none⟩) (.inr (unhide HGR)) (.int .u64 x8)).setCell (p:=⟨gr,2,none⟩) (.inr (unhide HGR)) (.int .u64 y8)).setCell (p:=⟨gr,3,none⟩) (.inr (unhide HGR)) (.pointer p8)
  exact bodyPost_ret (v:=.tuple #[.agg #[.bool r8,.int .u64 x8,.int .u64 y8,.pointer p8],.nilIface]) (by simp [results,Tryz.results99,go_sem,q0,q1,q2,q3]) rfl ⟨_,rfl,((unhide BL4).but Bz3).frac (unhide HVR) hBh,hBf⟩
 ·have m1:(k:Int)%2=1:=by omega
  have m2:Int.tmod (k:Int) 2=1:=by rw [Int.tmod_eq_emod_of_nonneg (by omega)];exact m1
  clear hp
  obtain ⟨W,hW⟩:∃ W,W=((w.alloc (.cells #[.bool true,.int .u64 x1,.int .u64 y1,.pointer p1] 27)).alloc (.cells #[.bool false,.int .u64 0,.int .u64 0,.pointer none] 27)):=⟨_,rfl⟩
  obtain ⟨tA,tC,fz,hB⟩:=two_new w W _ _ _ hW
  have fa:∀ j,W.frozen? ⟨w.heap.size,j,none⟩=false:=two_new_open w W _ _ _ hW
  have a0:=tA 0
  have a1:=tA 1
  have a2:=tA 2
  have a3:=tA 3
  have r0:=tC 0
  have r1:=tC 1
  have r2:=tC 2
  have r3:=tC 3
  simp only [List.getElem?_toArray,List.getElem?_cons_zero,List.getElem?_cons_succ] at a0 a1 a2 a3 r0 r1 r2 r3
  have BL:Hid (Blank W (w.heap.size+1)):=⟨r0,r1,r2,r3,fun j hj=>by rw [tC j];simp;omega⟩
  clear tA tC
  have HW:=hide hW
  have HB:=hide hB
  clear hW hB
  go_enter Tryz.func99,Tryz.ntmps99
  go_wp2_with fail
  rw [← unhide HW]
  obtain ⟨ga,hga⟩:∃ ga,ga=w.heap.size:=⟨_,rfl⟩
  obtain ⟨gr,hgr⟩:∃ gr,gr=w.heap.size+1:=⟨_,rfl⟩
  rw [← hga] at a0 a1 a2 a3 fa
  rw [← hgr] at r0 r1 r2 r3 fz BL
  rw [← hgr,← hga]
  have HGR:Hid (w.heap.size≤gr):=by show _≤_;omega
  have HGA:Hid (w.heap.size≤ga):=by show _≤_;omega
  have nga:ga≠gr:=by omega
  clear hga hgr HW
  refine (unhide NU _ (unhide HB)).mono ?_
  rintro e w4 ⟨v1,v2,rfl,hs1,hs2,hb4⟩
  have HS1:=hide hs1
  have HS2:=hide hs2
  have grl3:gr<W.heap.size:=lt_of_cell r0
  have uf:∀ j,w4.frozen? ⟨gr,j,none⟩=false:=fun j=>(hb4.frozen (p:=⟨gr,j,none⟩) grl3 (by simp)).trans (fz j)
  have c0:=hb4.cell_some a0 (by simp)
  have u0:=hb4.cell_some r0 (by simp)
  have u1:=hb4.cell_some r1 (by simp)
  have u2:=hb4.cell_some r2 (by simp)
  have u3:=hb4.cell_some r3 (by simp)
  have HB4:Hid (But [] w w4):=(unhide HB).trans' hb4
  have BL4:Hid (Blank w4 gr):=(unhide BL).but hb4
  have grl:gr<w4.heap.size:=lt_of_cell u0
  clear hs1 hs2 hb4 a0 r0 r1 r2 r3 fz fa grl3 BL HB NU
  go_wp2_with fail
  refine (unhide P1 _ _ (unhide HS1)).mono ?_
  rintro e wz1 ⟨vp1,rfl,hsp1,hz1⟩
  have HT1:=hide hsp1
  have HS2':=hide ((unhide HS2).but_nil hz1)
  have c1:=hz1.cell_some c0 (by simp)
  clear hsp1
  go_wp2_with fail
  refine (unhide P2 _ _ (unhide HS2')).mono ?_
  rintro e wz2 ⟨vp2,rfl,hsp2,hz2⟩
  have HT2:=hide hsp2
  have HT1':=hide ((unhide HT1).but_nil hz2)
  have c2:=hz2.cell_some c1 (by simp)
  have Bz2:=hz1.trans' hz2
  clear hsp2 hz1 hz2 c1 c0
  go_wp2_with fail
  refine (unhide OL _ _ _ (unhide HT1') (unhide HT2)).mono ?_
  rintro e wz3 ⟨vr,rfl,hvr,hz3⟩
  have Bz3:=Bz2.trans' hz3
  have HVR:=hide hvr
  obtain ⟨x8,y8,p8,rfl,-⟩:=hvr.agg
  clear hvr hz3 Bz2
  generalize decide (g.num<0)=r8 at *
  have q0:=Bz3.cell_some u0 (by simp)
  have q1:=Bz3.cell_some u1 (by simp)
  have q2:=Bz3.cell_some u2 (by simp)
  have q3:=Bz3.cell_some u3 (by simp)
  have qf:∀ j,wz3.frozen? ⟨gr,j,none⟩=false:=fun j=>(Bz3.frozen (p:=⟨gr,j,none⟩) grl (by simp)).trans (uf j)
  go_wp2
  have hBh:But [gr] wz3 ((((wz3.setCell ⟨gr,0,none⟩ (.bool r8)).setCell ⟨gr,1,none⟩ (.int .u64 x8)).setCell ⟨gr,2,none⟩ (.int .u64 y8)).setCell ⟨gr,3,none⟩ (.pointer p8)):=(((((But.refl [gr] wz3).setCell (.inl (by simp)) _).setCell (.inl (by simp)) _).setCell (.inl (by simp)) _).setCell (.inl (by simp)) _)
  have hBf:=(((((unhide HB4).trans' Bz3).setCell (p:=⟨gr,0,none⟩) (.inr (unhide HGR)) (.bool r8)).setCell (p:=⟨gr,1,none⟩) (.inr (unhide HGR)) (.int .u64 x8)).setCell (p:=⟨gr,2,none⟩) (.inr (unhide HGR)) (.int .u64 y8)).setCell (p:=⟨gr,3,none⟩) (.inr (unhide HGR)) (.pointer p8)
  exact bodyPost_ret (v:=.tuple #[.agg #[.bool r8,.int .u64 x8,.int .u64 y8,.pointer p8],.nilIface]) (by simp [results,Tryz.results99,go_sem,q0,q1,q2,q3]) rfl ⟨_,rfl,((unhide BL4).but Bz3).frac (unhide HVR) hBh,hBf⟩
end Go.Proofs.YtpfnnhjnakmnoaaGreatDoor
