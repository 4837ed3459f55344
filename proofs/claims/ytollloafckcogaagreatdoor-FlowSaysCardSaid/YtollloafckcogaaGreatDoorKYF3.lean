/- The product of two fractions of words, i -/
import Derived.Test.YtollloafckcogaaGreatDoorKYF1
namespace Go.Proofs.YtollloafckcogaaGreatDoor
open Go.RowKit
set_option maxHeartbeats 8000000
set_option maxRecDepth 100000
theorem ofWords_gen (s:Bool) (p q:Nat) (r:Bool) (hr:Hid (r=(s && decide (p≠0)))) (x:Int) (hx:IntKind.u64.wrap ((q:Int)-1)=x) (w:World) :
  Calls Tryz.prog 74 #[.bool s,.int .u64 (p:Int),.int .u64 (q:Int)] w fun e w'=>e=.returned (.agg #[.bool r,.int .u64 (p:Int),.int .u64 x,.pointer none])∧But [] w w':=by
 by_cases h0:p=0
 ·subst h0
  have er:Hid (r=false):=by show _=_;rw [unhide hr];simp
  clear hr
  cases s
  all_goals
   go_enter Tryz.func74,Tryz.ntmps74
   go_wp2
   rw [unhide er]
   exact bodyPost_ret (v:=.agg #[.bool false,.int .u64 ((0:Nat):Int),.int .u64 x,.pointer none]) (by simp [results,Tryz.results74,go_sem]) rfl ⟨rfl,(But.refl _ _).alloc _⟩
 ·have e1:((p:Int) != 0)=true:=by simp;exact h0
  cases s
  ·have er:Hid (r=false):=by show _=_;rw [unhide hr];simp
   clear hr
   go_enter Tryz.func74,Tryz.ntmps74
   go_wp2
   rw [unhide er]
   exact bodyPost_ret (v:=.agg #[.bool false,.int .u64 (p:Int),.int .u64 x,.pointer none]) (by simp [results,Tryz.results74,go_sem]) rfl ⟨rfl,(But.refl _ _).alloc _⟩
  ·have er:Hid (r=true):=by show _=_;rw [unhide hr];simp [h0]
   clear hr
   go_enter Tryz.func74,Tryz.ntmps74
   go_wp2
   rw [unhide er]
   exact bodyPost_ret (v:=.agg #[.bool true,.int .u64 (p:Int),.int .u64 x,.pointer none]) (by simp [results,Tryz.results74,go_sem]) rfl ⟨rfl,(But.refl _ _).alloc _⟩
theorem three_new (w W:World) (A B C:Array Value) (t:TypeId) (hW:W=((w.alloc (.cells A t)).alloc (.cells B t)).alloc (.cells C t)) :
  (∀ j,W.cell? ⟨w.heap.size,j,none⟩=A[j]?)∧(∀ j,W.cell? ⟨w.heap.size+1,j,none⟩=B[j]?)∧(∀ j,W.cell? ⟨w.heap.size+2,j,none⟩=C[j]?)∧(∀ j,W.frozen? ⟨w.heap.size+2,j,none⟩=false)∧But [] w W:=by
 subst hW
 have z1:(w.alloc (.cells A t)).heap.size=w.heap.size+1:=by simp
 have z2:((w.alloc (.cells A t)).alloc (.cells B t)).heap.size=w.heap.size+2:=by simp
 have e0:∀ (w:World) (o:Obj) (p:Addr),p.block<w.heap.size→(w.alloc o).cell? p=w.cell? p:=fun w o p hp=>((But.refl [] w).alloc o).cell hp (by simp)
 refine ⟨fun j=>?_,fun j=>?_,fun j=>?_,fun j=>?_,(((But.refl [] w).alloc _).alloc _).alloc _⟩
 ·rw [e0 _ _ _ (by rw [z2];show w.heap.size<_;omega),e0 _ _ _ (by rw [z1];show w.heap.size<_;omega),World.cell?_alloc_new]
 ·rw [e0 _ _ _ (by rw [z2];show w.heap.size+1<_;omega),← z1,World.cell?_alloc_new]
 ·rw [← z2,World.cell?_alloc_new]
 ·have:(((w.alloc (.cells A t)).alloc (.cells B t)).alloc (.cells C t)).frozen? ⟨((w.alloc (.cells A t)).alloc (.cells B t)).heap.size,j,none⟩=false:=World.frozen?_alloc_new _ _ _ _
  rw [z2] at this;exact this
theorem div_le_B (a k:Nat) (h:a < 18446744073709551616):a/k < 18446744073709551616:=Nat.lt_of_le_of_lt (Nat.div_le_self _ _) h
theorem or_zero (a b:Nat):a ||| b=0↔a=0∧b=0:=Nat.or_eq_zero_iff
theorem mulWords_frac (s:Bool) (f g:Rat) (w:World) (hs:s=(decide (f.num<0) != decide (g.num<0))) (hfp:f.num.natAbs < 18446744073709551616) (hfq:f.den < 18446744073709551616) (hgp:g.num.natAbs < 18446744073709551616) (hgq:g.den < 18446744073709551616) :
  Calls Tryz.prog 107 #[.bool s,.agg #[.bool (decide (f.num<0)),.int .u64 (f.num.natAbs:Int),.int .u64 ((f.den:Int)-1),.pointer none],.agg #[.bool (decide (g.num<0)),.int .u64 (g.num.natAbs:Int),.int .u64 ((g.den:Int)-1),.pointer none]] w fun e w'=>∃ (r:Bool) (x y:Int) (ok:Bool),e=.returned (.tuple #[.agg #[.bool r,.int .u64 x,.int .u64 y,.pointer none],.bool ok])∧(ok=true→FracAt w' (.agg #[.bool r,.int .u64 x,.int .u64 y,.pointer none]) (f*g))∧But [] w w':=by
 have hb0:=den_pos f
 have hd0:=den_pos g
 obtain ⟨k1,hk1⟩:∃ k1,k1=Nat.gcd g.den f.num.natAbs:=⟨_,rfl⟩
 obtain ⟨k2,hk2⟩:∃ k2,k2=Nat.gcd f.den g.num.natAbs:=⟨_,rfl⟩
 obtain ⟨hn,hd⟩:=mul_low f g k1 k2 (by rw [hk1,Nat.gcd_comm]) (by rw [hk2,Nat.gcd_comm])
 rw [← hs] at hn
 have k10:0<k1:=by rw [hk1];exact Nat.gcd_pos_of_pos_left _ hd0
 have k20:0<k2:=by rw [hk2];exact Nat.gcd_pos_of_pos_left _ hb0
 have k1B:k1 < 18446744073709551616:=Nat.lt_of_le_of_lt (by rw [hk1];exact Nat.gcd_le_left _ hd0) hgq
 have k2B:k2 < 18446744073709551616:=Nat.lt_of_le_of_lt (by rw [hk2];exact Nat.gcd_le_left _ hb0) hfq
 have G1:=hide (fun W=>gcdWords_any g.den f.num.natAbs W hgq hfp)
 have G2:=hide (fun W=>gcdWords_any f.den g.num.natAbs W hfq hgp)
 rw [← hk1] at G1
 rw [← hk2] at G2
 have U1:=hide (fun W=>under_any (decide (f.num<0)) f.num.natAbs f.den hfq hb0 W)
 have U2:=hide (fun W=>under_any (decide (g.num<0)) g.num.natAbs g.den hgq hd0 W)
 have q1B:=div_le_B f.num.natAbs k1 hfp
 have q2B:=div_le_B g.num.natAbs k2 hgp
 have q3B:=div_le_B f.den k2 hfq
 have q4B:=div_le_B g.den k1 hgq
 obtain ⟨lo1,hi1,hlo1,hhi1,e1⟩:=mul_letters (f.num.natAbs/k1) (g.num.natAbs/k2) 0 q1B q2B (by omega)
 obtain ⟨lo2,hi2,hlo2,hhi2,e2⟩:=mul_letters (f.den/k2) (g.den/k1) 0 q3B q4B (by omega)
 rw [Nat.add_zero] at e1 e2
 have M1:=hide (fun W=>mul64_any (f.num.natAbs/k1) (g.num.natAbs/k2) hi1 lo1 q1B q2B hlo1 e1 W)
 have M2:=hide (fun W=>mul64_any (f.den/k2) (g.den/k1) hi2 lo2 q3B q4B hlo2 e2 W)
 obtain ⟨z,hz⟩:∃ z,z=hi1 ||| hi2:=⟨_,rfl⟩
 have EO:bits .or .u64 (hi1:Int) (hi2:Int)=(z:Int):=by rw [bits_or_u64_nat _ _ hhi1 hhi2,hz]
 obtain ⟨r,hr⟩:∃ r,r=(s && decide (lo1≠0)):=⟨_,rfl⟩
 obtain ⟨x,hx⟩:∃ x,IntKind.u64.wrap ((lo2:Int)-1)=x:=⟨_,rfl⟩
 have FIN:Hid (∀ (W:World),((z:Int)==0)=true→FracAt W (.agg #[.bool r,.int .u64 (lo1:Int),.int .u64 x,.pointer none]) (f*g)):=by
  intro W hz0
  have hz1:z=0:=by have:=beq_iff_eq.1 hz0;omega
  rw [hz,or_zero] at hz1
  obtain ⟨h1,h2⟩:=hz1
  rw [h1,Nat.mul_zero,Nat.add_zero] at e1
  rw [h2,Nat.mul_zero,Nat.add_zero] at e2
  rw [e1] at hn
  rw [e2] at hd
  have hlp:0<lo2:=by rw [← hd];exact den_pos _
  have hx2:x=(lo2:Int)-1:=by rw [← hx,IntKind.wrap_u64];omega
  left
  have habs:(f*g).num.natAbs=lo1:=by rw [hn,sgn_abs]
  rw [habs,hd]
  refine ⟨hlo1,hlo2,?_⟩
  rw [hr,hx2,hn,sgn_neg]
 have D1:(f.num.natAbs:Int)/(k1:Int)=((f.num.natAbs/k1:Nat):Int):=(Int.natCast_ediv _ _).symm
 have D2:(g.num.natAbs:Int)/(k2:Int)=((g.num.natAbs/k2:Nat):Int):=(Int.natCast_ediv _ _).symm
 have D3:(f.den:Int)/(k2:Int)=((f.den/k2:Nat):Int):=(Int.natCast_ediv _ _).symm
 have D4:(g.den:Int)/(k1:Int)=((g.den/k1:Nat):Int):=(Int.natCast_ediv _ _).symm
 have OS:=hide (fun W=>ofWords_gen s lo1 lo2 r hr x hx W)
 clear hn hd hs hk1 hk2 e1 e2 hz hr hx
 generalize f.num.natAbs/k1=q1 at *
 generalize g.num.natAbs/k2=q2 at *
 generalize f.den/k2=q3 at *
 generalize g.den/k1=q4 at *
 generalize decide (f.num<0)=s1 at *
 generalize decide (g.num<0)=s2 at *
 generalize f.num.natAbs=a at *
 generalize g.num.natAbs=c at *
 generalize hfd:f.den=b at *
 generalize hgd:g.den=d at *
 clear hfd hgd
 have T1:(a:Int).tdiv (k1:Int)=(q1:Int):=by rw [Int.tdiv_eq_ediv_of_nonneg (by omega)];exact D1
 have T2:(c:Int).tdiv (k2:Int)=(q2:Int):=by rw [Int.tdiv_eq_ediv_of_nonneg (by omega)];exact D2
 have T3:(b:Int).tdiv (k2:Int)=(q3:Int):=by rw [Int.tdiv_eq_ediv_of_nonneg (by omega)];exact D3
 have T4:(d:Int).tdiv (k1:Int)=(q4:Int):=by rw [Int.tdiv_eq_ediv_of_nonneg (by omega)];exact D4
 have W1:IntKind.u64.wrap (q1:Int)=(q1:Int):=by rw [IntKind.wrap_u64];omega
 have W2:IntKind.u64.wrap (q2:Int)=(q2:Int):=by rw [IntKind.wrap_u64];omega
 have W3:IntKind.u64.wrap (q3:Int)=(q3:Int):=by rw [IntKind.wrap_u64];omega
 have W4:IntKind.u64.wrap (q4:Int)=(q4:Int):=by rw [IntKind.wrap_u64];omega
 have z1:((k1:Int)==0)=false:=beq_eq_false_iff_ne.2 (by omega)
 have z2:((k2:Int)==0)=false:=beq_eq_false_iff_ne.2 (by omega)
 go_enter Tryz.func107,Tryz.ntmps107
 go_wp2
 obtain ⟨W,hW⟩:∃ W,W=(((w.alloc (.cells #[.bool s1,.int .u64 (a:Int),.int .u64 ((b:Int)-1),.pointer none] 27)).alloc (.cells #[.bool s2,.int .u64 (c:Int),.int .u64 ((d:Int)-1),.pointer none] 27)).alloc (.cells #[.bool false,.int .u64 0,.int .u64 0,.pointer none] 27)):=⟨_,rfl⟩
 obtain ⟨tA,tB,tC,fz,hB⟩:=three_new w W _ _ _ _ hW
 have x0:=tA 0
 have x1:=tA 1
 have x2:=tA 2
 have x3:=tA 3
 have y0:=tB 0
 have y1:=tB 1
 have y2:=tB 2
 have y3:=tB 3
 have r0:=tC 0
 have r1:=tC 1
 have r2:=tC 2
 have r3:=tC 3
 simp only [List.getElem?_toArray,List.getElem?_cons_zero,List.getElem?_cons_succ] at x0 x1 x2 x3 y0 y1 y2 y3 r0 r1 r2 r3
 clear tA tB tC
 rw [← hW]
 clear hW
 obtain ⟨ga,hga⟩:∃ ga,ga=w.heap.size:=⟨_,rfl⟩
 obtain ⟨gb,hgb⟩:∃ gb,gb=w.heap.size+1:=⟨_,rfl⟩
 obtain ⟨gr,hgr⟩:∃ gr,gr=w.heap.size+2:=⟨_,rfl⟩
 rw [← hga] at x0 x1 x2 x3
 rw [← hgb] at y0 y1 y2 y3
 rw [← hgr] at r0 r1 r2 r3 fz
 rw [← hgr,← hgb,← hga]
 have HGR:Hid (w.heap.size≤gr):=by show _≤_;omega
 clear hga hgb hgr
 have HB:=hide hB
 clear hB
 have hrl:gr<W.heap.size:=lt_of_cell r0
 go_region_held (fun w'=>w'.cell? ⟨ga,0,none⟩=some (.bool s1)∧w'.cell? ⟨ga,1,none⟩=some (.int .u64 (a:Int))∧w'.cell? ⟨ga,2,none⟩=some (.int .u64 ((b:Int)-1))∧w'.cell? ⟨ga,3,none⟩=some (.pointer none)∧w'.cell? ⟨gb,0,none⟩=some (.bool s2)∧w'.cell? ⟨gb,1,none⟩=some (.int .u64 (c:Int))∧w'.cell? ⟨gb,2,none⟩=some (.int .u64 ((d:Int)-1))∧w'.cell? ⟨gb,3,none⟩=some (.pointer none)) (go_keep) (first
  | (go_at_call 80;have hchk:=B1;clear hchk;refine (unhide U2 _).mono ?_;rintro e w2 ⟨rfl,hb2⟩;have B2:But [] W w2:=B1.trans' hb2;have m0:=B2.cell_some x0 (by simp);have m1:=B2.cell_some x1 (by simp);have m2:=B2.cell_some x2 (by simp);have m3:=B2.cell_some x3 (by simp);have n0:=B2.cell_some y0 (by simp);have n1:=B2.cell_some y1 (by simp);have n2:=B2.cell_some y2 (by simp);have n3:=B2.cell_some y3 (by simp))
  | (go_at_call 80;refine (unhide U1 _).mono ?_;rintro e w1 ⟨rfl,hb1⟩;have B1:But [] W w1:=(by first | exact hb1 | exact (But.refl _ _).drew.trans' hb1);have k0:=B1.cell_some x0 (by simp);have k1':=B1.cell_some x1 (by simp);have k2':=B1.cell_some x2 (by simp);have k3:=B1.cell_some x3 (by simp);have l0:=B1.cell_some y0 (by simp);have l1:=B1.cell_some y1 (by simp);have l2:=B1.cell_some y2 (by simp);have l3:=B1.cell_some y3 (by simp)))
 have t0:=B2.cell_some r0 (by simp)
 have t1:=B2.cell_some r1 (by simp)
 have t2:=B2.cell_some r2 (by simp)
 have t3:=B2.cell_some r3 (by simp)
 have tfw2:∀ j,w2.frozen? ⟨gr,j,none⟩=false:=fun j=>(B2.frozen (p:=⟨gr,j,none⟩) hrl (by simp)).trans (fz j)
 have HBw2:Hid (But [] w w2):=(unhide HB).trans' B2
 clear B1 B2 hb1 hb2 k0 k1' k2' k3 l0 l1 l2 l3 m0 m2 m3 n0 n2 n3 x0 x1 x2 x3 y0 y1 y2 y3 r0 r1 r2 r3 fz hrl HB U1 U2
 go_wp2
 go_quiet ((first | (go_at_call_of 73 (Value.int IntKind.u64 (d:Int));exact Calls.quiet_of (unhide G1 _)) | (go_at_call_of 73 (Value.int IntKind.u64 (b:Int));exact Calls.quiet_of (unhide G2 _))))
 obtain ⟨V1,hV1⟩:∃ V1,V1=w2.drewN nq:=⟨_,rfl⟩
 rw [← hV1]
 have hcV1:∀ p,V1.cell? p=w2.cell? p:=fun p=>by rw [hV1];rfl
 have hfV1:∀ p,V1.frozen? p=w2.frozen? p:=fun p=>by rw [hV1];rfl
 have HBV1:Hid (But [] w V1):=by show But _ _ _;rw [hV1];exact (unhide HBw2).drewN nq
 rw [← hcV1] at m1 n1 t0 t1 t2 t3
 have tfV1:∀ j,V1.frozen? ⟨gr,j,none⟩=false:=fun j=>(hfV1 _).trans (tfw2 j)
 clear hV1 hcV1 hfV1 tfw2
 go_wp2
 go_quiet ((go_at_call 116;exact Calls.quiet_of_same (unhide M1 _)))
 obtain ⟨V2,hV2⟩:∃ V2,V2=V1.drewN nq:=⟨_,rfl⟩
 rw [← hV2]
 have hcV2:∀ p,V2.cell? p=V1.cell? p:=fun p=>by rw [hV2];rfl
 have hfV2:∀ p,V2.frozen? p=V1.frozen? p:=fun p=>by rw [hV2];rfl
 have HBV2:Hid (But [] w V2):=by show But _ _ _;rw [hV2];exact (unhide HBV1).drewN nq
 rw [← hcV2] at m1 n1 t0 t1 t2 t3
 have tfV2:∀ j,V2.frozen? ⟨gr,j,none⟩=false:=fun j=>(hfV2 _).trans (tfV1 j)
 clear hV2 hcV2 hfV2 tfV1
 go_wp2
 go_quiet ((go_at_call 116;exact Calls.quiet_of_same (unhide M2 _)))
 obtain ⟨V3,hV3⟩:∃ V3,V3=V2.drewN nq:=⟨_,rfl⟩
 rw [← hV3]
 have hcV3:∀ p,V3.cell? p=V2.cell? p:=fun p=>by rw [hV3];rfl
 have hfV3:∀ p,V3.frozen? p=V2.frozen? p:=fun p=>by rw [hV3];rfl
 have HBV3:Hid (But [] w V3):=by show But _ _ _;rw [hV3];exact (unhide HBV2).drewN nq
 rw [← hcV3] at m1 n1 t0 t1 t2 t3
 have tfV3:∀ j,V3.frozen? ⟨gr,j,none⟩=false:=fun j=>(hfV3 _).trans (tfV2 j)
 clear hV3 hcV3 hfV3 tfV2
 go_wp2_with fail
 refine (unhide OS _).mono ?_
 rintro e w4 ⟨rfl,hb4⟩
 have u0:=hb4.cell_some t0 (by simp)
 have u1:=hb4.cell_some t1 (by simp)
 have u2:=hb4.cell_some t2 (by simp)
 have u3:=hb4.cell_some t3 (by simp)
 have hgl:gr<V3.heap.size:=lt_of_cell t0
 have uf:∀ j,w4.frozen? ⟨gr,j,none⟩=false:=fun j=>(hb4.frozen (p:=⟨gr,j,none⟩) hgl (by simp)).trans (tfV3 j)
 have HB4:Hid (But [] w w4):=(unhide HBV3).trans' hb4
 clear hb4 t0 t1 t2 t3 tfV3 hgl
 obtain ⟨ok,hok⟩:∃ ok,((z:Int)==0)=ok:=⟨_,rfl⟩
 have FIN2:Hid (∀ W,ok=true→FracAt W (.agg #[.bool r,.int .u64 (lo1:Int),.int .u64 x,.pointer none]) (f*g)):=fun W h1=>unhide FIN W (by rw [hok];exact h1)
 clear FIN
 go_wp2
 have hBf:=((((unhide HB4).setCell (p:=⟨gr,0,none⟩) (.inr (unhide HGR)) (.bool r)).setCell (p:=⟨gr,1,none⟩) (.inr (unhide HGR)) (.int .u64 (lo1:Int))).setCell (p:=⟨gr,2,none⟩) (.inr (unhide HGR)) (.int .u64 x)).setCell (p:=⟨gr,3,none⟩) (.inr (unhide HGR)) (.pointer none)
 exact bodyPost_ret (v:=.tuple #[.agg #[.bool r,.int .u64 (lo1:Int),.int .u64 x,.pointer none],.bool ok]) (by simp [results,Tryz.results107,go_sem,u0,u1,u2,u3]) rfl ⟨r,(lo1:Int),x,ok,rfl,fun h1=>unhide FIN2 _ h1,hBf⟩
end Go.Proofs.YtollloafckcogaaGreatDoor
