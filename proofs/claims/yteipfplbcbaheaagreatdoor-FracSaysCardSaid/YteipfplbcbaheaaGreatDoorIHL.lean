/- Quotient and rest of whole numbers, roun -/
import Derived.Deep.LoopGhost
import Derived.Deep.DeepCutAuto
import Derived.Test.YteipfplbcbaheaaGreatDoorIQ4
import Derived.Test.YteipfplbcbaheaaGreatDoorIR0
namespace Go.Proofs.YteipfplbcbaheaaGreatDoor
open Go.RowKit
set_option maxHeartbeats 8000000
set_option maxRecDepth 100000
theorem tmod_sgU (x y:Int):x.tmod y=sgU (decide (x<0)) (x.natAbs%y.natAbs):=by
 unfold sgU
 by_cases h:x<0
 ·rw [decide_eq_true h,if_pos rfl]
  obtain ⟨m,rfl⟩:∃ m:Nat,x=-(m:Int):=⟨x.natAbs,by omega⟩
  rw [Int.neg_tmod,Int.natAbs_neg,Int.natAbs_natCast]
  rcases Int.natAbs_eq y with e | e <;> rw [e] <;> (simp only [Int.tmod_neg,Int.natAbs_neg,Int.natAbs_natCast];rfl)
 ·rw [decide_eq_false h,if_neg (by simp)]
  obtain ⟨m,rfl⟩:∃ m:Nat,x=(m:Int):=⟨x.natAbs,by omega⟩
  rcases Int.natAbs_eq y with e | e <;> rw [e] <;> (simp only [Int.tmod_neg,Int.natAbs_neg,Int.natAbs_natCast];rfl)
theorem tdiv_sgU (x y:Int) (hy:y≠0):x.tdiv y=sgU (decide (x<0) != decide (y<0)) (x.natAbs/y.natAbs):=by
 unfold sgU
 by_cases h:x<0 <;> by_cases k:y<0
 ·rw [decide_eq_true h,decide_eq_true k,if_neg (by simp)]
  obtain ⟨m,rfl⟩:∃ m:Nat,x=-(m:Int):=⟨x.natAbs,by omega⟩
  obtain ⟨n,rfl⟩:∃ n:Nat,y=-(n:Int):=⟨y.natAbs,by omega⟩
  simp [Int.neg_tdiv,Int.tdiv_neg]
 ·rw [decide_eq_true h,decide_eq_false k,if_pos (by simp)]
  obtain ⟨m,rfl⟩:∃ m:Nat,x=-(m:Int):=⟨x.natAbs,by omega⟩
  obtain ⟨n,rfl⟩:∃ n:Nat,y=(n:Int):=⟨y.natAbs,by omega⟩
  simp [Int.neg_tdiv]
 ·rw [decide_eq_false h,decide_eq_true k,if_pos (by simp)]
  obtain ⟨m,rfl⟩:∃ m:Nat,x=(m:Int):=⟨x.natAbs,by omega⟩
  obtain ⟨n,rfl⟩:∃ n:Nat,y=-(n:Int):=⟨y.natAbs,by omega⟩
  simp [Int.tdiv_neg]
 ·rw [decide_eq_false h,decide_eq_false k,if_neg (by simp)]
  obtain ⟨m,rfl⟩:∃ m:Nat,x=(m:Int):=⟨x.natAbs,by omega⟩
  obtain ⟨n,rfl⟩:∃ n:Nat,y=(n:Int):=⟨y.natAbs,by omega⟩
  simp
theorem quoRemU_any (zb rb b1 o1 b2 o2:Nat) (x y q t:Int) (w:World) (hz:Slot w zb 0) (hr:Slot w rb 0) (hne:zb≠rb) (hx:IntAt w b1 o1 x) (hy:IntAt w b2 o2 y) (hy0:y≠0) (hlx:(wd 4294967296 x.natAbs).length<8388608) (hly:(wd 4294967296 y.natAbs).length<8388608) (hlq:(wd 4294967296 q.natAbs).length<2147483648) (hlt:(wd 4294967296 t.natAbs).length<2147483648) (hq:Hid (q=sgU (decide (x<0) != decide (y<0)) (x.natAbs/y.natAbs))) (ht:Hid (t=sgU (decide (x<0)) (x.natAbs%y.natAbs))) :
  Calls Tryz.prog 151 #[.pointer (some ⟨zb,0,none⟩),.pointer (some ⟨b1,o1,none⟩),.pointer (some ⟨b2,o2,none⟩),.pointer (some ⟨rb,0,none⟩)] w fun e w'=>e=.returned (.tuple #[.pointer (some ⟨zb,0,none⟩),.pointer (some ⟨rb,0,none⟩)])∧But [zb,rb] w w'∧IntAt w' zb 0 q∧IntAt w' rb 0 t∧Slot w' zb 0∧Slot w' rb 0:=by
 obtain ⟨h0,v0,h1,hv⟩:=hx
 obtain ⟨g0,u0,g1,hu⟩:=hy
 obtain ⟨q1,q2⟩:=sgU_sign _ _ q (unhide hq)
 obtain ⟨t1,t2⟩:=sgU_sign _ _ t (unhide ht)
 have DV:=hide (fun W (h8:Sl .u32 W v0 (wd 4294967296 x.natAbs)) (h9:Sl .u32 W u0 (wd 4294967296 y.natAbs))=>divU_any v0 u0 x.natAbs y.natAbs W h8 h9 (by omega) hlx hly)
 rw [← q1,← t1] at DV
 rw [← q1] at q2
 rw [← t1] at t2
 generalize hsx:decide (x<0)=sx at h0 q2 t2
 generalize hsy:decide (y<0)=sy at g0 q2
 have HQ2:=hide q2
 have HT2:=hide t2
 clear hsx hsy hq ht q1 q2 t1 t2
 go_enter Tryz.func151,Tryz.ntmps151
 go_wp2
 go_quiet (fail)
 go_wp2
 obtain ⟨W,hW⟩:∃ W,W=w.drewN nq:=⟨_,rfl⟩
 have KB0:But [] w W:=by rw [hW];exact (But.refl _ _).drewN _
 have k1:=KB0.cell_some h1 (by simp)
 have l1:=KB0.cell_some g1 (by simp)
 have hv':=hv.but_nil KB0
 have hu':=hu.but_nil KB0
 have hz':=hz.but KB0 (by simp)
 have hr':=hr.but KB0 (by simp)
 rw [← hW]
 have HB0:=hide KB0
 clear hW KB0 hv hu h0 h1 g0 g1 hz hr
 go_region_held (fun w'=>w'.cell? ⟨b1,o1+1,none⟩=some v0∧w'.cell? ⟨b2,o2+1,none⟩=some u0) (go_keep) (
  (go_at_call 200;refine (unhide DV _ ?_ ?_).mono ?_;exact hv';exact hu';rintro e w1 ⟨vq,vt,rfl,hvq,hvt,hb⟩;have hb0:But [] W w1:=(by first | exact hb | exact (But.refl _ _).drew.trans' hb | exact ((But.refl _ _).drewN _).trans' hb);have k0:=hb0.cell_some k1 (by simp);have k2:=hb0.cell_some l1 (by simp)))
 all_goals
  obtain ⟨⟨s0,hc0⟩,⟨a0,n0,c0,hc1⟩,f0,f1⟩:=hz'.but hb0 (by simp)
  have GV:=hide (give_any zb 0 (sx != sy) vq _ (.bool s0) (.slice a0 n0 c0) _ hvq hlq hc0 hc1 f0 f1)
  go_wp2_with fail
  refine (unhide GV).mono ?_
  rintro e w2 ⟨rfl,hw2⟩
  rw [unhide HQ2] at hw2
  have hw2':w2=putI w1 zb 0 vq (decide (q<0)):=hw2
  have hzs:=hz'.but hb0 (by simp)
  have hrs:=hr'.but hb0 (by simp)
  have I1:=put_int hzs vq q hvq
  obtain ⟨aq,bq,cq,rfl⟩:=hvq.slice
  have S1:=put_slot hzs aq bq cq (decide (q<0))
  have S2:=put_slot_other (b:=zb) (o:=0) (.slice aq bq cq) (decide (q<0)) hrs (.inl (Ne.symm hne))
  have V2:=put_sl hzs (.slice aq bq cq) (decide (q<0)) hvt
  have B2:=put_but w1 zb 0 (.slice aq bq cq) (decide (q<0))
  rw [← hw2'] at I1 S1 S2 V2 B2
  obtain ⟨⟨s5,hd0⟩,⟨a5,n5,c5,hd1⟩,e0,e1⟩:=S2
  have GT:=hide (give_any rb 0 sx vt _ (.bool s5) (.slice a5 n5 c5) _ V2 hlt hd0 hd1 e0 e1)
  have S2:Slot w2 rb 0:=⟨⟨s5,hd0⟩,⟨a5,n5,c5,hd1⟩,e0,e1⟩
  have FIN:=hide (And.intro I1 (And.intro S1 (And.intro S2 (And.intro V2 (And.intro B2 hb0)))))
  clear hw2 hw2' I1 S1 S2 V2 B2 hzs hrs hc0 hc1 f0 f1 hd0 hd1 e0 e1 GV
  go_wp2_with fail
  refine (unhide GT).mono ?_
  rintro e w3 ⟨rfl,hw3⟩
  rw [unhide HT2] at hw3
  have hw3':w3=putI w2 rb 0 vt (decide (t<0)):=hw3
  have HW3:=hide hw3'
  clear hw3 hw3' GT
  go_wp2
  go_ret2
  obtain ⟨I1,S1,S2,V2,B2,hb0⟩:=unhide FIN
  obtain ⟨aq,bq,cq,rfl⟩:=V2.slice
  rw [unhide HW3]
  exact ⟨rfl,(((unhide HB0).trans' hb0).of_nil.trans (B2.mono (l':=[zb,rb]) (by simp)) (by simp)).trans (put_but _ _ _ _ _) (by simp),put_int_other S2 _ _ I1 (.inl hne),put_int S2 _ _ V2,put_slot_other _ _ S1 (.inl hne),put_slot S2 _ _ _ _⟩
end Go.Proofs.YteipfplbcbaheaaGreatDoor

namespace Go.Proofs.YteipfplbcbaheaaGreatDoor
open Go.RowKit
theorem but_set4 (w:World) (g:Nat) (v0 v1 v2 v3:Value):But [g] w ((((w.setCell ⟨g,0,none⟩ v0).setCell ⟨g,1,none⟩ v1).setCell ⟨g,2,none⟩ v2).setCell ⟨g,3,none⟩ v3) :=
 (((((But.refl [g] w).setCell (.inl (by simp)) _).setCell (.inl (by simp)) _).setCell (.inl (by simp)) _).setCell (.inl (by simp)) _)
theorem two_news (w W:World) (A B:Array Value) (s t:TypeId) (hW:W=(w.alloc (.cells A s)).alloc (.cells B t)) :
  (∀ j,W.cell? ⟨w.heap.size,j,none⟩=A[j]?)∧(∀ j,W.cell? ⟨w.heap.size+1,j,none⟩=B[j]?)∧(∀ j,W.frozen? ⟨w.heap.size,j,none⟩=false)∧(∀ j,W.frozen? ⟨w.heap.size+1,j,none⟩=false)∧But [] w W:=by
 subst hW
 refine ⟨fun j=>?_,fun j=>?_,fun j=>?_,fun j=>?_,((But.refl _ _).alloc _).alloc _⟩
 ·have h:=((But.refl [] (w.alloc (.cells A s))).alloc (.cells B t)).cell (p:=⟨w.heap.size,j,none⟩) (by simp) (by simp)
  rw [h,World.cell?_alloc_new]
 ·simp
 ·have h:=((But.refl [] (w.alloc (.cells A s))).alloc (.cells B t)).frozen (p:=⟨w.heap.size,j,none⟩) (by simp) (by simp)
  rw [h];simp
 ·simp
end Go.Proofs.YteipfplbcbaheaaGreatDoor

namespace Go.Proofs.YteipfplbcbaheaaGreatDoor
open Go.RowKit
theorem fl_le_abs (f:Rat):(fl f).natAbs≤f.num.natAbs:=by
 by_cases hd:f.den=1
 ·rw [(fl_whole f hd).1];exact Nat.le_refl _
 ·rw [fl_abs f hd,sgn_abs]
  have hd2:2≤f.den:=by have:=den_pos f;omega
  have h1:=Nat.div_le_div_left (a:=f.num.natAbs) hd2 (by omega)
  have hn:f.num.natAbs≠0:=fun e=>by
   have hr:=f.reduced
   rw [e,Nat.coprime_zero_left] at hr
   omega
  split <;> omega
end Go.Proofs.YteipfplbcbaheaaGreatDoor
