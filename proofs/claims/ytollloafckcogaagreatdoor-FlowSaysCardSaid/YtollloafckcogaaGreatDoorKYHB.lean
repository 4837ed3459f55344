/- Sums and differences of whole numbers wi -/
import Derived.Deep.RegionHeld
import Derived.Test.YtollloafckcogaaGreatDoorKYH9
namespace Go.Proofs.YtollloafckcogaaGreatDoor
open Go.RowKit
set_option maxHeartbeats 8000000
set_option maxRecDepth 100000
def sgU (s:Bool) (n:Nat):Int:=if s then -(n:Int) else (n:Int)
theorem sgU_int (z:Int):sgU (decide (z<0)) z.natAbs=z:=by
 unfold sgU
 by_cases h:z<0
 ·rw [decide_eq_true h,if_pos rfl];omega
 ·rw [decide_eq_false h,if_neg (by simp)];omega
theorem sgU_sign (s:Bool) (n:Nat) (z:Int) (h:z=sgU s n):z.natAbs=n∧(s && decide (0<(wd 4294967296 n).length))=decide (z<0):=by
 have hl:=wd_len_zero (B:=4294967296) (by omega) n
 subst h
 cases s
 ·refine ⟨by simp [sgU],?_⟩
  rw [Bool.false_and,Bool.eq_iff_iff]
  simp [sgU]
 ·refine ⟨by simp [sgU],?_⟩
  rw [Bool.true_and,Bool.eq_iff_iff]
  simp only [sgU,if_true,decide_eq_true_eq]
  omega
theorem sumU_any (xn yn:Bool) (va vb:Value) (X Y:Nat) (z:Int) (w:World) (ha:Sl .u32 w va (wd 4294967296 X)) (hb:Sl .u32 w vb (wd 4294967296 Y)) (hla:(wd 4294967296 X).length<8388608) (hlb:(wd 4294967296 Y).length<8388608) (hz:Hid (z=sgU xn X+sgU yn Y)) :
  Calls Tryz.prog 95 #[.bool xn,va,.bool yn,vb] w fun e w'=>∃ s v,e=.returned (.tuple #[.bool s,v])∧Sl .u32 w' v (wd 4294967296 z.natAbs)∧But [] w w'∧(s && decide (0<(wd 4294967296 z.natAbs).length))=decide (z<0):=by
 have CM:=hide (cmp_any va vb X Y w ha hb (by omega) (by omega))
 have HA:=hide ha
 have HB:=hide hb
 have AD:=hide (addU_any va vb X Y w ha hb (by omega) (by omega))
 have S1:Hid (Y≤X→∀ W,But [] w W→Calls Tryz.prog 139 #[va,vb] W fun e w'=>∃ v',e=.returned v'∧Sl .u32 w' v' (wd 4294967296 (X-Y))∧But [] W w'):=fun h W hW=>(subU_any va vb X Y W (ha.but_nil hW) (hb.but_nil hW) (by omega) h).mono fun e w' ⟨v',h1,h2,h3,_⟩=>⟨v',h1,h2,h3⟩
 have S2:Hid (X≤Y→∀ W,But [] w W→Calls Tryz.prog 139 #[vb,va] W fun e w'=>∃ v',e=.returned v'∧Sl .u32 w' v' (wd 4294967296 (Y-X))∧But [] W w'):=fun h W hW=>(subU_any vb va Y X W (hb.but_nil hW) (ha.but_nil hW) (by omega) h).mono fun e w' ⟨v',h1,h2,h3,_⟩=>⟨v',h1,h2,h3⟩
 obtain ⟨a1,c1,rfl,-,-⟩:=ha
 obtain ⟨a2,c2,rfl,-,-⟩:=hb
 generalize (wd 4294967296 X).length=l1 at *
 generalize (wd 4294967296 Y).length=l2 at *
 by_cases hs:xn=yn
 ·subst hs
  have FS:=hide (sgU_sign xn (X+Y) z (by rw [unhide hz];unfold sgU;split <;> omega))
  clear hz
  go_enter Tryz.func95,Tryz.ntmps95
  go_wp2_with fail
  refine (unhide AD).mono ?_
  rintro e w1 ⟨v1,rfl,hv1,hb1,-⟩
  have FIN:=hide (And.intro hv1 hb1)
  clear hv1 hb1
  go_wp2
  go_ret2
  refine ⟨xn,v1,rfl,?_,(unhide FIN).2,?_⟩
  ·rw [(unhide FS).1];exact (unhide FIN).1
  ·rw [(unhide FS).1];exact (unhide FS).2
 ·have hbe:(xn==yn)=false:=by simp [hs]
  have hyn:yn=!xn:=by cases xn <;> cases yn <;> simp_all
  rcases Nat.lt_or_ge X Y with hlt | hge
  ·have FS:=hide (sgU_sign yn (Y-X) z (by rw [unhide hz,hyn];unfold sgU;cases xn <;> simp <;> omega))
   rw [cmpN_lt hlt] at CM
   clear hz hyn
   go_enter Tryz.func95,Tryz.ntmps95
   go_wp2_with fail
   refine (unhide CM).mono ?_
   rintro e w1 ⟨rfl,q,rfl⟩
   go_wp2_with fail
   refine (unhide S2 (Nat.le_of_lt hlt) _ ((But.refl _ _).drewN q)).mono ?_
   rintro e w2 ⟨v1,rfl,hv1,hb1⟩
   have FIN:=hide (And.intro hv1 (((But.refl [] w).drewN q).trans' hb1))
   clear hv1 hb1
   go_wp2
   go_ret2
   refine ⟨yn,v1,rfl,?_,(unhide FIN).2,?_⟩
   ·rw [(unhide FS).1];exact (unhide FIN).1
   ·rw [(unhide FS).1];exact (unhide FS).2
  ·have FS:=hide (sgU_sign xn (X-Y) z (by rw [unhide hz,hyn];unfold sgU;cases xn <;> simp <;> omega))
   have hc0:=cmpN_ge hge
   generalize cmpN X Y=r at *
   have hr:decide (0≤r)=true:=by simp;exact hc0
   clear hz hyn
   go_enter Tryz.func95,Tryz.ntmps95
   go_wp2_with fail
   refine (unhide CM).mono ?_
   rintro e w1 ⟨rfl,q,rfl⟩
   go_wp2_with fail
   refine (unhide S1 hge _ ((But.refl _ _).drewN q)).mono ?_
   rintro e w2 ⟨v1,rfl,hv1,hb1⟩
   have FIN:=hide (And.intro hv1 (((But.refl [] w).drewN q).trans' hb1))
   clear hv1 hb1
   go_wp2
   go_ret2
   refine ⟨xn,v1,rfl,?_,(unhide FIN).2,?_⟩
   ·rw [(unhide FS).1];exact (unhide FIN).1
   ·rw [(unhide FS).1];exact (unhide FS).2
theorem intAddU_any (b o b1 o1 b2 o2:Nat) (x y z:Int) (w:World) (hs:Slot w b o) (hne1:b≠b1) (hne2:b≠b2) (hx:IntAt w b1 o1 x) (hy:IntAt w b2 o2 y) (hlx:(wd 4294967296 x.natAbs).length<8388608) (hly:(wd 4294967296 y.natAbs).length<8388608) (hlz:(wd 4294967296 z.natAbs).length<2147483648) (hz:Hid (z=x+y)) :
  Calls Tryz.prog 43 #[.pointer (some ⟨b,o,none⟩),.pointer (some ⟨b1,o1,none⟩),.pointer (some ⟨b2,o2,none⟩)] w fun e w'=>e=.returned (.pointer (some ⟨b,o,none⟩))∧∃ w1 v,But [] w w1∧Sl .u32 w1 v (wd 4294967296 z.natAbs)∧w'=putI w1 b o v (decide (z<0)):=by
 obtain ⟨h0,v0,h1,hv⟩:=hx
 obtain ⟨g0,u0,g1,hu⟩:=hy
 have SM:=hide (fun W (h8:Sl .u32 W v0 (wd 4294967296 x.natAbs)) (h9:Sl .u32 W u0 (wd 4294967296 y.natAbs))=>sumU_any (decide (x<0)) (decide (y<0)) v0 u0 x.natAbs y.natAbs z W h8 h9 hlx hly (by show _=_;rw [sgU_int,sgU_int];exact unhide hz))
 generalize hsx:decide (x<0)=sx at h0 SM
 generalize hsy:decide (y<0)=sy at g0 SM
 clear hsx hsy hz
 go_enter Tryz.func43,Tryz.ntmps43
 go_wp2
 go_region_held (fun w'=>w'.cell? ⟨b1,o1,none⟩=some (.bool sx)∧w'.cell? ⟨b1,o1+1,none⟩=some v0∧w'.cell? ⟨b2,o2,none⟩=some (.bool sy)∧w'.cell? ⟨b2,o2+1,none⟩=some u0) (go_keep) (first
  | (go_at_call 95;refine (unhide SM _ ?_ ?_).mono ?_;exact hv;exact hu;rintro e w1 ⟨s1,v,rfl,hv1,hb,hsg⟩;have hb0:But [] w w1:=(by first | exact hb | exact (But.refl _ _).drew.trans' hb | exact ((But.refl _ _).drewN _).trans' hb);have k0:=hb0.cell_some h0 (by simp);have k1:=hb0.cell_some h1 (by simp);have k2:=hb0.cell_some g0 (by simp);have k3:=hb0.cell_some g1 (by simp))
  | (go_at_call 94;(obtain ⟨⟨s0,hc0⟩,⟨a0,n0,c0,hc1⟩,f0,f1⟩:=hs.but hb0 (by simp));refine (give_any b o _ v _ (.bool s0) (.slice a0 n0 c0) _ hv1 hlz hc0 hc1 f0 f1).mono ?_;rintro e w2 ⟨rfl,rfl⟩))
 all_goals go_wp2
 all_goals go_ret
 all_goals refine ⟨rfl,w1,v,hb0,hv1,?_⟩
 all_goals (rw [← hsg];rfl)
end Go.Proofs.YtollloafckcogaaGreatDoor
