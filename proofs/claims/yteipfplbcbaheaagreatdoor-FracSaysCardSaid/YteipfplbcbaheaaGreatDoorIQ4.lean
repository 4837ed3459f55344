/- The nearest whole number to a fraction,  -/
import Derived.Deep.DeepCutAuto
import Derived.Shelf.Strings.Repeat
import Derived.Test.YteipfplbcbaheaaGreatDoorProg
import Derived.Shelf.Strings.Prefix
import Derived.Deep.RegionHeld
import Derived.Test.YteipfplbcbaheaaGreatDoorIC1
import Derived.Test.YteipfplbcbaheaaGreatDoorIFW
namespace Go.Proofs.YteipfplbcbaheaaGreatDoor
open Go.RowKit
set_option maxHeartbeats 8000000
set_option maxRecDepth 100000
theorem int_num (n:Int):((n:Int):Rat).num=n∧((n:Int):Rat).den=1:=⟨by simp,by simp⟩
theorem whole_at (x:Int) (h1:-9223372036854775808≤x) (h2:x<9223372036854775808) (_w:World) :
  ∃ (r:Bool) (p:Int),(∀ W,FracAt W (.agg #[.bool r,.int .u64 p,.int .u64 0,.pointer none]) ((x:Int):Rat))∧∀ W,Calls Tryz.prog 43 #[.int .i64 x] W fun e w'=>e=.returned (.agg #[.bool r,.int .u64 p,.int .u64 0,.pointer none])∧But [] W w':=by
 refine ⟨decide (x<0),((x.natAbs:Nat):Int),fun W=>int_at (s:=decide (x<0)) (p:=x.natAbs) ?_ (by omega) (fun e=>by have:=of_decide_eq_true e;omega),fun W=>?_⟩
 ·by_cases h:x<0
  ·simp [sgn,h];omega
  ·simp [sgn,h];omega
 ·have h:=whole_any x h1 h2 W
  simpa using h
def tw2 (f:Rat):Rat:=(f-((fl f:Int):Rat))*((2:Int):Rat)
def up (f:Rat):Bool:=decide (0<cmpZ ((tw2 f).num*(((1:Int):Rat).den:Int)) (((1:Int):Rat).num*((tw2 f).den:Int))) || (decide (cmpZ ((tw2 f).num*(((1:Int):Rat).den:Int)) (((1:Int):Rat).num*((tw2 f).den:Int))=0) && decide (((fl f:Int):Rat).num.natAbs%2=1))
def nearR (f:Rat):Rat:=if up f then ((fl f:Int):Rat)+((1:Int):Rat) else ((fl f:Int):Rat)
theorem fl_len {f:Rat} {n:Nat} (h:Len f n) (hn:0<n):Len ((fl f:Int):Rat) (n+1):=by
 obtain ⟨h1,h2⟩:=int_num (fl f)
 have h3:=h.lt
 have hb:(fl f).natAbs≤f.num.natAbs+1:=by
  by_cases hd:f.den=1
  ·rw [(fl_whole f hd).1];omega
  ·rw [fl_abs f hd,sgn_abs]
   have:=Nat.div_le_self f.num.natAbs f.den
   split <;> omega
 refine len_of (m:=n+1) (n:=1) ?_ (by rw [h2,Nat.pow_one];omega) (n+1) (Nat.le_refl _) (by omega)
 rw [h1,Nat.pow_succ]
 have h4:0 < 18446744073709551616^n:=Nat.pow_pos (by omega)
 omega
theorem int_len (x:Int) (h1:-9223372036854775808≤x) (h2:x<9223372036854775808):Len ((x:Int):Rat) 1:=by
 obtain ⟨a,b⟩:=int_num x
 exact len_of (m:=1) (n:=1) (by rw [a,Nat.pow_one];omega) (by rw [b,Nat.pow_one];omega) 1 (Nat.le_refl _) (Nat.le_refl _)
theorem nearest_any (v:Value) (f:Rat) (w:World) (hf:FracAt w v f) (lf:Len f 10) :
  Calls Tryz.prog 90 #[v] w fun e w'=>∃ v',e=.returned v'∧FracAt w' v' (nearR f)∧But [] w w':=by
 obtain ⟨rb,rp,F2,C2⟩:=whole_at 2 (by omega) (by omega) w
 obtain ⟨ob,op,F1,C1⟩:=whole_at 1 (by omega) (by omega) w
 have lfl:=fl_len lf (by omega)
 have l2:=int_len 2 (by omega) (by omega)
 have l1:=int_len 1 (by omega) (by omega)
 have lD:=len_sub lf lfl 22 (by omega)
 have lT:Len (tw2 f) 23:=len_mul lD l2 23 (by omega)
 have FLR:=hide (fun W (hb:But [] w W)=>floor_any v f W (hf.but hb) (lf.mono (by omega)))
 have SUB:Hid (∀ W (u:Value),But [] w W→FracAt W u ((fl f:Int):Rat)→Calls Tryz.prog 16 #[v,u] W fun e w'=>∃ v,e=.returned v∧FracAt w' v (f-((fl f:Int):Rat))∧But [] W w'):=fun W u hb hu=>fracSub_any v u _ _ W (hf.but hb) hu (lf.mono (by omega)) (lfl.mono (by omega))
 have MUL:Hid (∀ W (u:Value),FracAt W u (f-((fl f:Int):Rat))→Calls Tryz.prog 18 #[u,.agg #[.bool rb,.int .u64 rp,.int .u64 0,.pointer none]] W fun e w'=>∃ v,e=.returned v∧FracAt w' v (tw2 f)∧But [] W w'):=fun W u hu=>fracMul_any u _ _ _ W hu (F2 W) (lD.mono (by omega)) (l2.mono (by omega))
 obtain ⟨r,hr⟩:∃ r,r=cmpZ ((tw2 f).num*(((1:Int):Rat).den:Int)) (((1:Int):Rat).num*((tw2 f).den:Int)):=⟨_,rfl⟩
 have CMP:Hid (∀ W (u:Value),FracAt W u (tw2 f)→Calls Tryz.prog 26 #[u,.agg #[.bool ob,.int .u64 op,.int .u64 0,.pointer none]] W fun e w'=>e=.returned (.int .i64 r)∧But [] W w'):=fun W u hu=>fracCmp_any u _ _ _ W hu (F1 W) (lT.mono (by omega)) (l1.mono (by omega)) r hr
 have ODD:Hid (∀ W (u:Value),FracAt W u ((fl f:Int):Rat)→Calls Tryz.prog 154 #[u] W fun e w'=>e=.returned (.bool (decide (((fl f:Int):Rat).num.natAbs%2=1)))∧But [] W w'):=fun W u hu=>fracOdd_any u _ W hu (by have:=lfl.1;omega) _ rfl
 have ADD:Hid (∀ W (u:Value),FracAt W u ((fl f:Int):Rat)→Calls Tryz.prog 14 #[u,.agg #[.bool ob,.int .u64 op,.int .u64 0,.pointer none]] W fun e w'=>∃ v,e=.returned v∧FracAt w' v (((fl f:Int):Rat)+((1:Int):Rat))∧But [] W w'):=fun W u hu=>fracAdd_any u _ _ _ W hu (F1 W) (lfl.mono (by omega)) (l1.mono (by omega))
 have hup:up f=(decide (0<r) || (decide (r=0) && decide (((fl f:Int):Rat).num.natAbs%2=1))):=by rw [hr];rfl
 have W2:=hide C2
 have W1:=hide C1
 have HUP:=hide hup
 obtain ⟨x1,y1,p1,rfl,-⟩:=hf.agg
 clear hf lf lfl l2 l1 lD lT F1 F2 C1 C2 hr hup
 generalize decide (f.num<0)=s1 at *
 generalize hod:decide (((fl f:Int):Rat).num.natAbs%2=1)=od at *
 clear hod
 obtain ⟨W,hW⟩:∃ W,W=((w.alloc (.cells #[.bool s1,.int .u64 x1,.int .u64 y1,.pointer p1] 27)).alloc (.cells #[.bool false,.int .u64 0,.int .u64 0,.pointer none] 27)):=⟨_,rfl⟩
 obtain ⟨tA,tC,fz,hB⟩:=two_new w W _ _ _ hW
 have a0:=tA 0
 have a1:=tA 1
 have a2:=tA 2
 have a3:=tA 3
 have r0:=tC 0
 have r1:=tC 1
 have r2:=tC 2
 have r3:=tC 3
 simp only [List.getElem?_toArray,List.getElem?_cons_zero,List.getElem?_cons_succ] at a0 a1 a2 a3 r0 r1 r2 r3
 have BL:Hid (Blank W (w.heap.size+1)):=⟨r0,r1,r2,r3,fun j hj=>by rw [tC j];simp;omega⟩
 clear tA tC
 have HW:=hide hW
 have HB:=hide hB
 clear hW hB
 go_enter Tryz.func90,Tryz.ntmps90
 go_wp2_with fail
 rw [← unhide HW]
 obtain ⟨ga,hga⟩:∃ ga,ga=w.heap.size:=⟨_,rfl⟩
 obtain ⟨gr,hgr⟩:∃ gr,gr=w.heap.size+1:=⟨_,rfl⟩
 rw [← hga] at a0 a1 a2 a3
 rw [← hgr] at r0 r1 r2 r3 fz BL
 rw [← hgr,← hga]
 have HGR:Hid (w.heap.size≤gr):=by show _≤_;omega
 clear hga hgr HW
 have grl:gr<W.heap.size:=lt_of_cell r0
 refine (unhide FLR _ (unhide HB)).mono ?_
 rintro e w1 ⟨vl,rfl,hvl,hb1⟩
 have HVL:=hide hvl
 obtain ⟨x2,y2,p2,rfl,-⟩:=hvl.agg
 clear hvl
 generalize decide (((fl f:Int):Rat).num<0)=s2 at *
 have KW:=hide hb1
 obtain ⟨V1,hV1⟩:∃ V1,V1=w1.alloc (.cells #[.bool s2,.int .u64 x2,.int .u64 y2,.pointer p2] 27):=⟨_,rfl⟩
 have l0:V1.cell? ⟨w1.heap.size,0,none⟩=some (.bool s2):=by rw [hV1];simp
 have l1:V1.cell? ⟨w1.heap.size,1,none⟩=some (.int .u64 x2):=by rw [hV1];simp
 have l2:V1.cell? ⟨w1.heap.size,2,none⟩=some (.int .u64 y2):=by rw [hV1];simp
 have l3:V1.cell? ⟨w1.heap.size,3,none⟩=some (.pointer p2):=by rw [hV1];simp
 have bV:But [] w1 V1:=by rw [hV1];exact (But.refl _ _).alloc _
 have KV:Hid (But [] W V1):=hb1.trans' bV
 have c0:=(unhide KV).cell_some a0 (by simp)
 have c1:=(unhide KV).cell_some a1 (by simp)
 have c2:=(unhide KV).cell_some a2 (by simp)
 have c3:=(unhide KV).cell_some a3 (by simp)
 have HVL1:=hide ((unhide HVL).but bV)
 have HBV:Hid (But [] w V1):=(unhide HB).trans' (unhide KV)
 have b0:=hb1.cell_some a0 (by simp)
 have b1:=hb1.cell_some a1 (by simp)
 have b2:=hb1.cell_some a2 (by simp)
 have b3:=hb1.cell_some a3 (by simp)
 have hga1:ga<w1.heap.size:=lt_of_cell b0
 have hsz1:W.heap.size≤w1.heap.size:=hb1.size
 clear hb1 bV KW HVL
 go_wp2_with fail
 rw [← hV1]
 clear hV1 a0 a1 a2 a3 b0 b1 b2 b3 hga1 c0 c1 c2 c3
 have hgg:gr<w1.heap.size:=Nat.lt_of_lt_of_le grl hsz1
 clear hsz1
 generalize w1.heap.size=gl at *
 refine (unhide SUB _ _ (unhide HBV) (unhide HVL1)).mono ?_
 rintro e w2 ⟨vs,rfl,hvs,hb2⟩
 have HVS:=hide hvs
 have K2:=hide hb2
 clear hvs hb2
 go_wp2_with fail
 refine (unhide W2 _).mono ?_
 rintro e w3 ⟨rfl,hb3⟩
 have HVS3:=hide ((unhide HVS).but hb3)
 have K3:Hid (But [] V1 w3):=(unhide K2).trans' hb3
 clear hb3 HVS K2
 go_wp2_with fail
 refine (unhide MUL _ vs (unhide HVS3)).mono ?_
 rintro e w4 ⟨vt,rfl,hvt,hb4⟩
 have HVT:=hide hvt
 obtain ⟨x4,y4,p4,rfl,-⟩:=hvt.agg
 generalize decide ((tw2 f).num<0)=s4 at *
 have K4:Hid (But [] V1 w4):=(unhide K3).trans' hb4
 clear hvt hb4 K3 HVS3
 obtain ⟨V4,hV4⟩:∃ V4,V4=w4.alloc (.cells #[.bool s4,.int .u64 x4,.int .u64 y4,.pointer p4] 27):=⟨_,rfl⟩
 have t0:V4.cell? ⟨w4.heap.size,0,none⟩=some (.bool s4):=by rw [hV4];simp
 have t1:V4.cell? ⟨w4.heap.size,1,none⟩=some (.int .u64 x4):=by rw [hV4];simp
 have t2:V4.cell? ⟨w4.heap.size,2,none⟩=some (.int .u64 y4):=by rw [hV4];simp
 have t3:V4.cell? ⟨w4.heap.size,3,none⟩=some (.pointer p4):=by rw [hV4];simp
 have b4:But [] w4 V4:=by rw [hV4];exact (But.refl _ _).alloc _
 have K5:Hid (But [] V1 V4):=(unhide K4).trans' b4
 have HVT4:=hide ((unhide HVT).but b4)
 have hgt:w4.heap.size<V4.heap.size:=lt_of_cell t0
 have HV4:=hide hV4
 clear b4 K4 HVT hV4
 go_wp2_with fail
 rw [← unhide HV4]
 clear HV4
 generalize w4.heap.size=gt at *
 go_region_held (fun w'=>w'.cell? ⟨gt,0,none⟩=some (.bool s4)∧w'.cell? ⟨gt,1,none⟩=some (.int .u64 x4)∧w'.cell? ⟨gt,2,none⟩=some (.int .u64 y4)∧w'.cell? ⟨gt,3,none⟩=some (.pointer p4)) (go_keep) (first
  | (go_at_call 26;have hchk:=Bc1;clear hchk;refine (unhide CMP _ _ (by first | exact unhide HVT5 | exact (unhide HVT5).but (But.refl _ _).drew)).mono ?_;rintro e wc2 ⟨rfl,hcc2⟩;have Bc2:But [] V4 wc2:=(by first | exact Bc1.trans' hcc2 | exact (Bc1.drew).trans' hcc2);clear hcc2;have t0_c2:=Bc2.cell_some t0 (by simp);have t1_c2:=Bc2.cell_some t1 (by simp);have t2_c2:=Bc2.cell_some t2 (by simp);have t3_c2:=Bc2.cell_some t3 (by simp);clear t0_c1 t1_c1 t2_c1 t3_c1)
  | (go_at_call 43;refine (unhide W1 _).mono ?_;rintro e wc1 ⟨rfl,hcc1⟩;have Bc1:But [] V4 wc1:=(by first | exact hcc1 | exact (But.refl _ _).drew.trans' hcc1);have HVT5:Hid (FracAt wc1 (.agg #[.bool s4,.int .u64 x4,.int .u64 y4,.pointer p4]) (tw2 f)):=(by first | exact (unhide HVT4).but hcc1 | exact ((unhide HVT4).but (But.refl _ _).drew).but hcc1);clear hcc1;have t0_c1:=Bc1.cell_some t0 (by simp);have t1_c1:=Bc1.cell_some t1 (by simp);have t2_c1:=Bc1.cell_some t2 (by simp);have t3_c1:=Bc1.cell_some t3 (by simp)))
 have K6:Hid (But [] V1 wc2):=(unhide K5).trans' Bc2
 have K7:Hid (But [] W wc2):=(unhide KV).trans' (unhide K6)
 have HB6:Hid (But [] w wc2):=(unhide HB).trans' (unhide K7)
 have HVL6:=hide ((unhide HVL1).but (unhide K6))
 have o0:=(unhide K6).cell_some l0 (by simp)
 have o1:=(unhide K6).cell_some l1 (by simp)
 have o2:=(unhide K6).cell_some l2 (by simp)
 have o3:=(unhide K6).cell_some l3 (by simp)
 have u0:=(unhide K7).cell_some r0 (by simp)
 have u1:=(unhide K7).cell_some r1 (by simp)
 have u2:=(unhide K7).cell_some r2 (by simp)
 have u3:=(unhide K7).cell_some r3 (by simp)
 have uf:∀ j,wc2.frozen? ⟨gr,j,none⟩=false:=fun j=>((unhide K7).frozen (p:=⟨gr,j,none⟩) grl (by simp)).trans (fz j)
 have BL6:Hid (Blank wc2 gr):=(unhide BL).but (unhide K7)
 have gl6:gr<wc2.heap.size:=lt_of_cell u0
 have ngl:gl≠gr:=by omega
 clear Bc1 Bc2 K5 K6 K7 KV HVL1 HVT4 l0 l1 l2 l3 r0 r1 r2 r3 fz grl BL t0 t1 t2 t3 hgt t0_c2 t1_c2 t2_c2 t3_c2
 by_cases rp0:0<r
 ·have d1:decide (0<r)=true:=decide_eq_true rp0
  have hn:nearR f=((fl f:Int):Rat)+((1:Int):Rat):=by unfold nearR;rw [unhide HUP];simp [show 0<r from by omega]
  have glz:gr<wc2.heap.size:=lt_of_cell u0
  go_wp2_with fail
  go_region_held (fun w'=>w'.cell? ⟨gl,0,none⟩=some (.bool s2)∧w'.cell? ⟨gl,1,none⟩=some (.int .u64 x2)∧w'.cell? ⟨gl,2,none⟩=some (.int .u64 y2)∧w'.cell? ⟨gl,3,none⟩=some (.pointer p2)) (first | (go_keep;done) | exact ⟨set4_cell _ _ _ _ _ _ _ _ _ ngl o0_z2,set4_cell _ _ _ _ _ _ _ _ _ ngl o1_z2,set4_cell _ _ _ _ _ _ _ _ _ ngl o2_z2,set4_cell _ _ _ _ _ _ _ _ _ ngl o3_z2⟩) (first
     | (go_at_call 14;have hchk:=Bz1;clear hchk;refine (unhide ADD _ _ (by first | exact unhide HVL9 | exact (unhide HVL9).but (But.refl _ _).drew)).mono ?_;rintro e wz2 ⟨vr,rfl,hvr,hcz2⟩;have Bz2:But [] wc2 wz2:=(by first | exact Bz1.trans' hcz2 | exact (Bz1.drew).trans' hcz2);have HVR:=hide hvr;obtain ⟨x8,y8,p8,rfl,-⟩:=hvr.agg;clear hvr;generalize decide ((((fl f:Int):Rat)+((1:Int):Rat)).num<0)=r8 at *;have q0:=Bz2.cell_some u0 (by simp);have q1:=Bz2.cell_some u1 (by simp);have q2:=Bz2.cell_some u2 (by simp);have q3:=Bz2.cell_some u3 (by simp);have qf:∀ j,wz2.frozen? ⟨gr,j,none⟩=false:=(fun j=>(Bz2.frozen (p:=⟨gr,j,none⟩) glz (by simp)).trans (uf j));clear hcz2;have o0_z2:=Bz2.cell_some o0 (by simp);have o1_z2:=Bz2.cell_some o1 (by simp);have o2_z2:=Bz2.cell_some o2 (by simp);have o3_z2:=Bz2.cell_some o3 (by simp);clear o0_z1 o1_z1 o2_z1 o3_z1)
     | (go_at_call 43;refine (unhide W1 _).mono ?_;rintro e wz1 ⟨rfl,hcz1⟩;have Bz1:But [] wc2 wz1:=(by first | exact hcz1 | exact (But.refl _ _).drew.trans' hcz1);have HVL9:Hid (FracAt wz1 (.agg #[.bool s2,.int .u64 x2,.int .u64 y2,.pointer p2]) ((fl f:Int):Rat)):=(by first | exact (unhide HVL6).but hcz1 | exact ((unhide HVL6).but (But.refl _ _).drew).but hcz1);clear hcz1;have o0_z1:=Bz1.cell_some o0 (by simp);have o1_z1:=Bz1.cell_some o1 (by simp);have o2_z1:=Bz1.cell_some o2 (by simp);have o3_z1:=Bz1.cell_some o3 (by simp)))
  have HBd:Hid (But [] w wz2):=(unhide HB6).trans' Bz2
  have BLd:Hid (Blank wz2 gr):=(unhide BL6).but Bz2
  clear Bz2
  go_wp2
  have hBg:But [gr] wz2 ((((wz2.setCell ⟨gr,0,none⟩ (.bool r8)).setCell ⟨gr,1,none⟩ (.int .u64 x8)).setCell ⟨gr,2,none⟩ (.int .u64 y8)).setCell ⟨gr,3,none⟩ (.pointer p8)):=(((((But.refl [gr] wz2).setCell (.inl (by simp)) _).setCell (.inl (by simp)) _).setCell (.inl (by simp)) _).setCell (.inl (by simp)) _)
  have hBf:=((((unhide HBd).setCell (p:=⟨gr,0,none⟩) (.inr (unhide HGR)) (.bool r8)).setCell (p:=⟨gr,1,none⟩) (.inr (unhide HGR)) (.int .u64 x8)).setCell (p:=⟨gr,2,none⟩) (.inr (unhide HGR)) (.int .u64 y8)).setCell (p:=⟨gr,3,none⟩) (.inr (unhide HGR)) (.pointer p8)
  exact bodyPost_ret (v:=.agg #[.bool r8,.int .u64 x8,.int .u64 y8,.pointer p8]) (by simp [results,Tryz.results90,go_sem,q0,q1,q2,q3]) rfl ⟨_,rfl,(by first | exact (unhide BLd).frac (unhide HVR) hBg | (rw [hn];exact (unhide BLd).frac (unhide HVR) hBg)),hBf⟩
 ·have d1:decide (0<r)=false:=decide_eq_false rp0
  by_cases rz:r=0
  ·have d2:(r==0)=true:=beq_iff_eq.2 rz
   go_wp2_with fail
   refine (unhide ODD _ _ (unhide HVL6)).mono ?_
   rintro e w7 ⟨rfl,hb7⟩
   have HB7:Hid (But [] w w7):=(unhide HB6).trans' hb7
   have HVL7:=hide ((unhide HVL6).but hb7)
   have BL7:Hid (Blank w7 gr):=(unhide BL6).but hb7
   have m0:=hb7.cell_some o0 (by simp)
   have m1:=hb7.cell_some o1 (by simp)
   have m2:=hb7.cell_some o2 (by simp)
   have m3:=hb7.cell_some o3 (by simp)
   have z0:=hb7.cell_some u0 (by simp)
   have z1:=hb7.cell_some u1 (by simp)
   have z2:=hb7.cell_some u2 (by simp)
   have z3:=hb7.cell_some u3 (by simp)
   have zf:∀ j,w7.frozen? ⟨gr,j,none⟩=false:=fun j=>(hb7.frozen (p:=⟨gr,j,none⟩) gl6 (by simp)).trans (uf j)
   clear hb7 o0 o1 o2 o3 u0 u1 u2 u3 uf gl6 BL6 HVL6
   cases od
   ·have hn:nearR f=((fl f:Int):Rat):=by unfold nearR;rw [unhide HUP];simp [show ¬ 0<r from by omega]
    go_wp2
    have hBg:But [gr] w7 ((((w7.setCell ⟨gr,0,none⟩ (.bool s2)).setCell ⟨gr,1,none⟩ (.int .u64 x2)).setCell ⟨gr,2,none⟩ (.int .u64 y2)).setCell ⟨gr,3,none⟩ (.pointer p2)):=(((((But.refl [gr] w7).setCell (.inl (by simp)) _).setCell (.inl (by simp)) _).setCell (.inl (by simp)) _).setCell (.inl (by simp)) _)
    have hBf:=((((unhide HB7).setCell (p:=⟨gr,0,none⟩) (.inr (unhide HGR)) (.bool s2)).setCell (p:=⟨gr,1,none⟩) (.inr (unhide HGR)) (.int .u64 x2)).setCell (p:=⟨gr,2,none⟩) (.inr (unhide HGR)) (.int .u64 y2)).setCell (p:=⟨gr,3,none⟩) (.inr (unhide HGR)) (.pointer p2)
    exact bodyPost_ret (v:=.agg #[.bool s2,.int .u64 x2,.int .u64 y2,.pointer p2]) (by simp [results,Tryz.results90,go_sem,z0,z1,z2,z3]) rfl ⟨_,rfl,(by first | exact (unhide BL7).frac (unhide HVL7) hBg | (rw [hn];exact (unhide BL7).frac (unhide HVL7) hBg)),hBf⟩
   ·have hn:nearR f=((fl f:Int):Rat)+((1:Int):Rat):=by unfold nearR;rw [unhide HUP];simp [show r=0 from by omega]
    have glz:gr<w7.heap.size:=lt_of_cell z0
    go_wp2_with fail
    go_region_held (fun w'=>w'.cell? ⟨gl,0,none⟩=some (.bool s2)∧w'.cell? ⟨gl,1,none⟩=some (.int .u64 x2)∧w'.cell? ⟨gl,2,none⟩=some (.int .u64 y2)∧w'.cell? ⟨gl,3,none⟩=some (.pointer p2)) (first | (go_keep;done) | exact ⟨set4_cell _ _ _ _ _ _ _ _ _ ngl m0_z2,set4_cell _ _ _ _ _ _ _ _ _ ngl m1_z2,set4_cell _ _ _ _ _ _ _ _ _ ngl m2_z2,set4_cell _ _ _ _ _ _ _ _ _ ngl m3_z2⟩) (first
         | (go_at_call 14;have hchk:=Bz1;clear hchk;refine (unhide ADD _ _ (by first | exact unhide HVL9 | exact (unhide HVL9).but (But.refl _ _).drew)).mono ?_;rintro e wz2 ⟨vr,rfl,hvr,hcz2⟩;have Bz2:But [] w7 wz2:=(by first | exact Bz1.trans' hcz2 | exact (Bz1.drew).trans' hcz2);have HVR:=hide hvr;obtain ⟨x8,y8,p8,rfl,-⟩:=hvr.agg;clear hvr;generalize decide ((((fl f:Int):Rat)+((1:Int):Rat)).num<0)=r8 at *;have q0:=Bz2.cell_some z0 (by simp);have q1:=Bz2.cell_some z1 (by simp);have q2:=Bz2.cell_some z2 (by simp);have q3:=Bz2.cell_some z3 (by simp);have qf:∀ j,wz2.frozen? ⟨gr,j,none⟩=false:=(fun j=>(Bz2.frozen (p:=⟨gr,j,none⟩) glz (by simp)).trans (zf j));clear hcz2;have m0_z2:=Bz2.cell_some m0 (by simp);have m1_z2:=Bz2.cell_some m1 (by simp);have m2_z2:=Bz2.cell_some m2 (by simp);have m3_z2:=Bz2.cell_some m3 (by simp);clear m0_z1 m1_z1 m2_z1 m3_z1)
         | (go_at_call 43;refine (unhide W1 _).mono ?_;rintro e wz1 ⟨rfl,hcz1⟩;have Bz1:But [] w7 wz1:=(by first | exact hcz1 | exact (But.refl _ _).drew.trans' hcz1);have HVL9:Hid (FracAt wz1 (.agg #[.bool s2,.int .u64 x2,.int .u64 y2,.pointer p2]) ((fl f:Int):Rat)):=(by first | exact (unhide HVL7).but hcz1 | exact ((unhide HVL7).but (But.refl _ _).drew).but hcz1);clear hcz1;have m0_z1:=Bz1.cell_some m0 (by simp);have m1_z1:=Bz1.cell_some m1 (by simp);have m2_z1:=Bz1.cell_some m2 (by simp);have m3_z1:=Bz1.cell_some m3 (by simp)))
    have HBd:Hid (But [] w wz2):=(unhide HB7).trans' Bz2
    have BLd:Hid (Blank wz2 gr):=(unhide BL7).but Bz2
    clear Bz2
    go_wp2
    have hBg:But [gr] wz2 ((((wz2.setCell ⟨gr,0,none⟩ (.bool r8)).setCell ⟨gr,1,none⟩ (.int .u64 x8)).setCell ⟨gr,2,none⟩ (.int .u64 y8)).setCell ⟨gr,3,none⟩ (.pointer p8)):=(((((But.refl [gr] wz2).setCell (.inl (by simp)) _).setCell (.inl (by simp)) _).setCell (.inl (by simp)) _).setCell (.inl (by simp)) _)
    have hBf:=((((unhide HBd).setCell (p:=⟨gr,0,none⟩) (.inr (unhide HGR)) (.bool r8)).setCell (p:=⟨gr,1,none⟩) (.inr (unhide HGR)) (.int .u64 x8)).setCell (p:=⟨gr,2,none⟩) (.inr (unhide HGR)) (.int .u64 y8)).setCell (p:=⟨gr,3,none⟩) (.inr (unhide HGR)) (.pointer p8)
    exact bodyPost_ret (v:=.agg #[.bool r8,.int .u64 x8,.int .u64 y8,.pointer p8]) (by simp [results,Tryz.results90,go_sem,q0,q1,q2,q3]) rfl ⟨_,rfl,(by first | exact (unhide BLd).frac (unhide HVR) hBg | (rw [hn];exact (unhide BLd).frac (unhide HVR) hBg)),hBf⟩
  ·have d2:(r==0)=false:=beq_eq_false_iff_ne.2 rz
   have hn:nearR f=((fl f:Int):Rat):=by unfold nearR;rw [unhide HUP];simp [show ¬ 0<r from by omega,show ¬ r=0 from by omega]
   go_wp2
   have hBg:But [gr] wc2 ((((wc2.setCell ⟨gr,0,none⟩ (.bool s2)).setCell ⟨gr,1,none⟩ (.int .u64 x2)).setCell ⟨gr,2,none⟩ (.int .u64 y2)).setCell ⟨gr,3,none⟩ (.pointer p2)):=(((((But.refl [gr] wc2).setCell (.inl (by simp)) _).setCell (.inl (by simp)) _).setCell (.inl (by simp)) _).setCell (.inl (by simp)) _)
   have hBf:=((((unhide HB6).setCell (p:=⟨gr,0,none⟩) (.inr (unhide HGR)) (.bool s2)).setCell (p:=⟨gr,1,none⟩) (.inr (unhide HGR)) (.int .u64 x2)).setCell (p:=⟨gr,2,none⟩) (.inr (unhide HGR)) (.int .u64 y2)).setCell (p:=⟨gr,3,none⟩) (.inr (unhide HGR)) (.pointer p2)
   exact bodyPost_ret (v:=.agg #[.bool s2,.int .u64 x2,.int .u64 y2,.pointer p2]) (by simp [results,Tryz.results90,go_sem,u0,u1,u2,u3]) rfl ⟨_,rfl,(by first | exact (unhide BL6).frac (unhide HVL6) hBg | (rw [hn];exact (unhide BL6).frac (unhide HVL6) hBg)),hBf⟩
end Go.Proofs.YteipfplbcbaheaaGreatDoor

namespace Go.Proofs
open Go.Shelf Go.RowKit
def Tryz.lays105_ren : Go.Shelf.Ren := ⟨fun | 99 => 164 | 105 => 97 | 165 => 165 | 166 => 166 | 169 => 168 | 170 => 167 | 206 => 206 | 212 => 163 | 240 => 207 | 241 => 208 | 263 => 205 | 264 => 128 | 276 => 225 | 277 => 226 | n => n, fun | 0 => 0 | 3 => 3 | 4 => 4 | 5 => 5 | 9 => 9 | 20 => 20 | 37 => 158 | 46 => 120 | 51 => 182 | 53 => 24 | 70 => 203 | 72 => 205 | 75 => 32 | 80 => 37 | 76 => 207 | 109 => 200 | 127 => 248 | 146 => 246 | 148 => 162 | 164 => 188 | n => n, fun | n => n⟩
theorem Tryz.lays105 : Go.Proofs.Lays.n105 Tryz.prog Tryz.lays105_ren := {
  mixed := by kernel_rfl
  f99 := Tryz.func164.trans (congrArg some (by kernel_rfl))
  f105 := Tryz.func97.trans (congrArg some (by kernel_rfl))
  f165 := Tryz.func165.trans (congrArg some (by kernel_rfl))
  f166 := Tryz.func166.trans (congrArg some (by kernel_rfl))
  f169 := Tryz.func168.trans (congrArg some (by kernel_rfl))
  f170 := Tryz.func167.trans (congrArg some (by kernel_rfl))
  f206 := Tryz.func206.trans (congrArg some (by kernel_rfl))
  f212 := Tryz.func163.trans (congrArg some (by kernel_rfl))
  f240 := Tryz.func207.trans (congrArg some (by kernel_rfl))
  f241 := Tryz.func208.trans (congrArg some (by kernel_rfl))
  f263 := Tryz.func205.trans (congrArg some (by kernel_rfl))
  f264 := Tryz.func128.trans (congrArg some (by kernel_rfl))
  f276 := Tryz.func225.trans (congrArg some (by kernel_rfl))
  f277 := Tryz.func226.trans (congrArg some (by kernel_rfl))
  t0 := Tryz.underlying0
  a0 := Tryz.isAgg0
  z0 := Tryz.sizeOf0
  v0 := Tryz.zeroValue0
  t3 := Tryz.underlying3
  a3 := Tryz.isAgg3
  z3 := Tryz.sizeOf3
  v3 := Tryz.zeroValue3
  t4 := Tryz.underlying4
  a4 := Tryz.isAgg4
  z4 := Tryz.sizeOf4
  v4 := Tryz.zeroValue4
  t5 := Tryz.underlying5
  a5 := Tryz.isAgg5
  z5 := Tryz.sizeOf5
  v5 := Tryz.zeroValue5
  t9 := Tryz.underlying9
  a9 := Tryz.isAgg9
  z9 := Tryz.sizeOf9
  v9 := Tryz.zeroValue9
  t20 := Tryz.underlying20
  a20 := Tryz.isAgg20
  z20 := Tryz.sizeOf20
  v20 := Tryz.zeroValue20
  t37 := Tryz.underlying158
  a37 := Tryz.isAgg158
  z37 := Tryz.sizeOf158
  v37 := Tryz.zeroValue158
  t46 := Tryz.underlying120
  a46 := Tryz.isAgg120
  z46 := Tryz.sizeOf120
  v46 := Tryz.zeroValue120
  t51 := Tryz.underlying182
  a51 := Tryz.isAgg182
  z51 := Tryz.sizeOf182
  v51 := Tryz.zeroValue182
  t53 := Tryz.underlying24
  a53 := Tryz.isAgg24
  z53 := Tryz.sizeOf24
  v53 := Tryz.zeroValue24
  t70 := Tryz.underlying203
  a70 := Tryz.isAgg203
  z70 := Tryz.sizeOf203
  v70 := Tryz.zeroValue203
  t72 := Tryz.underlying205
  a72 := Tryz.isAgg205
  z72 := Tryz.sizeOf205
  v72 := Tryz.zeroValue205
  t75 := Tryz.underlying32
  a75 := Tryz.isAgg32
  z75 := Tryz.sizeOf32
  v75 := Tryz.zeroValue32
  t76 := Tryz.underlying207
  a76 := Tryz.isAgg207
  z76 := Tryz.sizeOf207
  v76 := Tryz.zeroValue207
  t109 := Tryz.underlying200
  a109 := Tryz.isAgg200
  z109 := Tryz.sizeOf200
  v109 := Tryz.zeroValue200
  t127 := Tryz.underlying248
  a127 := Tryz.isAgg248
  z127 := Tryz.sizeOf248
  v127 := Tryz.zeroValue248
  t146 := Tryz.underlying246
  a146 := Tryz.isAgg246
  z146 := Tryz.sizeOf246
  v146 := Tryz.zeroValue246
  t148 := Tryz.underlying162
  a148 := Tryz.isAgg162
  z148 := Tryz.sizeOf162
  v148 := Tryz.zeroValue162
  t164 := Tryz.underlying188
  a164 := Tryz.isAgg188
  z164 := Tryz.sizeOf188
  v164 := Tryz.zeroValue188 }
theorem Tryz.repeatExtra:Builder.Extra Tryz.prog Tryz.lays105_ren where
 sizeBuilder:=by kernel_rfl
 liesBuilder:=by kernel_rfl
 t5:=Tryz.lays105.t5
 a5:=Tryz.lays105.a5
 z5:=Tryz.lays105.z5
 v5:=Tryz.lays105.v5
 infoByte:=by kernel_rfl
 cellsByte:=by kernel_rfl
 sizeByte:=by kernel_rfl
 neB5:=by decide
theorem Tryz.strings_Repeat (s:ByteArray) (c:Nat) (w:World) (hc:c≤9223372036854775807) (hlen:s.size*c≤140737488355328) :
  Calls Tryz.prog 97 #[.string s,.int .i64 c] w fun e w'=>e=.returned (.string ⟨(Lib.repeatL s.data.toList c).toArray⟩)∧Below w.heap.size w w':=Any.strings_Repeat Tryz.lays105 Tryz.repeatExtra s c w hc hlen
end Go.Proofs

namespace Go.Proofs
open Go.Shelf
def Tryz.lays99_ren : Go.Shelf.Ren := ⟨fun | 99 => 164 | 206 => 206 | n => n, fun | 3 => 3 | 4 => 4 | 9 => 9 | n => n, fun | n => n⟩
theorem Tryz.lays99 : Go.Proofs.Lays.n99 Tryz.prog Tryz.lays99_ren := {
  mixed := by kernel_rfl
  f99 := Tryz.func164.trans (congrArg some (by kernel_rfl))
  f206 := Tryz.func206.trans (congrArg some (by kernel_rfl))
  t3 := Tryz.underlying3
  a3 := Tryz.isAgg3
  z3 := Tryz.sizeOf3
  v3 := Tryz.zeroValue3
  t4 := Tryz.underlying4
  a4 := Tryz.isAgg4
  z4 := Tryz.sizeOf4
  v4 := Tryz.zeroValue4
  t9 := Tryz.underlying9
  a9 := Tryz.isAgg9
  z9 := Tryz.sizeOf9
  v9 := Tryz.zeroValue9 }
theorem Tryz.strings_HasPrefix (s p:ByteArray) (w:World) :
  Calls Tryz.prog 164 #[.string s,.string p] w fun e w'=>e=.returned (.bool (Lib.hasPrefix s.data.toList p.data.toList))∧w'=w:=Any.strings_HasPrefix Tryz.lays99 s p w
end Go.Proofs

namespace Go.Proofs.YteipfplbcbaheaaGreatDoor
open Go.RowKit
theorem ba_list (a b:ByteArray):(a++b).data.toList=a.data.toList++b.data.toList:=by simp
end Go.Proofs.YteipfplbcbaheaaGreatDoor

namespace Go.Proofs.YteipfplbcbaheaaGreatDoor
open Go.RowKit
theorem size_list {t:ByteArray} {ds:List UInt8} (h:t.data.toList=ds):t.size=ds.length:=by rw [← h];simp
def sg (s:Bool):List UInt8:=if s then [45] else []
end Go.Proofs.YteipfplbcbaheaaGreatDoor

namespace Go.Proofs.YteipfplbcbaheaaGreatDoor
open Go.RowKit
def dpad (n k:Nat):List UInt8:=List.replicate (k+1-(Lib.decDigits n).length) 48++Lib.decDigits n
theorem rep_one (m:Nat):Lib.repeatL [48] m=List.replicate m 48:=by
 induction m with
 | zero=>rfl
 | succ m ih=>rw [Lib.repeatL,ih,List.replicate_succ];rfl
theorem dpad_long (n k:Nat) (h:k<(Lib.decDigits n).length):dpad n k=Lib.decDigits n:=by
 unfold dpad
 rw [show k+1-(Lib.decDigits n).length=0 from by omega]
 rfl
theorem dec_upto (n m:Nat) (hm:0<m) (h:n<10^m):(Lib.decDigits n).length≤m:=by
 rcases Nat.eq_zero_or_pos n with rfl | h0
 ·rw [Lib.decDigits_length,Lib.nDigits_small (by omega)];omega
 ·rw [← rdig_rev n h0,List.length_reverse];exact rdig_length n m h
theorem extract_take (t:ByteArray) (j:Nat) (_h:j≤t.size):(t.extract 0 j).data.toList=t.data.toList.take j:=by
 rw [ByteArray.data_extract,Array.toList_extract,List.extract_eq_take_drop,List.drop_zero,Nat.sub_zero]
theorem below_pow (n a b:Nat) (h:n<10^a) (hab:a≤b):n<10^b:=Nat.lt_of_lt_of_le h (Nat.pow_le_pow_right (by omega) hab)
def DecTxt (n k:Nat) (s:Bool) (t:ByteArray):Prop:=t.data.toList=sg s++(dpad n k).take ((dpad n k).length-k)++(if k=0 then [] else 46::(dpad n k).drop ((dpad n k).length-k))
theorem dec_point (n k q e:Nat) (s:Bool) (dd:ByteArray) (hd:dd.data.toList=dpad n k) (hs:dd.size=q+k) (he:e=q+k) (hk:0<k) (t:ByteArray) (ht:t=(if s then ⟨#[45]⟩++(dd.extract 0 q++(⟨#[46]⟩++dd.extract q e)) else dd.extract 0 q++(⟨#[46]⟩++dd.extract q e))):DecTxt n k s t:=by
 have hl:(dpad n k).length-k=q:=by rw [← size_list hd,hs];omega
 have h1:=extract_take dd q (by omega)
 have h2:=extract_drop dd q
 rw [hs,← he] at h2
 rw [hd] at h1 h2
 unfold DecTxt
 rw [hl,if_neg (by omega),ht]
 cases s
 ·simp only [Bool.false_eq_true,if_false,sg,ba_list,h1,h2,List.nil_append]
  rfl
 ·simp only [if_true,sg,ba_list,h1,h2,List.append_assoc]
  rfl
theorem dec_plain (n q:Nat) (s:Bool) (dd:ByteArray) (hd:dd.data.toList=dpad n 0) (hs:dd.size=q) (t:ByteArray) (ht:t=(if s then ⟨#[45]⟩++dd.extract 0 q else dd.extract 0 q)):DecTxt n 0 s t:=by
 have hl:(dpad n 0).length-0=q:=by rw [← size_list hd,hs];omega
 have h1:=extract_take dd q (by omega)
 rw [hd] at h1
 unfold DecTxt
 rw [hl,if_pos rfl,ht,List.append_nil]
 cases s
 ·simp only [Bool.false_eq_true,if_false,sg,h1,List.nil_append]
 ·simp only [if_true,sg,ba_list,h1]
end Go.Proofs.YteipfplbcbaheaaGreatDoor
