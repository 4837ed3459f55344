/- The nearest whole number to a fraction,  -/
import Derived.Deep.DeepCutAuto
import Derived.Test.YtcgecpoedojhjaaGreatDoorKPF8
import Derived.Test.YtcgecpoedojhjaaGreatDoorKPQ2
import Derived.Test.YtcgecpoedojhjaaGreatDoorKPRL
namespace Go.Proofs.YtcgecpoedojhjaaGreatDoor
open Go.Proofs.Tryz
open Go.RowKit
set_option maxHeartbeats 16000000
set_option maxRecDepth 100000
theorem zxm (n:Int):((n:Int):Rat).num=n∧((n:Int):Rat).den=1:=⟨by simp,by simp⟩
theorem zrq (x:Int) (h1:-9223372036854775808≤x) (h2:x<9223372036854775808) (_w:World) :
  ∃ (r:Bool) (p:Int),(∀ W,zi W (.agg #[.bool r,.int .u64 p,.int .u64 0,.pointer none]) ((x:Int):Rat))∧∀ W,Calls prog 58 #[.int .i64 x] W fun e w'=>e=.returned (.agg #[.bool r,.int .u64 p,.int .u64 0,.pointer none])∧But [] W w':=by
 refine⟨decide (x<0),((x.natAbs:Nat):Int),fun W=>qfs (s:=decide (x<0)) (p:=x.natAbs) ?_ (by omega) (fun e=>by have:=of_decide_eq_true e;omega),fun W=>?_⟩
 ·by_cases h:x<0
  ·simp[sgn,h];omega
  ·simp[sgn,h];omega
 ·have h:=zom x h1 h2 W
  simpa using h
def tw2 (f:Rat):Rat:=(f-((fl f:Int):Rat))*((2:Int):Rat)
def up (f:Rat):Bool:=decide (0<zbn ((tw2 f).num*(((1:Int):Rat).den:Int)) (((1:Int):Rat).num*((tw2 f).den:Int))) || (decide (zbn ((tw2 f).num*(((1:Int):Rat).den:Int)) (((1:Int):Rat).num*((tw2 f).den:Int))=0) && decide (((fl f:Int):Rat).num.natAbs%2=1))
def ul (f:Rat):Rat:=if up f then ((fl f:Int):Rat)+((1:Int):Rat) else ((fl f:Int):Rat)
theorem qfz {f:Rat} {n:Nat} (h:Len f n) (hn:0<n):Len ((fl f:Int):Rat) (n+1):=by
 obtain⟨h1,h2⟩:=zxm (fl f)
 have h3:=h.lt
 have hb:(fl f).natAbs≤f.num.natAbs+1:=by
  by_cases hd:f.den=1
  ·rw[(zmo f hd).1];omega
  ·rw[zwg f hd,jg]
   have:=Nat.div_le_self f.num.natAbs f.den
   split <;> omega
 refine mi (m:=n+1) (n:=1) ?_ (by rw[h2,Nat.pow_one];omega) (n+1) (Nat.le_refl _) (by omega)
 rw[h1,Nat.pow_succ]
 have h4:0 < 18446744073709551616^n:=Nat.pow_pos (by omega)
 omega
theorem zqt (x:Int) (h1:-9223372036854775808≤x) (h2:x<9223372036854775808):Len ((x:Int):Rat) 1:=by
 obtain⟨a,b⟩:=zxm x
 exact mi (m:=1) (n:=1) (by rw[a,Nat.pow_one];omega) (by rw[b,Nat.pow_one];omega) 1 (Nat.le_refl _) (Nat.le_refl _)
theorem zsz (v:Value) (f:Rat) (w:World) (hf:zi w v f) (lf:Len f 10) :
  Calls prog 95 #[v] w fun e w'=>∃ v',e=.returned v'∧zi w' v' (ul f)∧But [] w w':=by
 obtain⟨rb,rp,F2,C2⟩:=zrq 2 (by omega) (by omega) w
 obtain⟨ob,op,F1,C1⟩:=zrq 1 (by omega) (by omega) w
 have lfl:=qfz lf (by omega)
 have l2:=zqt 2 (by omega) (by omega)
 have l1:=zqt 1 (by omega) (by omega)
 have lD:=qip lf lfl 22 (by omega)
 have lT:Len (tw2 f) 23:=zjo lD l2 23 (by omega)
 have FLR:=hide (fun W (hb:But [] w W)=>zpc v f W (hf.but hb) (lf.mono (by omega)))
 have SUB:Hid (∀ W (u:Value),But [] w W→zi W u ((fl f:Int):Rat)→Calls prog 126 #[v,u] W fun e w'=>∃ v,e=.returned v∧zi w' v (f-((fl f:Int):Rat))∧But [] W w'):=fun W u hb hu=>zto v u _ _ W (hf.but hb) hu (lf.mono (by omega)) (lfl.mono (by omega))
 have MUL:Hid (∀ W (u:Value),zi W u (f-((fl f:Int):Rat))→Calls prog 57 #[u,.agg #[.bool rb,.int .u64 rp,.int .u64 0,.pointer none]] W fun e w'=>∃ v,e=.returned v∧zi w' v (tw2 f)∧But [] W w'):=fun W u hu=>uq u _ _ _ W hu (F2 W) (lD.mono (by omega)) (l2.mono (by omega))
 obtain⟨r,hr⟩:∃ r,r=zbn ((tw2 f).num*(((1:Int):Rat).den:Int)) (((1:Int):Rat).num*((tw2 f).den:Int)):=⟨_,rfl⟩
 have CMP:Hid (∀ W (u:Value),zi W u (tw2 f)→Calls prog 20 #[u,.agg #[.bool ob,.int .u64 op,.int .u64 0,.pointer none]] W fun e w'=>e=.returned (.int .i64 r)∧But [] W w'):=fun W u hu=>zdw u _ _ _ W hu (F1 W) (lT.mono (by omega)) (l1.mono (by omega)) r hr
 have ODD:Hid (∀ W (u:Value),zi W u ((fl f:Int):Rat)→Calls prog 127 #[u] W fun e w'=>e=.returned (.bool (decide (((fl f:Int):Rat).num.natAbs%2=1)))∧But [] W w'):=fun W u hu=>ztp u _ W hu (by have:=lfl.1;omega) _ rfl
 have ADD:Hid (∀ W (u:Value),zi W u ((fl f:Int):Rat)→Calls prog 128 #[u,.agg #[.bool ob,.int .u64 op,.int .u64 0,.pointer none]] W fun e w'=>∃ v,e=.returned v∧zi w' v (((fl f:Int):Rat)+((1:Int):Rat))∧But [] W w'):=fun W u hu=>ztr u _ _ _ W hu (F1 W) (lfl.mono (by omega)) (l1.mono (by omega))
 have hup:up f=(decide (0<r) || (decide (r=0) && decide (((fl f:Int):Rat).num.natAbs%2=1))):=by rw[hr];rfl
 have W2:=hide C2
 have W1:=hide C1
 have HUP:=hide hup
 obtain⟨x1,y1,p1,rfl,-⟩:=hf.agg
 clear hf lf lfl l2 l1 lD lT F1 F2 C1 C2 hr hup
 generalize decide (f.num<0)=s1 at *
 generalize hod:decide (((fl f:Int):Rat).num.natAbs%2=1)=od at *
 clear hod
 obtain⟨W,hW⟩:∃ W,W=((w.alloc (.cells #[.bool s1,.int .u64 x1,.int .u64 y1,.pointer p1] 35)).alloc (.cells #[.bool false,.int .u64 0,.int .u64 0,.pointer none] 35)):=⟨_,rfl⟩
 obtain⟨tA,tC,fz,hB⟩:=gy w W _ _ _ hW
 have a0:=tA 0
 have a1:=tA 1
 have a2:=tA 2
 have a3:=tA 3
 have r0:=tC 0
 have r1:=tC 1
 have r2:=tC 2
 have r3:=tC 3
 simp only[List.getElem?_toArray,List.getElem?_cons_zero,List.getElem?_cons_succ] at a0 a1 a2 a3 r0 r1 r2 r3
 have BL:Hid (Blank W (w.heap.size+1)):=⟨r0,r1,r2,r3,fun j hj=>by rw[tC j];simp;omega⟩
 clear tA tC
 have HW:=hide hW
 have HB:=hide hB
 clear hW hB
 go_enter func95,ntmps95
 go_wp2_with fail
 rw[← za HW]
 obtain⟨ga,hga⟩:∃ ga,ga=w.heap.size:=⟨_,rfl⟩
 obtain⟨gr,hgr⟩:∃ gr,gr=w.heap.size+1:=⟨_,rfl⟩
 rw[← hga] at a0 a1 a2 a3
 rw[← hgr] at r0 r1 r2 r3 fz BL
 rw[← hgr,← hga]
 have HGR:Hid (w.heap.size≤gr):=by show _≤_;omega
 clear hga hgr HW
 have grl:gr<W.heap.size:=lt_of_cell r0
 refine (za FLR _ (za HB)).mono ?_
 rintro e w1 ⟨vl,rfl,hvl,hb1⟩
 have HVL:=hide hvl
 obtain⟨x2,y2,p2,rfl,-⟩:=hvl.agg
 clear hvl
 generalize decide (((fl f:Int):Rat).num<0)=s2 at *
 have KW:=hide hb1
 obtain⟨V1,hV1⟩:∃ V1,V1=w1.alloc (.cells #[.bool s2,.int .u64 x2,.int .u64 y2,.pointer p2] 35):=⟨_,rfl⟩
 have l0:V1.cell? ⟨w1.heap.size,0,none⟩=some (.bool s2):=by rw[hV1];simp
 have l1:V1.cell? ⟨w1.heap.size,1,none⟩=some (.int .u64 x2):=by rw[hV1];simp
 have l2:V1.cell? ⟨w1.heap.size,2,none⟩=some (.int .u64 y2):=by rw[hV1];simp
 have l3:V1.cell? ⟨w1.heap.size,3,none⟩=some (.pointer p2):=by rw[hV1];simp
 have bV:But [] w1 V1:=by rw[hV1];exact (But.refl _ _).alloc _
 have KV:Hid (But [] W V1):=hb1.trans' bV
 have c0:=(za KV).zb a0 (by simp)
 have c1:=(za KV).zb a1 (by simp)
 have c2:=(za KV).zb a2 (by simp)
 have c3:=(za KV).zb a3 (by simp)
 have HVL1:=hide ((za HVL).but bV)
 have HBV:Hid (But [] w V1):=(za HB).trans' (za KV)
 have b0:=hb1.zb a0 (by simp)
 have b1:=hb1.zb a1 (by simp)
 have b2:=hb1.zb a2 (by simp)
 have b3:=hb1.zb a3 (by simp)
 have hga1:ga<w1.heap.size:=lt_of_cell b0
 have hsz1:W.heap.size≤w1.heap.size:=hb1.size
 clear hb1 bV KW HVL
 go_wp2_with fail
 rw[← hV1]
 clear hV1 a0 a1 a2 a3 b0 b1 b2 b3 hga1 c0 c1 c2 c3
 have hgg:gr<w1.heap.size:=Nat.lt_of_lt_of_le grl hsz1
 clear hsz1
 generalize w1.heap.size=gl at *
 refine (za SUB _ _ (za HBV) (za HVL1)).mono ?_
 rintro e w2 ⟨vs,rfl,hvs,hb2⟩
 have HVS:=hide hvs
 have K2:=hide hb2
 clear hvs hb2
 go_wp2_with fail
 refine (za W2 _).mono ?_
 rintro e w3 ⟨rfl,hb3⟩
 have HVS3:=hide ((za HVS).but hb3)
 have K3:Hid (But [] V1 w3):=(za K2).trans' hb3
 clear hb3 HVS K2
 go_wp2_with fail
 refine (za MUL _ vs (za HVS3)).mono ?_
 rintro e w4 ⟨vt,rfl,hvt,hb4⟩
 have HVT:=hide hvt
 obtain⟨x4,y4,p4,rfl,-⟩:=hvt.agg
 generalize decide ((tw2 f).num<0)=s4 at *
 have K4:Hid (But [] V1 w4):=(za K3).trans' hb4
 clear hvt hb4 K3 HVS3
 obtain⟨V4,hV4⟩:∃ V4,V4=w4.alloc (.cells #[.bool s4,.int .u64 x4,.int .u64 y4,.pointer p4] 35):=⟨_,rfl⟩
 have t0:V4.cell? ⟨w4.heap.size,0,none⟩=some (.bool s4):=by rw[hV4];simp
 have t1:V4.cell? ⟨w4.heap.size,1,none⟩=some (.int .u64 x4):=by rw[hV4];simp
 have t2:V4.cell? ⟨w4.heap.size,2,none⟩=some (.int .u64 y4):=by rw[hV4];simp
 have t3:V4.cell? ⟨w4.heap.size,3,none⟩=some (.pointer p4):=by rw[hV4];simp
 have b4:But [] w4 V4:=by rw[hV4];exact (But.refl _ _).alloc _
 have K5:Hid (But [] V1 V4):=(za K4).trans' b4
 have HVT4:=hide ((za HVT).but b4)
 have hgt:w4.heap.size<V4.heap.size:=lt_of_cell t0
 have HV4:=hide hV4
 clear b4 K4 HVT hV4
 go_wp2_with fail
 rw[← za HV4]
 clear HV4
 generalize w4.heap.size=gt at *
 go_region_held (fun w'=>w'.cell? ⟨gt,0,none⟩=some (.bool s4)∧w'.cell? ⟨gt,1,none⟩=some (.int .u64 x4)∧w'.cell? ⟨gt,2,none⟩=some (.int .u64 y4)∧w'.cell? ⟨gt,3,none⟩=some (.pointer p4)) (go_keep) (first
  | (go_at_call 20;have hchk:=Bc1;clear hchk;refine (za CMP _ _ (by first | exact za HVT5 | exact (za HVT5).but (But.refl _ _).drew)).mono ?_;rintro e wc2 ⟨rfl,hcc2⟩;have Bc2:But [] V4 wc2:=(by first | exact Bc1.trans' hcc2 | exact (Bc1.drew).trans' hcc2);clear hcc2;have t0_c2:=Bc2.zb t0 (by simp);have t1_c2:=Bc2.zb t1 (by simp);have t2_c2:=Bc2.zb t2 (by simp);have t3_c2:=Bc2.zb t3 (by simp);clear t0_c1 t1_c1 t2_c1 t3_c1)
  | (go_at_call 58;refine (za W1 _).mono ?_;rintro e wc1 ⟨rfl,hcc1⟩;have Bc1:But [] V4 wc1:=(by first | exact hcc1 | exact (But.refl _ _).drew.trans' hcc1);have HVT5:Hid (zi wc1 (.agg #[.bool s4,.int .u64 x4,.int .u64 y4,.pointer p4]) (tw2 f)):=(by first | exact (za HVT4).but hcc1 | exact ((za HVT4).but (But.refl _ _).drew).but hcc1);clear hcc1;have t0_c1:=Bc1.zb t0 (by simp);have t1_c1:=Bc1.zb t1 (by simp);have t2_c1:=Bc1.zb t2 (by simp);have t3_c1:=Bc1.zb t3 (by simp)))
 have K6:Hid (But [] V1 wc2):=(za K5).trans' Bc2
 have K7:Hid (But [] W wc2):=(za KV).trans' (za K6)
 have HB6:Hid (But [] w wc2):=(za HB).trans' (za K7)
 have HVL6:=hide ((za HVL1).but (za K6))
 have o0:=(za K6).zb l0 (by simp)
 have o1:=(za K6).zb l1 (by simp)
 have o2:=(za K6).zb l2 (by simp)
 have o3:=(za K6).zb l3 (by simp)
 have u0:=(za K7).zb r0 (by simp)
 have u1:=(za K7).zb r1 (by simp)
 have u2:=(za K7).zb r2 (by simp)
 have u3:=(za K7).zb r3 (by simp)
 have uf:∀ j,wc2.frozen? ⟨gr,j,none⟩=false:=fun j=>((za K7).frozen (p:=⟨gr,j,none⟩) grl (by simp)).trans (fz j)
 have BL6:Hid (Blank wc2 gr):=(za BL).but (za K7)
 have gl6:gr<wc2.heap.size:=lt_of_cell u0
 have ngl:gl≠gr:=by omega
 clear Bc1 Bc2 K5 K6 K7 KV HVL1 HVT4 l0 l1 l2 l3 r0 r1 r2 r3 fz grl BL t0 t1 t2 t3 hgt t0_c2 t1_c2 t2_c2 t3_c2
 by_cases rp0:0<r
 ·have d1:decide (0<r)=true:=decide_eq_true rp0
  have hn:ul f=((fl f:Int):Rat)+((1:Int):Rat):=by unfold ul;rw[za HUP];simp[show 0<r from by omega]
  have glz:gr<wc2.heap.size:=lt_of_cell u0
  go_wp2_with fail
  go_region_held (fun w'=>w'.cell? ⟨gl,0,none⟩=some (.bool s2)∧w'.cell? ⟨gl,1,none⟩=some (.int .u64 x2)∧w'.cell? ⟨gl,2,none⟩=some (.int .u64 y2)∧w'.cell? ⟨gl,3,none⟩=some (.pointer p2)) (first | (go_keep;done) | exact⟨z8 _ _ _ _ _ _ _ _ _ ngl o0_z2,z8 _ _ _ _ _ _ _ _ _ ngl o1_z2,z8 _ _ _ _ _ _ _ _ _ ngl o2_z2,z8 _ _ _ _ _ _ _ _ _ ngl o3_z2⟩) (first
     | (go_at_call 128;have hchk:=Bz1;clear hchk;refine (za ADD _ _ (by first | exact za HVL9 | exact (za HVL9).but (But.refl _ _).drew)).mono ?_;rintro e wz2 ⟨vr,rfl,hvr,hcz2⟩;have Bz2:But [] wc2 wz2:=(by first | exact Bz1.trans' hcz2 | exact (Bz1.drew).trans' hcz2);have HVR:=hide hvr;obtain⟨x8,y8,p8,rfl,-⟩:=hvr.agg;clear hvr;generalize decide ((((fl f:Int):Rat)+((1:Int):Rat)).num<0)=r8 at *;have q0:=Bz2.zb u0 (by simp);have q1:=Bz2.zb u1 (by simp);have q2:=Bz2.zb u2 (by simp);have q3:=Bz2.zb u3 (by simp);have qf:∀ j,wz2.frozen? ⟨gr,j,none⟩=false:=(fun j=>(Bz2.frozen (p:=⟨gr,j,none⟩) glz (by simp)).trans (uf j));clear hcz2;have o0_z2:=Bz2.zb o0 (by simp);have o1_z2:=Bz2.zb o1 (by simp);have o2_z2:=Bz2.zb o2 (by simp);have o3_z2:=Bz2.zb o3 (by simp);clear o0_z1 o1_z1 o2_z1 o3_z1)
     | (go_at_call 58;refine (za W1 _).mono ?_;rintro e wz1 ⟨rfl,hcz1⟩;have Bz1:But [] wc2 wz1:=(by first | exact hcz1 | exact (But.refl _ _).drew.trans' hcz1);have HVL9:Hid (zi wz1 (.agg #[.bool s2,.int .u64 x2,.int .u64 y2,.pointer p2]) ((fl f:Int):Rat)):=(by first | exact (za HVL6).but hcz1 | exact ((za HVL6).but (But.refl _ _).drew).but hcz1);clear hcz1;have o0_z1:=Bz1.zb o0 (by simp);have o1_z1:=Bz1.zb o1 (by simp);have o2_z1:=Bz1.zb o2 (by simp);have o3_z1:=Bz1.zb o3 (by simp)))
  have HBd:Hid (But [] w wz2):=(za HB6).trans' Bz2
  have BLd:Hid (Blank wz2 gr):=(za BL6).but Bz2
  clear Bz2
  go_wp2
  have hBg:But [gr] wz2 ((((wz2.setCell ⟨gr,0,none⟩ (.bool r8)).setCell ⟨gr,1,none⟩ (.int .u64 x8)).setCell ⟨gr,2,none⟩ (.int .u64 y8)).setCell ⟨gr,3,none⟩ (.pointer p8)):=(((((But.refl [gr] wz2).setCell (.inl (by simp)) _).setCell (.inl (by simp)) _).setCell (.inl (by simp)) _).setCell (.inl (by simp)) _)
  have hBf:=((((za HBd).setCell (p:=⟨gr,0,none⟩) (.inr (za HGR)) (.bool r8)).setCell (p:=⟨gr,1,none⟩) (.inr (za HGR)) (.int .u64 x8)).setCell (p:=⟨gr,2,none⟩) (.inr (za HGR)) (.int .u64 y8)).setCell (p:=⟨gr,3,none⟩) (.inr (za HGR)) (.pointer p8)
  exact bodyPost_ret (v:=.agg #[.bool r8,.int .u64 x8,.int .u64 y8,.pointer p8]) (by simp[results,results95,go_sem,q0,q1,q2,q3]) rfl ⟨_,rfl,(by first | exact (za BLd).zav (za HVR) hBg | (rw[hn];exact (za BLd).zav (za HVR) hBg)),hBf⟩
 ·have d1:decide (0<r)=false:=decide_eq_false rp0
  by_cases rz:r=0
  ·have d2:(r==0)=true:=beq_iff_eq.2 rz
   go_wp2_with fail
   refine (za ODD _ _ (za HVL6)).mono ?_
   rintro e w7 ⟨rfl,hb7⟩
   have HB7:Hid (But [] w w7):=(za HB6).trans' hb7
   have HVL7:=hide ((za HVL6).but hb7)
   have BL7:Hid (Blank w7 gr):=(za BL6).but hb7
   have m0:=hb7.zb o0 (by simp)
   have m1:=hb7.zb o1 (by simp)
   have m2:=hb7.zb o2 (by simp)
   have m3:=hb7.zb o3 (by simp)
   have z0:=hb7.zb u0 (by simp)
   have z1:=hb7.zb u1 (by simp)
   have z2:=hb7.zb u2 (by simp)
   have z3:=hb7.zb u3 (by simp)
   have zf:∀ j,w7.frozen? ⟨gr,j,none⟩=false:=fun j=>(hb7.frozen (p:=⟨gr,j,none⟩) gl6 (by simp)).trans (uf j)
   clear hb7 o0 o1 o2 o3 u0 u1 u2 u3 uf gl6 BL6 HVL6
   cases od
   ·have hn:ul f=((fl f:Int):Rat):=by unfold ul;rw[za HUP];simp[show ¬ 0<r from by omega]
    go_wp2
    have hBg:But [gr] w7 ((((w7.setCell ⟨gr,0,none⟩ (.bool s2)).setCell ⟨gr,1,none⟩ (.int .u64 x2)).setCell ⟨gr,2,none⟩ (.int .u64 y2)).setCell ⟨gr,3,none⟩ (.pointer p2)):=(((((But.refl [gr] w7).setCell (.inl (by simp)) _).setCell (.inl (by simp)) _).setCell (.inl (by simp)) _).setCell (.inl (by simp)) _)
    have hBf:=((((za HB7).setCell (p:=⟨gr,0,none⟩) (.inr (za HGR)) (.bool s2)).setCell (p:=⟨gr,1,none⟩) (.inr (za HGR)) (.int .u64 x2)).setCell (p:=⟨gr,2,none⟩) (.inr (za HGR)) (.int .u64 y2)).setCell (p:=⟨gr,3,none⟩) (.inr (za HGR)) (.pointer p2)
    exact bodyPost_ret (v:=.agg #[.bool s2,.int .u64 x2,.int .u64 y2,.pointer p2]) (by simp[results,results95,go_sem,z0,z1,z2,z3]) rfl ⟨_,rfl,(by first | exact (za BL7).zav (za HVL7) hBg | (rw[hn];exact (za BL7).zav (za HVL7) hBg)),hBf⟩
   ·have hn:ul f=((fl f:Int):Rat)+((1:Int):Rat):=by unfold ul;rw[za HUP];simp[show r=0 from by omega]
    have glz:gr<w7.heap.size:=lt_of_cell z0
    go_wp2_with fail
    go_region_held (fun w'=>w'.cell? ⟨gl,0,none⟩=some (.bool s2)∧w'.cell? ⟨gl,1,none⟩=some (.int .u64 x2)∧w'.cell? ⟨gl,2,none⟩=some (.int .u64 y2)∧w'.cell? ⟨gl,3,none⟩=some (.pointer p2)) (first | (go_keep;done) | exact⟨z8 _ _ _ _ _ _ _ _ _ ngl m0_z2,z8 _ _ _ _ _ _ _ _ _ ngl m1_z2,z8 _ _ _ _ _ _ _ _ _ ngl m2_z2,z8 _ _ _ _ _ _ _ _ _ ngl m3_z2⟩) (first
         | (go_at_call 128;have hchk:=Bz1;clear hchk;refine (za ADD _ _ (by first | exact za HVL9 | exact (za HVL9).but (But.refl _ _).drew)).mono ?_;rintro e wz2 ⟨vr,rfl,hvr,hcz2⟩;have Bz2:But [] w7 wz2:=(by first | exact Bz1.trans' hcz2 | exact (Bz1.drew).trans' hcz2);have HVR:=hide hvr;obtain⟨x8,y8,p8,rfl,-⟩:=hvr.agg;clear hvr;generalize decide ((((fl f:Int):Rat)+((1:Int):Rat)).num<0)=r8 at *;have q0:=Bz2.zb z0 (by simp);have q1:=Bz2.zb z1 (by simp);have q2:=Bz2.zb z2 (by simp);have q3:=Bz2.zb z3 (by simp);have qf:∀ j,wz2.frozen? ⟨gr,j,none⟩=false:=(fun j=>(Bz2.frozen (p:=⟨gr,j,none⟩) glz (by simp)).trans (zf j));clear hcz2;have m0_z2:=Bz2.zb m0 (by simp);have m1_z2:=Bz2.zb m1 (by simp);have m2_z2:=Bz2.zb m2 (by simp);have m3_z2:=Bz2.zb m3 (by simp);clear m0_z1 m1_z1 m2_z1 m3_z1)
         | (go_at_call 58;refine (za W1 _).mono ?_;rintro e wz1 ⟨rfl,hcz1⟩;have Bz1:But [] w7 wz1:=(by first | exact hcz1 | exact (But.refl _ _).drew.trans' hcz1);have HVL9:Hid (zi wz1 (.agg #[.bool s2,.int .u64 x2,.int .u64 y2,.pointer p2]) ((fl f:Int):Rat)):=(by first | exact (za HVL7).but hcz1 | exact ((za HVL7).but (But.refl _ _).drew).but hcz1);clear hcz1;have m0_z1:=Bz1.zb m0 (by simp);have m1_z1:=Bz1.zb m1 (by simp);have m2_z1:=Bz1.zb m2 (by simp);have m3_z1:=Bz1.zb m3 (by simp)))
    have HBd:Hid (But [] w wz2):=(za HB7).trans' Bz2
    have BLd:Hid (Blank wz2 gr):=(za BL7).but Bz2
    clear Bz2
    go_wp2
    have hBg:But [gr] wz2 ((((wz2.setCell ⟨gr,0,none⟩ (.bool r8)).setCell ⟨gr,1,none⟩ (.int .u64 x8)).setCell ⟨gr,2,none⟩ (.int .u64 y8)).setCell ⟨gr,3,none⟩ (.pointer p8)):=(((((But.refl [gr] wz2).setCell (.inl (by simp)) _).setCell (.inl (by simp)) _).setCell (.inl (by simp)) _).setCell (.inl (by simp)) _)
    have hBf:=((((za HBd).setCell (p:=⟨gr,0,none⟩) (.inr (za HGR)) (.bool r8)).setCell (p:=⟨gr,1,none⟩) (.inr (za HGR)) (.int .u64 x8)).setCell (p:=⟨gr,2,none⟩) (.inr (za HGR)) (.int .u64 y8)).setCell (p:=⟨gr,3,none⟩) (.inr (za HGR)) (.pointer p8)
    exact bodyPost_ret (v:=.agg #[.bool r8,.int .u64 x8,.int .u64 y8,.pointer p8]) (by simp[results,results95,go_sem,q0,q1,q2,q3]) rfl ⟨_,rfl,(by first | exact (za BLd).zav (za HVR) hBg | (rw[hn];exact (za BLd).zav (za HVR) hBg)),hBf⟩
  ·have d2:(r==0)=false:=beq_eq_false_iff_ne.2 rz
   have hn:ul f=((fl f:Int):Rat):=by unfold ul;rw[za HUP];simp[show ¬ 0<r from by omega,show ¬ r=0 from by omega]
   go_wp2
   have hBg:But [gr] wc2 ((((wc2.setCell ⟨gr,0,none⟩ (.bool s2)).setCell ⟨gr,1,none⟩ (.int .u64 x2)).setCell ⟨gr,2,none⟩ (.int .u64 y2)).setCell ⟨gr,3,none⟩ (.pointer p2)):=(((((But.refl [gr] wc2).setCell (.inl (by simp)) _).setCell (.inl (by simp)) _).setCell (.inl (by simp)) _).setCell (.inl (by simp)) _)
   have hBf:=((((za HB6).setCell (p:=⟨gr,0,none⟩) (.inr (za HGR)) (.bool s2)).setCell (p:=⟨gr,1,none⟩) (.inr (za HGR)) (.int .u64 x2)).setCell (p:=⟨gr,2,none⟩) (.inr (za HGR)) (.int .u64 y2)).setCell (p:=⟨gr,3,none⟩) (.inr (za HGR)) (.pointer p2)
   exact bodyPost_ret (v:=.agg #[.bool s2,.int .u64 x2,.int .u64 y2,.pointer p2]) (by simp[results,results95,go_sem,u0,u1,u2,u3]) rfl ⟨_,rfl,(by first | exact (za BL6).zav (za HVL6) hBg | (rw[hn];exact (za BL6).zav (za HVL6) hBg)),hBf⟩
theorem qgn (w:World) (g:Nat) (v0 v1 v2 v3:Value):But [g] w ((((w.setCell ⟨g,0,none⟩ v0).setCell ⟨g,1,none⟩ v1).setCell ⟨g,2,none⟩ v2).setCell ⟨g,3,none⟩ v3) :=
 (((((But.refl [g] w).setCell (.inl (by simp)) _).setCell (.inl (by simp)) _).setCell (.inl (by simp)) _).setCell (.inl (by simp)) _)
theorem qfa {g:Rat} {n:Nat} (h:Len g n) (hn:0<n):Len (ul g) (n+3):=by
 have h1:=qfz h hn
 have h2:=zqt 1 (by omega) (by omega)
 unfold ul
 split
 ·exact zxk h1 h2 (n+3) (by omega)
 ·exact h1.mono (by omega)
theorem zyw (vf vz:Value) (f z:Rat) (w:World) (hf:zi w vf f) (hz:zi w vz z) (lf:Len f 2) (lz:Len z 1) (hz0:0<z.num) :
  Calls prog 59 #[vf,vz] w fun e w'=>∃ v',e=.returned (.tuple #[v',.nilIface])∧zi w' v' (ul (f*z⁻¹)*z)∧But [] w w':=by
 have hzn:z.num≠0:=by omega
 have lzi:=qir lz hzn
 have lq:=zjo lf lzi 3 (by omega)
 have ln:=qfa lq (by omega)
 have SG:Hid (∀ W,But [] w W→Calls prog 38 #[vz] W fun e w'=>e=.returned (.int .i64 1)∧But [] W w'):=fun W h=>by
  have:=iw vz z W (hz.but h)
  rw[Int.sign_eq_one_of_pos hz0] at this
  exact this
 have TU:=hide (fun W (h:But [] w W)=>zml vz z W (hz.but h) hzn)
 have M1:=hide (fun W v (h:But [] w W) (hv:zi W v z⁻¹)=>uq vf v f z⁻¹ W (hf.but h) hv (lf.mono (by omega)) (lzi.mono (by omega)))
 have NR:=hide (fun W v (hv:zi W v (f*z⁻¹))=>zsz v (f*z⁻¹) W hv (lq.mono (by omega)))
 have M2:=hide (fun W v (h:But [] w W) (hv:zi W v (ul (f*z⁻¹)))=>uq v vz _ z W hv (hz.but h) (ln.mono (by omega)) (lz.mono (by omega)))
 obtain⟨d,hd⟩:∃ d,d=ul (f*z⁻¹)*z:=⟨_,rfl⟩
 rw[← hd] at M2 ⊢
 obtain⟨x1,y1,p1,rfl,-⟩:=hf.agg
 obtain⟨x2,y2,p2,rfl,-⟩:=hz.agg
 generalize decide (f.num<0)=s1 at *
 generalize decide (z.num<0)=s2 at *
 clear hf hz lf lz hz0 hzn lzi lq ln hd
 obtain⟨W,hW⟩:∃ W,W=(((w.alloc (.cells #[.bool s1,.int .u64 x1,.int .u64 y1,.pointer p1] 35)).alloc (.cells #[.bool s2,.int .u64 x2,.int .u64 y2,.pointer p2] 35)).alloc (.cells #[.bool false,.int .u64 0,.int .u64 0,.pointer none] 35)):=⟨_,rfl⟩
 obtain⟨tA,tB,tC,fz,hB⟩:=zai w W _ _ _ _ hW
 have a0:=tA 0
 have a1:=tA 1
 have a2:=tA 2
 have a3:=tA 3
 have b0:=tB 0
 have b1:=tB 1
 have b2:=tB 2
 have b3:=tB 3
 have r0:=tC 0
 have r1:=tC 1
 have r2:=tC 2
 have r3:=tC 3
 simp only[List.getElem?_toArray,List.getElem?_cons_zero,List.getElem?_cons_succ] at a0 a1 a2 a3 b0 b1 b2 b3 r0 r1 r2 r3
 clear tA tB tC
 have HW:=hide hW
 have HB:=hide hB
 clear hW hB
 go_enter func59,ntmps59
 go_wp2_with fail
 rw[← za HW]
 obtain⟨ga,hga⟩:∃ ga,ga=w.heap.size:=⟨_,rfl⟩
 obtain⟨gb,hgb⟩:∃ gb,gb=w.heap.size+1:=⟨_,rfl⟩
 obtain⟨gr,hgr⟩:∃ gr,gr=w.heap.size+2:=⟨_,rfl⟩
 rw[← hga] at a0 a1 a2 a3
 rw[← hgb] at b0 b1 b2 b3
 rw[← hgr] at r0 r1 r2 r3 fz
 rw[show w.heap.size+1+1=w.heap.size+2 from rfl,← hgr,← hgb,← hga]
 have HGR:Hid (w.heap.size≤gr):=by show _≤_;omega
 have nga:ga≠gr:=by omega
 have ngb:gb≠gr:=by omega
 clear hga hgb hgr HW
 refine (za SG _ (za HB)).mono ?_
 rintro e W0 ⟨rfl,hc0⟩
 have gl0:gr<W.heap.size:=lt_of_cell r0
 replace fz:∀ j,W0.frozen? ⟨gr,j,none⟩=false:=fun j=>(hc0.frozen (p:=⟨gr,j,none⟩) gl0 (by simp)).trans (fz j)
 clear gl0
 replace a0:=hc0.zb a0 (by simp)
 replace a1:=hc0.zb a1 (by simp)
 replace a2:=hc0.zb a2 (by simp)
 replace a3:=hc0.zb a3 (by simp)
 replace b0:=hc0.zb b0 (by simp)
 replace b1:=hc0.zb b1 (by simp)
 replace b2:=hc0.zb b2 (by simp)
 replace b3:=hc0.zb b3 (by simp)
 replace r0:=hc0.zb r0 (by simp)
 replace r1:=hc0.zb r1 (by simp)
 replace r2:=hc0.zb r2 (by simp)
 replace r3:=hc0.zb r3 (by simp)
 replace HB:Hid (But [] w W0):=(za HB).trans' hc0
 clear hc0
 go_wp2_with fail
 have grl:gr<W0.heap.size:=lt_of_cell r0
 go_region_held (fun w'=>w'.cell? ⟨ga,0,none⟩=some (.bool s1)∧w'.cell? ⟨ga,1,none⟩=some (.int .u64 x1)∧w'.cell? ⟨ga,2,none⟩=some (.int .u64 y1)∧w'.cell? ⟨ga,3,none⟩=some (.pointer p1)∧w'.cell? ⟨gb,0,none⟩=some (.bool s2)∧w'.cell? ⟨gb,1,none⟩=some (.int .u64 x2)∧w'.cell? ⟨gb,2,none⟩=some (.int .u64 y2)∧w'.cell? ⟨gb,3,none⟩=some (.pointer p2)) (first | (go_keep;done) | exact⟨z8 _ _ _ _ _ _ _ _ _ nga a0_4,z8 _ _ _ _ _ _ _ _ _ nga a1_4,z8 _ _ _ _ _ _ _ _ _ nga a2_4,z8 _ _ _ _ _ _ _ _ _ nga a3_4,z8 _ _ _ _ _ _ _ _ _ ngb b0_4,z8 _ _ _ _ _ _ _ _ _ ngb b1_4,z8 _ _ _ _ _ _ _ _ _ ngb b2_4,z8 _ _ _ _ _ _ _ _ _ ngb b3_4⟩) (first
  | (go_at_call 57;have hchk:=B3;clear hchk;refine (za M2 _ v3 (by first | exact (za HB).trans' B3 | exact ((za HB).trans' B3).drew) (by first | exact za HN3 | exact (za HN3).but (But.refl _ _).drew)).mono ?_;rintro e w4 ⟨v4,rfl,hn4,hc4⟩;have B4:But [] W0 w4:=(by first | exact B3.trans' hc4 | exact (B3.drew).trans' hc4);have HN4:=hide hn4;obtain⟨x8,y8,p8,rfl,-⟩:=hn4.agg;clear hn4;clear HN3;generalize decide (d.num<0)=r8 at *;have u0:=B4.zb r0 (by simp);have u1:=B4.zb r1 (by simp);have u2:=B4.zb r2 (by simp);have u3:=B4.zb r3 (by simp);have uf:∀ j,w4.frozen? ⟨gr,j,none⟩=false:=fun j=>(B4.frozen (p:=⟨gr,j,none⟩) grl (by simp)).trans (fz j);clear hc4;have a0_4:=B4.zb a0 (by simp);have a1_4:=B4.zb a1 (by simp);have a2_4:=B4.zb a2 (by simp);have a3_4:=B4.zb a3 (by simp);have b0_4:=B4.zb b0 (by simp);have b1_4:=B4.zb b1 (by simp);have b2_4:=B4.zb b2 (by simp);have b3_4:=B4.zb b3 (by simp);clear a0_3 a1_3 a2_3 a3_3 b0_3 b1_3 b2_3 b3_3)
  | (go_at_call 95;have hchk:=B2;clear hchk;refine (za NR _ v2 (by first | exact za HN2 | exact (za HN2).but (But.refl _ _).drew)).mono ?_;rintro e w3 ⟨v3,rfl,hn3,hc3⟩;have B3:But [] W0 w3:=(by first | exact B2.trans' hc3 | exact (B2.drew).trans' hc3);have HN3:=hide hn3;clear hn3;clear HN2;clear hc3;have a0_3:=B3.zb a0 (by simp);have a1_3:=B3.zb a1 (by simp);have a2_3:=B3.zb a2 (by simp);have a3_3:=B3.zb a3 (by simp);have b0_3:=B3.zb b0 (by simp);have b1_3:=B3.zb b1 (by simp);have b2_3:=B3.zb b2 (by simp);have b3_3:=B3.zb b3 (by simp);clear a0_2 a1_2 a2_2 a3_2 b0_2 b1_2 b2_2 b3_2)
  | (go_at_call 57;have hchk:=B1;clear hchk;refine (za M1 _ v1 (by first | exact (za HB).trans' B1 | exact ((za HB).trans' B1).drew) (by first | exact za HN1 | exact (za HN1).but (But.refl _ _).drew)).mono ?_;rintro e w2 ⟨v2,rfl,hn2,hc2⟩;have B2:But [] W0 w2:=(by first | exact B1.trans' hc2 | exact (B1.drew).trans' hc2);have HN2:=hide hn2;clear hn2;clear HN1;clear hc2;have a0_2:=B2.zb a0 (by simp);have a1_2:=B2.zb a1 (by simp);have a2_2:=B2.zb a2 (by simp);have a3_2:=B2.zb a3 (by simp);have b0_2:=B2.zb b0 (by simp);have b1_2:=B2.zb b1 (by simp);have b2_2:=B2.zb b2 (by simp);have b3_2:=B2.zb b3 (by simp);clear a0_1 a1_1 a2_1 a3_1 b0_1 b1_1 b2_1 b3_1)
  | (go_at_call 94;refine (za TU _ (by first | exact za HB | exact (za HB).drew)).mono ?_;rintro e w1 ⟨v1,rfl,hn1,hc1⟩;have B1:But [] W0 w1:=(by first | exact hc1 | exact (But.refl _ _).drew.trans' hc1);have HN1:=hide hn1;clear hn1;clear hc1;have a0_1:=B1.zb a0 (by simp);have a1_1:=B1.zb a1 (by simp);have a2_1:=B1.zb a2 (by simp);have a3_1:=B1.zb a3 (by simp);have b0_1:=B1.zb b0 (by simp);have b1_1:=B1.zb b1 (by simp);have b2_1:=B1.zb b2 (by simp);have b3_1:=B1.zb b3 (by simp)))
 all_goals (
  have hB4:=(za HB).trans' B4
  go_wp2
  have hBg:=qgn w4 gr (.bool r8) (.int .u64 x8) (.int .u64 y8) (.pointer p8)
  exact bodyPost_ret (v:=.tuple #[.agg #[.bool r8,.int .u64 x8,.int .u64 y8,.pointer p8],.nilIface]) (by simp[results,results59,go_sem,u0,u1,u2,u3]) rfl ⟨_,rfl,(za HN4).over u0 hBg,hB4.trans hBg (fun x hx=>by simp at hx;subst hx;exact .inr (za HGR))⟩)
end Go.Proofs.YtcgecpoedojhjaaGreatDoor
