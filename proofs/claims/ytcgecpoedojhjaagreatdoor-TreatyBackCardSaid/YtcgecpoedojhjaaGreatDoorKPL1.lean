/- Two fractions that are the same, as the  -/
import Derived.Test.YtcgecpoedojhjaaGreatDoorProg
import Derived.Deep.DeepCutAuto
import Derived.Test.YtcgecpoedojhjaaGreatDoorKPQ4
namespace Go.Proofs.YtcgecpoedojhjaaGreatDoor
open Go.Proofs.Tryz
open Go.RowKit
set_option maxHeartbeats 8000000
set_option maxRecDepth 100000
theorem qfi (va vb:Value) (f:Rat) (w:World) (ha:zi w va f) (hb:zi w vb f) (hl:Len f 1000000) (htab:Lib.TabIs prog w "internal/strconv.uint64pow10" .u64 Lib.pow10Tab) :
  Calls prog 8 #[va,vb] w fun e w'=>e=.returned (.bool true)∧But [] w w':=by
 have hl2:Len f 33554431:=⟨Nat.le_trans hl.1 (by omega),Nat.le_trans hl.2 (by omega)⟩
 obtain⟨t,ht⟩:∃ t,t=ru (decide (f.num<0)) f.num.natAbs f.den:=⟨_,rfl⟩
 have CM:Hid (∀ W,But [] w W→Calls prog 20 #[va,vb] W fun e w'=>e=.returned (.int .i64 0)∧But [] W w'):=fun W h=>zdw va vb f f W (ha.but h) (hb.but h) hl2 hl2 0 (by show _=_;simp[zbn])
 have TA:Hid (∀ W,But [] w W→Calls prog 21 #[va] W fun e w'=>e=.returned (.string t)∧But [] W w'):=fun W h=>zck va f W (ha.but h) hl (TabIs.but htab h) t ht
 have TB:Hid (∀ W,But [] w W→Calls prog 21 #[vb] W fun e w'=>e=.returned (.string t)∧But [] W w'):=fun W h=>zck vb f W (hb.but h) hl (TabIs.but htab h) t ht
 obtain⟨x1,y1,p1,rfl,-⟩:=ha.agg
 obtain⟨x2,y2,p2,rfl,-⟩:=hb.agg
 clear ha hb hl hl2 ht htab
 generalize hs:decide (f.num<0)=s at *
 clear hs
 obtain⟨W,hW⟩:∃ W,W=((w.alloc (.cells #[.bool s,.int .u64 x1,.int .u64 y1,.pointer p1] 35)).alloc (.cells #[.bool s,.int .u64 x2,.int .u64 y2,.pointer p2] 35)):=⟨_,rfl⟩
 obtain⟨tA,tB,-,hB⟩:=gy w W _ _ _ hW
 have a0:=tA 0
 have a1:=tA 1
 have a2:=tA 2
 have a3:=tA 3
 have b0:=tB 0
 have b1:=tB 1
 have b2:=tB 2
 have b3:=tB 3
 simp only[List.getElem?_toArray,List.getElem?_cons_zero,List.getElem?_cons_succ] at a0 a1 a2 a3 b0 b1 b2 b3
 clear tA tB
 have HW:=hide hW
 have HB:=hide hB
 clear hW hB
 go_enter func8,ntmps8
 go_wp2
 rw[← za HW]
 obtain⟨ga,hga⟩:∃ ga,ga=w.heap.size:=⟨_,rfl⟩
 obtain⟨gb,hgb⟩:∃ gb,gb=w.heap.size+1:=⟨_,rfl⟩
 rw[← hga] at a0 a1 a2 a3
 rw[← hgb] at b0 b1 b2 b3
 rw[← hgb,← hga]
 clear hga hgb HW
 go_region_held (fun w'=>w'.cell? ⟨ga,0,none⟩=some (.bool s)∧w'.cell? ⟨ga,1,none⟩=some (.int .u64 x1)∧w'.cell? ⟨ga,2,none⟩=some (.int .u64 y1)∧w'.cell? ⟨ga,3,none⟩=some (.pointer p1)∧w'.cell? ⟨gb,0,none⟩=some (.bool s)∧w'.cell? ⟨gb,1,none⟩=some (.int .u64 x2)∧w'.cell? ⟨gb,2,none⟩=some (.int .u64 y2)∧w'.cell? ⟨gb,3,none⟩=some (.pointer p2)) (go_keep) (first
  | (go_at_call 21;have hchk:=B2;clear hchk;refine (za TB _ (by first | exact (za HB).trans' B2 | exact ((za HB).trans' B2).drew)).mono ?_;rintro e w3 ⟨rfl,hc3⟩;have B3:But [] W w3:=(by first | exact B2.trans' hc3 | exact (B2.drew).trans' hc3);clear hc3;have a0_3:=B3.zb a0 (by simp);have a1_3:=B3.zb a1 (by simp);have a2_3:=B3.zb a2 (by simp);have a3_3:=B3.zb a3 (by simp);have b0_3:=B3.zb b0 (by simp);have b1_3:=B3.zb b1 (by simp);have b2_3:=B3.zb b2 (by simp);have b3_3:=B3.zb b3 (by simp);clear a0_2 a1_2 a2_2 a3_2 b0_2 b1_2 b2_2 b3_2)
  | (go_at_call 21;have hchk:=B1;clear hchk;refine (za TA _ (by first | exact (za HB).trans' B1 | exact ((za HB).trans' B1).drew)).mono ?_;rintro e w2 ⟨rfl,hc2⟩;have B2:But [] W w2:=(by first | exact B1.trans' hc2 | exact (B1.drew).trans' hc2);clear hc2;have a0_2:=B2.zb a0 (by simp);have a1_2:=B2.zb a1 (by simp);have a2_2:=B2.zb a2 (by simp);have a3_2:=B2.zb a3 (by simp);have b0_2:=B2.zb b0 (by simp);have b1_2:=B2.zb b1 (by simp);have b2_2:=B2.zb b2 (by simp);have b3_2:=B2.zb b3 (by simp);clear a0_1 a1_1 a2_1 a3_1 b0_1 b1_1 b2_1 b3_1)
  | (go_at_call 20;refine (za CM _ (by first | exact za HB | exact (za HB).drew)).mono ?_;rintro e w1 ⟨rfl,hc1⟩;have B1:But [] W w1:=(by first | exact hc1 | exact (But.refl _ _).drew.trans' hc1);clear hc1;have a0_1:=B1.zb a0 (by simp);have a1_1:=B1.zb a1 (by simp);have a2_1:=B1.zb a2 (by simp);have a3_1:=B1.zb a3 (by simp);have b0_1:=B1.zb b0 (by simp);have b1_1:=B1.zb b1 (by simp);have b2_1:=B1.zb b2 (by simp);have b3_1:=B1.zb b3 (by simp)))
 have HB3:Hid (But [] w w3):=(za HB).trans' B3
 clear B1 B2 B3
 go_wp2
 go_ret
 exact⟨rfl,za HB3⟩
end Go.Proofs.YtcgecpoedojhjaaGreatDoor
namespace Go.Proofs.YtcgecpoedojhjaaGreatDoor
open Go.Proofs.Tryz
open Go.RowKit
set_option maxHeartbeats 8000000
set_option maxRecDepth 100000
theorem qhb (s:Bool) (X Y g:Nat) (hg:0<g) (hx:g ∣ X) (hy:g ∣ Y) (f:Rat) (hY:0<Y) (h:f.num*(Y:Int)=sgn s X*(f.den:Int)) (hc:Nat.Coprime (X/g) (Y/g)):f.num=sgn s (X/g)∧f.den=Y/g:=by
 have hyq:0<Y/g:=Nat.div_pos (Nat.le_of_dvd hY hy) hg
 refine dz (sgn s (X/g)) (Y/g) (by omega) (by rw[jg];exact hc) f ?_
 have e1:(Y:Int)=((Y/g:Nat):Int)*(g:Int):=by rw[← Int.natCast_mul,Nat.div_mul_cancel hy]
 have e2:sgn s X=sgn s (X/g)*(g:Int):=by rw[← rf,Nat.div_mul_cancel hx]
 rw[e1,e2] at h
 have hg':(g:Int)≠0:=by omega
 apply Int.eq_of_mul_eq_mul_right hg'
 rw[Int.mul_assoc,h,Int.mul_right_comm]
theorem znu (s:Bool) (vx vy:Value) (X Y:Nat) (w:World) (hx:Sl .u64 w vx (wd 18446744073709551616 X)) (hy:Sl .u64 w vy (wd 18446744073709551616 Y)) (hY:0<Y) (lx:(wd 18446744073709551616 X).length≤1000000) (ly:(wd 18446744073709551616 Y).length≤1000000) (f:Rat) (hf:f.num*(Y:Int)=sgn s X*(f.den:Int)) :
  Calls prog 104 #[.bool s,vx,vy] w fun e w'=>∃ v,e=.returned v∧zi w' v f∧But [] w w':=by
 obtain⟨g,hg⟩:∃ g,g=Nat.gcd X Y:=⟨_,rfl⟩
 have hg0:0<g:=by rw[hg];exact Nat.gcd_pos_of_pos_right _ hY
 have hgl:(wd 18446744073709551616 g).length≤1000000:=Nat.le_trans (zu (by rw[hg];exact Nat.gcd_le_right _ hY)) ly
 obtain⟨f1,f2⟩:=qhb s X Y g hg0 (by rw[hg];exact Nat.gcd_dvd_left _ _) (by rw[hg];exact Nat.gcd_dvd_right _ _) f hY hf (by rw[hg];exact Nat.coprime_div_gcd_div_gcd (by omega))
 have GC:Hid (∀ W,But [] w W→Calls prog 90 #[vx,vy] W fun e w'=>∃ v,e=.returned v∧Sl .u64 w' v (wd 18446744073709551616 g)∧But [] W w'):=fun W hb=>by
  rw[hg]
  exact l9 vx vy X Y W (hx.ze hb) (hy.ze hb) lx ly
 have Q1:Hid (∀ W v,But [] w W→Sl .u64 W v (wd 18446744073709551616 g)→Calls prog 92 #[vx,v] W fun e w'=>∃ v1,e=.returned v1∧Sl .u64 w' v1 (wd 18446744073709551616 (X/g))∧But [] W w'):=fun W v hb h=>jb vx v _ _ W (hx.ze hb) h hg0 (by omega) (by omega) (Short.of _ _ lx)
 have Q2:Hid (∀ W v,But [] w W→Sl .u64 W v (wd 18446744073709551616 g)→Calls prog 92 #[vy,v] W fun e w'=>∃ v1,e=.returned v1∧Sl .u64 w' v1 (wd 18446744073709551616 (Y/g))∧But [] W w'):=fun W v hb h=>jb vy v _ _ W (hy.ze hb) h hg0 (by omega) (by omega) (Short.of _ _ ly)
 have habs:f.num.natAbs=X/g:=by rw[f1,jg]
 have OL:Hid (∀ W v1 v2,Sl .u64 W v1 (wd 18446744073709551616 (X/g))→Sl .u64 W v2 (wd 18446744073709551616 (Y/g))→Calls prog 91 #[.bool s,v1,v2] W fun e w'=>∃ v,e=.returned v∧zi w' v f∧But [] W w'):=fun W v1 v2 h1 h2=>av s v1 v2 f W (by rw[habs];exact h1) (by rw[f2];exact h2) (by rw[habs];exact f1) (by rw[habs];have:=bg X g 1000000 lx;omega) (by rw[f2];have:=bg Y g 1000000 ly;omega)
 obtain⟨a1,d1,rfl,-,-⟩:=hx
 obtain⟨a2,d2,rfl,-,-⟩:=hy
 clear hg hg0 hgl f1 f2 habs lx ly hf
 generalize (wd 18446744073709551616 X).length=n1 at *
 generalize (wd 18446744073709551616 Y).length=n2 at *
 obtain⟨W,hW⟩:∃ W,W=w.alloc (.cells #[.bool false,.int .u64 0,.int .u64 0,.pointer none] 35):=⟨_,rfl⟩
 have r0:W.cell? ⟨w.heap.size,0,none⟩=some (.bool false):=by rw[hW];simp
 have r1:W.cell? ⟨w.heap.size,1,none⟩=some (.int .u64 0):=by rw[hW];simp
 have r2:W.cell? ⟨w.heap.size,2,none⟩=some (.int .u64 0):=by rw[hW];simp
 have r3:W.cell? ⟨w.heap.size,3,none⟩=some (.pointer none):=by rw[hW];simp
 have fz:∀ j,W.frozen? ⟨w.heap.size,j,none⟩=false:=fun j=>by rw[hW];simp
 have BL:Hid (Blank W w.heap.size):=⟨r0,r1,r2,r3,fun j hj=>by rw[hW,World.cell?_alloc_new];simp;omega⟩
 have HB:Hid (But [] w W):=by show But _ _ _;rw[hW];exact (But.refl _ _).alloc _
 have HW:=hide hW
 clear hW
 go_enter func104,ntmps104
 go_wp2_with fail
 rw[← za HW]
 obtain⟨gr,hgr⟩:∃ gr,gr=w.heap.size:=⟨_,rfl⟩
 rw[← hgr] at r0 r1 r2 r3 fz BL
 rw[← hgr]
 have HGR:Hid (w.heap.size≤gr):=by show _≤_;omega
 clear hgr HW
 have grl:gr<W.heap.size:=lt_of_cell r0
 refine (za GC _ (za HB)).mono ?_
 rintro e w1 ⟨vg,rfl,hvg,hb1⟩
 have HVG:=hide hvg
 have K1:=hide hb1
 have B1:Hid (But [] w w1):=(za HB).trans' hb1
 clear hvg hb1
 go_wp2_with fail
 refine (za Q1 _ vg (za B1) (za HVG)).mono ?_
 rintro e w2 ⟨v1,rfl,hv1,hb2⟩
 have HV1:=hide hv1
 have HVG2:=hide ((za HVG).ze hb2)
 have K2:Hid (But [] W w2):=(za K1).trans' hb2
 have B2:Hid (But [] w w2):=(za B1).trans' hb2
 clear hv1 hb2
 go_wp2_with fail
 refine (za Q2 _ vg (za B2) (za HVG2)).mono ?_
 rintro e w3 ⟨v2,rfl,hv2,hb3⟩
 have HV2:=hide hv2
 have HV13:=hide ((za HV1).ze hb3)
 have K3:Hid (But [] W w3):=(za K2).trans' hb3
 have B3:Hid (But [] w w3):=(za B2).trans' hb3
 clear hv2 hb3
 go_wp2_with fail
 refine (za OL _ v1 v2 (za HV13) (za HV2)).mono ?_
 rintro e w4 ⟨vr,rfl,hvr,hb4⟩
 have K4:But [] W w4:=(za K3).trans' hb4
 have B4:Hid (But [] w w4):=(za B3).trans' hb4
 have HVR:=hide hvr
 obtain⟨x8,y8,p8,rfl,-⟩:=hvr.agg
 generalize decide (f.num<0)=r8 at *
 have u0:=K4.zb r0 (by simp)
 have u1:=K4.zb r1 (by simp)
 have u2:=K4.zb r2 (by simp)
 have u3:=K4.zb r3 (by simp)
 have uf:∀ j,w4.frozen? ⟨gr,j,none⟩=false:=fun j=>(K4.frozen (p:=⟨gr,j,none⟩) grl (by simp)).trans (fz j)
 have BL4:Hid (Blank w4 gr):=(za BL).but K4
 clear hvr hb4 K4 r0 r1 r2 r3 fz grl
 go_wp2
 have hBg:But [gr] w4 ((((w4.setCell ⟨gr,0,none⟩ (.bool r8)).setCell ⟨gr,1,none⟩ (.int .u64 x8)).setCell ⟨gr,2,none⟩ (.int .u64 y8)).setCell ⟨gr,3,none⟩ (.pointer p8)):=(((((But.refl [gr] w4).setCell (.inl (by simp)) _).setCell (.inl (by simp)) _).setCell (.inl (by simp)) _).setCell (.inl (by simp)) _)
 have hBf:=((((za B4).setCell (p:=⟨gr,0,none⟩) (.inr (za HGR)) (.bool r8)).setCell (p:=⟨gr,1,none⟩) (.inr (za HGR)) (.int .u64 x8)).setCell (p:=⟨gr,2,none⟩) (.inr (za HGR)) (.int .u64 y8)).setCell (p:=⟨gr,3,none⟩) (.inr (za HGR)) (.pointer p8)
 exact bodyPost_ret (v:=.agg #[.bool r8,.int .u64 x8,.int .u64 y8,.pointer p8]) (by simp[results,results104,go_sem,u0,u1,u2,u3]) rfl ⟨_,rfl,(za BL4).zav (za HVR) hBg,hBf⟩
def wrt (s:Bool) (tw:ByteArray) (k:Int) (tb:ByteArray):Value:=.agg #[.bool s,.string tw,.int .u8 k,.string tb,.bool false]
theorem zoj (s:Bool) (tw tb:ByteArray) (w:World) (_h1:tw.size<1000) (_h2:tb.size<1000) :
  Calls prog 101 #[wrt s tw 0 tb] w fun e w'=>e=.returned (.int .i64 ((tw.size:Int)))∧But [] w w':=by
 unfold wrt
 go_enter func101,ntmps101
 go_wp2
 go_ret
 exact⟨rfl,(But.refl _ _).alloc _⟩
theorem znn (s:Bool) (tw tb:ByteArray) (w:World) (_h1:tw.size<1000) (h2:tb.size<1000) :
  Calls prog 102 #[wrt s tw 0 tb] w fun e w'=>e=.returned (.int .i64 (1+(tb.size:Int)))∧But [] w w':=by
 unfold wrt
 go_enter func102,ntmps102
 go_wp2
 go_ret
 exact⟨rfl,(But.refl _ _).alloc _⟩
theorem znf (s:Bool) (tw tb:ByteArray) (w:World) (_h1:tw.size<1000) (_h2:tb.size<1000) :
  Calls prog 101 #[wrt s tw 47 tb] w fun e w'=>e=.returned (.int .i64 ((tw.size:Int)))∧But [] w w':=by
 unfold wrt
 go_enter func101,ntmps101
 go_wp2
 go_ret
 exact⟨rfl,(But.refl _ _).alloc _⟩
theorem zkd (s:Bool) (tw tb:ByteArray) (w:World) (_h1:tw.size<1000) (_h2:tb.size<1000) :
  Calls prog 102 #[wrt s tw 47 tb] w fun e w'=>e=.returned (.int .i64 ((tb.size:Int)))∧But [] w w':=by
 unfold wrt
 go_enter func102,ntmps102
 go_wp2
 go_ret
 exact⟨rfl,(But.refl _ _).alloc _⟩
theorem zxy (a b:ByteArray):(a++b).data.toList=a.data.toList++b.data.toList:=by simp
theorem zzw (s:Bool) (tw:ByteArray) (ds:List UInt8) (w:World) (ht:tw.data.toList=ds) (hd:yw ds) (hl:ds.length<1000) :
  Calls prog 103 #[wrt s tw 0 ⟨#[]⟩] w fun e w'=>∃ v1 v2,e=.returned (.tuple #[v1,v2])∧Sl .u64 w' v1 (wd 18446744073709551616 (vv ds))∧Sl .u64 w' v2 (wd 18446744073709551616 (1))∧But [] w w':=by
 unfold wrt
 have RD:=hide (fun W=>zdr tw ds W ht hd (by omega))
 clear ht hd hl
 obtain⟨W,hW⟩:∃ W,W=w.alloc (.cells #[.bool s,.string tw,.int .u8 0,.string ⟨#[]⟩,.bool false] 173):=⟨_,rfl⟩
 have c1:W.cell? ⟨w.heap.size,1,none⟩=some (.string tw):=by rw[hW];simp
 have c2:W.cell? ⟨w.heap.size,2,none⟩=some (.int .u8 0):=by rw[hW];simp
 have c3:W.cell? ⟨w.heap.size,3,none⟩=some (.string ⟨#[]⟩):=by rw[hW];simp
 have c4:W.cell? ⟨w.heap.size,4,none⟩=some (.bool false):=by rw[hW];simp
 have HB:Hid (But [] w W):=by show But _ _ _;rw[hW];exact (But.refl _ _).alloc _
 have HW:=hide hW
 clear hW
 go_enter func103,ntmps103
 go_wp2_with fail
 rw[← za HW]
 clear HW
 generalize w.heap.size=g at *
 refine (za RD _).mono ?_
 rintro e w1 ⟨v1,rfl,hv1,hb1⟩
 replace c1:=hb1.zb c1 (by simp)
 replace c2:=hb1.zb c2 (by simp)
 replace c3:=hb1.zb c3 (by simp)
 replace c4:=hb1.zb c4 (by simp)
 replace HB:Hid (But [] w w1):=(za HB).trans' hb1
 have H1:=hide hv1
 clear hv1 hb1
 go_wp2_with fail
 refine (jo 1 (by omega) _).mono ?_
 rintro e w2 ⟨v2,rfl,hv2,hb2,-⟩
 replace c1:=hb2.zb c1 (by simp)
 replace c2:=hb2.zb c2 (by simp)
 replace c3:=hb2.zb c3 (by simp)
 replace c4:=hb2.zb c4 (by simp)
 replace HB:Hid (But [] w w2):=(za HB).trans' hb2
 replace H1:=hide ((za H1).ze hb2)
 have H2:=hide hv2
 clear hv2 hb2
 go_wp2
 go_ret2
 exact⟨v1,v2,rfl,za H1,za H2,za HB⟩
theorem zvp (s:Bool) (tw tb:ByteArray) (ds:List UInt8) (w:World) (ht:tw.data.toList=ds) (hd:yw ds) (hl:ds.length<1000) (es:List UInt8) (he:tb.data.toList=es) (hde:yw es) (hel:es.length<1000) :
  Calls prog 103 #[wrt s tw 47 tb] w fun e w'=>∃ v1 v2,e=.returned (.tuple #[v1,v2])∧Sl .u64 w' v1 (wd 18446744073709551616 (vv ds))∧Sl .u64 w' v2 (wd 18446744073709551616 (vv es))∧But [] w w':=by
 unfold wrt
 have RD:=hide (fun W=>zdr tw ds W ht hd (by omega))
 have RE:=hide (fun W=>zdr tb es W he hde (by omega))
 clear ht hd hl he hde hel
 obtain⟨W,hW⟩:∃ W,W=w.alloc (.cells #[.bool s,.string tw,.int .u8 47,.string tb,.bool false] 173):=⟨_,rfl⟩
 have c1:W.cell? ⟨w.heap.size,1,none⟩=some (.string tw):=by rw[hW];simp
 have c2:W.cell? ⟨w.heap.size,2,none⟩=some (.int .u8 47):=by rw[hW];simp
 have c3:W.cell? ⟨w.heap.size,3,none⟩=some (.string tb):=by rw[hW];simp
 have c4:W.cell? ⟨w.heap.size,4,none⟩=some (.bool false):=by rw[hW];simp
 have HB:Hid (But [] w W):=by show But _ _ _;rw[hW];exact (But.refl _ _).alloc _
 have HW:=hide hW
 clear hW
 go_enter func103,ntmps103
 go_wp2_with fail
 rw[← za HW]
 clear HW
 generalize w.heap.size=g at *
 refine (za RD _).mono ?_
 rintro e w1 ⟨v1,rfl,hv1,hb1⟩
 replace c1:=hb1.zb c1 (by simp)
 replace c2:=hb1.zb c2 (by simp)
 replace c3:=hb1.zb c3 (by simp)
 replace c4:=hb1.zb c4 (by simp)
 replace HB:Hid (But [] w w1):=(za HB).trans' hb1
 have H1:=hide hv1
 clear hv1 hb1
 go_wp2_with fail
 refine (jo 1 (by omega) _).mono ?_
 rintro e w2 ⟨v2,rfl,hv2,hb2,-⟩
 replace c1:=hb2.zb c1 (by simp)
 replace c2:=hb2.zb c2 (by simp)
 replace c3:=hb2.zb c3 (by simp)
 replace c4:=hb2.zb c4 (by simp)
 replace HB:Hid (But [] w w2):=(za HB).trans' hb2
 replace H1:=hide ((za H1).ze hb2)
 have H2:=hide hv2
 clear hv2 hb2
 go_wp2_with fail
 refine (za RE _).mono ?_
 rintro e w3 ⟨v3,rfl,hv3,hb3⟩
 replace c1:=hb3.zb c1 (by simp)
 replace c2:=hb3.zb c2 (by simp)
 replace c3:=hb3.zb c3 (by simp)
 replace c4:=hb3.zb c4 (by simp)
 replace HB:Hid (But [] w w3):=(za HB).trans' hb3
 replace H1:=hide ((za H1).ze hb3)
 replace H2:=hide ((za H2).ze hb3)
 have H3:=hide hv3
 clear hv3 hb3
 go_wp2
 go_ret2
 exact⟨v1,v3,rfl,za H1,za H3,za HB⟩
theorem zox (t:ByteArray) (s:Bool) (k n1 n2:Int) (P:ByteArray→ByteArray→Prop) (h1:n1≤60) (h2:n2≤60) (X Y:Nat) (hY:0<Y) (lx:(wd 18446744073709551616 X).length≤1000000) (ly:(wd 18446744073709551616 Y).length≤1000000) (f:Rat) (hf:f.num*(Y:Int)=sgn s X*(f.den:Int)) (w:World)
  (CU:Hid (∀ W,Calls prog 100 #[.string t] W fun e w'=>∃ tw tb,e=.returned (.tuple #[.agg #[.bool s,.string tw,.int .u8 k,.string tb,.bool false],.int .i64 (-1)])∧P tw tb∧But [] W w'))
  (AB:Hid (∀ tw tb,P tw tb→∀ W,Calls prog 101 #[.agg #[.bool s,.string tw,.int .u8 k,.string tb,.bool false]] W fun e w'=>e=.returned (.int .i64 n1)∧But [] W w'))
  (UN:Hid (∀ tw tb,P tw tb→∀ W,Calls prog 102 #[.agg #[.bool s,.string tw,.int .u8 k,.string tb,.bool false]] W fun e w'=>e=.returned (.int .i64 n2)∧But [] W w'))
  (NU:Hid (∀ tw tb,P tw tb→∀ W,Calls prog 103 #[.agg #[.bool s,.string tw,.int .u8 k,.string tb,.bool false]] W fun e w'=>∃ v1 v2,e=.returned (.tuple #[v1,v2])∧Sl .u64 w' v1 (wd 18446744073709551616 X)∧Sl .u64 w' v2 (wd 18446744073709551616 Y)∧But [] W w')) :
  Calls prog 66 #[.string t] w fun e w'=>∃ v,e=.returned (.tuple #[v,.nilIface])∧zi w' v f∧But [] w w':=by
 have hyl:0<(wd 18446744073709551616 Y).length:=by rw[Nat.pos_iff_ne_zero];intro e;rw[qo (by omega)] at e;omega
 have ON:=hide (fun (W:World) (v1 v2:Value) (a:Sl .u64 W v1 (wd 18446744073709551616 X)) (b:Sl .u64 W v2 (wd 18446744073709551616 Y))=>znu s v1 v2 X Y W a b hY lx ly f hf)
 have d1:decide (60<n1)=false:=decide_eq_false (by omega)
 have d2:decide (60<n2)=false:=decide_eq_false (by omega)
 obtain⟨W,hW⟩:∃ W,W=w.alloc (.cells #[.bool false,.int .u64 0,.int .u64 0,.pointer none] 35):=⟨_,rfl⟩
 have r0:W.cell? ⟨w.heap.size,0,none⟩=some (.bool false):=by rw[hW];simp
 have r1:W.cell? ⟨w.heap.size,1,none⟩=some (.int .u64 0):=by rw[hW];simp
 have r2:W.cell? ⟨w.heap.size,2,none⟩=some (.int .u64 0):=by rw[hW];simp
 have r3:W.cell? ⟨w.heap.size,3,none⟩=some (.pointer none):=by rw[hW];simp
 have fz:∀ j,W.frozen? ⟨w.heap.size,j,none⟩=false:=fun j=>by rw[hW];simp
 have BL:Hid (Blank W w.heap.size):=⟨r0,r1,r2,r3,fun j hj=>by rw[hW,World.cell?_alloc_new];simp;omega⟩
 have HB:Hid (But [] w W):=by show But _ _ _;rw[hW];exact (But.refl _ _).alloc _
 have HW:=hide hW
 clear hW hf lx ly hY
 go_enter func66,ntmps66
 go_wp2_with fail
 rw[← za HW]
 obtain⟨gr,hgr⟩:∃ gr,gr=w.heap.size:=⟨_,rfl⟩
 rw[← hgr] at r0 r1 r2 r3 fz BL
 rw[← hgr]
 have HGR:Hid (w.heap.size≤gr):=by show _≤_;omega
 clear hgr HW
 have grl:gr<W.heap.size:=lt_of_cell r0
 refine (za CU _).mono ?_
 rintro e w1 ⟨tw,tb,rfl,hP,hb1⟩
 have AB':=hide (za AB tw tb hP)
 have UN':=hide (za UN tw tb hP)
 have NU':=hide (za NU tw tb hP)
 have KW:=hide hb1
 clear AB UN NU CU hP hb1
 go_wp2_with fail
 obtain⟨W1,hW1⟩:∃ W1,W1=w1.alloc (.cells #[.bool s,.string tw,.int .u8 k,.string tb,.bool false] 173):=⟨_,rfl⟩
 have c0:W1.cell? ⟨w1.heap.size,0,none⟩=some (.bool s):=by rw[hW1];simp
 have c1:W1.cell? ⟨w1.heap.size,1,none⟩=some (.string tw):=by rw[hW1];simp
 have c2:W1.cell? ⟨w1.heap.size,2,none⟩=some (.int .u8 k):=by rw[hW1];simp
 have c3:W1.cell? ⟨w1.heap.size,3,none⟩=some (.string tb):=by rw[hW1];simp
 have c4:W1.cell? ⟨w1.heap.size,4,none⟩=some (.bool false):=by rw[hW1];simp
 have KW1:Hid (But [] W W1):=by show But _ _ _;rw[hW1];exact (za KW).alloc _
 rw[← hW1]
 clear hW1 KW
 generalize w1.heap.size=gw at *
 refine (za AB' _).mono ?_
 rintro e w2 ⟨rfl,hb⟩
 replace c0:=hb.zb c0 (by simp)
 replace c1:=hb.zb c1 (by simp)
 replace c2:=hb.zb c2 (by simp)
 replace c3:=hb.zb c3 (by simp)
 replace c4:=hb.zb c4 (by simp)
 replace KW1:Hid (But [] W w2):=(za KW1).trans' hb
 clear hb
 go_wp2_with fail
 refine (za UN' _).mono ?_
 rintro e w3 ⟨rfl,hb⟩
 replace c0:=hb.zb c0 (by simp)
 replace c1:=hb.zb c1 (by simp)
 replace c2:=hb.zb c2 (by simp)
 replace c3:=hb.zb c3 (by simp)
 replace c4:=hb.zb c4 (by simp)
 replace KW1:Hid (But [] W w3):=(za KW1).trans' hb
 clear hb
 go_wp2_with fail
 refine (za NU' _).mono ?_
 rintro e w4 ⟨v1,v2,rfl,hv1,hv2,hb⟩
 replace c0:=hb.zb c0 (by simp)
 replace c1:=hb.zb c1 (by simp)
 replace c2:=hb.zb c2 (by simp)
 replace c3:=hb.zb c3 (by simp)
 replace c4:=hb.zb c4 (by simp)
 replace KW1:Hid (But [] W w4):=(za KW1).trans' hb
 have H1:=hide hv1
 have H2:=hide hv2
 obtain⟨a2,e2,rfl,-,-⟩:=hv2
 clear hv1
 clear hb
 generalize (wd 18446744073709551616 Y).length=ny at *
 have n0:((ny:Int)==0)=false:=beq_eq_false_iff_ne.2 (by omega)
 go_wp2_with fail
 refine (za ON _ v1 _ (za H1) (za H2)).mono ?_
 rintro e w5 ⟨vr,rfl,hvr,hb⟩
 have K5:But [] W w5:=(za KW1).trans' hb
 have B5:Hid (But [] w w5):=(za HB).trans' K5
 have HVR:=hide hvr
 obtain⟨x8,y8,p8,rfl,-⟩:=hvr.agg
 generalize decide (f.num<0)=r8 at *
 have u0:=K5.zb r0 (by simp)
 have u1:=K5.zb r1 (by simp)
 have u2:=K5.zb r2 (by simp)
 have u3:=K5.zb r3 (by simp)
 have uf:∀ j,w5.frozen? ⟨gr,j,none⟩=false:=fun j=>(K5.frozen (p:=⟨gr,j,none⟩) grl (by simp)).trans (fz j)
 have BL5:Hid (Blank w5 gr):=(za BL).but K5
 clear hvr hb K5 r0 r1 r2 r3 fz grl c0 c1 c2 c3 c4
 go_wp2
 have hBg:But [gr] w5 ((((w5.setCell ⟨gr,0,none⟩ (.bool r8)).setCell ⟨gr,1,none⟩ (.int .u64 x8)).setCell ⟨gr,2,none⟩ (.int .u64 y8)).setCell ⟨gr,3,none⟩ (.pointer p8)):=(((((But.refl [gr] w5).setCell (.inl (by simp)) _).setCell (.inl (by simp)) _).setCell (.inl (by simp)) _).setCell (.inl (by simp)) _)
 have hBf:=((((za B5).setCell (p:=⟨gr,0,none⟩) (.inr (za HGR)) (.bool r8)).setCell (p:=⟨gr,1,none⟩) (.inr (za HGR)) (.int .u64 x8)).setCell (p:=⟨gr,2,none⟩) (.inr (za HGR)) (.int .u64 y8)).setCell (p:=⟨gr,3,none⟩) (.inr (za HGR)) (.pointer p8)
 exact bodyPost_ret (v:=.tuple #[.agg #[.bool r8,.int .u64 x8,.int .u64 y8,.pointer p8],.nilIface]) (by simp[results,results66,go_sem,u0,u1,u2,u3]) rfl ⟨_,rfl,(za BL5).zav (za HVR) hBg,hBf⟩
theorem zfm {ds:List UInt8} (hd:yw ds) (hl:ds.length≤1000000):(wd 18446744073709551616 (vv ds)).length≤1000000 :=
 Nat.le_trans (zt (B:=18446744073709551616) (by omega) _ ds.length (Nat.lt_of_lt_of_le (zjw hd) (Nat.pow_le_pow_left (by omega) _))) hl
theorem ig {t:ByteArray} {ds:List UInt8} (h:t.data.toList=ds):t.size=ds.length:=by rw[← h];simp
def sg (s:Bool):List UInt8:=if s then [45] else []
theorem zst (t:ByteArray) (s:Bool) (ds:List UInt8) (w:World) (ht:t.data.toList=sg s++ds) (hd:yw ds) (h0:0<ds.length) (hl:ds.length≤60) (f:Rat) (hf:f.num=sgn s (vv ds)*(f.den:Int)) :
  Calls prog 66 #[.string t] w fun e w'=>∃ v,e=.returned (.tuple #[v,.nilIface])∧zi w' v f∧But [] w w':=by
 refine zox t s 0 (ds.length:Int) 1 (fun tw tb=>tw.data.toList=ds∧tb=⟨#[]⟩) (by omega) (by omega) (vv ds) 1 (by omega) (zfm hd (by omega)) (Nat.le_trans (zt (by omega) _ 1 (by omega)) (by omega)) f (by simpa using hf) w ?_ ?_ ?_ ?_
 ·intro W
  cases s
  ·refine (qat t ds W ht hd h0 (by omega)).mono ?_
   rintro e w' ⟨tw,rfl,h1,h2⟩
   exact⟨tw,⟨#[]⟩,rfl,⟨h1,rfl⟩,h2⟩
  ·refine (zoe t ds W ht hd h0 (by omega)).mono ?_
   rintro e w' ⟨tw,rfl,h1,h2⟩
   exact⟨tw,⟨#[]⟩,rfl,⟨h1,rfl⟩,h2⟩
 ·rintro tw tb ⟨h1,rfl⟩ W
  have h:=zoj s tw ⟨#[]⟩ W (by rw[ig h1];omega) (by decide)
  rw[ig h1] at h
  exact h
 ·rintro tw tb ⟨h1,rfl⟩ W
  exact znn s tw ⟨#[]⟩ W (by rw[ig h1];omega) (by decide)
 ·rintro tw tb ⟨h1,rfl⟩ W
  exact zzw s tw ds W h1 hd (by omega)
theorem zvg (t:ByteArray) (s:Bool) (ds es:List UInt8) (w:World) (ht:t.data.toList=sg s++ds++(47::es)) (hd:yw ds) (h0:0<ds.length) (hl:ds.length≤60) (hde:yw es) (he0:0<es.length) (hel:es.length≤60) (hpos:0<vv es) (f:Rat) (hf:f.num*(vv es:Int)=sgn s (vv ds)*(f.den:Int)) :
  Calls prog 66 #[.string t] w fun e w'=>∃ v,e=.returned (.tuple #[v,.nilIface])∧zi w' v f∧But [] w w':=by
 refine zox t s 47 (ds.length:Int) (es.length:Int) (fun tw tb=>tw.data.toList=ds∧tb.data.toList=es) (by omega) (by omega) (vv ds) (vv es) hpos (zfm hd (by omega)) (zfm hde (by omega)) f hf w ?_ ?_ ?_ ?_
 ·intro W
  cases s
  ·refine (qau t ds es W ht hd h0 (by omega) hde he0 (by omega)).mono ?_
   rintro e w' ⟨tw,tb,rfl,h1,h2,h3⟩
   exact⟨tw,tb,rfl,⟨h1,h2⟩,h3⟩
  ·refine (zra t ds es W ht hd h0 (by omega) hde he0 (by omega)).mono ?_
   rintro e w' ⟨tw,tb,rfl,h1,h2,h3⟩
   exact⟨tw,tb,rfl,⟨h1,h2⟩,h3⟩
 ·rintro tw tb ⟨h1,h2⟩ W
  have h:=znf s tw tb W (by rw[ig h1];omega) (by rw[ig h2];omega)
  rw[ig h1] at h
  exact h
 ·rintro tw tb ⟨h1,h2⟩ W
  have h:=zkd s tw tb W (by rw[ig h1];omega) (by rw[ig h2];omega)
  rw[ig h2] at h
  exact h
 ·rintro tw tb ⟨h1,h2⟩ W
  exact zvp s tw tb ds W h1 hd (by omega) es h2 hde (by omega)
theorem ztw (n m:Nat) (hm:0<m) (h:n<10^m):(Lib.decDigits n).length≤m:=by
 rcases Nat.eq_zero_or_pos n with rfl | h0
 ·rw[Lib.decDigits_length,Lib.nDigits_small (by omega)];omega
 ·rw[← zla n h0,List.length_reverse];exact zbb n m h
theorem zlh (t:ByteArray) (f:Rat) (w:World) (ht:t=ru (decide (f.num<0)) f.num.natAbs f.den) (hN:f.num.natAbs < 18446744073709551616) (hD:f.den < 18446744073709551616) :
  Calls prog 66 #[.string t] w fun e w'=>∃ v,e=.returned (.tuple #[v,.nilIface])∧zi w' v f∧But [] w w':=by
 obtain⟨d1,d2,d3⟩:=zmt f.num.natAbs
 obtain⟨e1,e2,e3⟩:=zmt f.den
 have l1:=ztw f.num.natAbs 20 (by omega) (by omega)
 have l2:=ztw f.den 20 (by omega) (by omega)
 have hs:f.num=sgn (decide (f.num<0)) f.num.natAbs:=by
  unfold sgn
  by_cases h:f.num<0
  ·rw[if_pos (decide_eq_true h)];omega
  ·rw[if_neg (by simpa using h)];omega
 have hsg:∀ s:Bool,∀ x:ByteArray,(if s then (⟨#[45]⟩:ByteArray)++x else x).data.toList=sg s++x.data.toList:=fun s x=>by
  cases s
  ·simp[sg]
  ·simp[sg]
 by_cases hq:f.den=1
 ·refine zst t (decide (f.num<0)) (Lib.decDigits f.num.natAbs) w ?_ d1 d3 (by omega) f ?_
  ·rw[ht]
   unfold ru
   rw[if_pos hq,qgp,hsg]
  ·rw[d2,← hs,hq];simp
 ·refine zvg t (decide (f.num<0)) (Lib.decDigits f.num.natAbs) (Lib.decDigits f.den) w ?_ d1 d3 (by omega) e1 e3 (by omega) (by rw[e2];exact den_pos f) f ?_
  ·rw[ht]
   unfold ru
   rw[if_neg hq,zxy,hsg,zxy]
   rfl
  ·rw[d2,e2,← hs]
end Go.Proofs.YtcgecpoedojhjaaGreatDoor
