/- A fraction of numbers that may have divi -/
import Derived.Shelf.Strings.Cut
import Derived.Test.YtagmkkiagjmimaaGreatDoorProg
import Derived.Test.YtagmkkiagjmimaaGreatDoorRF10
import Derived.Test.YtagmkkiagjmimaaGreatDoorRPv
import Derived.Test.YtagmkkiagjmimaaGreatDoorRQ3
import Derived.Test.YtagmkkiagjmimaaGreatDoorRT3r
namespace Go.Proofs.YtagmkkiagjmimaaGreatDoor
open Go.Proofs.Tryz
open Go.RowKit
set_option maxHeartbeats 8000000
set_option maxRecDepth 100000
theorem qkp (s:Bool) (X Y g:Nat) (hg:0<g) (hx:g ∣ X) (hy:g ∣ Y) (f:Rat) (hY:0<Y) (h:f.num*(Y:Int)=sgn s X*(f.den:Int)) (hc:Nat.Coprime (X/g) (Y/g)):f.num=sgn s (X/g)∧f.den=Y/g:=by(
have hyq:0<Y/g:=Nat.div_pos (Nat.le_of_dvd hY hy) hg
refine ig (sgn s (X/g)) (Y/g) (by omega) (by rw[jk];exact hc) f ?_
have e1:(Y:Int)=((Y/g:Nat):Int)*(g:Int):=by rw[← Int.natCast_mul,Nat.div_mul_cancel hy]
have e2:sgn s X=sgn s (X/g)*(g:Int):=by rw[← zak,Nat.div_mul_cancel hx]
rw[e1,e2] at h
have hg':(g:Int)≠0:=by omega
apply Int.eq_of_mul_eq_mul_right hg'
rw[Int.mul_assoc,h,Int.mul_right_comm])
theorem zot (s:Bool) (vx vy:Value) (X Y:Nat) (w:World) (hx:Sl .u64 w vx (wd 18446744073709551616 X)) (hy:Sl .u64 w vy (wd 18446744073709551616 Y)) (hY:0<Y) (lx:(wd 18446744073709551616 X).length≤1000000) (ly:(wd 18446744073709551616 Y).length≤1000000) (f:Rat) (hf:f.num*(Y:Int)=sgn s X*(f.den:Int)) :
  Calls prog 238 #[.bool s,vx,vy] w fun e w'=>∃ v,e=.returned v∧am w' v f∧But [] w w':=by(
obtain⟨g,hg⟩:∃ g,g=Nat.gcd X Y:=⟨_,rfl⟩
have hg0:0<g:=by rw[hg];exact Nat.gcd_pos_of_pos_right _ hY
have hgl:(wd 18446744073709551616 g).length≤1000000:=Nat.le_trans (au (by rw[hg];exact Nat.gcd_le_right _ hY)) ly
obtain⟨f1,f2⟩:=qkp s X Y g hg0 (by rw[hg];exact Nat.gcd_dvd_left _ _) (by rw[hg];exact Nat.gcd_dvd_right _ _) f hY hf (by rw[hg];exact Nat.coprime_div_gcd_div_gcd (by omega))
have GC:Hid (∀ W,But [] w W→Calls prog 168 #[vx,vy] W fun e w'=>∃ v,e=.returned v∧Sl .u64 w' v (wd 18446744073709551616 g)∧But [] W w'):=fun W hb=>by
 rw[hg]
 exact zcd vx vy X Y W (hx.ah hb) (hy.ah hb) lx ly
have Q1:Hid (∀ W v,But [] w W→Sl .u64 W v (wd 18446744073709551616 g)→Calls prog 170 #[vx,v] W fun e w'=>∃ v1,e=.returned v1∧Sl .u64 w' v1 (wd 18446744073709551616 (X/g))∧But [] W w'):=fun W v hb h=>xq vx v _ _ W (hx.ah hb) h hg0 (by omega) (by omega) (Short.of _ _ lx)
have Q2:Hid (∀ W v,But [] w W→Sl .u64 W v (wd 18446744073709551616 g)→Calls prog 170 #[vy,v] W fun e w'=>∃ v1,e=.returned v1∧Sl .u64 w' v1 (wd 18446744073709551616 (Y/g))∧But [] W w'):=fun W v hb h=>xq vy v _ _ W (hy.ah hb) h hg0 (by omega) (by omega) (Short.of _ _ ly)
have habs:f.num.natAbs=X/g:=by rw[f1,jk]
have OL:Hid (∀ W v1 v2,Sl .u64 W v1 (wd 18446744073709551616 (X/g))→Sl .u64 W v2 (wd 18446744073709551616 (Y/g))→Calls prog 169 #[.bool s,v1,v2] W fun e w'=>∃ v,e=.returned v∧am w' v f∧But [] W w'):=fun W v1 v2 h1 h2=>oq s v1 v2 f W (by rw[habs];exact h1) (by rw[f2];exact h2) (by rw[habs];exact f1) (by rw[habs];have:=zam X g 1000000 lx;omega) (by rw[f2];have:=zam Y g 1000000 ly;omega)
obtain⟨a1,d1,rfl,-,-⟩:=hx
obtain⟨a2,d2,rfl,-,-⟩:=hy
clear hg hg0 hgl f1 f2 habs lx ly hf
generalize (wd 18446744073709551616 X).length=n1 at *
generalize (wd 18446744073709551616 Y).length=n2 at *
obtain⟨W,hW⟩:∃ W,W=w.alloc (.cells #[.bool false,.int .u64 0,.int .u64 0,.pointer none] 27):=⟨_,rfl⟩
have r0:W.cell? ⟨w.heap.size,0,none⟩=some (.bool false):=by rw[hW];simp
have r1:W.cell? ⟨w.heap.size,1,none⟩=some (.int .u64 0):=by rw[hW];simp
have r2:W.cell? ⟨w.heap.size,2,none⟩=some (.int .u64 0):=by rw[hW];simp
have r3:W.cell? ⟨w.heap.size,3,none⟩=some (.pointer none):=by rw[hW];simp
have fz:∀ j,W.frozen? ⟨w.heap.size,j,none⟩=false:=fun j=>by rw[hW];simp
have BL:Hid (Blank W w.heap.size):=⟨r0,r1,r2,r3,fun j hj=>by rw[hW,World.cell?_alloc_new];simp;omega⟩
have HB:Hid (But [] w W):=by show But _ _ _;rw[hW];exact (But.refl _ _).alloc _
have HW:=af hW
clear hW
go_enter func238,ntmps238
go_wp2_with fail
rw[← ae HW]
obtain⟨gr,hgr⟩:∃ gr,gr=w.heap.size:=⟨_,rfl⟩
rw[← hgr] at r0 r1 r2 r3 fz BL
rw[← hgr]
have HGR:Hid (w.heap.size≤gr):=by show _≤_;omega
clear hgr HW
have grl:gr<W.heap.size:=ai r0
refine (ae GC _ (ae HB)).mono ?_
rintro e w1 ⟨vg,rfl,hvg,hb1⟩
have HVG:=af hvg
have K1:=af hb1
have B1:Hid (But [] w w1):=(ae HB).trans' hb1
clear hvg hb1
go_wp2_with fail
refine (ae Q1 _ vg (ae B1) (ae HVG)).mono ?_
rintro e w2 ⟨v1,rfl,hv1,hb2⟩
have HV1:=af hv1
have HVG2:=af ((ae HVG).ah hb2)
have K2:Hid (But [] W w2):=(ae K1).trans' hb2
have B2:Hid (But [] w w2):=(ae B1).trans' hb2
clear hv1 hb2
go_wp2_with fail
refine (ae Q2 _ vg (ae B2) (ae HVG2)).mono ?_
rintro e w3 ⟨v2,rfl,hv2,hb3⟩
have HV2:=af hv2
have HV13:=af ((ae HV1).ah hb3)
have K3:Hid (But [] W w3):=(ae K2).trans' hb3
have B3:Hid (But [] w w3):=(ae B2).trans' hb3
clear hv2 hb3
go_wp2_with fail
refine (ae OL _ v1 v2 (ae HV13) (ae HV2)).mono ?_
rintro e w4 ⟨vr,rfl,hvr,hb4⟩
have K4:But [] W w4:=(ae K3).trans' hb4
have B4:Hid (But [] w w4):=(ae B3).trans' hb4
have HVR:=af hvr
obtain⟨x8,y8,p8,rfl,-⟩:=hvr.agg
generalize decide (f.num<0)=r8 at *
have u0:=K4.ag r0 (by simp)
have u1:=K4.ag r1 (by simp)
have u2:=K4.ag r2 (by simp)
have u3:=K4.ag r3 (by simp)
have uf:∀ j,w4.frozen? ⟨gr,j,none⟩=false:=fun j=>(K4.frozen (p:=⟨gr,j,none⟩) grl (by simp)).trans (fz j)
have BL4:Hid (Blank w4 gr):=(ae BL).but K4
clear hvr hb4 K4 r0 r1 r2 r3 fz grl
go_wp2
have hBg:But [gr] w4 ((((w4.setCell ⟨gr,0,none⟩ (.bool r8)).setCell ⟨gr,1,none⟩ (.int .u64 x8)).setCell ⟨gr,2,none⟩ (.int .u64 y8)).setCell ⟨gr,3,none⟩ (.pointer p8)):=(((((But.refl [gr] w4).setCell (.inl (by simp)) _).setCell (.inl (by simp)) _).setCell (.inl (by simp)) _).setCell (.inl (by simp)) _)
have hBf:=((((ae B4).setCell (p:=⟨gr,0,none⟩) (.inr (ae HGR)) (.bool r8)).setCell (p:=⟨gr,1,none⟩) (.inr (ae HGR)) (.int .u64 x8)).setCell (p:=⟨gr,2,none⟩) (.inr (ae HGR)) (.int .u64 y8)).setCell (p:=⟨gr,3,none⟩) (.inr (ae HGR)) (.pointer p8)
exact bodyPost_ret (v:=.agg #[.bool r8,.int .u64 x8,.int .u64 y8,.pointer p8]) (by simp[results,results238,go_sem,u0,u1,u2,u3]) rfl ⟨_,rfl,(ae BL4).zlh (ae HVR) hBg,hBf⟩)
def wrt (s:Bool) (tw:ByteArray) (k:Int) (tb:ByteArray):Value:=.agg #[.bool s,.string tw,.int .u8 k,.string tb,.bool false]
theorem zpg (s:Bool) (tw tb:ByteArray) (w:World) (_h1:tw.size<1000) (_h2:tb.size<1000) :
  Calls prog 235 #[wrt s tw 0 tb] w fun e w'=>e=.returned (.int .i64 ((tw.size:Int)))∧But [] w w':=by(
unfold wrt
go_enter func235,ntmps235
go_wp2
go_ret
exact⟨rfl,(But.refl _ _).alloc _⟩)
theorem zoi (s:Bool) (tw tb:ByteArray) (w:World) (_h1:tw.size<1000) (h2:tb.size<1000) :
  Calls prog 236 #[wrt s tw 0 tb] w fun e w'=>e=.returned (.int .i64 (1+(tb.size:Int)))∧But [] w w':=by(
unfold wrt
go_enter func236,ntmps236
go_wp2
go_ret
exact⟨rfl,(But.refl _ _).alloc _⟩)
theorem qde (s:Bool) (tw:ByteArray) (ds:List UInt8) (w:World) (ht:tw.data.toList=ds) (hd:zaj ds) (hl:ds.length<1000) :
  Calls prog 237 #[wrt s tw 0 ⟨#[]⟩] w fun e w'=>∃ v1 v2,e=.returned (.tuple #[v1,v2])∧Sl .u64 w' v1 (wd 18446744073709551616 (jo ds))∧Sl .u64 w' v2 (wd 18446744073709551616 (1))∧But [] w w':=by(
unfold wrt
have RD:=af (fun W=>zve tw ds W ht hd (by omega))
clear ht hd hl
obtain⟨W,hW⟩:∃ W,W=w.alloc (.cells #[.bool s,.string tw,.int .u8 0,.string ⟨#[]⟩,.bool false] 269):=⟨_,rfl⟩
have c1:W.cell? ⟨w.heap.size,1,none⟩=some (.string tw):=by rw[hW];simp
have c2:W.cell? ⟨w.heap.size,2,none⟩=some (.int .u8 0):=by rw[hW];simp
have c3:W.cell? ⟨w.heap.size,3,none⟩=some (.string ⟨#[]⟩):=by rw[hW];simp
have c4:W.cell? ⟨w.heap.size,4,none⟩=some (.bool false):=by rw[hW];simp
have HB:Hid (But [] w W):=by show But _ _ _;rw[hW];exact (But.refl _ _).alloc _
have HW:=af hW
clear hW
go_enter func237,ntmps237
go_wp2_with fail
rw[← ae HW]
clear HW
generalize w.heap.size=g at *
refine (ae RD _).mono ?_
rintro e w1 ⟨v1,rfl,hv1,hb1⟩
replace c1:=hb1.ag c1 (by simp)
replace c2:=hb1.ag c2 (by simp)
replace c3:=hb1.ag c3 (by simp)
replace c4:=hb1.ag c4 (by simp)
replace HB:Hid (But [] w w1):=(ae HB).trans' hb1
have H1:=af hv1
clear hv1 hb1
go_wp2_with fail
refine (ji 1 (by omega) _).mono ?_
rintro e w2 ⟨v2,rfl,hv2,hb2,-⟩
replace c1:=hb2.ag c1 (by simp)
replace c2:=hb2.ag c2 (by simp)
replace c3:=hb2.ag c3 (by simp)
replace c4:=hb2.ag c4 (by simp)
replace HB:Hid (But [] w w2):=(ae HB).trans' hb2
replace H1:=af ((ae H1).ah hb2)
have H2:=af hv2
clear hv2 hb2
go_wp2
go_ret2
exact⟨v1,v2,rfl,ae H1,ae H2,ae HB⟩)
theorem qby (t:ByteArray) (s:Bool) (k n1 n2:Int) (P:ByteArray→ByteArray→Prop) (h1:n1≤60) (h2:n2≤60) (X Y:Nat) (hY:0<Y) (lx:(wd 18446744073709551616 X).length≤1000000) (ly:(wd 18446744073709551616 Y).length≤1000000) (f:Rat) (hf:f.num*(Y:Int)=sgn s X*(f.den:Int)) (w:World)
  (CU:Hid (∀ W,Calls prog 234 #[.string t] W fun e w'=>∃ tw tb,e=.returned (.tuple #[.agg #[.bool s,.string tw,.int .u8 k,.string tb,.bool false],.int .i64 (-1)])∧P tw tb∧But [] W w'))
  (AB:Hid (∀ tw tb,P tw tb→∀ W,Calls prog 235 #[.agg #[.bool s,.string tw,.int .u8 k,.string tb,.bool false]] W fun e w'=>e=.returned (.int .i64 n1)∧But [] W w'))
  (UN:Hid (∀ tw tb,P tw tb→∀ W,Calls prog 236 #[.agg #[.bool s,.string tw,.int .u8 k,.string tb,.bool false]] W fun e w'=>e=.returned (.int .i64 n2)∧But [] W w'))
  (NU:Hid (∀ tw tb,P tw tb→∀ W,Calls prog 237 #[.agg #[.bool s,.string tw,.int .u8 k,.string tb,.bool false]] W fun e w'=>∃ v1 v2,e=.returned (.tuple #[v1,v2])∧Sl .u64 w' v1 (wd 18446744073709551616 X)∧Sl .u64 w' v2 (wd 18446744073709551616 Y)∧But [] W w')) :
  Calls prog 204 #[.string t] w fun e w'=>∃ v,e=.returned (.tuple #[v,.nilIface])∧am w' v f∧But [] w w':=by(
have hyl:0<(wd 18446744073709551616 Y).length:=by rw[Nat.pos_iff_ne_zero];intro e;rw[ze (by omega)] at e;omega
have ON:=af (fun (W:World) (v1 v2:Value) (a:Sl .u64 W v1 (wd 18446744073709551616 X)) (b:Sl .u64 W v2 (wd 18446744073709551616 Y))=>zot s v1 v2 X Y W a b hY lx ly f hf)
have d1:decide (60<n1)=false:=decide_eq_false (by omega)
have d2:decide (60<n2)=false:=decide_eq_false (by omega)
obtain⟨W,hW⟩:∃ W,W=w.alloc (.cells #[.bool false,.int .u64 0,.int .u64 0,.pointer none] 27):=⟨_,rfl⟩
have r0:W.cell? ⟨w.heap.size,0,none⟩=some (.bool false):=by rw[hW];simp
have r1:W.cell? ⟨w.heap.size,1,none⟩=some (.int .u64 0):=by rw[hW];simp
have r2:W.cell? ⟨w.heap.size,2,none⟩=some (.int .u64 0):=by rw[hW];simp
have r3:W.cell? ⟨w.heap.size,3,none⟩=some (.pointer none):=by rw[hW];simp
have fz:∀ j,W.frozen? ⟨w.heap.size,j,none⟩=false:=fun j=>by rw[hW];simp
have BL:Hid (Blank W w.heap.size):=⟨r0,r1,r2,r3,fun j hj=>by rw[hW,World.cell?_alloc_new];simp;omega⟩
have HB:Hid (But [] w W):=by show But _ _ _;rw[hW];exact (But.refl _ _).alloc _
have HW:=af hW
clear hW hf lx ly hY
go_enter func204,ntmps204
go_wp2_with fail
rw[← ae HW]
obtain⟨gr,hgr⟩:∃ gr,gr=w.heap.size:=⟨_,rfl⟩
rw[← hgr] at r0 r1 r2 r3 fz BL
rw[← hgr]
have HGR:Hid (w.heap.size≤gr):=by show _≤_;omega
clear hgr HW
have grl:gr<W.heap.size:=ai r0
refine (ae CU _).mono ?_
rintro e w1 ⟨tw,tb,rfl,hP,hb1⟩
have AB':=af (ae AB tw tb hP)
have UN':=af (ae UN tw tb hP)
have NU':=af (ae NU tw tb hP)
have KW:=af hb1
clear AB UN NU CU hP hb1
go_wp2_with fail
obtain⟨W1,hW1⟩:∃ W1,W1=w1.alloc (.cells #[.bool s,.string tw,.int .u8 k,.string tb,.bool false] 269):=⟨_,rfl⟩
have c0:W1.cell? ⟨w1.heap.size,0,none⟩=some (.bool s):=by rw[hW1];simp
have c1:W1.cell? ⟨w1.heap.size,1,none⟩=some (.string tw):=by rw[hW1];simp
have c2:W1.cell? ⟨w1.heap.size,2,none⟩=some (.int .u8 k):=by rw[hW1];simp
have c3:W1.cell? ⟨w1.heap.size,3,none⟩=some (.string tb):=by rw[hW1];simp
have c4:W1.cell? ⟨w1.heap.size,4,none⟩=some (.bool false):=by rw[hW1];simp
have KW1:Hid (But [] W W1):=by show But _ _ _;rw[hW1];exact (ae KW).alloc _
rw[← hW1]
clear hW1 KW
generalize w1.heap.size=gw at *
refine (ae AB' _).mono ?_
rintro e w2 ⟨rfl,hb⟩
replace c0:=hb.ag c0 (by simp)
replace c1:=hb.ag c1 (by simp)
replace c2:=hb.ag c2 (by simp)
replace c3:=hb.ag c3 (by simp)
replace c4:=hb.ag c4 (by simp)
replace KW1:Hid (But [] W w2):=(ae KW1).trans' hb
clear hb
go_wp2_with fail
refine (ae UN' _).mono ?_
rintro e w3 ⟨rfl,hb⟩
replace c0:=hb.ag c0 (by simp)
replace c1:=hb.ag c1 (by simp)
replace c2:=hb.ag c2 (by simp)
replace c3:=hb.ag c3 (by simp)
replace c4:=hb.ag c4 (by simp)
replace KW1:Hid (But [] W w3):=(ae KW1).trans' hb
clear hb
go_wp2_with fail
refine (ae NU' _).mono ?_
rintro e w4 ⟨v1,v2,rfl,hv1,hv2,hb⟩
replace c0:=hb.ag c0 (by simp)
replace c1:=hb.ag c1 (by simp)
replace c2:=hb.ag c2 (by simp)
replace c3:=hb.ag c3 (by simp)
replace c4:=hb.ag c4 (by simp)
replace KW1:Hid (But [] W w4):=(ae KW1).trans' hb
have H1:=af hv1
have H2:=af hv2
obtain⟨a2,e2,rfl,-,-⟩:=hv2
clear hv1
clear hb
generalize (wd 18446744073709551616 Y).length=ny at *
have n0:((ny:Int)==0)=false:=beq_eq_false_iff_ne.2 (by omega)
go_wp2_with fail
refine (ae ON _ v1 _ (ae H1) (ae H2)).mono ?_
rintro e w5 ⟨vr,rfl,hvr,hb⟩
have K5:But [] W w5:=(ae KW1).trans' hb
have B5:Hid (But [] w w5):=(ae HB).trans' K5
have HVR:=af hvr
obtain⟨x8,y8,p8,rfl,-⟩:=hvr.agg
generalize decide (f.num<0)=r8 at *
have u0:=K5.ag r0 (by simp)
have u1:=K5.ag r1 (by simp)
have u2:=K5.ag r2 (by simp)
have u3:=K5.ag r3 (by simp)
have uf:∀ j,w5.frozen? ⟨gr,j,none⟩=false:=fun j=>(K5.frozen (p:=⟨gr,j,none⟩) grl (by simp)).trans (fz j)
have BL5:Hid (Blank w5 gr):=(ae BL).but K5
clear hvr hb K5 r0 r1 r2 r3 fz grl c0 c1 c2 c3 c4
go_wp2
have hBg:But [gr] w5 ((((w5.setCell ⟨gr,0,none⟩ (.bool r8)).setCell ⟨gr,1,none⟩ (.int .u64 x8)).setCell ⟨gr,2,none⟩ (.int .u64 y8)).setCell ⟨gr,3,none⟩ (.pointer p8)):=(((((But.refl [gr] w5).setCell (.inl (by simp)) _).setCell (.inl (by simp)) _).setCell (.inl (by simp)) _).setCell (.inl (by simp)) _)
have hBf:=((((ae B5).setCell (p:=⟨gr,0,none⟩) (.inr (ae HGR)) (.bool r8)).setCell (p:=⟨gr,1,none⟩) (.inr (ae HGR)) (.int .u64 x8)).setCell (p:=⟨gr,2,none⟩) (.inr (ae HGR)) (.int .u64 y8)).setCell (p:=⟨gr,3,none⟩) (.inr (ae HGR)) (.pointer p8)
exact bodyPost_ret (v:=.tuple #[.agg #[.bool r8,.int .u64 x8,.int .u64 y8,.pointer p8],.nilIface]) (by simp[results,results204,go_sem,u0,u1,u2,u3]) rfl ⟨_,rfl,(ae BL5).zlh (ae HVR) hBg,hBf⟩)
theorem zyo {ds:List UInt8} (hd:zaj ds) (hl:ds.length≤1000000):(wd 18446744073709551616 (jo ds)).length≤1000000 :=
 Nat.le_trans (aj (B:=18446744073709551616) (by omega) _ ds.length (Nat.lt_of_lt_of_le (zlu hd) (Nat.pow_le_pow_left (by omega) _))) hl
theorem zbv {t:ByteArray} {ds:List UInt8} (h:t.data.toList=ds):t.size=ds.length:=by rw[← h];simp
def sg (s:Bool):List UInt8:=if s then [45] else []
theorem zut (t:ByteArray) (s:Bool) (ds:List UInt8) (w:World) (ht:t.data.toList=sg s++ds) (hd:zaj ds) (h0:0<ds.length) (hl:ds.length≤60) (f:Rat) (hf:f.num=sgn s (jo ds)*(f.den:Int)) :
  Calls prog 204 #[.string t] w fun e w'=>∃ v,e=.returned (.tuple #[v,.nilIface])∧am w' v f∧But [] w w':=by(
refine qby t s 0 (ds.length:Int) 1 (fun tw tb=>tw.data.toList=ds∧tb=⟨#[]⟩) (by omega) (by omega) (jo ds) 1 (by omega) (zyo hd (by omega)) (Nat.le_trans (aj (by omega) _ 1 (by omega)) (by omega)) f (by simpa using hf) w ?_ ?_ ?_ ?_
·(
intro W
cases s
·refine (qef t ds W ht hd h0 (by omega)).mono ?_
 rintro e w' ⟨tw,rfl,h1,h2⟩
 exact⟨tw,⟨#[]⟩,rfl,⟨h1,rfl⟩,h2⟩
·refine (zpd t ds W ht hd h0 (by omega)).mono ?_
 rintro e w' ⟨tw,rfl,h1,h2⟩
 exact⟨tw,⟨#[]⟩,rfl,⟨h1,rfl⟩,h2⟩)
·rintro tw tb ⟨h1,rfl⟩ W
 have h:=zpg s tw ⟨#[]⟩ W (by rw[zbv h1];omega) (by decide)
 rw[zbv h1] at h
 exact h
·rintro tw tb ⟨h1,rfl⟩ W
 exact zoi s tw ⟨#[]⟩ W (by rw[zbv h1];omega) (by decide)
·rintro tw tb ⟨h1,rfl⟩ W
 exact qde s tw ds W h1 hd (by omega))
end Go.Proofs.YtagmkkiagjmimaaGreatDoor
namespace Go.Proofs
open Go.Proofs.Tryz
open Go.Shelf Go.RowKit
def Tryz.lays145_ren : Go.Shelf.Ren := ⟨fun | 145 => 203 | 217 => 268 | 219 => 256 | 220 => 233 | 224 => 270 | 225 => 269 | 266 => 273 | 267 => 271 | 314 => 274 | n => n, fun | 3 => 3 | 4 => 4 | 5 => 5 | 9 => 9 | 46 => 207 | 51 => 238 | 59 => 242 | 146 => 294 | n => n, fun | 1 => 4 | n => n⟩
theorem Tryz.lays145 : Go.Proofs.Lays.n145 Tryz.prog Tryz.lays145_ren := {
  mixed := by kernel_rfl
  f145 := Tryz.func203.trans (congrArg some (by kernel_rfl))
  f217 := Tryz.func268.trans (congrArg some (by kernel_rfl))
  f219 := Tryz.func256.trans (congrArg some (by kernel_rfl))
  f220 := Tryz.func233.trans (congrArg some (by kernel_rfl))
  f224 := Tryz.func270.trans (congrArg some (by kernel_rfl))
  f225 := Tryz.func269.trans (congrArg some (by kernel_rfl))
  f266 := Tryz.func273.trans (congrArg some (by kernel_rfl))
  f267 := Tryz.func271.trans (congrArg some (by kernel_rfl))
  f314 := Tryz.func274.trans (congrArg some (by kernel_rfl))
  t3 := Tryz.underlying3
  a3 := Tryz.isAgg3
  z3 := Tryz.sizeOf3
  v3 := Tryz.zeroValue3
  t4 := Tryz.underlying4
  a4 := Tryz.isAgg4
  z4 := Tryz.sizeOf4
  v4 := Tryz.zeroValue4
  t5 := Tryz.underlying5
  a5 := Tryz.isAgg5
  z5 := Tryz.sizeOf5
  v5 := Tryz.zeroValue5
  t9 := Tryz.underlying9
  a9 := Tryz.isAgg9
  z9 := Tryz.sizeOf9
  v9 := Tryz.zeroValue9
  t46 := Tryz.underlying207
  a46 := Tryz.isAgg207
  z46 := Tryz.sizeOf207
  v46 := Tryz.zeroValue207
  t51 := Tryz.underlying238
  a51 := Tryz.isAgg238
  z51 := Tryz.sizeOf238
  v51 := Tryz.zeroValue238
  t59 := Tryz.underlying242
  a59 := Tryz.isAgg242
  z59 := Tryz.sizeOf242
  v59 := Tryz.zeroValue242
  t146 := Tryz.underlying294
  a146 := Tryz.isAgg294
  z146 := Tryz.sizeOf294
  v146 := Tryz.zeroValue294
  g1 := by kernel_rfl }
theorem ziq (d:UInt8):∀ (pre post:List UInt8),d ∉ pre→Lib.index (pre++d::post) [d]=(pre.length:Int)
 | [],post,_=>by simp[Lib.index,List.isPrefixOf]
 | b::l,post,h=>by
  have hb:¬ d=b:=fun e=>h (by simp[e])
  have ih:=ziq d l post (fun e=>h (by simp[e]))
  rw[List.cons_append,Lib.index,ih]
  have h1:([d].isPrefixOf (b::(l++d::post)))=false:=by simp[List.isPrefixOf,hb]
  rw[h1]
  have h2:(((l.length:Nat):Int)==-1)=false:=by rw[beq_eq_false_iff_ne];omega
  simp[h2]
theorem index_none (d:UInt8):∀ (l:List UInt8),d ∉ l→Lib.index l [d]=-1
 | [],_=>by simp[Lib.index]
 | b::l,h=>by
  have hb:¬ d=b:=fun e=>h (by simp[e])
  have ih:=index_none d l (fun e=>h (by simp[e]))
  rw[Lib.index,ih]
  have h1:([d].isPrefixOf (b::l))=false:=by simp[List.isPrefixOf,hb]
  rw[h1]
  simp
theorem qrm (d:UInt8) (l:List UInt8) (h:d ∉ l):Lib.cut l [d]=(l,[],false):=by(
unfold Lib.cut
rw[index_none d l h]
simp)
theorem zyr (d:UInt8) (pre post:List UInt8) (h:d ∉ pre):Lib.cut (pre++d::post) [d]=(pre,post,true):=by(
unfold Lib.cut
rw[ziq d pre post h,if_pos (by omega),Int.toNat_natCast]
simp)
theorem Tryz.strings_Cut (t:ByteArray) (d:UInt8) (pre post:List UInt8) (m:Int) (w:World) (ht:t.data.toList=pre++d::post) (hd:d ∉ pre) (hs:t.size<4294967281) (hm:w.cell? ⟨4,0,none⟩=some (.int .i64 m)) :
  Calls prog 203 #[.string t,.string ⟨#[d]⟩] w fun e w'=>e=.returned (.tuple #[.string ⟨pre.toArray⟩,.string ⟨post.toArray⟩,.bool true])∧∃ n,w'=w.drewN n:=by(
have h:=Any.strings_Cut Tryz.lays145 t ⟨#[d]⟩ m w hs hm
rw[ht,show (⟨#[d]⟩:ByteArray).data.toList=[d] from rfl,zyr d pre post hd] at h
exact h)
end Go.Proofs
namespace Go.Proofs.YtagmkkiagjmimaaGreatDoor
open Go.Proofs.Tryz
open Go.RowKit
set_option maxHeartbeats 16000000
set_option maxRecDepth 100000
theorem qdw (f:Rat) (r:Int) (hr:r=zbc (f.num*((((fl f:Int):Rat)).den:Int)) (((fl f:Int):Rat).num*(f.den:Int))):(r==0)=decide (f.den=1):=by(
obtain⟨e1,e2⟩:=bj (fl f)
rw[e1,e2] at hr
by_cases h:f.den=1
·have hw:=(zis f h).1
 rw[hw,h] at hr
 rw[hr,decide_eq_true h]
 simp[zbc]
·(
rw[decide_eq_false h,beq_eq_false_iff_ne]
intro e
rw[e] at hr
unfold zbc at hr
split at hr
·omega
·(
split at hr
·(
rename_i h1 h2
have h3:=qao h
have h4:f.num=fl f*(f.den:Int):=by omega
apply h3
rw[h4,Int.natAbs_mul,Int.natAbs_natCast]
exact Nat.mul_mod_left _ _)
·omega)))
theorem qkj (f:Rat) (h:f.den≠1):∃ pre:List UInt8,(ut (decide (f.num<0)) f.num.natAbs f.den).data.toList=pre++47::Lib.decDigits f.den∧(47:UInt8) ∉ pre:=by(
have hd:(47:UInt8) ∉ Lib.decDigits f.num.natAbs:=fun hm=>by
 have:=(znw f.num.natAbs).1 _ hm
 revert this
 decide
refine⟨(if decide (f.num<0)=true then [45] else [])++Lib.decDigits f.num.natAbs,?_,?_⟩
·(
unfold ut
rw[if_neg h]
by_cases hs:f.num<0
·simp[hs]
·simp[hs])
·by_cases hs:f.num<0
 ·simp[hs];exact hd
 ·simp[hs];exact hd)
theorem qhv (d:Nat):(((d:Int):Rat)).num=sgn false d*((((d:Int):Rat)).den:Int):=by(
obtain⟨e1,e2⟩:=bj (d:Int)
rw[e1,e2]
simp[sgn])
theorem qkn (n:Nat):zcb ((10:Int):Rat) n=(((10^n:Nat):Int):Rat):=by(
obtain⟨e1,e2⟩:=zgz ((10:Int):Rat) n
obtain⟨i1,i2⟩:=bj (10:Int)
obtain⟨j1,j2⟩:=bj ((10^n:Nat):Int)
rw[i1] at e1
rw[i2,Nat.one_pow] at e2
apply Rat.ext
·rw[e1,j1];simp
·rw[e2,j2])
theorem jq (d m:Nat) (h:d≤m) {L:Nat} (hL:(wd 18446744073709551616 m).length≤L) (h1:1≤L):Len (((d:Nat):Int):Rat) L:=by(
obtain⟨e1,e2⟩:=bj (d:Int)
refine⟨?_,?_⟩
·rw[e1,Int.natAbs_natCast]
 exact Nat.le_trans (au h) hL
·rw[e2]
 exact Nat.le_trans (aj (by omega) _ 1 (by omega)) h1)
theorem qbf (ds:List UInt8) (j n:Nat):jo (ds.take (j+n))=jo (ds.take j)*10^((ds.drop j).take n).length+jo ((ds.drop j).take n):=by
 rw[List.take_add,zbb]
theorem zqb (ds:List UInt8) (j:Nat):jo (ds.take j)≤jo ds:=by(
have h:=zbb (ds.take j) (ds.drop j)
rw[List.take_append_drop] at h
rw[h]
exact Nat.le_trans (Nat.le_mul_of_pos_right _ (Nat.pow_pos (by omega))) (Nat.le_add_right _ _))
theorem qhu (a b c d:Nat) (h:d=a*b+c):(((a:Nat):Int):Rat)*(((b:Nat):Int):Rat)+(((c:Nat):Int):Rat)=(((d:Nat):Int):Rat):=by
 subst h
 simp
theorem qln {f:Rat} {n:Nat} (h:Len f n) (hn:0<n):Len ((fl f:Int):Rat) (n+1):=by(
obtain⟨h1,h2⟩:=bj (fl f)
have h3:=h.lt
have hb:(fl f).natAbs≤f.num.natAbs+1:=by
 by_cases hd:f.den=1
 ·rw[(zis f hd).1];omega
 ·rw[zym f hd,jk]
  have:=Nat.div_le_self f.num.natAbs f.den
  split <;> omega
refine znk (m:=n+1) (n:=1) ?_ (by rw[h2,Nat.pow_one];omega) (n+1) (Nat.le_refl _) (by omega)
rw[h1,Nat.pow_succ]
have h4:0 < 18446744073709551616^n:=Nat.pow_pos (by omega)
omega)
def qqi (v:Value):Nat:=match v with
 | .string t=>t.size
 | _=>0
theorem qdl (v:Value) (f:Rat) (w:World) (m:Int) (hf:am w v f) (lf:Len f 400000) (htab:Lib.TabIs prog w "internal/strconv.uint64pow10" .u64 Lib.pow10Tab) (hm:w.cell? ⟨4,0,none⟩=some (.int .i64 m)) :
  Calls prog 165 #[v] w fun e w'=>∃ v',e=.returned v'∧am w' v' (((f.den:Nat):Int):Rat)∧But [] w w':=by(
obtain⟨x1,y1,p1,rfl,-⟩:=id hf.agg
generalize hsf:decide (f.num<0)=s1 at *
obtain⟨W,hW⟩:∃ W,W=(w.alloc (.cells #[.bool s1,.int .u64 x1,.int .u64 y1,.pointer p1] 27)).alloc (.cells #[.bool false,.int .u64 0,.int .u64 0,.pointer none] 27):=⟨_,rfl⟩
obtain⟨tA,tC,fz,hB⟩:=mh w W _ _ _ hW
have a0:=tA 0
have a1:=tA 1
have a2:=tA 2
have a3:=tA 3
have r0:=tC 0
have r1:=tC 1
have r2:=tC 2
have r3:=tC 3
simp only[List.getElem?_toArray,List.getElem?_cons_zero,List.getElem?_cons_succ] at a0 a1 a2 a3 r0 r1 r2 r3
obtain⟨r,hr⟩:∃ r,r=zbc (f.num*((((fl f:Int):Rat)).den:Int)) (((fl f:Int):Rat).num*(f.den:Int)):=⟨_,rfl⟩
have HR0:=af (qdw f r hr)
have lfl:Len ((fl f:Int):Rat) 33554431:=(qln lf (by omega)).mono (by omega)
have FL:=af (fun W' (hb:But [] w W')=>qdx _ f W' (hf.but hb) (lf.mono (by omega)))
have CM:=af (fun W' (hb:But [] w W') v' (hv':am W' v' ((fl f:Int):Rat))=>zcw _ v' f _ W' (hf.but hb) hv' (lf.mono (by omega)) lfl r hr)
have HF:=af hf
have HTAB:=af htab
have HM:=af hm
have LF:=af lf
have HB:=af hB
have HS:=af hsf
have C1:Hid (P4 W w.heap.size s1 x1 y1 p1):=⟨a0,a1,a2,a3⟩
have C2:Hid (az W (w.heap.size+1) 0):=⟨⟨false,0,0,none,⟨r0,r1,r2,r3⟩,dz _⟩,fz⟩
clear lfl hf htab hm lf hB a0 a1 a2 a3 r0 r1 r2 r3 tA tC hr hsf fz
go_enter func165,ntmps165
go_wp2
rw[← hW]
clear hW
have ho2:w.heap.size≤w.heap.size+1:=by omega
have O2:=af ho2
have l12:w.heap.size≠w.heap.size+1:=by omega
generalize hg2:w.heap.size+1=g2 at *
generalize hg1:w.heap.size=g1 at *
refine zox 1 _ _ W s1 x1 y1 p1 r ((fl f:Int):Rat) (by simp) g1 (by simp[Act.eval]) (ae C1) (fun w' hb=>ae FL w' ((ae HB).trans' hb)) (fun w' hb v' hv'=>ae CM w' ((ae HB).trans' hb) v' hv') ?_
intro w1 v2 hb1
simp only[bi,List.foldl_cons,List.foldl_nil,Act.put,List.setIfInBounds_toArray,List.set_cons_zero,List.set_cons_succ]
rw[ae HR0]
have B1:=af ((ae HB).trans' hb1)
have K1:=af ((ae C1).but hb1 (by simp))
have K2:=af ((ae C2).but hb1)
clear hb1 C1 C2 HB FL CM HR0
by_cases hd:f.den=1
·(
rw[decide_eq_true hd]
obtain⟨ws,wx,FW,CW⟩:=zar 1 (by omega) (by omega)
have CWH:=af CW
have FWH:=af FW
clear CW FW
obtain⟨⟨s2,x2,y2,p2,⟨c0,c1,c2,c3⟩,-⟩,z2⟩:=ae K2
go_wp2_with fail
refine (ae CWH _).mono ?_
rintro e w2 ⟨rfl,hb2⟩
have B2:=af hb2
have l2:g2<w1.heap.size:=ai c0
have z2':∀ j,w2.frozen? ⟨g2,j,none⟩=false:=fun j=>(hb2.frozen (p:=⟨g2,j,none⟩) l2 (by simp)).trans (z2 j)
replace c0:=hb2.ag c0 (by simp)
replace c1:=hb2.ag c1 (by simp)
replace c2:=hb2.ag c2 (by simp)
replace c3:=hb2.ag c3 (by simp)
clear hb2 CWH z2
have P2:Hid (P4 w2 g2 s2 x2 y2 p2):=⟨c0,c1,c2,c3⟩
go_wp2
have hP:=aw w2 g2 ws wx 0 none
obtain⟨m0,m1,m2,m3⟩:=mo w2 g2 ws wx 0 none (ae P2)
have hF:But [] w (jc w2 g2 ws wx 0 none):=((ae B1).trans' (ae B2)).trans hP (fun x hx=>by simp at hx;subst hx;exact .inr (by omega))
change bodyPost _ _ _ _ _ (jc w2 g2 ws wx 0 none)
generalize jc w2 g2 ws wx 0 none=F at *
exact bodyPost_ret (v:=.agg #[.bool ws,.int .u64 wx,.int .u64 0,.pointer none]) (by simp[results,results165,go_sem,m0,m1,m2,m3]) rfl ⟨_,rfl,by rw[hd];exact ae FWH F,hF⟩)
·(
rw[decide_eq_false hd]
obtain⟨t,ht⟩:∃ t,t=ut (decide (f.num<0)) f.num.natAbs f.den:=⟨_,rfl⟩
obtain⟨pre,hpre,hno⟩:=qkj f hd
rw[← ht] at hpre
have hts:t.size<4294967281:=by
 have e:t.size=t.data.toList.length:=by simp
 have d1:=zgh f.den (Nat.le_trans (ae LF).2 (by omega))
 have d2:=zgh f.num.natAbs (Nat.le_trans (ae LF).1 (by omega))
 rw[e,ht]
 unfold ut
 by_cases hs:f.num<0
 ·simp[hs,hd];omega
 ·simp[hs,hd];omega
have TX:=af (fun W' (hb:But [] w W')=>zeg _ f W' ((ae HF).but hb) ((ae LF).mono (by omega)) (TabIs.but (ae HTAB) hb) t ht)
have CU:=af (fun W' (hb:But [] w W')=>Tryz.strings_Cut t 47 pre (Lib.decDigits f.den) m W' hpre hno hts (hb.ag (ae HM) (by simp)))
obtain⟨hdg,hval,hpos⟩:=znw f.den
generalize hds:Lib.decDigits f.den=ds at *
have HDG:=af hdg
have HVAL:=af hval
have HPOS:=af hpos
obtain⟨c0,c1,c2,c3⟩:=ae K1
clear hpre hno hts ht hds hdg hval hpos HTAB HM
go_wp2_with fail
refine (ae TX _ (ae B1)).mono ?_
rintro e w2 ⟨rfl,hb2⟩
have B2:=af ((ae B1).trans' hb2)
have K2':=af ((ae K2).but hb2)
clear K2 K1 c0 c1 c2 c3 hb2 B1 TX
go_wp2_with fail
refine (ae CU _ (ae B2)).mono ?_
rintro e w3 ⟨rfl,nd,rfl⟩
have B3:Hid (But [] w (w2.drewN nd)):=(ae B2).drewN nd
have K3:=af ((ae K2').but ((But.refl [] w2).drewN nd))
generalize w2.drewN nd=w3 at *
clear B2 K2' CU
go_wp2
have V6:=af (az.new w3 false 0 0 none 0 27 (dz _))
have bV:But [] w3 (w3.alloc (.cells #[.bool false,.int .u64 0,.int .u64 0,.pointer none] 27)):=(But.refl _ _).alloc _
have KV:=af ((ae K3).but bV)
have BV:=af ((ae B3).trans' bV)
have o6:g2<w3.heap.size:=(ae K3).lt
have q6:w.heap.size≤w3.heap.size:=(ae B3).size
clear bV K3 B3
generalize hg6:w3.heap.size=g6 at *
generalize w3.alloc (.cells #[.bool false,.int .u64 0,.int .u64 0,.pointer none] 27)=V at *
clear hg6
go_loopw [4] (fun dv wr=>∃ (j:Nat) (td:ByteArray),dv=.string td∧j≤ds.length∧Hid (td.data.toList=ds.drop j)∧Hid (az wr g6 (((jo (ds.take j):Nat):Int):Rat)∧az wr g2 0∧But [] w wr)) (fun dv _=>qqi dv)
case atStart=>exact⟨0,_,rfl,Nat.zero_le _,by show _=_;simp,ae V6,ae KV,ae BV⟩
case round =>(
obtain⟨j,td,rfl,hj,HTD,HI⟩:=hrel
rename World=>wr
clear V6 KV BV
obtain⟨k,hk⟩:∃ k,k=ds.length-j:=⟨_,rfl⟩
have hsz:td.size=k:=by rw[zbv (ae HTD),List.length_drop,hk]
by_cases hlt:j<ds.length
·(
have h0:0<k:=by omega
obtain⟨n,hn⟩:∃ n,n=Nat.min k 60:=⟨_,rfl⟩
have hn60:n≤60:=by rw[hn];exact Nat.min_le_right _ _
have hnk:n≤k:=by rw[hn];exact Nat.min_le_left _ _
have hn1:0<n:=by rw[hn];exact Nat.lt_min.2 ⟨h0,by omega⟩
have hmin:min (k:Int) 60=(n:Int):=by
 have e:n=min k 60:=hn
 omega
have HK:=af hk
have hnj:j+n≤ds.length:=by omega
have e1:(td.extract 0 n).data.toList=(ds.drop j).take n:=by
 rw[← ae HTD]
 simp[ByteArray.data_extract,List.extract_eq_take_drop]
have e2:(td.extract n k).data.toList=ds.drop (j+n):=by
 rw[← List.drop_drop,← ae HTD]
 simp only[ByteArray.data_extract,List.extract_eq_take_drop,Array.toList_extract]
 exact List.take_of_length_le (by rw[List.length_drop];have:=zbv (t:=td) rfl;omega)
have E2:=af e2
have lp:((ds.drop j).take n).length=n:=by rw[List.length_take,List.length_drop];omega
have LPc:=af lp
have dp:zaj ((ds.drop j).take n):=fun x hx=>ae HDG x (List.mem_of_mem_drop (List.mem_of_mem_take hx))
have PA:=af (fun W=>zut (td.extract 0 n) false ((ds.drop j).take n) W (by rw[e1];rfl) dp (by omega) (by omega) _ (qhv (jo ((ds.drop j).take n))))
obtain⟨ws,wx,FW,CW⟩:=zar 10 (by omega) (by omega)
have CWH:=af CW
have PW:=af (fun W=>zyk _ _ n W (FW W) (by omega) ((zct 10 (by decide)).mono (by omega)))
have H6:=af (ae HI).1
have H2:=af (ae HI).2.1
have HBW:=af (ae HI).2.2
clear hn hk e1 e2 lp dp CW HI
go_wp2_with fail
refine (ae PA _).mono ?_
rintro e w4 ⟨v4,rfl,hv4,hb4⟩
obtain⟨x4,y4,p4,rfl,-⟩:=id hv4.agg
generalize hs4:decide ((((jo ((ds.drop j).take n):Nat):Int):Rat).num<0)=s4 at *
clear hs4
have B4:=af hb4
have HV4:=af hv4
have A4:=af (az.new w4 s4 x4 y4 p4 _ 27 hv4)
have bA4:Hid (But [] w4 (w4.alloc (.cells #[.bool s4,.int .u64 x4,.int .u64 y4,.pointer p4] 27))):=(But.refl _ _).alloc _
clear hv4 hb4 PA
go_wp2_with fail
refine (ae CWH _).mono ?_
rintro e w5 ⟨rfl,hb5⟩
have B5:=af hb5
clear hb5 CWH
go_wp2_with fail
refine (ae PW _).mono ?_
rintro e w6 ⟨v6,rfl,hv6,hb6⟩
obtain⟨x6,y6,p6,rfl,-⟩:=id hv6.agg
generalize hs6:decide ((zcb ((10:Int):Rat) n).num<0)=s6 at *
clear hs6
rw[qkn] at hv6
have B6:=af hb6
have A6:=af (az.new w6 s6 x6 y6 p6 _ 27 hv6)
have bA6:Hid (But [] w6 (w6.alloc (.cells #[.bool s6,.int .u64 x6,.int .u64 y6,.pointer p6] 27))):=(But.refl _ _).alloc _
clear hv6 hb6 PW
go_wp2
obtain⟨U,hU⟩:∃ U,U=w6.alloc (.cells #[.bool s6,.int .u64 x6,.int .u64 y6,.pointer p6] 27):=⟨_,rfl⟩
rw[← hU] at A6 bA6
rw[← hU]
have b46:But [] (w4.alloc (.cells #[.bool s4,.int .u64 x4,.int .u64 y4,.pointer p4] 27)) U:=((ae B5).trans' (ae B6)).trans' (ae bA6)
have bU:But [] wr U:=((ae B4).trans' (ae bA4)).trans' b46
have BU:=af bU
have D8:=af ((ae A4).but b46)
have D6:=af ((ae H6).but bU)
have D2:=af ((ae H2).but bU)
have DB:=af ((ae HBW).trans' bU)
have l8:g6<w4.heap.size:=Nat.lt_of_lt_of_le (ae H6).lt (ae B4).size
generalize hg8:w4.heap.size=g8 at *
generalize hg10:w6.heap.size=g10 at *
clear hU B4 bA4 A4 B5 B6 bA6 b46 bU H6 H2 HBW hg8 hg10 HV4
obtain⟨⟨t6,a6,b6,q6',c6,hf6⟩,z6⟩:=ae D6
obtain⟨⟨t8,a8,b8,q8,c8,hf8⟩,-⟩:=ae D8
obtain⟨⟨t10,a10,b10,q10,c10,hf10⟩,-⟩:=ae A6
have ltk:=zqb ds j
have ltn:=zqb ds (j+n)
have stp:=qbf ds j n
rw[ae LPc] at stp
have lden:(wd 18446744073709551616 (jo ds)).length≤400000:=by rw[ae HVAL];exact (ae LF).2
have ten4:Len (((10^n:Nat):Int):Rat) 1000000:=jq (10^n) (10^60) (Nat.pow_le_pow_right (by omega) hn60) (Nat.le_trans (aj (by omega) _ 4 (by decide)) (by omega)) (by omega)
have lmul:Len ((((jo (ds.take j):Nat):Int):Rat)*(((10^n:Nat):Int):Rat)) 400000:=by
 have e:(((jo (ds.take j):Nat):Int):Rat)*(((10^n:Nat):Int):Rat)=(((jo (ds.take j)*10^n:Nat):Int):Rat):=by simp
 rw[e]
 exact jq _ (jo ds) (by omega) lden (by omega)
refine zow 9 _ _ U t6 a6 b6 q6' t10 a10 b10 q10 t8 a8 b8 q8 _ _ _ g6 g8 g10 (by simp) (by simp[Act.eval]) c6 z6 (by simp[Act.eval]) (by simp[Act.eval]) c6 c10 c8 (fun w' hb=>j4 _ _ _ _ w' (hf6.but hb) (hf10.but hb) (jq _ (jo ds) ltk (Nat.le_trans lden (by omega)) (by omega)) ten4) (fun w' hb v' hv'=>zba 400000 400000 (by omega) _ _ _ _ w' hv' (hf8.but hb) lmul (jq _ (jo ds) (by omega) lden (by omega))) ?_
intro w7 v2' s7 x7 y7 p7 hb7 hf7
simp only[bi,List.foldl_cons,List.foldl_nil,Act.put,List.setIfInBounds_toArray,List.set_cons_zero,List.set_cons_succ]
rw[qhu _ _ _ _ stp] at hf7
have hP:=aw w7 g6 s7 x7 y7 p7
have J6:=af (((ae D6).but hb7).put hf7)
have J2:=af (((ae D2).but hb7).beside hP (by simp;omega) (fun g hg=>by simp at hg;subst hg;exact ((ae D6).but hb7).bool))
have JB:=af (((ae DB).trans' hb7).trans hP (fun x hx=>by simp at hx;subst hx;exact .inr q6))
generalize jc w7 g6 s7 x7 y7 p7=V7 at *
clear hP hf7 hb7 D6 D2 DB D8 A6 c6 c8 c10 hf6 hf8 hf10 z6 ltk ltn stp lden ten4 lmul BU
go_wp2
refine⟨⟨j+n,_,rfl,hnj,E2,ae J6,ae J2,ae JB⟩,?_⟩
show (td.extract n k).size<td.size
have hx:=zbv (ae E2)
rw[List.length_drop] at hx
have:=ae HK
omega)
·(
obtain rfl:j=ds.length:=by omega
have k0:k=0:=by omega
obtain⟨⟨⟨t6,a6,b6,q6',⟨d0,d1,d2,d3⟩,hf6⟩,z6⟩,⟨⟨t2,a2,b2,q2,⟨c0,c1,c2,c3⟩,-⟩,z2⟩,hbw⟩:=ae HI
rw[List.take_length,ae HVAL] at hf6
have HF6:=af hf6
have HBW:=af hbw
have P2:Hid (P4 wr g2 t2 a2 b2 q2):=⟨c0,c1,c2,c3⟩
clear HI hf6 hbw hk
go_wp2
have hP:=aw wr g2 t6 a6 b6 q6'
obtain⟨m0,m1,m2,m3⟩:=mo wr g2 t6 a6 b6 q6' (ae P2)
have hF:But [] w (jc wr g2 t6 a6 b6 q6'):=(ae HBW).trans hP (fun x hx=>by simp at hx;subst hx;exact .inr (by omega))
have hff:=(ae HF6).over (ae P2).1 hP
change bodyPost _ _ _ _ _ (jc wr g2 t6 a6 b6 q6')
generalize jc wr g2 t6 a6 b6 q6'=F at *
exact bodyPost_ret (v:=.agg #[.bool t6,.int .u64 a6,.int .u64 b6,.pointer q6']) (by simp[results,results165,go_sem,m0,m1,m2,m3]) rfl ⟨_,rfl,hff,hF⟩))))
def yh (U:Nat) (f:Rat):Nat:=U*(f*(((U:Nat):Int):Rat)).den
def jf (U:Nat) (fs:List Rat):Nat:=fs.foldl yh U
theorem zfm (U:Nat) (xs ys:List Rat):jf U (xs++ys)=jf (jf U xs) ys:=List.foldl_append
theorem qeg (U:Nat) (fs:List Rat) (k:Nat) (hk:k<fs.length):jf U (fs.take (k+1))=yh (jf U (fs.take k)) (fs[k]?.getD 0):=by
 rw[List.take_add_one,List.getElem?_eq_getElem hk,zfm]
 rfl
theorem qbb (f:Rat) (U:Nat):(f*(((U:Nat):Int):Rat)).den ∣ f.den:=by(
have hc:=zbx f (((U:Nat):Int):Rat)
obtain⟨e1,e2⟩:=bj (U:Int)
rw[e1,e2,Nat.mul_one] at hc
have hr:Nat.Coprime (f*(((U:Nat):Int):Rat)).num.natAbs (f*(((U:Nat):Int):Rat)).den:=(f*(((U:Nat):Int):Rat)).reduced
have h2:(f*(((U:Nat):Int):Rat)).num.natAbs*f.den=(f.num*(U:Int)).natAbs*(f*(((U:Nat):Int):Rat)).den:=by
 have:=congrArg Int.natAbs hc
 rw[Int.natAbs_mul,Int.natAbs_mul,Int.natAbs_natCast,Int.natAbs_natCast] at this
 exact this
exact Nat.Coprime.dvd_of_dvd_mul_left hr.symm ⟨(f.num*(U:Int)).natAbs,by rw[h2,Nat.mul_comm]⟩)
theorem zdt (c:Nat):∀ (fs:List Rat) (U:Nat),(∀ f ∈ fs,Len f c)→(wd 18446744073709551616 (jf U fs)).length≤(wd 18446744073709551616 U).length+fs.length*c
 | [],U,_=>by simp[jf]
 | f::fs,U,h=>by
  have ih:=zdt c fs (yh U f) (fun g hg=>h g (by simp[hg]))
  have hd:=Nat.le_of_dvd (den_pos f) (qbb f U)
  have h1:(wd 18446744073709551616 (yh U f)).length≤(wd 18446744073709551616 U).length+c:=by
   unfold yh
   exact Nat.le_trans (qy _ _) (Nat.add_le_add_left (Nat.le_trans (au hd) (h f (by simp)).2) _)
  show (wd 18446744073709551616 (jf (yh U f) fs)).length≤_
  rw[List.length_cons,Nat.succ_mul]
  omega
theorem zhe (v:Value) (ls:List (List Rat)) (w:World) (m:Int) (c:Nat) (hv:zbr w v ls) (hn:ls.length≤100000) (hl:∀ l ∈ ls,l.length≤100000) (lf:∀ l ∈ ls,∀ f ∈ l,Len f c) (hc:ls.flatten.length*c+1≤200000) (hc1:c≤100000) (htab:Lib.TabIs prog w "internal/strconv.uint64pow10" .u64 Lib.pow10Tab) (hm:w.cell? ⟨4,0,none⟩=some (.int .i64 m)) :
  Calls prog 86 #[v] w fun e w'=>∃ v',e=.returned v'∧am w' v' (((jf 1 ls.flatten:Nat):Int):Rat)∧But [] w w':=by(
obtain⟨q,cap,rfl,hcap,-⟩:=id hv
obtain⟨n,hN⟩:∃ n,n=ls.length:=⟨_,rfl⟩
rw[← hN] at hn hcap ⊢
rw[← hN] at hv
have HV:=af hv
have HN:=af hN
have HTAB:=af htab
have HM:=af hm
obtain⟨ws,wx,FW,CW⟩:=zar 1 (by omega) (by omega)
have CWH:=af CW
have FWH:=af FW
clear hv hN htab hm CW FW
have bA:But [] w (w.alloc (.cells #[.bool false,.int .u64 0,.int .u64 0,.pointer none] 27)):=(But.refl _ _).alloc _
have xA:=az.new w false 0 0 none 0 27 (dz _)
have BA:=af bA
have XA:=af xA
clear bA xA
go_enter func86,ntmps86
go_wp2_with fail
refine (ae CWH _).mono ?_
rintro e w1 ⟨rfl,hb1⟩
have B1:=af ((ae BA).trans' hb1)
have X2:=af ((ae XA).but hb1)
clear hb1 BA XA CWH
go_wp2
have x3:=az.new w1 ws wx 0 none _ 27 (ae FWH w1)
have bV:But [] w1 (w1.alloc (.cells #[.bool ws,.int .u64 wx,.int .u64 0,.pointer none] 27)):=(But.refl _ _).alloc _
have X3:=af x3
have Y2:=af ((ae X2).but bV)
have BV:=af ((ae B1).trans' bV)
have o3:w.heap.size<w1.heap.size:=(ae X2).lt
clear x3 bV X2 B1
generalize hg3:w1.heap.size=g3 at *
generalize hg2:w.heap.size=g2 at *
generalize w1.alloc (.cells #[.bool ws,.int .u64 wx,.int .u64 0,.pointer none] 27)=V at *
clear hg3
go_loopw [11] (fun iv wr=>∃ i:Nat,i≤n∧iv=.int .i64 (i:Int)∧Hid (az wr g3 (((jf 1 (ls.take i).flatten:Nat):Int):Rat)∧az wr g2 0∧But [] w wr)) (fun iv _=>n-(intOf iv).toNat)
case atStart=>exact⟨0,Nat.zero_le _,rfl,ae X3,ae Y2,ae BV⟩
case round =>(
obtain⟨i,hi,rfl,HI⟩:=hrel
rename World=>wr
clear X3 Y2 BV
by_cases hlt:i<n
·(
have hil:i<ls.length:=by have:=ae HN;omega
obtain⟨b,off,u,rfl,hcu,hfu⟩:=(ae HV).get i hil
replace hcu:=(ae HI).2.2.ag hcu (by simp)
obtain⟨l,hL⟩:∃ l,l=ls[i]?.getD []:=⟨_,rfl⟩
rw[← hL] at hfu
have hmem:l ∈ ls:=by rw[hL,List.getElem?_eq_getElem hil];exact List.getElem_mem hil
have hll:=hl l hmem
have LFL:=af (lf l hmem)
have htk:(ls.take (i+1)).flatten=(ls.take i).flatten++l:=by
 have e:ls[i]? = some l:=by rw[hL,List.getElem?_eq_getElem hil];rfl
 rw[List.take_add_one,e]
 simp
have hln:((ls.take i).flatten.length+l.length)*c+1≤200000:=by
 have h1:((ls.take i).flatten++l).length≤ls.flatten.length:=by
  rw[← htk]
  have e:ls.flatten=(ls.take (i+1)).flatten++(ls.drop (i+1)).flatten:=by rw[← List.flatten_append,List.take_append_drop]
  rw[e,List.length_append]
  omega
 rw[List.length_append] at h1
 exact Nat.le_trans (Nat.add_le_add_right (Nat.mul_le_mul_right c h1) 1) hc
have LFT:Hid (∀ f ∈ (ls.take i).flatten,Len f c):=fun f hf=>by
 obtain⟨l',h1,h2⟩:=List.mem_flatten.1 hf
 exact lf l' (List.mem_of_mem_take h1) f h2
obtain⟨qu,cu,rfl,hcu2,-⟩:=id hfu
obtain⟨k,hk⟩:∃ k,k=l.length:=⟨_,rfl⟩
rw[← hk] at hfu hcu hcu2 hll hln
have HFU:=af hfu
have HTK:=af htk
have HLN:=af hln
have HK:=af hk
clear hfu hL hk htk hln hmem
go_wp2
clear hcu
go_loopw [17] (fun jv wx=>∃ j:Nat,j≤k∧jv=.int .i64 (j:Int)∧Hid (az wx g3 (((jf (jf 1 (ls.take i).flatten) (l.take j):Nat):Int):Rat)∧az wx g2 0∧But [] w wx)) (fun jv _=>k-(intOf jv).toNat)
case atStart=>exact⟨0,Nat.zero_le _,rfl,(ae HI).1,(ae HI).2.1,(ae HI).2.2⟩
case round =>(
obtain⟨j,hj,rfl,HJ⟩:=hrel
rename World=>wx
clear HI
by_cases hjt:j<k
·(
have hjl:j<l.length:=by have:=ae HK;omega
have hfx:=(ae HFU).but (ae HJ).2.2
rcases hfx.open with ⟨er,-⟩|⟨-,rb,roff,rcap2,er,-,-⟩
·rw[er] at hjl
 simp at hjl
simp only[Value.slice.injEq] at er
obtain⟨rfl,-,rfl⟩:=er
obtain⟨sr,xr,yr,pr,⟨r0,r1,r2,r3⟩,hfr⟩:=hfx.get j hjt
have HFR:=af hfr
clear hfx hfr
go_wp2
have bA:But [] wx (wx.alloc (.cells #[.bool sr,.int .u64 xr,.int .u64 yr,.pointer pr] 27)):=(But.refl _ _).alloc _
have x7:=az.new wx sr xr yr pr _ 27 (ae HFR)
have D3:=af ((ae HJ).1.but bA)
have D2:=af ((ae HJ).2.1.but bA)
have DB:=af ((ae HJ).2.2.trans' bA)
have X7:=af x7
clear bA x7 HFR r0 r1 r2 r3 HJ
generalize wx.heap.size=g7 at *
generalize wx.alloc (.cells #[.bool sr,.int .u64 xr,.int .u64 yr,.pointer pr] 27)=U at *
obtain⟨⟨t3,a3,b3,q3,c3,hf3⟩,z3⟩:=ae D3
obtain⟨⟨t7,a7,b7,q7,c7,hf7⟩,-⟩:=ae X7
obtain⟨A,hA⟩:∃ A,A=jf (jf 1 (ls.take i).flatten) (l.take j):=⟨_,rfl⟩
have hstep:=qeg (jf 1 (ls.take i).flatten) l j hjl
rw[← hA] at hf3 hstep
obtain⟨f,hff⟩:∃ f,f=l[j]?.getD 0:=⟨_,rfl⟩
rw[← hff] at hf7 hstep
have lff:Len f c:=by rw[hff,List.getElem?_eq_getElem hjl];exact ae LFL _ (List.getElem_mem hjl)
have lA:(wd 18446744073709551616 A).length≤200000:=by
 rw[hA,← zfm]
 refine Nat.le_trans (zdt c _ 1 (fun g hg=>?_)) ?_
 ·rcases List.mem_append.1 hg with h1 | h1
  ·exact ae LFT g h1
  ·exact ae LFL g (List.mem_of_mem_take h1)
 ·have h1:(wd 18446744073709551616 1).length≤1:=aj (by omega) _ 1 (by omega)
  have h2:((ls.take i).flatten++l.take j).length*c≤((ls.take i).flatten.length+k)*c:=Nat.mul_le_mul_right c (by rw[List.length_append,List.length_take];omega)
  have:=ae HLN
  omega
have lu:Len (((A:Nat):Int):Rat) 200000:=jq A A (Nat.le_refl _) lA (by omega)
have lfu:Len (f*(((A:Nat):Int):Rat)) 400000:=zan (lff.mono hc1) lu 400000 (by omega)
have lz:Len ((((f*(((A:Nat):Int):Rat)).den:Nat):Int):Rat) 1000000:=jq _ _ (Nat.le_refl _) (Nat.le_trans lfu.2 (by omega)) (by omega)
refine zpe 8 _ _ U t3 a3 b3 q3 t7 a7 b7 q7 _ _ ((((f*(((A:Nat):Int):Rat)).den:Nat):Int):Rat) g3 g7 (by simp) (by simp[Act.eval]) c3 z3 (by simp[Act.eval]) c3 c7 (fun w' hb=>j4 _ _ _ _ w' (hf7.but hb) (hf3.but hb) (lff.mono (by omega)) (lu.mono (by omega))) (fun w' hb v' hv'=>qdl v' _ w' m hv' lfu (TabIs.but (ae HTAB) ((ae DB).trans' hb)) (((ae DB).trans' hb).ag (ae HM) (by simp))) (fun w' hb v' hv'=>j4 _ _ _ _ w' (hf3.but hb) hv' (lu.mono (by omega)) lz) ?_
intro w7 v3' v4' s7 x7 y7 p7 hb7 hfz
simp only[bi,List.foldl_cons,List.foldl_nil,Act.put,List.setIfInBounds_toArray,List.set_cons_zero,List.set_cons_succ]
have ez:(((A:Nat):Int):Rat)*((((f*(((A:Nat):Int):Rat)).den:Nat):Int):Rat)=(((yh A f:Nat):Int):Rat):=by unfold yh;simp
rw[ez,← hstep] at hfz
have hP:=aw w7 g3 s7 x7 y7 p7
have J3:=af (((ae D3).but hb7).put hfz)
have J2:=af (((ae D2).but hb7).beside hP (by simp;omega) (fun g hg=>by simp at hg;subst hg;exact ((ae D3).but hb7).bool))
have JB:=af (((ae DB).trans' hb7).trans hP (fun x hx=>by simp at hx;subst hx;exact .inr (by omega)))
generalize jc w7 g3 s7 x7 y7 p7=V7 at *
clear hP hfz hb7 D3 D2 DB X7 c3 c7 hf3 hf7 z3 ez lz lfu lu lA lff hstep
go_wp2
exact⟨⟨j+1,by omega,by go_num,ae J3,ae J2,ae JB⟩,by simp[intOf];omega⟩)
·(
obtain rfl:j=k:=by omega
go_wp2
refine⟨⟨i+1,by omega,by go_num,?_,(ae HJ).2.1,(ae HJ).2.2⟩,by simp[intOf];omega⟩
have hx:=(ae HJ).1
rw[ae HK,List.take_length,← zfm,← ae HTK] at hx
exact hx)))
·(
obtain rfl:i=n:=by omega
obtain⟨⟨⟨t6,a6,b6,q6',⟨d0,d1,d2,d3⟩,hf6⟩,z6⟩,⟨⟨t2,a2,b2,q2,⟨c0,c1,c2,c3⟩,-⟩,z2⟩,hbw⟩:=ae HI
rw[ae HN,List.take_length] at hf6
have HF6:=af hf6
have HBW:=af hbw
have P2:Hid (P4 wr g2 t2 a2 b2 q2):=⟨c0,c1,c2,c3⟩
clear HI hf6 hbw
go_wp2
have hP:=aw wr g2 t6 a6 b6 q6'
obtain⟨m0,m1,m2,m3⟩:=mo wr g2 t6 a6 b6 q6' (ae P2)
have hF:But [] w (jc wr g2 t6 a6 b6 q6'):=(ae HBW).trans hP (fun x hx=>by simp at hx;subst hx;exact .inr (by omega))
have hff:=(ae HF6).over (ae P2).1 hP
change bodyPost _ _ _ _ _ (jc wr g2 t6 a6 b6 q6')
generalize jc wr g2 t6 a6 b6 q6'=F at *
exact bodyPost_ret (v:=.agg #[.bool t6,.int .u64 a6,.int .u64 b6,.pointer q6']) (by simp[results,results86,go_sem,m0,m1,m2,m3]) rfl ⟨_,rfl,hff,hF⟩)))
end Go.Proofs.YtagmkkiagjmimaaGreatDoor
