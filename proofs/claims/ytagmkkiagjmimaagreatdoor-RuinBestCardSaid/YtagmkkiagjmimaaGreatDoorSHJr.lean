/- The order of ratios, as the Go text of p -/
import Derived.Test.YtagmkkiagjmimaaGreatDoorSHG
namespace Go.Proofs.YtagmkkiagjmimaaGreatDoor
set_option linter.unusedVariables false
open Go.Proofs.Tryz
open Go.RowKit
set_option maxHeartbeats 16000000
set_option maxRecDepth 100000
theorem zfo (x y:Int):-1≤eu x y∧eu x y≤1:=by(
 unfold eu
 split
 ·omega
 ·split <;> omega)
theorem zph (x y:Int):eu x y=0↔x=y:=by(
 unfold eu
 split
 ·constructor <;> intro h <;> omega
 ·split <;> constructor <;> intro h <;> omega)
theorem qdx (x y:Int) (n:Nat) (hn:0<n):eu (x*(n:Int)) (y*(n:Int))=eu x y:=by(
 have hn':0<(n:Int):=by omega
 have h1:(x*(n:Int)<y*(n:Int))↔x<y:=Int.mul_lt_mul_right hn'
 have h2:(x*(n:Int)=y*(n:Int))↔x=y:=⟨fun h=>Int.eq_of_mul_eq_mul_right (by omega) h,fun h=>by rw[h]⟩
 unfold eu
 simp only[h1,h2])
theorem zqw (xb yb:Nat) (x y:Int) (nx ny:Nat) (w:World) (hx:zx w xb x (nx:Int)) (hy:zx w yb y (ny:Int)) (hnx:0<nx) (hny:0<ny) (hxl:(wd 4294967296 x.natAbs).length<8388608) (hyl:(wd 4294967296 y.natAbs).length<8388608) (hnxl:(wd 4294967296 nx).length<8388608) (hnyl:(wd 4294967296 ny).length<8388608) (P Q:Int) (hP:x*(ny:Int)=P) (hQ:y*(nx:Int)=Q) (hPl:(wd 4294967296 P.natAbs).length<8388608) (hQl:(wd 4294967296 Q.natAbs).length<8388608) :
   Calls prog 22 #[.pointer (some ⟨xb,0,none⟩),.pointer (some ⟨yb,0,none⟩)] w fun e w'=>e=.returned (.int .i64 (eu P Q))∧But [] w w':=by(
 have lx:=hx.lt
 have ly:=hy.lt
 have DX:=af (fun W (h:zx W xb x (nx:Int))=>yc xb x nx W h hnx)
 have DY:=af (fun W (h:zx W yb y (ny:Int))=>yc yb y ny W h hny)
 have CD:=af (zbs xb 2 yb 2 (nx:Int) (ny:Int) w hx.low hy.low (by rw[Int.natAbs_natCast];omega) (by rw[Int.natAbs_natCast];omega))
 obtain⟨c1,c2⟩:=zfo (nx:Int) (ny:Int)
 have hc0:=zph (nx:Int) (ny:Int)
 generalize eu (nx:Int) (ny:Int)=cd at CD c1 c2 hc0
 obtain⟨r1,r2⟩:=zfo P Q
 by_cases he:nx=ny
 ·(
 have hcd:(cd==0)=true:=beq_iff_eq.2 (hc0.2 (by omega))
 have hR:Hid (eu P Q=eu x y):=by show _=_;rw[← hP,← hQ,he];exact qdx x y ny hny
 obtain⟨s1,s2⟩:=zfo x y
 have hCM:=af (fun W (h1:za W xb 0 x) (h2:za W yb 0 y)=>zbs xb 0 yb 0 x y W h1 h2 (by omega) (by omega))
 clear hc0
 go_enter func22,ntmps22
 go_wp2_with fail
 refine (ae DX _ hx).mono ?_
 rintro e w1 ⟨rfl,hw⟩
 obtain rfl:=hw.symm
 clear hw
 go_wp2_with fail
 refine (ae DY _ hy).mono ?_
 rintro e w1 ⟨rfl,hw⟩
 obtain rfl:=hw.symm
 clear hw
 go_wp2_with fail
 refine (ae CD).mono ?_
 rintro e w1 ⟨rfl,q,hq⟩
 clear CD
 have KB0:But [] w w1:=by rw[hq];exact (But.refl _ _).drewN _
 have gx:=(hx.but KB0).up
 have gy:=(hy.but KB0).up
 have HB0:=af KB0
 clear hq KB0 hx hy lx ly
 go_wp2
 go_quiet ((go_at_call 84;refine Calls.quiet_of (ae hCM _ ?_ ?_);(first | exact gx | exact za.but gx (by first | exact But.refl _ _ | exact (But.refl _ _).drewN _));(first | exact gy | exact za.but gy (by first | exact But.refl _ _ | exact (But.refl _ _).drewN _))))
 generalize eu x y=cc at *
 go_wp2
 go_ret
 exact⟨by rw[ae hR];rfl,(ae HB0).drewN _⟩)
 ·(
 have hcd:(cd==0)=false:=beq_eq_false_iff_ne.2 (fun h=>he (by have:=hc0.1 h;omega))
 clear hc0
 go_enter func22,ntmps22
 go_wp2_with fail
 refine (ae DX _ hx).mono ?_
 rintro e w1 ⟨rfl,hw⟩
 obtain rfl:=hw.symm
 clear hw
 go_wp2_with fail
 refine (ae DY _ hy).mono ?_
 rintro e w1 ⟨rfl,hw⟩
 obtain rfl:=hw.symm
 clear hw
 go_wp2_with fail
 refine (ae CD).mono ?_
 rintro e w1 ⟨rfl,q,hq⟩
 clear CD
 have KB0:But [] w w1:=by rw[hq];exact (But.refl _ _).drewN _
 have gx:=hx.but KB0
 have gy:=hy.but KB0
 have lx1:=gx.lt
 have ly1:=gy.lt
 have HB0:=af KB0
 clear hq KB0 hx hy lx ly
 go_wp2
 go_region_with (first
  | (go_at_call_of 83 (Value.pointer (some ⟨yb,0,none⟩));refine (ae DY _ ?_).mono ?_;(refine gy.but ?_;repeat (first | assumption | exact But.refl _ _ | apply But.drew | apply But.alloc));rintro e w' ⟨rfl,rfl⟩)
  | (go_at_call_of 83 (Value.pointer (some ⟨xb,0,none⟩));refine (ae DX _ ?_).mono ?_;(refine gx.but ?_;repeat (first | assumption | exact But.refl _ _ | apply But.drew | apply But.alloc));rintro e w' ⟨rfl,rfl⟩)
  | (go_at_call_of 85 (Value.pointer (some ⟨xb,0,none⟩));refine (jh _ xb 0 yb 2 x (ny:Int) P hP w1 _ ?_ ?_ ?_ gx.up gy.low hxl (by rw[Int.natAbs_natCast];exact hnyl) hPl).mono ?_;(first | exact zod _ _ | exact zcx _ _ _ | exact zcw _ _ _);(repeat (first | assumption | exact But.refl _ _ | apply But.drew | apply But.alloc));omega;rintro e W1 ⟨rfl,KB1,KA1,KS1,KI1,KL1⟩)
  | (go_at_call_of 85 (Value.pointer (some ⟨yb,0,none⟩));refine (jh _ yb 0 xb 2 y (nx:Int) Q hQ w1 _ ?_ ?_ ?_ gy.up gx.low hyl (by rw[Int.natAbs_natCast];exact hnxl) hQl).mono ?_;(first | exact jg _ _ | exact KS1 _ (by omega) (zcx _ _ _) | exact KS1 _ (by omega) (zcw _ _ _));(repeat (first | assumption | exact But.refl _ _ | apply But.drew | apply But.alloc));(have:=KB1.size;omega);rintro e W2 ⟨rfl,KB2,KA2,KS2,KI2,KL2⟩)
  | (go_at_call 84;refine (zbs _ 0 _ 0 P Q _ (KI2 _ _ _ ?_ ?_) KA2 (by omega) (by omega)).mono ?_;(have:=KA1.lt;omega);(refine KA1.but ?_;repeat (first | exact But.refl _ _ | apply But.drew | apply But.alloc));rintro e W3 ⟨rfl,q3,rfl⟩))
 all_goals go_wp2
 all_goals go_ret
 all_goals exact⟨rfl,(ae HB0).trans' (KB2.trans' ((But.refl _ _).drewN _))⟩))
end Go.Proofs.YtagmkkiagjmimaaGreatDoor
