/- The order of ratios, as the Go text of p -/
import Derived.Test.YtjlfllhedceigaaGreatDoorRH9
namespace Go.Proofs.YtjlfllhedceigaaGreatDoor
set_option linter.unusedVariables false
open Go.Proofs.Tryz
open Go.RowKit
set_option maxHeartbeats 16000000
set_option maxRecDepth 100000
theorem zek (x y:Int):-1≤ax x y∧ax x y≤1:=by(
 unfold ax
 split
 ·omega
 ·split <;> omega)
theorem zow (x y:Int):ax x y=0↔x=y:=by(
 unfold ax
 split
 ·constructor <;> intro h <;> omega
 ·split <;> constructor <;> intro h <;> omega)
theorem qeh (x y:Int) (n:Nat) (hn:0<n):ax (x*(n:Int)) (y*(n:Int))=ax x y:=by(
 have hn':0<(n:Int):=by omega
 have h1:(x*(n:Int)<y*(n:Int))↔x<y:=Int.mul_lt_mul_right hn'
 have h2:(x*(n:Int)=y*(n:Int))↔x=y:=⟨fun h=>Int.eq_of_mul_eq_mul_right (by omega) h,fun h=>by rw[h]⟩
 unfold ax
 simp only[h1,h2])
theorem zqe (xb yb:Nat) (x y:Int) (nx ny:Nat) (w:World) (hx:q9 w xb x (nx:Int)) (hy:q9 w yb y (ny:Int)) (hnx:0<nx) (hny:0<ny) (hxl:(wd 4294967296 x.natAbs).length<8388608) (hyl:(wd 4294967296 y.natAbs).length<8388608) (hnxl:(wd 4294967296 nx).length<8388608) (hnyl:(wd 4294967296 ny).length<8388608) (P Q:Int) (hP:x*(ny:Int)=P) (hQ:y*(nx:Int)=Q) (hPl:(wd 4294967296 P.natAbs).length<8388608) (hQl:(wd 4294967296 Q.natAbs).length<8388608) :
   Calls prog 62 #[.pointer (some ⟨xb,0,none⟩),.pointer (some ⟨yb,0,none⟩)] w fun e w'=>e=.returned (.int .i64 (ax P Q))∧But [] w w':=by(
 have lx:=hx.lt
 have ly:=hy.lt
 have DX:=af (fun W (h:q9 W xb x (nx:Int))=>zjb xb x nx W h hnx)
 have DY:=af (fun W (h:q9 W yb y (ny:Int))=>zjb yb y ny W h hny)
 have CD:=af (zax xb 2 yb 2 (nx:Int) (ny:Int) w hx.low hy.low (by rw[Int.natAbs_natCast];omega) (by rw[Int.natAbs_natCast];omega))
 obtain⟨c1,c2⟩:=zek (nx:Int) (ny:Int)
 have hc0:=zow (nx:Int) (ny:Int)
 generalize ax (nx:Int) (ny:Int)=cd at CD c1 c2 hc0
 obtain⟨r1,r2⟩:=zek P Q
 by_cases he:nx=ny
 ·(
 have hcd:(cd==0)=true:=beq_iff_eq.2 (hc0.2 (by omega))
 have hR:Hid (ax P Q=ax x y):=by show _=_;rw[← hP,← hQ,he];exact qeh x y ny hny
 obtain⟨s1,s2⟩:=zek x y
 have hCM:=af (fun W (h1:qo W xb 0 x) (h2:qo W yb 0 y)=>zax xb 0 yb 0 x y W h1 h2 (by omega) (by omega))
 clear hc0
 go_enter func62,ntmps62
 go_wp2_with fail
 refine (ae DX _ hx).mono ?_
 rintro e w1 ⟨rfl,hw⟩
 obtain rfl:=hw.symm
 clear hw
 go_wp2_with fail
 refine (ae DY _ hy).mono ?_
 rintro e w1 ⟨rfl,hw⟩
 obtain rfl:=hw.symm
 clear hw
 go_wp2_with fail
 refine (ae CD).mono ?_
 rintro e w1 ⟨rfl,q,hq⟩
 clear CD
 have KB0:But [] w w1:=by rw[hq];exact (But.refl _ _).drewN _
 have gx:=(hx.but KB0).up
 have gy:=(hy.but KB0).up
 have HB0:=af KB0
 clear hq KB0 hx hy lx ly
 go_wp2
 go_quiet ((go_at_call 140;refine Calls.quiet_of (ae hCM _ ?_ ?_);(first | exact gx | exact qo.but gx (by first | exact But.refl _ _ | exact (But.refl _ _).drewN _));(first | exact gy | exact qo.but gy (by first | exact But.refl _ _ | exact (But.refl _ _).drewN _))))
 generalize ax x y=cc at *
 go_wp2
 go_ret
 exact⟨by rw[ae hR];rfl,(ae HB0).drewN _⟩)
 ·(
 have hcd:(cd==0)=false:=beq_eq_false_iff_ne.2 (fun h=>he (by have:=hc0.1 h;omega))
 clear hc0
 go_enter func62,ntmps62
 go_wp2_with fail
 refine (ae DX _ hx).mono ?_
 rintro e w1 ⟨rfl,hw⟩
 obtain rfl:=hw.symm
 clear hw
 go_wp2_with fail
 refine (ae DY _ hy).mono ?_
 rintro e w1 ⟨rfl,hw⟩
 obtain rfl:=hw.symm
 clear hw
 go_wp2_with fail
 refine (ae CD).mono ?_
 rintro e w1 ⟨rfl,q,hq⟩
 clear CD
 have KB0:But [] w w1:=by rw[hq];exact (But.refl _ _).drewN _
 have gx:=hx.but KB0
 have gy:=hy.but KB0
 have lx1:=gx.lt
 have ly1:=gy.lt
 have HB0:=af KB0
 clear hq KB0 hx hy lx ly
 go_wp2
 go_region_with (first
  | (go_at_call_of 139 (Value.pointer (some ⟨yb,0,none⟩));refine (ae DY _ ?_).mono ?_;(refine gy.but ?_;repeat (first | assumption | exact But.refl _ _ | apply But.drew | apply But.alloc));rintro e w' ⟨rfl,rfl⟩)
  | (go_at_call_of 139 (Value.pointer (some ⟨xb,0,none⟩));refine (ae DX _ ?_).mono ?_;(refine gx.but ?_;repeat (first | assumption | exact But.refl _ _ | apply But.drew | apply But.alloc));rintro e w' ⟨rfl,rfl⟩)
  | (go_at_call_of 141 (Value.pointer (some ⟨xb,0,none⟩));refine (zhy _ xb 0 yb 2 x (ny:Int) P hP w1 _ ?_ ?_ ?_ gx.up gy.low hxl (by rw[Int.natAbs_natCast];exact hnyl) hPl).mono ?_;(first | exact qig _ _ | exact zyr _ _ _ | exact zyq _ _ _);(repeat (first | assumption | exact But.refl _ _ | apply But.drew | apply But.alloc));omega;rintro e W1 ⟨rfl,KB1,KA1,KS1,KI1,KL1⟩)
  | (go_at_call_of 141 (Value.pointer (some ⟨yb,0,none⟩));refine (zhy _ yb 0 xb 2 y (nx:Int) Q hQ w1 _ ?_ ?_ ?_ gy.up gx.low hyl (by rw[Int.natAbs_natCast];exact hnxl) hQl).mono ?_;(first | exact om _ _ | exact KS1 _ (by omega) (zyr _ _ _) | exact KS1 _ (by omega) (zyq _ _ _));(repeat (first | assumption | exact But.refl _ _ | apply But.drew | apply But.alloc));(have:=KB1.size;omega);rintro e W2 ⟨rfl,KB2,KA2,KS2,KI2,KL2⟩)
  | (go_at_call 140;refine (zax _ 0 _ 0 P Q _ (KI2 _ _ _ ?_ ?_) KA2 (by omega) (by omega)).mono ?_;(have:=KA1.lt;omega);(refine KA1.but ?_;repeat (first | exact But.refl _ _ | apply But.drew | apply But.alloc));rintro e W3 ⟨rfl,q3,rfl⟩))
 all_goals go_wp2
 all_goals go_ret
 all_goals exact⟨rfl,(ae HB0).trans' (KB2.trans' ((But.refl _ _).drewN _))⟩))
end Go.Proofs.YtjlfllhedceigaaGreatDoor
