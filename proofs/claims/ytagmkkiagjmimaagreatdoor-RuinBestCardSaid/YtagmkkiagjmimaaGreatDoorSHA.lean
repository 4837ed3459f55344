/- Products and quotients of ratios, as the -/
import Derived.Test.YtagmkkiagjmimaaGreatDoorSH9
namespace Go.Proofs.YtagmkkiagjmimaaGreatDoor
set_option linter.unusedVariables false
open Go.Proofs.Tryz
open Go.RowKit
set_option maxHeartbeats 32000000
set_option maxRecDepth 100000
theorem qbg (zb xb yb:Nat) (x y:Int) (nx ny:Nat) (w:World) (hz0:Slot w zb 0) (hz2:Slot w zb 2) (hx:zx w xb x (nx:Int)) (hy:zx w yb y (ny:Int)) (hnx:0<nx) (hny:0<ny) (hxl:(wd 4294967296 x.natAbs).length<8388608) (hyl:(wd 4294967296 y.natAbs).length<8388608) (hnxl:(wd 4294967296 nx).length<8388608) (hnyl:(wd 4294967296 ny).length<8388608) (P Q:Int) (hP:x*(ny:Int)=P) (hQ:(nx:Int)*y=Q) (hPl:(wd 4294967296 P.natAbs).length<8388608) (hQl:(wd 4294967296 Q.natAbs).length<8388608) (hQ0:Q≠0) (N D:Int) (eN0:Hid (N=zch (if Q<0 then -P else P) Q.natAbs)) (eD0:Hid (D=zci P Q.natAbs)) :
   Calls prog 93 #[.pointer (some ⟨zb,0,none⟩),.pointer (some ⟨xb,0,none⟩),.pointer (some ⟨yb,0,none⟩)] w fun e w'=>e=.returned (.pointer (some ⟨zb,0,none⟩))∧But [zb] w w'∧zx w' zb N D:=by(
 have lx:=hx.lt
 have ly:=hy.lt
 have lz:=hz0.lt
 go_enter func93,ntmps93
 go_wp2
 go_region_with (first
  | (go_at_call_of 83 (Value.pointer (some ⟨yb,0,none⟩));refine (yc yb y ny _ ?_ hny).mono ?_;(refine hy.but ?_;repeat (first | assumption | exact But.refl _ _ | apply But.drew | apply But.alloc));rintro e w' ⟨rfl,rfl⟩)
  | (go_at_call_of 83 (Value.pointer (some ⟨xb,0,none⟩));refine (yc xb x nx _ ?_ hnx).mono ?_;(refine hx.but ?_;repeat (first | assumption | exact But.refl _ _ | apply But.drew | apply But.alloc));rintro e w' ⟨rfl,rfl⟩)
  | (go_at_call_of 85 (Value.pointer (some ⟨yb,2,none⟩));refine (jh _ xb 0 yb 2 x (ny:Int) P hP w _ ?_ ?_ ?_ hx.up hy.low hxl (by rw[Int.natAbs_natCast];exact hnyl) hPl).mono ?_;(first | exact zod _ _ | exact zcx _ _ _ | exact zcw _ _ _);(repeat (first | assumption | exact But.refl _ _ | apply But.drew | apply But.alloc));omega;rintro e W1 ⟨rfl,KB1,KA1,KS1,KI1,KL1⟩)
  | (go_at_call_of 85 (Value.pointer (some ⟨xb,2,none⟩));refine (jh _ xb 2 yb 0 (nx:Int) y Q hQ w _ ?_ ?_ ?_ hx.low hy.up (by rw[Int.natAbs_natCast];exact hnxl) hyl hQl).mono ?_;(first | exact jg _ _ | exact KS1 _ (by omega) (zcx _ _ _) | exact KS1 _ (by omega) (zcw _ _ _));(repeat (first | assumption | exact But.refl _ _ | apply But.drew | apply But.alloc));(have:=KB1.size;omega);rintro e W2 ⟨rfl,KB2,KA2,KS2,KI2,KL2⟩)
  | (go_at_call 67;refine (vw zb _ 0 _ 0 P Q _ (hz0.but KB2 (by simp)) (hz2.but KB2 (by simp)) (KI2 _ _ _ ?_ ?_) KA2 hPl hQl hQ0 N D eN0 eD0).mono ?_;(have:=KA1.lt;omega);(refine KA1.but ?_;repeat (first | exact But.refl _ _ | apply But.drew | apply But.alloc));rintro e W3 ⟨rfl,KB3,KR3⟩))
 all_goals go_wp2
 all_goals go_ret
 all_goals exact⟨rfl,(KB2.of_nil (l:=[zb])).trans KB3 (by simp),KR3⟩)
end Go.Proofs.YtagmkkiagjmimaaGreatDoor
