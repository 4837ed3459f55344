/- The text of a new fraction of the refere -/
import Derived.Test.YtagmkkiagjmimaaGreatDoorSHNr
import Derived.Test.YtagmkkiagjmimaaGreatDoorST3r
namespace Go.Proofs.YtagmkkiagjmimaaGreatDoor
open Go.Proofs.Tryz
open Go.RowKit
set_option maxHeartbeats 32000000
set_option maxRecDepth 100000
set_option linter.unusedVariables false
theorem qbh (zb xb yb:Nat) (y:Int) (ny:Nat) (w:World) (hz0:Slot w zb 0) (hz2:Slot w zb 2) (hx:wh w xb) (hy:zx w yb y (ny:Int)) (hny:0<ny) (hyl:(wd 4294967296 y.natAbs).length<8388608) (hnyl:(wd 4294967296 ny).length<8388608) (P Q:Int) (hP:0*(ny:Int)=P) (hQ:1*y=Q) (hPl:(wd 4294967296 P.natAbs).length<8388608) (hQl:(wd 4294967296 Q.natAbs).length<8388608) (hQ0:Q≠0) (N D:Int) (eN0:Hid (N=zch (if Q<0 then -P else P) Q.natAbs)) (eD0:Hid (D=zci P Q.natAbs)) :
   Calls prog 93 #[.pointer (some ⟨zb,0,none⟩),.pointer (some ⟨xb,0,none⟩),.pointer (some ⟨yb,0,none⟩)] w fun e w'=>e=.returned (.pointer (some ⟨zb,0,none⟩))∧But [zb] w w'∧zx w' zb N D:=by(
 have lx:=hx.lt
 have ly:=hy.lt
 have lz:=hz0.lt
 have zl:(wd 4294967296 (0:Int).natAbs).length<8388608:=Nat.lt_of_le_of_lt (ji _ (by decide)) (by omega)
 have ol:(wd 4294967296 (1:Int).natAbs).length<8388608:=Nat.lt_of_le_of_lt (ji _ (by decide)) (by omega)
 go_enter func93,ntmps93
 go_wp2
 go_region_with (first
  | (go_at_call_of 83 (Value.pointer (some ⟨yb,0,none⟩));refine (yc yb y ny _ ?_ hny).mono ?_;(refine hy.but ?_;repeat (first | assumption | exact But.refl _ _ | apply But.drew | apply But.alloc));rintro e w' ⟨rfl,rfl⟩)
  | (go_at_call_of 83 (Value.pointer (some ⟨xb,0,none⟩));refine (zhw xb _ ?_).mono ?_;(refine hx.but ?_;repeat (first | assumption | exact But.refl _ _ | apply But.drew | apply But.alloc));rintro e We ⟨qd,rfl,hqd,KBd,KId⟩)
  | (go_at_call_of 85 (Value.pointer (some ⟨yb,2,none⟩));refine (jh _ xb 0 yb 2 0 (ny:Int) P hP w _ ?_ ?_ ?_ hx.1 hy.low zl (by rw[Int.natAbs_natCast];exact hnyl) hPl).mono ?_;(first | exact zod _ _ | exact zcx _ _ _ | exact zcw _ _ _);(repeat (first | assumption | exact But.refl _ _ | apply But.drew | apply But.alloc));omega;rintro e W1 ⟨rfl,KB1,KA1,KS1,KI1,KL1⟩)
  | (go_at_call_of 85 (Value.pointer (some ⟨qd,0,none⟩));refine (zeh _ qd 0 yb 0 1 y Q hQ w _ ?_ ?_ ?_ ?_ ?_ ?_ ?_ ol hyl hQl).mono ?_;(first | exact jg _ _ | exact (jg _ _).but KBd (by simp) | exact (KS1 _ (by omega) (zcx _ _ _)).but KBd (by simp) | exact (KS1 _ (by omega) (zcw _ _ _)).but KBd (by simp));(first | exact KB1.trans' KBd | exact (KB1.alloc _).trans' KBd | exact (KB1.trans' KBd).alloc _);(first | omega | (have:=KB1.size;omega) | (have:=KB1.size;have:=KBd.size;omega) | (have:=KB1.size;have:=KBd.size;simp at this;omega));(first | exact KId | exact KId.but ((But.refl _ _).alloc _));(refine hy.up.but ?_;(first | exact KB1.trans' KBd | exact (KB1.alloc _).trans' KBd | exact (KB1.trans' KBd).alloc _));(first | (have:=KId.lt;omega) | (have:=(KS1 _ (by omega) (zcx _ _ _)).lt;omega) | (have:=(KS1 _ (by omega) (zcw _ _ _)).lt;omega) | (have h0:=hqd;simp at h0;omega));(first | omega | (have:=KB1.size;omega) | (have:=KB1.size;have:=KBd.size;omega) | (have:=KB1.size;have:=KBd.size;simp at this;omega));rintro e W2 ⟨rfl,KB2,KA2,KS2,KI2,KL2⟩)
  | (go_at_call 67;refine (vw zb _ 0 _ 0 P Q _ (hz0.but KB2 (by simp)) (hz2.but KB2 (by simp)) (KI2 _ _ _ ?_ ?_) KA2 hPl hQl hQ0 N D eN0 eD0).mono ?_;(first | omega | (have:=KA1.lt;omega) | (have:=KA1.lt;have:=KBd.size;omega) | (have:=KA1.lt;have:=KBd.size;simp at this;omega));(refine KA1.but ?_;(first | exact KBd | exact ((But.refl _ _).alloc _).trans' KBd | exact KBd.alloc _));rintro e W3 ⟨rfl,KB3,KR3⟩))
 all_goals go_wp2
 all_goals go_ret
 all_goals exact⟨rfl,(KB2.of_nil (l:=[zb])).trans KB3 (by simp),KR3⟩)
end Go.Proofs.YtagmkkiagjmimaaGreatDoor
