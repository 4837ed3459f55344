/- The reference's numbers, in one form.  -/
import Derived.Test.YtffghofheeleeaaGreatDoorKHQ
import Derived.Test.YtffghofheeleeaaGreatDoorKLXqL
import Derived.Test.YtffghofheeleeaaGreatDoorKPhqL
namespace Go.Proofs.YtffghofheeleeaaGreatDoor
open Go.Proofs.Tryz
open Go.RowKit
set_option linter.unusedVariables false
theorem rf (z:Int) (w:World) (h1:-9223372036854775808≤z) (h2:z<9223372036854775808) :
  Calls prog 16 #[.int .i64 z] w fun e w'=>∃ zb,e=.returned (.pointer (some ⟨zb,0,none⟩))∧za w' zb (((z:Int):Rat))∧But [] w w':=by
 obtain⟨i1,i2⟩:=bp z
 exact (zqr z w h1 h2).mono fun e w' ⟨zb,he,hb,hr⟩=>⟨zb,he,by unfold za;rw[i1,i2];exact hr,hb⟩
theorem zai (xb yb:Nat) (f g:Rat) (w:World) (hx:za w xb f) (hy:za w yb g) (lf:zu f 2000000) (lg:zu g 2000000) :
  Calls prog 51 #[.pointer (some ⟨xb,0,none⟩),.pointer (some ⟨yb,0,none⟩)] w fun e w'=>∃ zb,e=.returned (.pointer (some ⟨zb,0,none⟩))∧za w' zb (f+g)∧But [] w w' :=
 (zqs xb yb f g w hx hy lf lg).mono fun e w' ⟨zb,he,hb,hr,_⟩=>⟨zb,he,hr,hb⟩
theorem zfm (xb yb:Nat) (f g:Rat) (w:World) (hx:za w xb f) (hy:za w yb g) (lf:zu f 2000000) (lg:zu g 2000000) :
  Calls prog 47 #[.pointer (some ⟨xb,0,none⟩),.pointer (some ⟨yb,0,none⟩)] w fun e w'=>∃ zb,e=.returned (.pointer (some ⟨zb,0,none⟩))∧za w' zb (f-g)∧But [] w w' :=
 (zqp xb yb f g w hx hy lf lg).mono fun e w' ⟨zb,he,hb,hr,_⟩=>⟨zb,he,hr,hb⟩
theorem pz (xb yb:Nat) (f g:Rat) (w:World) (hx:za w xb f) (hy:za w yb g) (lf:zu f 2000000) (lg:zu g 2000000) :
  Calls prog 42 #[.pointer (some ⟨xb,0,none⟩),.pointer (some ⟨yb,0,none⟩)] w fun e w'=>∃ zb,e=.returned (.pointer (some ⟨zb,0,none⟩))∧za w' zb (f*g)∧But [] w w' :=
 (zqq xb yb f g w hx hy lf lg).mono fun e w' ⟨zb,he,hb,hr,_⟩=>⟨zb,he,hr,hb⟩
theorem zfn (xb yb:Nat) (f g q:Rat) (w:World) (hx:za w xb f) (hy:za w yb g) (lf:zu f 2000000) (lg:zu g 2000000) (hg0:g.num≠0) (hq:q*g=f) :
  Calls prog 59 #[.pointer (some ⟨xb,0,none⟩),.pointer (some ⟨yb,0,none⟩)] w fun e w'=>∃ zb,e=.returned (.pointer (some ⟨zb,0,none⟩))∧za w' zb (q)∧But [] w w' :=
 (zof xb yb f g q w hx hy lf lg hg0 hq).mono fun e w' ⟨zb,he,hb,hr,_⟩=>⟨zb,he,hr,hb⟩
theorem qzn (o u:Int) (f:Rat) (w:World) (ho1:-9223372036854775808≤o) (ho2:o<9223372036854775808) (hu1:-9223372036854775808≤u) (hu2:u<9223372036854775808) (hf:f.num*(if u=0 then 1 else u)=o*(f.den:Int)) :
  Calls prog 12 #[.agg #[.int .i64 o,.int .i64 u]] w fun e w'=>∃ zb,e=.returned (.pointer (some ⟨zb,0,none⟩))∧za w' zb (f)∧But [] w w' :=
 (zuj o u f w ho1 ho2 hu1 hu2 hf).mono fun e w' ⟨zb,he,hb,hr,_⟩=>⟨zb,he,hr,hb⟩
theorem zih (b:Nat) (f:Rat) (w:World) (h:za w b f) (s:Int) (hs:s=f.num.sign) (hl:zu f 2000000) :
  Calls prog 50 #[.pointer (some ⟨b,0,none⟩)] w fun e w'=>e=.returned (.int .i64 s)∧But [] w w' :=
 (zdf b f.num (f.den:Int) w h s hs (by have:=hl.1;omega)).mono fun e w' ⟨he,hw⟩=>⟨he,by rw[hw];exact But.refl _ _⟩
theorem zu.int {z:Int} (h:z.natAbs<18446744073709551616):zu ((z:Int):Rat) 2:=by
 obtain⟨i1,i2⟩:=bp z
 exact⟨by rw[i1];exact jf _ h,by rw[i2];exact jf _ (by omega)⟩
end Go.Proofs.YtffghofheeleeaaGreatDoor
