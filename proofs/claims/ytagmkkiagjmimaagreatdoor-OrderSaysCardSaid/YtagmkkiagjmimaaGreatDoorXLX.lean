/- Texts of fractions, of both kinds, are t -/
import Derived.Test.YtagmkkiagjmimaaGreatDoorXBW
import Derived.Test.YtagmkkiagjmimaaGreatDoorXHG
import Derived.Test.YtagmkkiagjmimaaGreatDoorXRP
namespace Go.Proofs.YtagmkkiagjmimaaGreatDoor
open Go.Proofs.Tryz
open Go.RowKit
theorem qel {a b:ByteArray} (h:a.data.toList=b.data.toList):a=b:=by
 cases a;cases b;simp only[ByteArray.mk.injEq];exact Array.ext' h
theorem zke (a b:ByteArray):(a++b).data.toList=a.data.toList++b.data.toList:=by simp
theorem zzu (x:Rat):zho (decide (x.num<0)) x.num.natAbs x.den=zif x.num x.den:=by(
 apply qel
 have e:zbt x.num=(if decide (x.num<0) then [45] else [])++Lib.decDigits x.num.natAbs:=by
  rw[zbt]
  by_cases h:x.num<0
  ·rw[if_pos h,decide_eq_true h];rfl
  ·rw[if_neg h,decide_eq_false h];rfl
 have e2:zbt (x.den:Int)=Lib.decDigits x.den:=by rw[zbt,if_neg (by omega),Int.natAbs_natCast]
 generalize decide (x.num<0)=r at *
 rw[zho,zif,zke]
 by_cases hq:x.den=1
 ·rw[if_pos hq,if_pos hq,e]
  cases r <;> simp
 ·rw[if_neg hq,if_neg hq,zke,zke,zke,e,e2]
  cases r <;> simp)
theorem zhk {f:Rat} {n:Nat} (h:Len f n):qd f (2*n):=by(
 have h1:=am (B:=18446744073709551616) (by omega) _ n h.1
 have h2:=am (B:=18446744073709551616) (by omega) _ n h.2
 have e:(18446744073709551616:Nat)^n=4294967296^(2*n):=by rw[Nat.pow_mul]
 rw[e] at h1 h2
 exact⟨aj (by omega) _ _ h1,aj (by omega) _ _ h2⟩)
set_option linter.unusedVariables false
theorem zfh (z:Int) (w:World) (h1:-9223372036854775808≤z) (h2:z<9223372036854775808) :
  Calls prog 19 #[.int .i64 z] w fun e w'=>∃ zb,e=.returned (.pointer (some ⟨zb,0,none⟩))∧zi w' zb (((z:Int):Rat))∧But [] w w':=by
 obtain⟨i1,i2⟩:=bp z
 exact (zup z w h1 h2).mono fun e w' ⟨zb,he,hb,hr⟩=>⟨zb,he,by unfold zi;rw[i1,i2];exact hr,hb⟩
theorem zpa (xb yb:Nat) (f g:Rat) (w:World) (hx:zi w xb f) (hy:zi w yb g) (lf:qd f 2000000) (lg:qd g 2000000) :
  Calls prog 82 #[.pointer (some ⟨xb,0,none⟩),.pointer (some ⟨yb,0,none⟩)] w fun e w'=>∃ zb,e=.returned (.pointer (some ⟨zb,0,none⟩))∧zi w' zb (f+g)∧But [] w w' :=
 (zuq xb yb f g w hx hy lf lg).mono fun e w' ⟨zb,he,hb,hr,_⟩=>⟨zb,he,hr,hb⟩
theorem qeb (xb yb:Nat) (f g:Rat) (w:World) (hx:zi w xb f) (hy:zi w yb g) (lf:qd f 2000000) (lg:qd g 2000000) :
  Calls prog 71 #[.pointer (some ⟨xb,0,none⟩),.pointer (some ⟨yb,0,none⟩)] w fun e w'=>∃ zb,e=.returned (.pointer (some ⟨zb,0,none⟩))∧zi w' zb (f-g)∧But [] w w' :=
 (zun xb yb f g w hx hy lf lg).mono fun e w' ⟨zb,he,hb,hr,_⟩=>⟨zb,he,hr,hb⟩
theorem qec (xb yb:Nat) (f g:Rat) (w:World) (hx:zi w xb f) (hy:zi w yb g) (lf:qd f 2000000) (lg:qd g 2000000) :
  Calls prog 28 #[.pointer (some ⟨xb,0,none⟩),.pointer (some ⟨yb,0,none⟩)] w fun e w'=>∃ zb,e=.returned (.pointer (some ⟨zb,0,none⟩))∧zi w' zb (f*g)∧But [] w w' :=
 (zuo xb yb f g w hx hy lf lg).mono fun e w' ⟨zb,he,hb,hr,_⟩=>⟨zb,he,hr,hb⟩
theorem zrf (b:Nat) (f:Rat) (w:World) (h:zi w b f) (s:Int) (hs:s=f.num.sign) (hl:qd f 2000000) :
  Calls prog 44 #[.pointer (some ⟨b,0,none⟩)] w fun e w'=>e=.returned (.int .i64 s)∧But [] w w' :=
 (zrk b f.num (f.den:Int) w h s hs (by have:=hl.1;omega)).mono fun e w' ⟨he,hw⟩=>⟨he,by rw[hw];exact But.refl _ _⟩
theorem qd.int {z:Int} (h:z.natAbs<18446744073709551616):qd ((z:Int):Rat) 2:=by
 obtain⟨i1,i2⟩:=bp z
 exact⟨by rw[i1];exact dh _ h,by rw[i2];exact dh _ (by omega)⟩
end Go.Proofs.YtagmkkiagjmimaaGreatDoor
