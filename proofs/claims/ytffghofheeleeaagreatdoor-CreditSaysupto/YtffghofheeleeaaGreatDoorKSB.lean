/- Contracts of math/bits at this program,  -/
import Derived.Shelf.Bits.Mul64
import Derived.Shelf.Small.Bits
import Derived.Test.YtffghofheeleeaaGreatDoorProg
import Derived.Test.YtffghofheeleeaaGreatDoorKBase
namespace Go.Proofs
open Go.Proofs.Tryz
open Go.Shelf
def Tryz.lays264_ren : Go.Shelf.Ren := ⟨fun | 264 => 131 | n => n, fun | 46 => 213 | 53 => 24 | n => n, fun | n => n⟩
theorem Tryz.lays264 : Go.Proofs.Lays.n264 Tryz.prog Tryz.lays264_ren := {
  mixed := by kernel_rfl
  f264 := Tryz.func131.trans (congrArg some (by kernel_rfl))
  t46 := Tryz.underlying213
  a46 := Tryz.isAgg213
  z46 := Tryz.sizeOf213
  v46 := Tryz.zeroValue213
  t53 := Tryz.underlying24
  a53 := Tryz.isAgg24
  z53 := Tryz.sizeOf24
  v53 := Tryz.zeroValue24 }
def Tryz.lays134_ren : Go.Shelf.Ren := ⟨fun | 129 => 194 | 134 => 174 | n => n, fun | 3 => 3 | 4 => 4 | 5 => 5 | 9 => 9 | 46 => 213 | 53 => 24 | n => n, fun | n => n⟩
theorem Tryz.lays134 : Go.Proofs.Lays.n134 Tryz.prog Tryz.lays134_ren := {
  mixed := by kernel_rfl
  f129 := Tryz.func194.trans (congrArg some (by kernel_rfl))
  f134 := Tryz.func174.trans (congrArg some (by kernel_rfl))
  t3 := Tryz.underlying3
  a3 := Tryz.isAgg3
  z3 := Tryz.sizeOf3
  v3 := Tryz.zeroValue3
  t4 := Tryz.underlying4
  a4 := Tryz.isAgg4
  z4 := Tryz.sizeOf4
  v4 := Tryz.zeroValue4
  t5 := Tryz.underlying5
  a5 := Tryz.isAgg5
  z5 := Tryz.sizeOf5
  v5 := Tryz.zeroValue5
  t9 := Tryz.underlying9
  a9 := Tryz.isAgg9
  z9 := Tryz.sizeOf9
  v9 := Tryz.zeroValue9
  t46 := Tryz.underlying213
  a46 := Tryz.isAgg213
  z46 := Tryz.sizeOf213
  v46 := Tryz.zeroValue213
  t53 := Tryz.underlying24
  a53 := Tryz.isAgg24
  z53 := Tryz.sizeOf24
  v53 := Tryz.zeroValue24 }
theorem Tryz.bits_Mul64 (x y:Nat) (hx:x < 18446744073709551616) (hy:y < 18446744073709551616) (w:World) :
  Calls prog 131 #[.int .u64 x,.int .u64 y] w fun e w'=>e=.returned (.tuple #[.int .u64 ((x*y / 18446744073709551616:Nat):Int),.int .u64 ((x*y % 18446744073709551616:Nat):Int)])∧w'=w:=Any.bits_Mul64 Tryz.lays264 x y hx hy w
theorem Tryz.bits_LeadingZeros64 (x:Int) (w:World) (h0:0≤x) (h1:x≤18446744073709551615) :
  Calls prog 174 #[.int .u64 x] w fun e w'=>e=.returned (.int .i64 (64-(Lib.bitLen x.toNat:Int)))∧w'=w:=Any.bits_LeadingZeros64 Tryz.lays134 x w h0 h1
end Go.Proofs
namespace Go.Proofs.YtffghofheeleeaaGreatDoor
open Go.Proofs.Tryz
def sgR (f:Nat→Rat):Nat→Rat
 | 0=>0
 | k+1=>sgR f k+f k
theorem yo (f g:Nat→Rat):∀ n,(∀ k,k<n→f k=g k)→sgR f n=sgR g n
 | 0,_=>rfl
 | n+1,h=>by
  show sgR f n+f n=sgR g n+g n
  rw[yo f g n (fun k hk=>h k (by omega)),h n (by omega)]
theorem zpk (f g:Nat→Rat):∀ n,sgR (fun k=>f k+g k) n=sgR f n+sgR g n
 | 0=>by
  show (0:Rat)=0+0
  grind
 | n+1=>by
  show sgR _ n+(f n+g n)=sgR f n+f n+(sgR g n+g n)
  rw[zpk f g n];grind
theorem zep (f:Nat→Rat):∀ n,(∀ k,k<n→0≤f k)→0≤sgR f n
 | 0,_=>by
  show (0:Rat)≤0
  decide
 | n+1,h=>by
  have h1:=zep f n (fun k hk=>h k (by omega))
  have h2:=h n (by omega)
  show 0≤sgR f n+f n
  grind
theorem zvq (f:Nat→Rat) (c:Rat):∀ n,sgR (fun k=>c*f k) n=c*sgR f n
 | 0=>by
  show (0:Rat)=c*0
  grind
 | n+1=>by
  show sgR (fun k=>c*f k) n+c*f n=c*(sgR f n+f n)
  rw[zvq f c n];grind
end Go.Proofs.YtffghofheeleeaaGreatDoor
