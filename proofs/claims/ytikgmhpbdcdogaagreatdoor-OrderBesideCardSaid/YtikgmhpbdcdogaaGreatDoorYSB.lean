/- Contracts of math/bits at this program, off the shelf. -/
import Derived.Shelf.Bits.Mul64
import Derived.Shelf.Small.Bits
import Derived.Test.YtikgmhpbdcdogaaGreatDoorProg
import Derived.Test.YtikgmhpbdcdogaaGreatDoorYBase
namespace Go.Proofs
open Go.Shelf
def Tryz.lays264_ren : Go.Shelf.Ren := ⟨fun | 264 => 86 | n => n, fun | 46 => 68 | 53 => 26 | n => n, fun | n => n⟩
theorem Tryz.lays264 : Go.Proofs.Lays.n264 Tryz.prog Tryz.lays264_ren := {
  mixed := by kernel_rfl
  f264 := Tryz.func86.trans (congrArg some (by kernel_rfl))
  t46 := Tryz.underlying68
  a46 := Tryz.isAgg68
  z46 := Tryz.sizeOf68
  v46 := Tryz.zeroValue68
  t53 := Tryz.underlying26
  a53 := Tryz.isAgg26
  z53 := Tryz.sizeOf26
  v53 := Tryz.zeroValue26 }
def Tryz.lays134_ren : Go.Shelf.Ren := ⟨fun | 129 => 142 | 134 => 120 | n => n, fun | 3 => 3 | 4 => 4 | 5 => 5 | 9 => 9 | 46 => 68 | 53 => 26 | n => n, fun | n => n⟩
theorem Tryz.lays134 : Go.Proofs.Lays.n134 Tryz.prog Tryz.lays134_ren := {
  mixed := by kernel_rfl
  f129 := Tryz.func142.trans (congrArg some (by kernel_rfl))
  f134 := Tryz.func120.trans (congrArg some (by kernel_rfl))
  t3 := Tryz.underlying3
  a3 := Tryz.isAgg3
  z3 := Tryz.sizeOf3
  v3 := Tryz.zeroValue3
  t4 := Tryz.underlying4
  a4 := Tryz.isAgg4
  z4 := Tryz.sizeOf4
  v4 := Tryz.zeroValue4
  t5 := Tryz.underlying5
  a5 := Tryz.isAgg5
  z5 := Tryz.sizeOf5
  v5 := Tryz.zeroValue5
  t9 := Tryz.underlying9
  a9 := Tryz.isAgg9
  z9 := Tryz.sizeOf9
  v9 := Tryz.zeroValue9
  t46 := Tryz.underlying68
  a46 := Tryz.isAgg68
  z46 := Tryz.sizeOf68
  v46 := Tryz.zeroValue68
  t53 := Tryz.underlying26
  a53 := Tryz.isAgg26
  z53 := Tryz.sizeOf26
  v53 := Tryz.zeroValue26 }
theorem Tryz.bits_Mul64 (x y : Nat) (hx : x < 18446744073709551616) (hy : y < 18446744073709551616) (w : World) :
  Calls Tryz.prog 86 #[.int .u64 x,.int .u64 y] w fun e w' => e = .returned (.tuple #[.int .u64 ((x * y / 18446744073709551616 : Nat) : Int),.int .u64 ((x * y % 18446744073709551616 : Nat) : Int)])∧w' = w:=Any.bits_Mul64 Tryz.lays264 x y hx hy w
theorem Tryz.bits_LeadingZeros64 (x : Int) (w : World) (h0 : 0 ≤ x) (h1 : x ≤ 18446744073709551615) :
  Calls Tryz.prog 120 #[.int .u64 x] w fun e w' => e = .returned (.int .i64 (64 - (Lib.bitLen x.toNat : Int)))∧w' = w:=Any.bits_LeadingZeros64 Tryz.lays134 x w h0 h1
end Go.Proofs

namespace Go.Proofs.YtikgmhpbdcdogaaGreatDoor

/-- the sum of the first k -/
def sgR (f : Nat→Rat) : Nat→Rat
 | 0 => 0
 | k + 1 => sgR f k + f k
theorem sgR_congr (f g : Nat→Rat) : ∀ n,(∀ k,k < n→f k = g k)→sgR f n = sgR g n
 | 0,_ => rfl
 | n + 1,h => by
  show sgR f n + f n = sgR g n + g n
  rw [sgR_congr f g n (fun k hk => h k (by omega)),h n (by omega)]
theorem sgR_nonneg (f : Nat→Rat) : ∀ n,(∀ k,k < n→0 ≤ f k)→0 ≤ sgR f n
 | 0,_ => by
  show (0 : Rat) ≤ 0
  decide
 | n + 1,h => by
  have h1:=sgR_nonneg f n (fun k hk => h k (by omega))
  have h2:=h n (by omega)
  show 0 ≤ sgR f n + f n
  grind
theorem sgR_more (f : Nat→Rat) (m : Nat) : ∀ d,(∀ k,m ≤ k→f k = 0)→sgR f (m + d) = sgR f m
 | 0,_ => rfl
 | d + 1,h => by
  show sgR f (m + d) + f (m + d) = _
  rw [sgR_more f m d h,h _ (by omega)]; grind

/-- chances and means from n - d on -/
def upS (f : Nat→Rat) (n : Nat) : Nat→Rat
 | 0 => 0
 | d + 1 => upS f n d + f (n - (d + 1))
theorem upS_nonneg (f : Nat→Rat) (n : Nat) (hf : ∀ k,k < n→0 ≤ f k) : ∀ d,d ≤ n→0 ≤ upS f n d
 | 0,_ => by
  show (0 : Rat) ≤ 0
  decide
 | d + 1,h => by
  have h1:=upS_nonneg f n hf d (by omega)
  have h2:=hf (n - (d + 1)) (by omega)
  show 0 ≤ upS f n d + f (n - (d + 1))
  grind
theorem upS_sg (f : Nat→Rat) (n : Nat) : ∀ d,d ≤ n→upS f n d + sgR f (n - d) = sgR f n
 | 0,_ => by
  show 0 + sgR f n = sgR f n
  grind
 | d + 1,h => by
  have ih:=upS_sg f n d (by omega)
  have e : n - d = (n - (d + 1)) + 1:=by omega
  rw [e] at ih
  have e2 : sgR f (n - (d + 1) + 1) = sgR f (n - (d + 1)) + f (n - (d + 1)):=rfl
  rw [e2] at ih
  show upS f n d + f (n - (d + 1)) + sgR f (n - (d + 1)) = sgR f n
  grind
end Go.Proofs.YtikgmhpbdcdogaaGreatDoor
