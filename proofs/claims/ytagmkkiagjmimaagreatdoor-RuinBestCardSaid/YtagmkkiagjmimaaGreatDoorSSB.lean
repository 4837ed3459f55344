/- Contracts of math/bits at this program,  -/
import Derived.Shelf.Bits.Mul64
import Derived.Shelf.Small.Bits
import Derived.Test.YtagmkkiagjmimaaGreatDoorProg
import Derived.Laws.Bits64b
namespace Go.Proofs
set_option linter.unusedVariables false
open Go.Proofs.Tryz
open Go.Shelf
def Tryz.lays264_ren : Go.Shelf.Ren := ⟨fun | 264 => 178 | n => n, fun | 46 => 207 | 53 => 24 | n => n, fun | n => n⟩
theorem Tryz.lays264 : Go.Proofs.Lays.n264 Tryz.prog Tryz.lays264_ren := {
  mixed := by kernel_rfl
  f264 := Tryz.func178.trans (congrArg some (by kernel_rfl))
  t46 := Tryz.underlying207
  a46 := Tryz.isAgg207
  z46 := Tryz.sizeOf207
  v46 := Tryz.zeroValue207
  t53 := Tryz.underlying24
  a53 := Tryz.isAgg24
  z53 := Tryz.sizeOf24
  v53 := Tryz.zeroValue24 }
def Tryz.lays134_ren : Go.Shelf.Ren := ⟨fun | 129 => 248 | 134 => 223 | n => n, fun | 3 => 3 | 4 => 4 | 5 => 5 | 9 => 9 | 46 => 207 | 53 => 24 | n => n, fun | n => n⟩
theorem Tryz.lays134 : Go.Proofs.Lays.n134 Tryz.prog Tryz.lays134_ren := {
  mixed := by kernel_rfl
  f129 := Tryz.func248.trans (congrArg some (by kernel_rfl))
  f134 := Tryz.func223.trans (congrArg some (by kernel_rfl))
  t3 := Tryz.underlying3
  a3 := Tryz.isAgg3
  z3 := Tryz.sizeOf3
  v3 := Tryz.zeroValue3
  t4 := Tryz.underlying4
  a4 := Tryz.isAgg4
  z4 := Tryz.sizeOf4
  v4 := Tryz.zeroValue4
  t5 := Tryz.underlying5
  a5 := Tryz.isAgg5
  z5 := Tryz.sizeOf5
  v5 := Tryz.zeroValue5
  t9 := Tryz.underlying9
  a9 := Tryz.isAgg9
  z9 := Tryz.sizeOf9
  v9 := Tryz.zeroValue9
  t46 := Tryz.underlying207
  a46 := Tryz.isAgg207
  z46 := Tryz.sizeOf207
  v46 := Tryz.zeroValue207
  t53 := Tryz.underlying24
  a53 := Tryz.isAgg24
  z53 := Tryz.sizeOf24
  v53 := Tryz.zeroValue24 }
theorem Tryz.bits_Mul64 (x y:Nat) (hx:x < 18446744073709551616) (hy:y < 18446744073709551616) (w:World) :
  Calls prog 178 #[.int .u64 x,.int .u64 y] w fun e w'=>e=.returned (.tuple #[.int .u64 ((x*y / 18446744073709551616:Nat):Int),.int .u64 ((x*y % 18446744073709551616:Nat):Int)])∧w'=w:=Any.bits_Mul64 Tryz.lays264 x y hx hy w
theorem Tryz.bits_LeadingZeros64 (x:Int) (w:World) (h0:0≤x) (h1:x≤18446744073709551615) :
  Calls prog 223 #[.int .u64 x] w fun e w'=>e=.returned (.int .i64 (64-(Lib.bitLen x.toNat:Int)))∧w'=w:=Any.bits_LeadingZeros64 Tryz.lays134 x w h0 h1
end Go.Proofs
namespace Go.Proofs.YtagmkkiagjmimaaGreatDoor
open Go.Proofs.Tryz
theorem zwn (u Y n1 n0 u1 q r:Nat) (hY:Y=n1*4294967296+n0) (e:u=q*n1+r) (hr:r<n1) (hu1:u1<4294967296):(u*4294967296+u1)/Y≤q:=by(
 have h0:0<Y:=by omega
 have:u*4294967296+u1<(q+1)*(n1*4294967296):=by
  have h1:u+1≤(q+1)*n1:=by rw[e,Nat.add_mul];omega
  have h2:=Nat.mul_le_mul_right 4294967296 h1
  grind
 apply Nat.le_of_lt_succ
 rw[Nat.div_lt_iff_lt_mul h0]
 subst hY
 grind)
theorem qdh (u Y n1 n0 u1 q r:Nat) (hY:Y=n1*4294967296+n0) (e:u=q*n1+r) (hu:u<Y) (hu1:u1<4294967296) (hc:4294967296≤q∨4294967296*r+u1<q*n0):(u*4294967296+u1)/Y<q:=by(
 have h0:0<Y:=by omega
 rw[Nat.div_lt_iff_lt_mul h0]
 rcases hc with hc | hc
 ·have h1:4294967296*Y≤q*Y:=Nat.mul_le_mul_right _ hc
  omega
 ·subst hY e
  grind)
theorem qdg (u Y n1 n0 u1 q r:Nat) (hY:Y=n1*4294967296+n0) (e:u=q*n1+r) (hu:u<Y) (hQ:(u*4294967296+u1)/Y≤q) (hc:q*n0≤4294967296*r+u1):q=(u*4294967296+u1)/Y:=by(
 have h0:0<Y:=by omega
 refine Nat.le_antisymm ?_ hQ
 rw[Nat.le_div_iff_mul_le h0]
 subst hY e
 grind)
theorem qdi (u Y n1 n0 u1 q r:Nat) (hY:Y=n1*4294967296+n0) (hn0:n0<4294967296) (e:u=q*n1+r) (hu:u<Y) (hr:4294967296≤r):q<4294967296∧q*n0≤4294967296*r+u1:=by(
 have hq:q<4294967296:=by
  rcases Nat.lt_or_ge q 4294967296 with h | h
  ·exact h
  ·have:=Nat.mul_le_mul_right n1 h
   omega
 refine⟨hq,?_⟩
 have h1:q*n0≤4294967296*4294967296:=Nat.mul_le_mul (by omega) (by omega)
 omega)
theorem zwm (u Y u1:Nat) (hu:u<Y) (hu1:u1<4294967296):(u*4294967296+u1)/Y<4294967296:=by
 rw[Nat.div_lt_iff_lt_mul (by omega)]
 omega
theorem qjb (N y P Y u L u1 u0 q1 r1 q0 r0:Nat) (hP:0<P) (hY:Y=y*P) (hN:N*P=u*18446744073709551616+L) (hL:L=u1*4294967296+u0) (e1:u*4294967296+u1=q1*Y+r1) (e0:r1*4294967296+u0=q0*Y+r0) (h0:r0<Y):q1*4294967296+q0=N/y∧r0/P=N%y:=by(
 have h:N*P=(q1*4294967296+q0)*(y*P)+r0:=by
  subst hL hY
  have:(u*4294967296+u1)*4294967296=(q1*(y*P)+r1)*4294967296:=by rw[e1]
  grind
 subst hY
 have hd:r0=(N-(q1*4294967296+q0)*y)*P:=by
  rw[Nat.sub_mul,h,Nat.mul_assoc];omega
 have hle:(q1*4294967296+q0)*y≤N:=by
  have:(q1*4294967296+q0)*y*P≤N*P:=by rw[h,Nat.mul_assoc];omega
  exact Nat.le_of_mul_le_mul_right this hP
 have hlt:N-(q1*4294967296+q0)*y<y:=by
  rw[hd] at h0
  exact Nat.lt_of_mul_lt_mul_right h0
 have hN2:N=(q1*4294967296+q0)*y+(N-(q1*4294967296+q0)*y):=by omega
 constructor
 ·refine (Nat.div_eq_of_lt_le ?_ ?_).symm
  ·exact hle
  ·rw[Nat.add_mul];omega
 ·rw[hd,Nat.mul_div_cancel _ hP]
  have:=Nat.mod_eq_of_lt hlt
  conv=>rhs;rw[hN2]
  rw[Nat.mul_comm _ y,Nat.mul_add_mod,Nat.mul_comm y,this])
theorem zqd (hi lo s:Nat) (hs:s≤63) (hlo:lo<18446744073709551616):(hi*2^s) ||| (lo/2^(64-s))=hi*2^s+lo/2^(64-s)∧lo/2^(64-s)<2^s:=by(
 have hp:18446744073709551616=2^s*2^(64-s):=by rw[← Nat.pow_add,show s+(64-s)=64 from by omega]
 have hb:lo/2^(64-s)<2^s:=by
  rw[Nat.div_lt_iff_lt_mul (Nat.pow_pos (by omega)),← hp];exact hlo
 refine⟨?_,hb⟩
 rw[Nat.mul_comm hi,Nat.two_pow_add_eq_or_of_lt hb])
theorem qio (hi lo s:Nat) (hs:s≤63):(hi*18446744073709551616+lo)*2^s=(hi*2^s+lo/2^(64-s))*18446744073709551616+lo*2^s%18446744073709551616:=by(
 have hp:18446744073709551616=2^(64-s)*2^s:=by rw[← Nat.pow_add,show (64-s)+s=64 from by omega]
 have e:lo*2^s/18446744073709551616=lo/2^(64-s):=by
  rw[hp,Nat.mul_div_mul_right _ _ (Nat.pow_pos (by omega))]
 have:=Nat.div_add_mod (lo*2^s) 18446744073709551616
 rw[e] at this
 grind)
theorem qgd (x2 x1 x0 f s P Rl Yl R Y q r:Nat) (hR:R=Rl+P*(x0 + 18446744073709551616*(x1 + 18446744073709551616*x2))) (hY:Y=Yl+P*(s + 18446744073709551616*f)) (hl:Rl<P) (hx0:x0 < 18446744073709551616) (e:x2 * 18446744073709551616+x1=q*f+r) (hr:r<f):R<(q+1)*Y:=by(
 have h1:x2 * 18446744073709551616+x1+1≤(q+1)*f:=by rw[e,Nat.add_mul];omega
 have h2:(x2 * 18446744073709551616+x1+1)*(18446744073709551616*P)≤(q+1)*f*(18446744073709551616*P):=Nat.mul_le_mul_right _ h1
 have h3:R<(x2 * 18446744073709551616+x1+1)*(18446744073709551616*P):=by
  have h4:(x0+1)*P≤18446744073709551616*P:=Nat.mul_le_mul_right _ hx0
  subst hR
  grind
 have h5:(q+1)*f*(18446744073709551616*P)≤(q+1)*Y:=by
  subst hY
  grind
 omega)
theorem qiz (x2 x1 x0 f s P Rl Yl R Y q r:Nat) (hR:R=Rl+P*(x0 + 18446744073709551616*(x1 + 18446744073709551616*x2))) (hY:Y=Yl+P*(s + 18446744073709551616*f)) (hl:Rl<P) (e:x2 * 18446744073709551616+x1=q*f+r) (hc:r * 18446744073709551616+x0<q*s):R<q*Y:=by(
 have h1:x2 * 18446744073709551616 * 18446744073709551616+x1 * 18446744073709551616+x0+1≤q*(s + 18446744073709551616*f):=by
  have:(x2 * 18446744073709551616+x1) * 18446744073709551616=(q*f+r) * 18446744073709551616:=by rw[e]
  grind
 have h2:(x2 * 18446744073709551616 * 18446744073709551616+x1 * 18446744073709551616+x0+1)*P≤q*(s + 18446744073709551616*f)*P:=Nat.mul_le_mul_right _ h1
 subst hR hY
 grind)
end Go.Proofs.YtagmkkiagjmimaaGreatDoor
