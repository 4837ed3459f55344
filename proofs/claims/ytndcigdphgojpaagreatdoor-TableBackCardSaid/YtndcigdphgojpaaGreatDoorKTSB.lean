/- Contracts of math/bits at this program, off the shelf. -/
import Derived.Shelf.Bits.Mul64
import Derived.Shelf.Small.Bits
import Derived.Test.YtndcigdphgojpaaGreatDoorProg
import Derived.Laws.Bits64b
import Derived.Shelf.Strings.Prefix
import Derived.Test.YtndcigdphgojpaaGreatDoorKTBase
namespace Go.Proofs
open Go.Shelf
def Tryz.lays264_ren : Go.Shelf.Ren := ⟨fun | 264 => 53 | n => n, fun | 46 => 63 | 53 => 33 | n => n, fun | n => n⟩
theorem Tryz.lays264 : Go.Proofs.Lays.n264 Tryz.prog Tryz.lays264_ren := {
  mixed := by kernel_rfl
  f264 := Tryz.func53.trans (congrArg some (by kernel_rfl))
  t46 := Tryz.underlying63
  a46 := Tryz.isAgg63
  z46 := Tryz.sizeOf63
  v46 := Tryz.zeroValue63
  t53 := Tryz.underlying33
  a53 := Tryz.isAgg33
  z53 := Tryz.sizeOf33
  v53 := Tryz.zeroValue33 }
def Tryz.lays134_ren : Go.Shelf.Ren := ⟨fun | 129 => 132 | 134 => 96 | n => n, fun | 3 => 3 | 4 => 4 | 5 => 5 | 9 => 9 | 46 => 63 | 53 => 33 | n => n, fun | n => n⟩
theorem Tryz.lays134 : Go.Proofs.Lays.n134 Tryz.prog Tryz.lays134_ren := {
  mixed := by kernel_rfl
  f129 := Tryz.func132.trans (congrArg some (by kernel_rfl))
  f134 := Tryz.func96.trans (congrArg some (by kernel_rfl))
  t3 := Tryz.underlying3
  a3 := Tryz.isAgg3
  z3 := Tryz.sizeOf3
  v3 := Tryz.zeroValue3
  t4 := Tryz.underlying4
  a4 := Tryz.isAgg4
  z4 := Tryz.sizeOf4
  v4 := Tryz.zeroValue4
  t5 := Tryz.underlying5
  a5 := Tryz.isAgg5
  z5 := Tryz.sizeOf5
  v5 := Tryz.zeroValue5
  t9 := Tryz.underlying9
  a9 := Tryz.isAgg9
  z9 := Tryz.sizeOf9
  v9 := Tryz.zeroValue9
  t46 := Tryz.underlying63
  a46 := Tryz.isAgg63
  z46 := Tryz.sizeOf63
  v46 := Tryz.zeroValue63
  t53 := Tryz.underlying33
  a53 := Tryz.isAgg33
  z53 := Tryz.sizeOf33
  v53 := Tryz.zeroValue33 }
theorem Tryz.bits_Mul64 (x y : Nat) (hx : x < 18446744073709551616) (hy : y < 18446744073709551616) (w : World) :
  Calls Tryz.prog 53 #[.int .u64 x,.int .u64 y] w fun e w' => e = .returned (.tuple #[.int .u64 ((x * y / 18446744073709551616 : Nat) : Int),.int .u64 ((x * y % 18446744073709551616 : Nat) : Int)])∧w' = w:=Any.bits_Mul64 Tryz.lays264 x y hx hy w
theorem Tryz.bits_LeadingZeros64 (x : Int) (w : World) (h0 : 0 ≤ x) (h1 : x ≤ 18446744073709551615) :
  Calls Tryz.prog 96 #[.int .u64 x] w fun e w' => e = .returned (.int .i64 (64 - (Lib.bitLen x.toNat : Int)))∧w' = w:=Any.bits_LeadingZeros64 Tryz.lays134 x w h0 h1
end Go.Proofs

namespace Go.Proofs.YtndcigdphgojpaaGreatDoor
theorem dv_init (u Y n1 n0 u1 q r : Nat) (hY : Y = n1 * 4294967296 + n0) (e : u = q * n1 + r) (hr : r < n1) (hu1 : u1 < 4294967296) : (u * 4294967296 + u1) / Y ≤ q:=by
 have h0 : 0 < Y:=by omega
 have : u * 4294967296 + u1 < (q + 1) * (n1 * 4294967296):=by
  have h1 : u + 1 ≤ (q + 1) * n1:=by rw [e,Nat.add_mul]; omega
  have h2:=Nat.mul_le_mul_right 4294967296 h1
  grind
 apply Nat.le_of_lt_succ
 rw [Nat.div_lt_iff_lt_mul h0]
 subst hY
 grind
theorem dv_dec (u Y n1 n0 u1 q r : Nat) (hY : Y = n1 * 4294967296 + n0) (e : u = q * n1 + r) (hu : u < Y) (hu1 : u1 < 4294967296) (hc : 4294967296 ≤ q ∨ 4294967296 * r + u1 < q * n0) : (u * 4294967296 + u1) / Y < q:=by
 have h0 : 0 < Y:=by omega
 rw [Nat.div_lt_iff_lt_mul h0]
 rcases hc with hc | hc
 ·have h1 : 4294967296 * Y ≤ q * Y:=Nat.mul_le_mul_right _ hc
  omega
 ·subst hY e
  grind
theorem dv_fin (u Y n1 n0 u1 q r : Nat) (hY : Y = n1 * 4294967296 + n0) (e : u = q * n1 + r) (hu : u < Y) (hQ : (u * 4294967296 + u1) / Y ≤ q) (hc : q * n0 ≤ 4294967296 * r + u1) : q = (u * 4294967296 + u1) / Y:=by
 have h0 : 0 < Y:=by omega
 refine Nat.le_antisymm ?_ hQ
 rw [Nat.le_div_iff_mul_le h0]
 subst hY e
 grind
theorem dv_brk (u Y n1 n0 u1 q r : Nat) (hY : Y = n1 * 4294967296 + n0) (hn0 : n0 < 4294967296) (e : u = q * n1 + r) (hu : u < Y) (hr : 4294967296 ≤ r) : q < 4294967296∧q * n0 ≤ 4294967296 * r + u1:=by
 have hq : q < 4294967296:=by
  rcases Nat.lt_or_ge q 4294967296 with h | h
  ·exact h
  ·have:=Nat.mul_le_mul_right n1 h
   omega
 refine ⟨hq,?_⟩
 have h1 : q * n0 ≤ 4294967296 * 4294967296:=Nat.mul_le_mul (by omega) (by omega)
 omega
theorem dv_q_lt (u Y u1 : Nat) (hu : u < Y) (hu1 : u1 < 4294967296) : (u * 4294967296 + u1) / Y < 4294967296:=by
 rw [Nat.div_lt_iff_lt_mul (by omega)]
 omega
theorem dv_all (N y P Y u L u1 u0 q1 r1 q0 r0 : Nat) (hP : 0 < P) (hY : Y = y * P) (hN : N * P = u * 18446744073709551616 + L) (hL : L = u1 * 4294967296 + u0) (e1 : u * 4294967296 + u1 = q1 * Y + r1) (e0 : r1 * 4294967296 + u0 = q0 * Y + r0) (h0 : r0 < Y) : q1 * 4294967296 + q0 = N / y∧r0 / P = N % y:=by
 have h : N * P = (q1 * 4294967296 + q0) * (y * P) + r0:=by
  subst hL hY
  have : (u * 4294967296 + u1) * 4294967296 = (q1 * (y * P) + r1) * 4294967296:=by rw [e1]
  grind
 subst hY
 have hd : r0 = (N - (q1 * 4294967296 + q0) * y) * P:=by
  rw [Nat.sub_mul,h,Nat.mul_assoc]; omega
 have hle : (q1 * 4294967296 + q0) * y ≤ N:=by
  have : (q1 * 4294967296 + q0) * y * P ≤ N * P:=by rw [h,Nat.mul_assoc]; omega
  exact Nat.le_of_mul_le_mul_right this hP
 have hlt : N - (q1 * 4294967296 + q0) * y < y:=by
  rw [hd] at h0
  exact Nat.lt_of_mul_lt_mul_right h0
 have hN2 : N = (q1 * 4294967296 + q0) * y + (N - (q1 * 4294967296 + q0) * y):=by omega
 constructor
 ·refine (Nat.div_eq_of_lt_le ?_ ?_).symm
  ·exact hle
  ·rw [Nat.add_mul]; omega
 ·rw [hd,Nat.mul_div_cancel _ hP]
  have:=Nat.mod_eq_of_lt hlt
  conv => rhs; rw [hN2]
  rw [Nat.mul_comm _ y,Nat.mul_add_mod,Nat.mul_comm y,this]
theorem sh_or (hi lo s : Nat) (hs : s ≤ 63) (hlo : lo < 18446744073709551616) : (hi * 2 ^ s) ||| (lo / 2 ^ (64 - s)) = hi * 2 ^ s + lo / 2 ^ (64 - s)∧lo / 2 ^ (64 - s) < 2 ^ s:=by
 have hp : 18446744073709551616 = 2 ^ s * 2 ^ (64 - s):=by rw [← Nat.pow_add,show s + (64 - s) = 64 from by omega]
 have hb : lo / 2 ^ (64 - s) < 2 ^ s:=by
  rw [Nat.div_lt_iff_lt_mul (Nat.pow_pos (by omega)),← hp]; exact hlo
 refine ⟨?_,hb⟩
 rw [Nat.mul_comm hi,Nat.two_pow_add_eq_or_of_lt hb]
theorem sh_sum (hi lo s : Nat) (hs : s ≤ 63) : (hi * 18446744073709551616 + lo) * 2 ^ s = (hi * 2 ^ s + lo / 2 ^ (64 - s)) * 18446744073709551616 + lo * 2 ^ s % 18446744073709551616:=by
 have hp : 18446744073709551616 = 2 ^ (64 - s) * 2 ^ s:=by rw [← Nat.pow_add,show (64 - s) + s = 64 from by omega]
 have e : lo * 2 ^ s / 18446744073709551616 = lo / 2 ^ (64 - s):=by
  rw [hp,Nat.mul_div_mul_right _ _ (Nat.pow_pos (by omega))]
 have:=Nat.div_add_mod (lo * 2 ^ s) 18446744073709551616
 rw [e] at this
 grind
theorem gs_init (x2 x1 x0 f s P Rl Yl R Y q r : Nat) (hR : R = Rl + P * (x0 + 18446744073709551616 * (x1 + 18446744073709551616 * x2))) (hY : Y = Yl + P * (s + 18446744073709551616 * f)) (hl : Rl < P) (hx0 : x0 < 18446744073709551616) (e : x2 * 18446744073709551616 + x1 = q * f + r) (hr : r < f) : R < (q + 1) * Y:=by
 have h1 : x2 * 18446744073709551616 + x1 + 1 ≤ (q + 1) * f:=by rw [e,Nat.add_mul]; omega
 have h2 : (x2 * 18446744073709551616 + x1 + 1) * (18446744073709551616 * P) ≤ (q + 1) * f * (18446744073709551616 * P):=Nat.mul_le_mul_right _ h1
 have h3 : R < (x2 * 18446744073709551616 + x1 + 1) * (18446744073709551616 * P):=by
  have h4 : (x0 + 1) * P ≤ 18446744073709551616 * P:=Nat.mul_le_mul_right _ hx0
  subst hR
  grind
 have h5 : (q + 1) * f * (18446744073709551616 * P) ≤ (q + 1) * Y:=by
  subst hY
  grind
 omega
theorem gs_dec (x2 x1 x0 f s P Rl Yl R Y q r : Nat) (hR : R = Rl + P * (x0 + 18446744073709551616 * (x1 + 18446744073709551616 * x2))) (hY : Y = Yl + P * (s + 18446744073709551616 * f)) (hl : Rl < P) (e : x2 * 18446744073709551616 + x1 = q * f + r) (hc : r * 18446744073709551616 + x0 < q * s) : R < q * Y:=by
 have h1 : x2 * 18446744073709551616 * 18446744073709551616 + x1 * 18446744073709551616 + x0 + 1 ≤ q * (s + 18446744073709551616 * f):=by
  have : (x2 * 18446744073709551616 + x1) * 18446744073709551616 = (q * f + r) * 18446744073709551616:=by rw [e]
  grind
 have h2 : (x2 * 18446744073709551616 * 18446744073709551616 + x1 * 18446744073709551616 + x0 + 1) * P ≤ q * (s + 18446744073709551616 * f) * P:=Nat.mul_le_mul_right _ h1
 subst hR hY
 grind
end Go.Proofs.YtndcigdphgojpaaGreatDoor

namespace Go.Proofs.YtndcigdphgojpaaGreatDoor
theorem rat_of_coprime (n : Int) (d : Nat) (hd : d ≠ 0) (hc : n.natAbs.Coprime d) (q : Rat) (h : q.num * d = n * q.den) : q.num = n∧q.den = d:=by
 have e : q = ⟨n,d,hd,hc⟩:=by
  rw [Rat.mk_eq_mkRat,← Rat.mkRat_self q,Rat.mkRat_eq_iff q.den_nz hd]
  exact h
 rw [e]
 exact ⟨rfl,rfl⟩
/-- a number with a sign -/
def sgn (s : Bool) (m : Nat) : Int:=if s then -(m : Int) else (m : Int)
theorem sgn_abs (s : Bool) (m : Nat) : (sgn s m).natAbs = m:=by cases s <;> simp [sgn]
theorem sgn_mul (s : Bool) (m k : Nat) : sgn s (m * k) = sgn s m * k:=by cases s <;> simp [sgn,Int.neg_mul]
theorem cross_add (f g : Rat) : (f + g).num * (f.den * g.den : Nat) = (f.num * g.den + g.num * f.den) * (f + g).den:=by
 have h:=Rat.add_def' f g
 rw [← Rat.mkRat_self (f + g),Rat.mkRat_eq_iff (f + g).den_nz (Nat.mul_ne_zero f.den_nz g.den_nz)] at h
 exact h
theorem cross_mul (f g : Rat) : (f * g).num * (f.den * g.den : Nat) = (f.num * g.num) * (f * g).den:=by
 have h:=Rat.mul_def' f g
 rw [← Rat.mkRat_self (f * g),Rat.mkRat_eq_iff (f * g).den_nz (Nat.mul_ne_zero f.den_nz g.den_nz)] at h
 exact h
theorem cop_sum (a c : Int) (b b' d' : Nat) (hab : a.natAbs.Coprime b) (hb : b' ∣ b) (hbd : b'.Coprime d') : (a * d' + c * b').natAbs.Coprime b':=by
 rw [Nat.Coprime]
 have hp1 : Nat.gcd (a * d' + c * b').natAbs b' ∣ b':=Nat.gcd_dvd_right _ _
 have hp2 : Nat.gcd (a * d' + c * b').natAbs b' ∣ (a * d' + c * b').natAbs:=Nat.gcd_dvd_left _ _
 generalize Nat.gcd (a * d' + c * b').natAbs b' = p at *
 have h1 : (p : Int) ∣ a * d' + c * b':=Int.ofNat_dvd_left.2 hp2
 have h2 : (p : Int) ∣ c * b':=Int.dvd_mul_of_dvd_right (Int.natCast_dvd_natCast.2 hp1)
 have h3 : (p : Int) ∣ a * d':=(Int.dvd_add_left h2).1 h1
 have h4 : p ∣ a.natAbs * d':=by
  have:=Int.ofNat_dvd_left.1 h3
  rwa [Int.natAbs_mul,Int.natAbs_natCast] at this
 have h5 : p.Coprime a.natAbs:=Nat.Coprime.coprime_dvd_left (Nat.dvd_trans hp1 hb) hab.symm
 have h6 : p ∣ d':=h5.dvd_of_dvd_mul_left h4
 have h7 : p ∣ Nat.gcd b' d':=Nat.dvd_gcd hp1 h6
 rw [hbd] at h7
 exact Nat.dvd_one.1 h7
theorem add_low (f g : Rat) (s : Bool) (M k m : Nat) (hk : k = Nat.gcd f.den g.den) (hm : m = Nat.gcd M k) (hN : f.num * (g.den / k : Nat) + g.num * (f.den / k : Nat) = sgn s M) : (f + g).num = sgn s (M / m)∧(f + g).den = (f.den / k) * (g.den / m):=by
 have hb0 : 0 < f.den:=Nat.pos_of_ne_zero f.den_nz
 have hd0 : 0 < g.den:=Nat.pos_of_ne_zero g.den_nz
 have hk0 : 0 < k:=by rw [hk]; exact Nat.gcd_pos_of_pos_left _ hb0
 have kb : k ∣ f.den:=by rw [hk]; exact Nat.gcd_dvd_left _ _
 have kd : k ∣ g.den:=by rw [hk]; exact Nat.gcd_dvd_right _ _
 have hcop : (f.den / k).Coprime (g.den / k):=by rw [hk]; exact Nat.coprime_div_gcd_div_gcd (by rw [← hk]; exact hk0)
 have hm0 : 0 < m:=by rw [hm]; exact Nat.gcd_pos_of_pos_right _ hk0
 have mk : m ∣ k:=by rw [hm]; exact Nat.gcd_dvd_right _ _
 have mM : m ∣ M:=by rw [hm]; exact Nat.gcd_dvd_left _ _
 have c1 : M.Coprime (f.den / k):=by
  have:=cop_sum f.num g.num f.den (f.den / k) (g.den / k) f.reduced (Nat.div_dvd_of_dvd kb) hcop
  rwa [hN,sgn_abs] at this
 have c2 : M.Coprime (g.den / k):=by
  have:=cop_sum g.num f.num g.den (g.den / k) (f.den / k) g.reduced (Nat.div_dvd_of_dvd kd) hcop.symm
  rw [Int.add_comm] at this
  rwa [hN,sgn_abs] at this
 have c3 : (M / m).Coprime (k / m):=by rw [hm]; exact Nat.coprime_div_gcd_div_gcd (by rw [← hm]; exact hm0)
 obtain ⟨b',hb'⟩:=kb
 obtain ⟨d',hd'⟩:=kd
 obtain ⟨k',hk'⟩:=mk
 obtain ⟨M',hM'⟩:=mM
 have e1 : f.den / k = b':=by rw [hb',Nat.mul_div_cancel_left _ hk0]
 have e2 : g.den / k = d':=by rw [hd',Nat.mul_div_cancel_left _ hk0]
 have e3 : k / m = k':=by rw [hk',Nat.mul_div_cancel_left _ hm0]
 have e4 : M / m = M':=by rw [hM',Nat.mul_div_cancel_left _ hm0]
 have e5 : g.den / m = k' * d':=by rw [hd',hk',Nat.mul_assoc,Nat.mul_div_cancel_left _ hm0]
 rw [e1,e2] at hN
 rw [e1] at c1
 rw [e2] at c2
 rw [e3,e4] at c3
 rw [e1,e4,e5]
 have c1' : M'.Coprime b':=Nat.Coprime.coprime_dvd_left ⟨m,by rw [hM',Nat.mul_comm]⟩ c1
 have c2' : M'.Coprime d':=Nat.Coprime.coprime_dvd_left ⟨m,by rw [hM',Nat.mul_comm]⟩ c2
 have hb1 : b' ≠ 0:=by rintro rfl; rw [Nat.mul_zero] at hb'; omega
 have hd1 : d' ≠ 0:=by rintro rfl; rw [Nat.mul_zero] at hd'; omega
 have hk1 : k' ≠ 0:=by rintro rfl; rw [Nat.mul_zero] at hk'; omega
 refine rat_of_coprime _ _ (Nat.mul_ne_zero hb1 (Nat.mul_ne_zero hk1 hd1)) (by rw [sgn_abs]; exact c1'.mul_right (c3.mul_right c2')) _ ?_
 have hx:=cross_add f g
 generalize (f + g).num = n at *
 generalize (f + g).den = e at *
 have hs : sgn s M = sgn s M' * m:=by rw [hM',Nat.mul_comm,sgn_mul]
 rw [hs] at hN
 rw [hb',hd',hk'] at hx
 have hmz : (m : Int) ≠ 0:=by omega
 have hkz : (k' : Int) ≠ 0:=by omega
 have hx2 : (n * ((b' * (k' * d') : Nat) : Int)) * (m * m * k') = (sgn s M' * e) * (m * m * k'):=by
  have h5 : (f.num * (d' : Int) + g.num * b') * (m * k') * e * m = sgn s M' * m * (m * k') * e * m:=by rw [hN]
  simp only [Int.natCast_mul] at hx ⊢
  grind
 exact Int.eq_of_mul_eq_mul_right (Int.mul_ne_zero (Int.mul_ne_zero hmz hmz) hkz) hx2
theorem num_sgn (f : Rat) : f.num = sgn (decide (f.num < 0)) f.num.natAbs:=by
 unfold sgn
 by_cases h : f.num < 0
 ·simp only [h,decide_true,if_true]; omega
 ·simp only [h,decide_false,Bool.false_eq_true,if_false]; omega
theorem mul_low (f g : Rat) (p q : Nat) (hp : p = Nat.gcd f.num.natAbs g.den) (hq : q = Nat.gcd g.num.natAbs f.den) : (f * g).num = sgn (decide (f.num < 0) != decide (g.num < 0)) (f.num.natAbs / p * (g.num.natAbs / q))∧(f * g).den = (f.den / q) * (g.den / p):=by
 have hb0 : 0 < f.den:=Nat.pos_of_ne_zero f.den_nz
 have hd0 : 0 < g.den:=Nat.pos_of_ne_zero g.den_nz
 have hp0 : 0 < p:=by rw [hp]; exact Nat.gcd_pos_of_pos_right _ hd0
 have hq0 : 0 < q:=by rw [hq]; exact Nat.gcd_pos_of_pos_right _ hb0
 have pa : p ∣ f.num.natAbs:=by rw [hp]; exact Nat.gcd_dvd_left _ _
 have pd : p ∣ g.den:=by rw [hp]; exact Nat.gcd_dvd_right _ _
 have qc : q ∣ g.num.natAbs:=by rw [hq]; exact Nat.gcd_dvd_left _ _
 have qb : q ∣ f.den:=by rw [hq]; exact Nat.gcd_dvd_right _ _
 have c1 : (f.num.natAbs / p).Coprime (g.den / p):=by rw [hp]; exact Nat.coprime_div_gcd_div_gcd (by rw [← hp]; exact hp0)
 have c2 : (g.num.natAbs / q).Coprime (f.den / q):=by rw [hq]; exact Nat.coprime_div_gcd_div_gcd (by rw [← hq]; exact hq0)
 have c3 : (f.num.natAbs / p).Coprime (f.den / q):=Nat.Coprime.coprime_dvd_left (Nat.div_dvd_of_dvd pa) (Nat.Coprime.coprime_dvd_right (Nat.div_dvd_of_dvd qb) f.reduced)
 have c4 : (g.num.natAbs / q).Coprime (g.den / p):=Nat.Coprime.coprime_dvd_left (Nat.div_dvd_of_dvd qc) (Nat.Coprime.coprime_dvd_right (Nat.div_dvd_of_dvd pd) g.reduced)
 have hx:=cross_mul f g
 rw [num_sgn f,num_sgn g] at hx
 generalize decide (f.num < 0) = s at *
 generalize decide (g.num < 0) = t at *
 have nz1 : f.den / q ≠ 0:=Nat.ne_of_gt (Nat.div_pos (Nat.le_of_dvd hb0 qb) hq0)
 have nz2 : g.den / p ≠ 0:=Nat.ne_of_gt (Nat.div_pos (Nat.le_of_dvd hd0 pd) hp0)
 refine rat_of_coprime _ _ (Nat.mul_ne_zero nz1 nz2) (by rw [sgn_abs]; exact (c3.mul_right c1).mul_left (c2.mul_right c4)) _ ?_
 obtain ⟨a',ha⟩:=pa
 obtain ⟨d',hd⟩:=pd
 obtain ⟨c',hc⟩:=qc
 obtain ⟨b',hb⟩:=qb
 rw [ha,hc,hb,hd] at hx
 rw [ha,hc,hb,hd,Nat.mul_div_cancel_left _ hp0,Nat.mul_div_cancel_left _ hq0,Nat.mul_div_cancel_left _ hq0,Nat.mul_div_cancel_left _ hp0]
 generalize (f * g).num = n at *
 generalize (f * g).den = e at *
 have hpz : (p : Int) ≠ 0:=by omega
 have hqz : (q : Int) ≠ 0:=by omega
 refine Int.eq_of_mul_eq_mul_right (a:=(p * q : Int)) (Int.mul_ne_zero hpz hqz) ?_
 cases s <;> cases t <;> simp only [sgn,Int.natCast_mul,bne_self_eq_false,Bool.false_eq_true,if_false,if_true,Bool.not_false,Bool.bne_false,Bool.bne_true] at hx ⊢ <;> grind
end Go.Proofs.YtndcigdphgojpaaGreatDoor

namespace Go.Proofs.YtndcigdphgojpaaGreatDoor
structure Leh (a0 b0 a b xx xy yx yy : Nat) (back : Bool) : Prop where
 i1 : a * yy + b * xy = a0
 i2 : a * yx + b * xx = b0
 det : if back then xy * yx = xx * yy + 1 else xx * yy = xy * yx + 1
 le : yx ≤ yy
structure Good (a b xx xy yx yy : Nat) : Prop where
 p1 : 0 < xy
 p2 : 0 < yx
 p3 : xx ≤ xy
 p4 : yy ≤ b
 p5 : b + (xy + yy) ≤ a
theorem Leh.start (a b : Nat) : Leh a b a b 1 0 0 1 false:=⟨by omega,by omega,by simp,by omega⟩
/-- the state of the loop: what the numbers are, and that they have been found good, unless no step was taken yet -/
def Lst (a0 b0 a b xx xy yx yy : Nat) (back : Bool) : Prop:=Leh a0 b0 a b xx xy yx yy back∧b ≤ a∧((xx = 1∧xy = 0∧yx = 0∧yy = 1) ∨ Good a b xx xy yx yy)
theorem Lst.yy {a0 b0 a b xx xy yx yy : Nat} {back : Bool} (h : Lst a0 b0 a b xx xy yx yy back) : 0 < yy:=by
 obtain ⟨h1,-,h2 | h2⟩:=h
 ·omega
 ·have:=h1.le; have:=h2.p2; omega
theorem Lst.next {a0 b0 a b xx xy yx yy : Nat} {back : Bool} (h : Lst a0 b0 a b xx xy yx yy back) (q b' : Nat) (e : a = q * b + b') (hb' : b' < b) :
  Leh a0 b0 b b' yx yy (xx + q * yx) (xy + q * yy) (!back)∧0 < xx + q * yx∧yx ≤ yy:=by
 obtain ⟨h1,hba,h2⟩:=h
 have hq : 1 ≤ q:=by
  rcases Nat.eq_zero_or_pos q with h0 | h0
  ·subst h0; omega
  ·exact h0
 have hle : xx + q * yx ≤ xy + q * yy:=by
  rcases h2 with h2 | h2
  ·obtain ⟨rfl,rfl,rfl,rfl⟩:=h2; omega
  ·exact Nat.add_le_add h2.p3 (Nat.mul_le_mul_left _ h1.le)
 have hp : 0 < xx + q * yx:=by
  rcases h2 with h2 | h2
  ·omega
  ·have:=Nat.mul_le_mul hq h2.p2; omega
 refine ⟨⟨?_,?_,?_,hle⟩,hp,h1.le⟩
 ·rw [← h1.i1,e]; grind
 ·rw [← h1.i2,e]; grind
 ·have:=h1.det
  cases back <;> simp at this ⊢ <;> grind
theorem Leh.bound {a0 b0 a b xx xy yx yy : Nat} {back : Bool} (h : Leh a0 b0 a b xx xy yx yy back) (ha : 0 < a) : yy ≤ a0∧yx ≤ b0:=by
 have h1:=h.i1
 have h2:=h.i2
 have h3:=Nat.mul_le_mul_right yy ha
 have h4:=Nat.mul_le_mul_right yx ha
 omega
theorem Leh.bound2 {a0 b0 a b xx xy yx yy : Nat} {back : Bool} (h : Leh a0 b0 a b xx xy yx yy back) (ha : 0 < a) (hb : 0 < b) : xy + yy ≤ a0:=by
 have h1:=h.i1
 have h3:=Nat.mul_le_mul_right yy ha
 have h4:=Nat.mul_le_mul_right xy hb
 omega
theorem Lst.taken {a0 b0 a b xx xy yx yy : Nat} {back : Bool} (h : Lst a0 b0 a b xx xy yx yy back) (q b' : Nat) (e : a = q * b + b') (hb' : b' < b) (c1 : xy + q * yy ≤ b') (c2 : yy + (xy + q * yy) ≤ b - b') : Lst a0 b0 b b' yx yy (xx + q * yx) (xy + q * yy) (!back):=by
 obtain ⟨n1,n2,n3⟩:=h.next q b' e hb'
 exact ⟨n1,by omega,.inr ⟨h.yy,n2,n3,c1,by omega⟩⟩
theorem gcd_two (x y X Y p q r s : Nat) (hx : X * p + Y * q = x) (hy : X * r + Y * s = y) (hd : ∀ d,d ∣ x→d ∣ y→d ∣ X∧d ∣ Y) : Nat.gcd X Y = Nat.gcd x y:=by
 apply Nat.dvd_antisymm
 ·apply Nat.dvd_gcd
  ·rw [← hx]; exact Nat.dvd_add (Nat.dvd_mul_right_of_dvd (Nat.gcd_dvd_left _ _) _) (Nat.dvd_mul_right_of_dvd (Nat.gcd_dvd_right _ _) _)
  ·rw [← hy]; exact Nat.dvd_add (Nat.dvd_mul_right_of_dvd (Nat.gcd_dvd_left _ _) _) (Nat.dvd_mul_right_of_dvd (Nat.gcd_dvd_right _ _) _)
 ·obtain ⟨h1,h2⟩:=hd _ (Nat.gcd_dvd_left x y) (Nat.gcd_dvd_right x y)
  exact Nat.dvd_gcd h1 h2
theorem Leh.apply {a0 b0 a b xx xy yx yy : Nat} {back : Bool} (h : Leh a0 b0 a b xx xy yx yy back) (g : Good a b xx xy yx yy) (x y K ε δ : Nat) (hx : x = a0 * K + ε) (hy : y = b0 * K + δ) (hε : ε < K) (hδ : δ < K) :
  ∃ X Y : Nat,(if back then X + xx * x = xy * y∧Y + yy * y = yx * x else X + xy * y = xx * x∧Y + yx * x = yy * y)∧Y < X∧X ≤ y∧Nat.gcd X Y = Nat.gcd x y:=by
 obtain ⟨i1,i2,det,le⟩:=h
 obtain ⟨p1,p2,p3,p4,p5⟩:=g
 have m1 : yy * δ ≤ b * K:=Nat.mul_le_mul p4 (Nat.le_of_lt hδ)
 have m2 : yx * ε ≤ b * K:=Nat.mul_le_mul (Nat.le_trans le p4) (Nat.le_of_lt hε)
 have m3 : (xy + yy) * (δ + 1) ≤ (a - b) * K:=Nat.mul_le_mul (by omega) hδ
 have m4 : (xx + yx) * (ε + 1) ≤ (a - b) * K:=Nat.mul_le_mul (by omega) hε
 have m5 : (a - b) * K + b * K = a * K:=by rw [← Nat.add_mul]; congr 1; omega
 cases back
 ·simp only [Bool.false_eq_true,if_false] at det ⊢
  have e1 : yy * b0 = yx * a0 + b:=by rw [← i1,← i2]; grind
  have e2 : xx * a0 = xy * b0 + a:=by rw [← i1,← i2]; grind
  have f1 : yy * y = yx * a0 * K + b * K + yy * δ:=by rw [hy]; grind
  have f2 : yx * x = yx * a0 * K + yx * ε:=by rw [hx]; grind
  have f3 : xx * x = xy * b0 * K + a * K + xx * ε:=by rw [hx]; grind
  have f4 : xy * y = xy * b0 * K + xy * δ:=by rw [hy]; grind
  have g1 : (xy + yy) * (δ + 1) = xy * δ + yy * δ + xy + yy:=by grind
  obtain ⟨Y,hY⟩ : ∃ Y,Y + yx * x = yy * y:=⟨yy * y - yx * x,by omega⟩
  obtain ⟨X,hX⟩ : ∃ X,X + xy * y = xx * x:=⟨xx * x - xy * y,by omega⟩
  have hYX : Y < X:=by omega
  have hx2 : X * yy + Y * xy = x:=by
   have : X * yy + Y * xy + xy * y * yy + yx * x * xy = xx * x * yy + yy * y * xy:=by rw [← hX,← hY]; grind
   have e : xx * x * yy = (xy * yx + 1) * x:=by rw [← det]; grind
   grind
  have hy2 : X * yx + Y * xx = y:=by
   have : X * yx + Y * xx + xy * y * yx + yx * x * xx = xx * x * yx + yy * y * xx:=by rw [← hX,← hY]; grind
   have e : yy * y * xx = (xy * yx + 1) * y:=by rw [← det]; grind
   grind
  refine ⟨X,Y,⟨hX,hY⟩,hYX,?_,gcd_two x y X Y yy xy yx xx hx2 hy2 (fun d d1 d2 => ⟨?_,?_⟩)⟩
  ·rw [← hy2]; have:=Nat.le_mul_of_pos_right X p2; omega
  ·exact (Nat.dvd_add_left (Nat.dvd_mul_left_of_dvd d2 xy)).1 (by rw [hX]; exact Nat.dvd_mul_left_of_dvd d1 xx)
  ·exact (Nat.dvd_add_left (Nat.dvd_mul_left_of_dvd d1 yx)).1 (by rw [hY]; exact Nat.dvd_mul_left_of_dvd d2 yy)
 ·simp only [if_true] at det ⊢
  have e1 : yx * a0 = yy * b0 + b:=by rw [← i1,← i2]; grind
  have e2 : xy * b0 = xx * a0 + a:=by rw [← i1,← i2]; grind
  have f1 : yx * x = yy * b0 * K + b * K + yx * ε:=by rw [hx]; grind
  have f2 : yy * y = yy * b0 * K + yy * δ:=by rw [hy]; grind
  have f3 : xy * y = xx * a0 * K + a * K + xy * δ:=by rw [hy]; grind
  have f4 : xx * x = xx * a0 * K + xx * ε:=by rw [hx]; grind
  have g1 : (xx + yx) * (ε + 1) = xx * ε + yx * ε + xx + yx:=by grind
  obtain ⟨Y,hY⟩ : ∃ Y,Y + yy * y = yx * x:=⟨yx * x - yy * y,by omega⟩
  obtain ⟨X,hX⟩ : ∃ X,X + xx * x = xy * y:=⟨xy * y - xx * x,by omega⟩
  have hYX : Y < X:=by omega
  have hx2 : X * yy + Y * xy = x:=by
   have : X * yy + Y * xy + xx * x * yy + yy * y * xy = xy * y * yy + yx * x * xy:=by rw [← hX,← hY]; grind
   have e : yx * x * xy = (xx * yy + 1) * x:=by rw [← det]; grind
   grind
  have hy2 : X * yx + Y * xx = y:=by
   have : X * yx + Y * xx + xx * x * yx + yy * y * xx = xy * y * yx + yx * x * xx:=by rw [← hX,← hY]; grind
   have e : xy * y * yx = (xx * yy + 1) * y:=by rw [← det]; grind
   grind
  refine ⟨X,Y,⟨hX,hY⟩,hYX,?_,gcd_two x y X Y yy xy yx xx hx2 hy2 (fun d d1 d2 => ⟨?_,?_⟩)⟩
  ·rw [← hy2]; have:=Nat.le_mul_of_pos_right X p2; omega
  ·exact (Nat.dvd_add_left (Nat.dvd_mul_left_of_dvd d1 xx)).1 (by rw [hX]; exact Nat.dvd_mul_left_of_dvd d2 xy)
  ·exact (Nat.dvd_add_left (Nat.dvd_mul_left_of_dvd d2 yy)).1 (by rw [hY]; exact Nat.dvd_mul_left_of_dvd d1 yx)
theorem mod_same_of (M a b u v : Nat) (ha : a < M) (hb : b < M) (e : a + M * u = b + M * v) : a = b:=by
 have h1 : (a + M * u) % M = a:=by rw [Nat.add_mul_mod_self_left,Nat.mod_eq_of_lt ha]
 have h2 : (b + M * v) % M = b:=by rw [Nat.add_mul_mod_self_left,Nat.mod_eq_of_lt hb]
 rw [← h1,← h2,e]

/-- leading bits of a number of words: X = (x1 B + x0) B^m + l, and of its two highest words the bits from 64 - n on -/
theorem lead_split (x1 x0 m n l : Nat) (hn : n ≤ 63) (hl : l < 18446744073709551616 ^ m) : ∃ ε,l + 18446744073709551616 ^ m * (x0 + 18446744073709551616 * x1) = (x1 * 2 ^ n + x0 / 2 ^ (64 - n)) * (2 ^ (64 - n) * 18446744073709551616 ^ m) + ε∧ε < 2 ^ (64 - n) * 18446744073709551616 ^ m:=by
 have hp : 18446744073709551616 = 2 ^ n * 2 ^ (64 - n):=by rw [← Nat.pow_add,show n + (64 - n) = 64 from by omega]
 have h1:=Nat.div_add_mod x0 (2 ^ (64 - n))
 have h2 : x0 % 2 ^ (64 - n) + 1 ≤ 2 ^ (64 - n):=Nat.mod_lt _ (Nat.pow_pos (by omega))
 refine ⟨x0 % 2 ^ (64 - n) * 18446744073709551616 ^ m + l,?_,?_⟩
 ·have h3 : x0 + 18446744073709551616 * x1 = (x1 * 2 ^ n + x0 / 2 ^ (64 - n)) * 2 ^ (64 - n) + x0 % 2 ^ (64 - n):=by
   conv => lhs; rw [← h1]
   rw [hp]
   generalize 2 ^ (64 - n) = P
   generalize 2 ^ n = Q
   grind
  rw [h3]
  generalize (x1 * 2 ^ n + x0 / 2 ^ (64 - n)) = A
  generalize 2 ^ (64 - n) = P
  generalize x0 % P = r
  generalize 18446744073709551616 ^ m = M
  grind
 ·have h3:=Nat.mul_le_mul_right (18446744073709551616 ^ m) h2
  rw [Nat.add_mul,Nat.one_mul] at h3
  omega
theorem lead_le (a b K ε δ X Y : Nat) (hX : X = a * K + ε) (hY : Y = b * K + δ) (hε : ε < K) (hle : Y ≤ X) : b ≤ a:=by
 rcases Nat.lt_or_ge a b with h | h
 ·exfalso
  have:=Nat.mul_le_mul_right K h
  rw [Nat.succ_mul] at this
  omega
 ·exact h

/-- what holds ahead of a round that takes steps -/
structure TakeInv (ps qs ps' qs' : List Nat) (c1 c2 c3 c4 k up dn lf rt bo ow : Nat) : Prop where
 lp : ps'.length = ps.length
 lq : qs'.length = qs.length
 mp : ∀ x ∈ ps',x < 18446744073709551616
 mq : ∀ x ∈ qs',x < 18446744073709551616
 dp : ps'.drop k = ps.drop k
 dq : qs'.drop k = qs.drop k
 v1 : vl 18446744073709551616 (ps'.take k) + c2 * vl 18446744073709551616 (qs.take k) + up * 18446744073709551616 ^ k = c1 * vl 18446744073709551616 (ps.take k) + (dn + bo) * 18446744073709551616 ^ k
 v2 : vl 18446744073709551616 (qs'.take k) + c3 * vl 18446744073709551616 (ps.take k) + rt * 18446744073709551616 ^ k = c4 * vl 18446744073709551616 (qs.take k) + (lf + ow) * 18446744073709551616 ^ k
theorem TakeInv.start (ps qs : List Nat) (c1 c2 c3 c4 : Nat) (hp : ∀ x ∈ ps,x < 18446744073709551616) (hq : ∀ x ∈ qs,x < 18446744073709551616) : TakeInv ps qs ps qs c1 c2 c3 c4 0 0 0 0 0 0 0 :=
 ⟨rfl,rfl,hp,hq,rfl,rfl,by simp [vl],by simp [vl]⟩
theorem drop_get (xs ys : List Nat) (k : Nat) (h : xs.drop k = ys.drop k) : xs[k]?.getD 0 = ys[k]?.getD 0:=by
 have:=congrArg (fun l : List Nat => l[0]?.getD 0) h
 simpa [List.getElem?_drop] using this
theorem take_set (rs : List Nat) (k s : Nat) (h : k < rs.length) : (rs.set k s).take (k + 1) = rs.take k ++ [s]:=by
 rw [take_snoc_getD _ k (by rw [List.length_set]; exact h),List.getElem?_set_self h,List.take_set_of_le (Nat.le_refl k)]; rfl
theorem drop_set' (rs : List Nat) (k s : Nat) : (rs.set k s).drop (k + 1) = rs.drop (k + 1):=List.drop_set_of_lt (by omega)
theorem vl_snoc (rs : List Nat) (k s : Nat) (h : k < rs.length) : vl 18446744073709551616 ((rs.set k s).take (k + 1)) = vl 18446744073709551616 (rs.take k) + s * 18446744073709551616 ^ k:=by
 rw [take_set rs k s h,vl_append,vl,vl,List.length_take,Nat.min_eq_left (by omega)]
 simp [Nat.mul_comm]
theorem TakeInv.step {ps qs ps' qs' : List Nat} {c1 c2 c3 c4 k up dn lf rt bo ow : Nat} (h : TakeInv ps qs ps' qs' c1 c2 c3 c4 k up dn lf rt bo ow) (hk : k < ps.length) (hl : ps.length = qs.length) (s1 s2 up' dn' lf' rt' bo' ow' p1 m1 p2 m2 : Nat) (hs1 : s1 < 18446744073709551616) (hs2 : s2 < 18446744073709551616)
  (e1 : c1 * ps[k]?.getD 0 + up = p1 + 18446744073709551616 * up') (e2 : c2 * qs[k]?.getD 0 + dn = m1 + 18446744073709551616 * dn') (e3 : s1 + m1 + bo = p1 + 18446744073709551616 * bo')
  (e4 : c4 * qs[k]?.getD 0 + rt = p2 + 18446744073709551616 * rt') (e5 : c3 * ps[k]?.getD 0 + lf = m2 + 18446744073709551616 * lf') (e6 : s2 + m2 + ow = p2 + 18446744073709551616 * ow') :
  TakeInv ps qs (ps'.set k s1) (qs'.set k s2) c1 c2 c3 c4 (k + 1) up' dn' lf' rt' bo' ow':=by
 have a1:=h.lp
 have a2:=h.lq
 have d1 : ps'.drop (k + 1) = ps.drop (k + 1):=by have:=congrArg (List.drop 1) h.dp; rwa [List.drop_drop,List.drop_drop] at this
 have d2 : qs'.drop (k + 1) = qs.drop (k + 1):=by have:=congrArg (List.drop 1) h.dq; rwa [List.drop_drop,List.drop_drop] at this
 refine ⟨by rw [List.length_set]; exact a1,by rw [List.length_set]; exact a2,mem_set h.mp _ _ hs1,mem_set h.mq _ _ hs2,by rw [drop_set']; exact d1,by rw [drop_set']; exact d2,?_,?_⟩
 ·rw [vl_snoc _ _ _ (by omega),vl_take_succ 18446744073709551616 qs k (by omega),vl_take_succ 18446744073709551616 ps k hk,Nat.pow_succ]
  have hv:=h.v1
  generalize vl 18446744073709551616 (ps'.take k) = A at *
  generalize vl 18446744073709551616 (qs.take k) = Q at *
  generalize vl 18446744073709551616 (ps.take k) = P at *
  generalize 18446744073709551616 ^ k = M at *
  generalize ps[k]?.getD 0 = a at *
  generalize qs[k]?.getD 0 = b at *
  have f : (s1 + c2 * b + 18446744073709551616 * up' + dn + bo) * M = (c1 * a + 18446744073709551616 * dn' + 18446744073709551616 * bo' + up) * M:=by congr 1; omega
  grind
 ·rw [vl_snoc _ _ _ (by omega),vl_take_succ 18446744073709551616 qs k (by omega),vl_take_succ 18446744073709551616 ps k hk,Nat.pow_succ]
  have hv:=h.v2
  generalize vl 18446744073709551616 (qs'.take k) = A at *
  generalize vl 18446744073709551616 (qs.take k) = Q at *
  generalize vl 18446744073709551616 (ps.take k) = P at *
  generalize 18446744073709551616 ^ k = M at *
  generalize ps[k]?.getD 0 = a at *
  generalize qs[k]?.getD 0 = b at *
  have f : (s2 + c3 * a + 18446744073709551616 * rt' + lf + ow) * M = (c4 * b + 18446744073709551616 * lf' + 18446744073709551616 * ow' + rt) * M:=by congr 1; omega
  grind
theorem TakeInv.fin {ps qs ps' qs' : List Nat} {c1 c2 c3 c4 up dn lf rt bo ow : Nat} (h : TakeInv ps qs ps' qs' c1 c2 c3 c4 ps.length up dn lf rt bo ow) (hl : ps.length = qs.length) (P' Q' X Y hp hq : Nat)
  (eP : P' = vl 18446744073709551616 ps + 18446744073709551616 ^ ps.length * hp) (eQ : Q' = vl 18446744073709551616 qs + 18446744073709551616 ^ ps.length * hq) (eX : X + c2 * Q' = c1 * P') (eY : Y + c3 * P' = c4 * Q') (hX : X < 18446744073709551616 ^ ps.length) (hY : Y < 18446744073709551616 ^ ps.length) : vl 18446744073709551616 ps' = X∧vl 18446744073709551616 qs' = Y:=by
 have h1:=h.v1
 have h2:=h.v2
 have b1:=vl_lt (by omega : 0 < 18446744073709551616) ps' h.mp
 have b2:=vl_lt (by omega : 0 < 18446744073709551616) qs' h.mq
 have a1:=h.lp
 have a2:=h.lq
 rw [a1] at b1
 rw [a2,← hl] at b2
 rw [List.take_of_length_le (by omega),List.take_of_length_le (by omega),List.take_of_length_le (by omega)] at h1 h2
 generalize 18446744073709551616 ^ ps.length = M at *
 generalize vl 18446744073709551616 ps' = A at *
 generalize vl 18446744073709551616 qs' = C at *
 generalize vl 18446744073709551616 ps = P at *
 generalize vl 18446744073709551616 qs = Q at *
 subst eP eQ
 exact ⟨mod_same_of M A X (up + c1 * hp) (dn + bo + c2 * hq) b1 hX (by grind),mod_same_of M C Y (rt + c4 * hq) (lf + ow + c3 * hp) b2 hY (by grind)⟩
end Go.Proofs.YtndcigdphgojpaaGreatDoor

namespace Go.Proofs
open Go.Shelf
def Tryz.lays99_ren : Go.Shelf.Ren := ⟨fun | 99 => 114 | 206 => 140 | n => n, fun | 3 => 3 | 4 => 4 | 9 => 9 | n => n, fun | n => n⟩
theorem Tryz.lays99 : Go.Proofs.Lays.n99 Tryz.prog Tryz.lays99_ren := {
  mixed := by kernel_rfl
  f99 := Tryz.func114.trans (congrArg some (by kernel_rfl))
  f206 := Tryz.func140.trans (congrArg some (by kernel_rfl))
  t3 := Tryz.underlying3
  a3 := Tryz.isAgg3
  z3 := Tryz.sizeOf3
  v3 := Tryz.zeroValue3
  t4 := Tryz.underlying4
  a4 := Tryz.isAgg4
  z4 := Tryz.sizeOf4
  v4 := Tryz.zeroValue4
  t9 := Tryz.underlying9
  a9 := Tryz.isAgg9
  z9 := Tryz.sizeOf9
  v9 := Tryz.zeroValue9 }
theorem Tryz.strings_HasPrefix (s p : ByteArray) (w : World) :
  Calls Tryz.prog 114 #[.string s,.string p] w fun e w' => e = .returned (.bool (Lib.hasPrefix s.data.toList p.data.toList))∧w' = w:=Any.strings_HasPrefix Tryz.lays99 s p w
end Go.Proofs
