/- Contracts of math/bits at this program, off the shelf. -/
import Derived.Shelf.Bits.Mul64
import Derived.Shelf.Small.Bits
import Derived.Test.YtihiafgogbhjkaaGreatDoorProg
import Derived.Shelf.Strings.Repeat
import Derived.Shelf.Strings.Prefix
import Derived.Test.YtihiafgogbhjkaaGreatDoorRBase
namespace Go.Proofs
open Go.Shelf
def Tryz.lays264_ren : Go.Shelf.Ren := ⟨fun | 264 => 119 | n => n, fun | 46 => 106 | 53 => 24 | n => n, fun | n => n⟩
theorem Tryz.lays264 : Go.Proofs.Lays.n264 Tryz.prog Tryz.lays264_ren := {
  mixed := by kernel_rfl
  f264 := Tryz.func119.trans (congrArg some (by kernel_rfl))
  t46 := Tryz.underlying106
  a46 := Tryz.isAgg106
  z46 := Tryz.sizeOf106
  v46 := Tryz.zeroValue106
  t53 := Tryz.underlying24
  a53 := Tryz.isAgg24
  z53 := Tryz.sizeOf24
  v53 := Tryz.zeroValue24 }
def Tryz.lays134_ren : Go.Shelf.Ren := ⟨fun | 129 => 182 | 134 => 173 | n => n, fun | 3 => 3 | 4 => 4 | 5 => 5 | 9 => 9 | 46 => 106 | 53 => 24 | n => n, fun | n => n⟩
theorem Tryz.lays134 : Go.Proofs.Lays.n134 Tryz.prog Tryz.lays134_ren := {
  mixed := by kernel_rfl
  f129 := Tryz.func182.trans (congrArg some (by kernel_rfl))
  f134 := Tryz.func173.trans (congrArg some (by kernel_rfl))
  t3 := Tryz.underlying3
  a3 := Tryz.isAgg3
  z3 := Tryz.sizeOf3
  v3 := Tryz.zeroValue3
  t4 := Tryz.underlying4
  a4 := Tryz.isAgg4
  z4 := Tryz.sizeOf4
  v4 := Tryz.zeroValue4
  t5 := Tryz.underlying5
  a5 := Tryz.isAgg5
  z5 := Tryz.sizeOf5
  v5 := Tryz.zeroValue5
  t9 := Tryz.underlying9
  a9 := Tryz.isAgg9
  z9 := Tryz.sizeOf9
  v9 := Tryz.zeroValue9
  t46 := Tryz.underlying106
  a46 := Tryz.isAgg106
  z46 := Tryz.sizeOf106
  v46 := Tryz.zeroValue106
  t53 := Tryz.underlying24
  a53 := Tryz.isAgg24
  z53 := Tryz.sizeOf24
  v53 := Tryz.zeroValue24 }
theorem Tryz.bits_Mul64 (x y : Nat) (hx : x < 18446744073709551616) (hy : y < 18446744073709551616) (w : World) :
    Calls Tryz.prog 119 #[.int .u64 x, .int .u64 y] w fun e w' => e = .returned (.tuple #[.int .u64 ((x * y / 18446744073709551616 : Nat) : Int), .int .u64 ((x * y % 18446744073709551616 : Nat) : Int)]) ∧ w' = w := Any.bits_Mul64 Tryz.lays264 x y hx hy w
theorem Tryz.bits_LeadingZeros64 (x : Int) (w : World) (h0 : 0 ≤ x) (h1 : x ≤ 18446744073709551615) :
    Calls Tryz.prog 173 #[.int .u64 x] w fun e w' => e = .returned (.int .i64 (64 - (Lib.bitLen x.toNat : Int))) ∧ w' = w := Any.bits_LeadingZeros64 Tryz.lays134 x w h0 h1
end Go.Proofs

namespace Go.Proofs.YtihiafgogbhjkaaGreatDoor
theorem rat_of_coprime (n : Int) (d : Nat) (hd : d ≠ 0) (hc : n.natAbs.Coprime d) (q : Rat) (h : q.num * d = n * q.den) : q.num = n ∧ q.den = d := by
  have e : q = ⟨n, d, hd, hc⟩ := by
    rw [Rat.mk_eq_mkRat, ← Rat.mkRat_self q, Rat.mkRat_eq_iff q.den_nz hd]
    exact h
  rw [e]
  exact ⟨rfl, rfl⟩
/-- a number with a sign -/
def sgn (s : Bool) (m : Nat) : Int := if s then -(m : Int) else (m : Int)
theorem sgn_abs (s : Bool) (m : Nat) : (sgn s m).natAbs = m := by cases s <;> simp [sgn]
theorem sgn_mul (s : Bool) (m k : Nat) : sgn s (m * k) = sgn s m * k := by cases s <;> simp [sgn, Int.neg_mul]
theorem cross_add (f g : Rat) : (f + g).num * (f.den * g.den : Nat) = (f.num * g.den + g.num * f.den) * (f + g).den := by
  have h := Rat.add_def' f g
  rw [← Rat.mkRat_self (f + g), Rat.mkRat_eq_iff (f + g).den_nz (Nat.mul_ne_zero f.den_nz g.den_nz)] at h
  exact h
theorem cross_mul (f g : Rat) : (f * g).num * (f.den * g.den : Nat) = (f.num * g.num) * (f * g).den := by
  have h := Rat.mul_def' f g
  rw [← Rat.mkRat_self (f * g), Rat.mkRat_eq_iff (f * g).den_nz (Nat.mul_ne_zero f.den_nz g.den_nz)] at h
  exact h
theorem cop_sum (a c : Int) (b b' d' : Nat) (hab : a.natAbs.Coprime b) (hb : b' ∣ b) (hbd : b'.Coprime d') : (a * d' + c * b').natAbs.Coprime b' := by
  rw [Nat.Coprime]
  have hp1 : Nat.gcd (a * d' + c * b').natAbs b' ∣ b' := Nat.gcd_dvd_right _ _
  have hp2 : Nat.gcd (a * d' + c * b').natAbs b' ∣ (a * d' + c * b').natAbs := Nat.gcd_dvd_left _ _
  generalize Nat.gcd (a * d' + c * b').natAbs b' = p at *
  have h1 : (p : Int) ∣ a * d' + c * b' := Int.ofNat_dvd_left.2 hp2
  have h2 : (p : Int) ∣ c * b' := Int.dvd_mul_of_dvd_right (Int.natCast_dvd_natCast.2 hp1)
  have h3 : (p : Int) ∣ a * d' := (Int.dvd_add_left h2).1 h1
  have h4 : p ∣ a.natAbs * d' := by
    have := Int.ofNat_dvd_left.1 h3
    rwa [Int.natAbs_mul, Int.natAbs_natCast] at this
  have h5 : p.Coprime a.natAbs := Nat.Coprime.coprime_dvd_left (Nat.dvd_trans hp1 hb) hab.symm
  have h6 : p ∣ d' := h5.dvd_of_dvd_mul_left h4
  have h7 : p ∣ Nat.gcd b' d' := Nat.dvd_gcd hp1 h6
  rw [hbd] at h7
  exact Nat.dvd_one.1 h7
theorem add_low (f g : Rat) (s : Bool) (M k m : Nat) (hk : k = Nat.gcd f.den g.den) (hm : m = Nat.gcd M k) (hN : f.num * (g.den / k : Nat) + g.num * (f.den / k : Nat) = sgn s M) : (f + g).num = sgn s (M / m) ∧ (f + g).den = (f.den / k) * (g.den / m) := by
  have hb0 : 0 < f.den := Nat.pos_of_ne_zero f.den_nz
  have hd0 : 0 < g.den := Nat.pos_of_ne_zero g.den_nz
  have hk0 : 0 < k := by rw [hk]; exact Nat.gcd_pos_of_pos_left _ hb0
  have kb : k ∣ f.den := by rw [hk]; exact Nat.gcd_dvd_left _ _
  have kd : k ∣ g.den := by rw [hk]; exact Nat.gcd_dvd_right _ _
  have hcop : (f.den / k).Coprime (g.den / k) := by rw [hk]; exact Nat.coprime_div_gcd_div_gcd (by rw [← hk]; exact hk0)
  have hm0 : 0 < m := by rw [hm]; exact Nat.gcd_pos_of_pos_right _ hk0
  have mk : m ∣ k := by rw [hm]; exact Nat.gcd_dvd_right _ _
  have mM : m ∣ M := by rw [hm]; exact Nat.gcd_dvd_left _ _
  have c1 : M.Coprime (f.den / k) := by
    have := cop_sum f.num g.num f.den (f.den / k) (g.den / k) f.reduced (Nat.div_dvd_of_dvd kb) hcop
    rwa [hN, sgn_abs] at this
  have c2 : M.Coprime (g.den / k) := by
    have := cop_sum g.num f.num g.den (g.den / k) (f.den / k) g.reduced (Nat.div_dvd_of_dvd kd) hcop.symm
    rw [Int.add_comm] at this
    rwa [hN, sgn_abs] at this
  have c3 : (M / m).Coprime (k / m) := by rw [hm]; exact Nat.coprime_div_gcd_div_gcd (by rw [← hm]; exact hm0)
  obtain ⟨b', hb'⟩ := kb
  obtain ⟨d', hd'⟩ := kd
  obtain ⟨k', hk'⟩ := mk
  obtain ⟨M', hM'⟩ := mM
  have e1 : f.den / k = b' := by rw [hb', Nat.mul_div_cancel_left _ hk0]
  have e2 : g.den / k = d' := by rw [hd', Nat.mul_div_cancel_left _ hk0]
  have e3 : k / m = k' := by rw [hk', Nat.mul_div_cancel_left _ hm0]
  have e4 : M / m = M' := by rw [hM', Nat.mul_div_cancel_left _ hm0]
  have e5 : g.den / m = k' * d' := by rw [hd', hk', Nat.mul_assoc, Nat.mul_div_cancel_left _ hm0]
  rw [e1, e2] at hN
  rw [e1] at c1
  rw [e2] at c2
  rw [e3, e4] at c3
  rw [e1, e4, e5]
  have c1' : M'.Coprime b' := Nat.Coprime.coprime_dvd_left ⟨m, by rw [hM', Nat.mul_comm]⟩ c1
  have c2' : M'.Coprime d' := Nat.Coprime.coprime_dvd_left ⟨m, by rw [hM', Nat.mul_comm]⟩ c2
  have hb1 : b' ≠ 0 := by rintro rfl; rw [Nat.mul_zero] at hb'; omega
  have hd1 : d' ≠ 0 := by rintro rfl; rw [Nat.mul_zero] at hd'; omega
  have hk1 : k' ≠ 0 := by rintro rfl; rw [Nat.mul_zero] at hk'; omega
  refine rat_of_coprime _ _ (Nat.mul_ne_zero hb1 (Nat.mul_ne_zero hk1 hd1)) (by rw [sgn_abs]; exact c1'.mul_right (c3.mul_right c2')) _ ?_
  have hx := cross_add f g
  generalize (f + g).num = n at *
  generalize (f + g).den = e at *
  have hs : sgn s M = sgn s M' * m := by rw [hM', Nat.mul_comm, sgn_mul]
  rw [hs] at hN
  rw [hb', hd', hk'] at hx
  have hmz : (m : Int) ≠ 0 := by omega
  have hkz : (k' : Int) ≠ 0 := by omega
  have hx2 : (n * ((b' * (k' * d') : Nat) : Int)) * (m * m * k') = (sgn s M' * e) * (m * m * k') := by
    have h5 : (f.num * (d' : Int) + g.num * b') * (m * k') * e * m = sgn s M' * m * (m * k') * e * m := by rw [hN]
    simp only [Int.natCast_mul] at hx ⊢
    grind
  exact Int.eq_of_mul_eq_mul_right (Int.mul_ne_zero (Int.mul_ne_zero hmz hmz) hkz) hx2
theorem num_sgn (f : Rat) : f.num = sgn (decide (f.num < 0)) f.num.natAbs := by
  unfold sgn
  by_cases h : f.num < 0
  · simp only [h, decide_true, if_true]; omega
  · simp only [h, decide_false, Bool.false_eq_true, if_false]; omega
theorem mul_low (f g : Rat) (p q : Nat) (hp : p = Nat.gcd f.num.natAbs g.den) (hq : q = Nat.gcd g.num.natAbs f.den) : (f * g).num = sgn (decide (f.num < 0) != decide (g.num < 0)) (f.num.natAbs / p * (g.num.natAbs / q)) ∧ (f * g).den = (f.den / q) * (g.den / p) := by
  have hb0 : 0 < f.den := Nat.pos_of_ne_zero f.den_nz
  have hd0 : 0 < g.den := Nat.pos_of_ne_zero g.den_nz
  have hp0 : 0 < p := by rw [hp]; exact Nat.gcd_pos_of_pos_right _ hd0
  have hq0 : 0 < q := by rw [hq]; exact Nat.gcd_pos_of_pos_right _ hb0
  have pa : p ∣ f.num.natAbs := by rw [hp]; exact Nat.gcd_dvd_left _ _
  have pd : p ∣ g.den := by rw [hp]; exact Nat.gcd_dvd_right _ _
  have qc : q ∣ g.num.natAbs := by rw [hq]; exact Nat.gcd_dvd_left _ _
  have qb : q ∣ f.den := by rw [hq]; exact Nat.gcd_dvd_right _ _
  have c1 : (f.num.natAbs / p).Coprime (g.den / p) := by rw [hp]; exact Nat.coprime_div_gcd_div_gcd (by rw [← hp]; exact hp0)
  have c2 : (g.num.natAbs / q).Coprime (f.den / q) := by rw [hq]; exact Nat.coprime_div_gcd_div_gcd (by rw [← hq]; exact hq0)
  have c3 : (f.num.natAbs / p).Coprime (f.den / q) := Nat.Coprime.coprime_dvd_left (Nat.div_dvd_of_dvd pa) (Nat.Coprime.coprime_dvd_right (Nat.div_dvd_of_dvd qb) f.reduced)
  have c4 : (g.num.natAbs / q).Coprime (g.den / p) := Nat.Coprime.coprime_dvd_left (Nat.div_dvd_of_dvd qc) (Nat.Coprime.coprime_dvd_right (Nat.div_dvd_of_dvd pd) g.reduced)
  have hx := cross_mul f g
  rw [num_sgn f, num_sgn g] at hx
  generalize decide (f.num < 0) = s at *
  generalize decide (g.num < 0) = t at *
  have nz1 : f.den / q ≠ 0 := Nat.ne_of_gt (Nat.div_pos (Nat.le_of_dvd hb0 qb) hq0)
  have nz2 : g.den / p ≠ 0 := Nat.ne_of_gt (Nat.div_pos (Nat.le_of_dvd hd0 pd) hp0)
  refine rat_of_coprime _ _ (Nat.mul_ne_zero nz1 nz2) (by rw [sgn_abs]; exact (c3.mul_right c1).mul_left (c2.mul_right c4)) _ ?_
  obtain ⟨a', ha⟩ := pa
  obtain ⟨d', hd⟩ := pd
  obtain ⟨c', hc⟩ := qc
  obtain ⟨b', hb⟩ := qb
  rw [ha, hc, hb, hd] at hx
  rw [ha, hc, hb, hd, Nat.mul_div_cancel_left _ hp0, Nat.mul_div_cancel_left _ hq0, Nat.mul_div_cancel_left _ hq0, Nat.mul_div_cancel_left _ hp0]
  generalize (f * g).num = n at *
  generalize (f * g).den = e at *
  have hpz : (p : Int) ≠ 0 := by omega
  have hqz : (q : Int) ≠ 0 := by omega
  refine Int.eq_of_mul_eq_mul_right (a := (p * q : Int)) (Int.mul_ne_zero hpz hqz) ?_
  cases s <;> cases t <;> simp only [sgn, Int.natCast_mul, bne_self_eq_false, Bool.false_eq_true, if_false, if_true, Bool.not_false, Bool.bne_false, Bool.bne_true] at hx ⊢ <;> grind
end Go.Proofs.YtihiafgogbhjkaaGreatDoor

namespace Go.Proofs
open Go.Shelf Go.RowKit
def Tryz.lays105_ren : Go.Shelf.Ren := ⟨fun | 99 => 155 | 105 => 94 | 165 => 156 | 166 => 157 | 169 => 159 | 170 => 158 | 206 => 192 | 212 => 154 | 240 => 193 | 241 => 194 | 263 => 191 | 264 => 119 | 276 => 210 | 277 => 211 | n => n, fun | 0 => 0 | 3 => 3 | 4 => 4 | 5 => 5 | 9 => 9 | 20 => 20 | 37 => 138 | 46 => 106 | 51 => 162 | 53 => 24 | 70 => 183 | 72 => 185 | 75 => 32 | 80 => 37 | 76 => 187 | 109 => 180 | 127 => 225 | 146 => 223 | 148 => 142 | 164 => 168 | n => n, fun | n => n⟩
theorem Tryz.lays105 : Go.Proofs.Lays.n105 Tryz.prog Tryz.lays105_ren := {
  mixed := by kernel_rfl
  f99 := Tryz.func155.trans (congrArg some (by kernel_rfl))
  f105 := Tryz.func94.trans (congrArg some (by kernel_rfl))
  f165 := Tryz.func156.trans (congrArg some (by kernel_rfl))
  f166 := Tryz.func157.trans (congrArg some (by kernel_rfl))
  f169 := Tryz.func159.trans (congrArg some (by kernel_rfl))
  f170 := Tryz.func158.trans (congrArg some (by kernel_rfl))
  f206 := Tryz.func192.trans (congrArg some (by kernel_rfl))
  f212 := Tryz.func154.trans (congrArg some (by kernel_rfl))
  f240 := Tryz.func193.trans (congrArg some (by kernel_rfl))
  f241 := Tryz.func194.trans (congrArg some (by kernel_rfl))
  f263 := Tryz.func191.trans (congrArg some (by kernel_rfl))
  f264 := Tryz.func119.trans (congrArg some (by kernel_rfl))
  f276 := Tryz.func210.trans (congrArg some (by kernel_rfl))
  f277 := Tryz.func211.trans (congrArg some (by kernel_rfl))
  t0 := Tryz.underlying0
  a0 := Tryz.isAgg0
  z0 := Tryz.sizeOf0
  v0 := Tryz.zeroValue0
  t3 := Tryz.underlying3
  a3 := Tryz.isAgg3
  z3 := Tryz.sizeOf3
  v3 := Tryz.zeroValue3
  t4 := Tryz.underlying4
  a4 := Tryz.isAgg4
  z4 := Tryz.sizeOf4
  v4 := Tryz.zeroValue4
  t5 := Tryz.underlying5
  a5 := Tryz.isAgg5
  z5 := Tryz.sizeOf5
  v5 := Tryz.zeroValue5
  t9 := Tryz.underlying9
  a9 := Tryz.isAgg9
  z9 := Tryz.sizeOf9
  v9 := Tryz.zeroValue9
  t20 := Tryz.underlying20
  a20 := Tryz.isAgg20
  z20 := Tryz.sizeOf20
  v20 := Tryz.zeroValue20
  t37 := Tryz.underlying138
  a37 := Tryz.isAgg138
  z37 := Tryz.sizeOf138
  v37 := Tryz.zeroValue138
  t46 := Tryz.underlying106
  a46 := Tryz.isAgg106
  z46 := Tryz.sizeOf106
  v46 := Tryz.zeroValue106
  t51 := Tryz.underlying162
  a51 := Tryz.isAgg162
  z51 := Tryz.sizeOf162
  v51 := Tryz.zeroValue162
  t53 := Tryz.underlying24
  a53 := Tryz.isAgg24
  z53 := Tryz.sizeOf24
  v53 := Tryz.zeroValue24
  t70 := Tryz.underlying183
  a70 := Tryz.isAgg183
  z70 := Tryz.sizeOf183
  v70 := Tryz.zeroValue183
  t72 := Tryz.underlying185
  a72 := Tryz.isAgg185
  z72 := Tryz.sizeOf185
  v72 := Tryz.zeroValue185
  t75 := Tryz.underlying32
  a75 := Tryz.isAgg32
  z75 := Tryz.sizeOf32
  v75 := Tryz.zeroValue32
  t76 := Tryz.underlying187
  a76 := Tryz.isAgg187
  z76 := Tryz.sizeOf187
  v76 := Tryz.zeroValue187
  t109 := Tryz.underlying180
  a109 := Tryz.isAgg180
  z109 := Tryz.sizeOf180
  v109 := Tryz.zeroValue180
  t127 := Tryz.underlying225
  a127 := Tryz.isAgg225
  z127 := Tryz.sizeOf225
  v127 := Tryz.zeroValue225
  t146 := Tryz.underlying223
  a146 := Tryz.isAgg223
  z146 := Tryz.sizeOf223
  v146 := Tryz.zeroValue223
  t148 := Tryz.underlying142
  a148 := Tryz.isAgg142
  z148 := Tryz.sizeOf142
  v148 := Tryz.zeroValue142
  t164 := Tryz.underlying168
  a164 := Tryz.isAgg168
  z164 := Tryz.sizeOf168
  v164 := Tryz.zeroValue168 }
theorem Tryz.repeatExtra : Builder.Extra Tryz.prog Tryz.lays105_ren where
  sizeBuilder := by kernel_rfl
  liesBuilder := by kernel_rfl
  t5 := Tryz.lays105.t5
  a5 := Tryz.lays105.a5
  z5 := Tryz.lays105.z5
  v5 := Tryz.lays105.v5
  infoByte := by kernel_rfl
  cellsByte := by kernel_rfl
  sizeByte := by kernel_rfl
  neB5 := by decide
theorem Tryz.strings_Repeat (s : ByteArray) (c : Nat) (w : World) (hc : c ≤ 9223372036854775807) (hlen : s.size * c ≤ 140737488355328) :
    Calls Tryz.prog 94 #[.string s, .int .i64 c] w fun e w' => e = .returned (.string ⟨(Lib.repeatL s.data.toList c).toArray⟩) ∧ Below w.heap.size w w' := Any.strings_Repeat Tryz.lays105 Tryz.repeatExtra s c w hc hlen
end Go.Proofs

namespace Go.Proofs
open Go.Shelf
def Tryz.lays99_ren : Go.Shelf.Ren := ⟨fun | 99 => 155 | 206 => 192 | n => n, fun | 3 => 3 | 4 => 4 | 9 => 9 | n => n, fun | n => n⟩
theorem Tryz.lays99 : Go.Proofs.Lays.n99 Tryz.prog Tryz.lays99_ren := {
  mixed := by kernel_rfl
  f99 := Tryz.func155.trans (congrArg some (by kernel_rfl))
  f206 := Tryz.func192.trans (congrArg some (by kernel_rfl))
  t3 := Tryz.underlying3
  a3 := Tryz.isAgg3
  z3 := Tryz.sizeOf3
  v3 := Tryz.zeroValue3
  t4 := Tryz.underlying4
  a4 := Tryz.isAgg4
  z4 := Tryz.sizeOf4
  v4 := Tryz.zeroValue4
  t9 := Tryz.underlying9
  a9 := Tryz.isAgg9
  z9 := Tryz.sizeOf9
  v9 := Tryz.zeroValue9 }
theorem Tryz.strings_HasPrefix (s p : ByteArray) (w : World) :
    Calls Tryz.prog 155 #[.string s, .string p] w fun e w' => e = .returned (.bool (Lib.hasPrefix s.data.toList p.data.toList)) ∧ w' = w := Any.strings_HasPrefix Tryz.lays99 s p w
end Go.Proofs
