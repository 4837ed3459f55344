/- Contracts of the library at this program: small numerals, the number of digits, the digits in a row, the length of a number in bits. -/
import Derived.Shelf.Strconv.Itoa1
import Derived.Shelf.LaysM
import Derived.Shelf.Strconv.Itoa2
import Derived.Shelf.Small.Bits
import Derived.Test.YtihiafgogbhjkaaGreatDoorProg
import Derived.Laws.Bits64b
import Derived.Lib.ItoaNum
import Derived.Deep.RegionHeld
import Derived.Test.YtihiafgogbhjkaaGreatDoorPPt
namespace Go.Proofs
open Go.Shelf
def Tryz.lays283_ren : Go.Shelf.Ren := ⟨fun | 283 => 196 | n => n, fun | 3 => 3 | 4 => 4 | 9 => 9 | n => n, fun | n => n⟩
theorem Tryz.lays283 : Go.Proofs.Lays.n283 Tryz.prog Tryz.lays283_ren := {
  mixed := by kernel_rfl
  f283 := Tryz.func196.trans (congrArg some (by kernel_rfl))
  t3 := Tryz.underlying3
  a3 := Tryz.isAgg3
  z3 := Tryz.sizeOf3
  v3 := Tryz.zeroValue3
  t4 := Tryz.underlying4
  a4 := Tryz.isAgg4
  z4 := Tryz.sizeOf4
  v4 := Tryz.zeroValue4
  t9 := Tryz.underlying9
  a9 := Tryz.isAgg9
  z9 := Tryz.sizeOf9
  v9 := Tryz.zeroValue9 }
open Go.Lib in
theorem Tryz.internal_strconv_small (i : Nat) (h : i < 100) (w : World) :
    Calls Tryz.prog 196 #[.int .i64 i] w fun e w' => e = .returned (.string ⟨(Lib.decDigits i).toArray⟩) ∧ w' = w := Any.internal_strconv_small Tryz.lays283 i h w
def Tryz.laysM284_ren : Go.Shelf.Ren := ⟨fun | 129 => 182 | 284 => 197 | 317 => 212 | 318 => 213 | n => n, fun | 0 => 0 | 3 => 3 | 4 => 4 | 5 => 5 | 9 => 9 | 46 => 106 | 53 => 24 | 212 => 239 | n => n, fun | 17 => 4 | n => n⟩
theorem Tryz.laysM284 : Go.Proofs.LaysM.n284 Tryz.prog Tryz.laysM284_ren := {
  mixed := by kernel_rfl
  f129 := Tryz.func182.trans (congrArg some (by kernel_rfl))
  f284 := Tryz.func197.trans (congrArg some (by kernel_rfl))
  f317 := Tryz.func212.trans (congrArg some (by kernel_rfl))
  f318 := Tryz.func213.trans (congrArg some (by kernel_rfl))
  t0 := Tryz.underlying0
  a0 := Tryz.isAgg0
  z0 := Tryz.sizeOf0
  v0 := Tryz.zeroValue0
  t3 := Tryz.underlying3
  a3 := Tryz.isAgg3
  z3 := Tryz.sizeOf3
  v3 := Tryz.zeroValue3
  t4 := Tryz.underlying4
  a4 := Tryz.isAgg4
  z4 := Tryz.sizeOf4
  v4 := Tryz.zeroValue4
  t5 := Tryz.underlying5
  a5 := Tryz.isAgg5
  z5 := Tryz.sizeOf5
  v5 := Tryz.zeroValue5
  t9 := Tryz.underlying9
  a9 := Tryz.isAgg9
  z9 := Tryz.sizeOf9
  v9 := Tryz.zeroValue9
  t46 := Tryz.underlying106
  a46 := Tryz.isAgg106
  z46 := Tryz.sizeOf106
  v46 := Tryz.zeroValue106
  t53 := Tryz.underlying24
  a53 := Tryz.isAgg24
  z53 := Tryz.sizeOf24
  v53 := Tryz.zeroValue24
  t212 := Tryz.underlying239
  a212 := Tryz.isAgg239
  z212 := Tryz.sizeOf239
  v212 := Tryz.zeroValue239
  g17 := by kernel_rfl
  m17 := by kernel_rfl
  i0 := by kernel_rfl
  i3 := by kernel_rfl
  i4 := by kernel_rfl
  i5 := by kernel_rfl
  i9 := by kernel_rfl
  i46 := by kernel_rfl
  i53 := by kernel_rfl
  i212 := by kernel_rfl }
open Go.Lib in
theorem Tryz.internal_strconv_numDigits (u : Nat) (h1 : 1 ≤ u) (h2 : u < 18446744073709551616) (w : World) (htab : Lib.TabIs Tryz.prog w "internal/strconv.uint64pow10" .u64 Lib.pow10Tab) :
    Calls Tryz.prog 197 #[.int .u64 u] w fun e w' => e = .returned (.int .i64 (Lib.nDigits u)) ∧ w' = w := Any.internal_strconv_numDigits Tryz.laysM284 u h1 h2 w htab
def Tryz.lays285_ren : Go.Shelf.Ren := ⟨fun | 285 => 198 | n => n, fun | 0 => 0 | 3 => 3 | 4 => 4 | 5 => 5 | 9 => 9 | 37 => 138 | 51 => 162 | 53 => 24 | n => n, fun | n => n⟩
theorem Tryz.lays285 : Go.Proofs.Lays.n285 Tryz.prog Tryz.lays285_ren := {
  mixed := by kernel_rfl
  f285 := Tryz.func198.trans (congrArg some (by kernel_rfl))
  t0 := Tryz.underlying0
  a0 := Tryz.isAgg0
  z0 := Tryz.sizeOf0
  v0 := Tryz.zeroValue0
  t3 := Tryz.underlying3
  a3 := Tryz.isAgg3
  z3 := Tryz.sizeOf3
  v3 := Tryz.zeroValue3
  t4 := Tryz.underlying4
  a4 := Tryz.isAgg4
  z4 := Tryz.sizeOf4
  v4 := Tryz.zeroValue4
  t5 := Tryz.underlying5
  a5 := Tryz.isAgg5
  z5 := Tryz.sizeOf5
  v5 := Tryz.zeroValue5
  t9 := Tryz.underlying9
  a9 := Tryz.isAgg9
  z9 := Tryz.sizeOf9
  v9 := Tryz.zeroValue9
  t37 := Tryz.underlying138
  a37 := Tryz.isAgg138
  z37 := Tryz.sizeOf138
  v37 := Tryz.zeroValue138
  t51 := Tryz.underlying162
  a51 := Tryz.isAgg162
  z51 := Tryz.sizeOf162
  v51 := Tryz.zeroValue162
  t53 := Tryz.underlying24
  a53 := Tryz.isAgg24
  z53 := Tryz.sizeOf24
  v53 := Tryz.zeroValue24 }
open Go.RowKit Go.Sort Go.Lib in
theorem Tryz.internal_strconv_formatBase10 (blk off cap : Nat) (u : Nat) (d : Array UInt8) (w : World) (hH : Holds (fun (b : UInt8) => Value.int .u8 (b.toNat : Int)) w blk off d) (hu : u < 10 ^ d.size) (hu64 : u < 18446744073709551616) (hsz : d.size < 4611686018427387904) :
    Calls Tryz.prog 198 #[.slice (some ⟨blk, off, none⟩) d.size cap, .int .u64 u] w fun e w' =>
      e = .returned (.tuple #[]) ∧ ∃ (n v' : Nat) (dk : Array UInt8), w' = (putRow (fun (b : UInt8) => Value.int .u8 (b.toNat : Int)) w blk off dk).drewN n ∧ FmtInv d.size u 0 v' dk := Any.internal_strconv_formatBase10 Tryz.lays285 blk off cap u d w hH hu hu64 hsz
def Tryz.lays125_ren : Go.Shelf.Ren := ⟨fun | 125 => 131 | 128 => 181 | 129 => 182 | n => n, fun | 3 => 3 | 4 => 4 | 5 => 5 | 9 => 9 | 46 => 106 | 51 => 162 | 53 => 24 | n => n, fun | n => n⟩
theorem Tryz.lays125 : Go.Proofs.Lays.n125 Tryz.prog Tryz.lays125_ren := {
  mixed := by kernel_rfl
  f125 := Tryz.func131.trans (congrArg some (by kernel_rfl))
  f128 := Tryz.func181.trans (congrArg some (by kernel_rfl))
  f129 := Tryz.func182.trans (congrArg some (by kernel_rfl))
  t3 := Tryz.underlying3
  a3 := Tryz.isAgg3
  z3 := Tryz.sizeOf3
  v3 := Tryz.zeroValue3
  t4 := Tryz.underlying4
  a4 := Tryz.isAgg4
  z4 := Tryz.sizeOf4
  v4 := Tryz.zeroValue4
  t5 := Tryz.underlying5
  a5 := Tryz.isAgg5
  z5 := Tryz.sizeOf5
  v5 := Tryz.zeroValue5
  t9 := Tryz.underlying9
  a9 := Tryz.isAgg9
  z9 := Tryz.sizeOf9
  v9 := Tryz.zeroValue9
  t46 := Tryz.underlying106
  a46 := Tryz.isAgg106
  z46 := Tryz.sizeOf106
  v46 := Tryz.zeroValue106
  t51 := Tryz.underlying162
  a51 := Tryz.isAgg162
  z51 := Tryz.sizeOf162
  v51 := Tryz.zeroValue162
  t53 := Tryz.underlying24
  a53 := Tryz.isAgg24
  z53 := Tryz.sizeOf24
  v53 := Tryz.zeroValue24 }
theorem Tryz.bits_Len (x : Int) (w : World) (h0 : 0 ≤ x) (h1 : x ≤ 18446744073709551615) :
    Calls Tryz.prog 131 #[.int .u64 x] w fun e w' => e = .returned (.int .i64 (Lib.bitLen x.toNat)) ∧ w' = w := Any.bits_Len Tryz.lays125 x w h0 h1
end Go.Proofs

namespace Go.Proofs.YtihiafgogbhjkaaGreatDoor
open Go.RowKit

theorem i64_and1 (a : Nat) (ha : a < 9223372036854775808) : bits .and .i64 (a : Int) 1 = ((a % 2 : Nat) : Int) := by
  have h1 : (BitVec.ofInt 64 (a : Int)).toNat = a := by
    rw [BitVec.ofInt_natCast, BitVec.toNat_ofNat]; exact Nat.mod_eq_of_lt (by omega)
  have h2 : (BitVec.ofInt 64 (1 : Int)).toNat = 1 := rfl
  show IntKind.i64.wrap ((BitVec.ofInt 64 (a : Int) &&& BitVec.ofInt 64 (1 : Int)).toNat : Int) = _
  rw [BitVec.toNat_and, h1, h2, Nat.and_one_is_mod, IntKind.wrap_i64]
  omega
theorem half_step (n i : Nat) : n / 2 ^ i = 2 * (n / 2 ^ (i + 1)) + n / 2 ^ i % 2 := by
  rw [Nat.pow_succ, ← Nat.div_div_eq_div_mul]; omega
theorem pow_even (X n i : Nat) (h : n / 2 ^ i % 2 = 0) : X ^ (n / 2 ^ (i + 1)) * X ^ (n / 2 ^ (i + 1)) = X ^ (n / 2 ^ i) := by
  rw [half_step n i, h, ← Nat.pow_add]; congr 1; omega
theorem pow_odd (X n i : Nat) (h : n / 2 ^ i % 2 = 1) : X ^ (n / 2 ^ (i + 1)) * X ^ (n / 2 ^ (i + 1)) * X = X ^ (n / 2 ^ i) := by
  rw [half_step n i, h, ← Nat.pow_add, ← Nat.pow_succ]; congr 1; omega
theorem lt_bitLen (n : Nat) (h : n < 18446744073709551616) : n < 2 ^ Lib.bitLen n ∧ Lib.bitLen n ≤ 64 := by
  by_cases h0 : n = 0
  · subst h0; exact ⟨by decide, by decide⟩
  · exact ⟨(Lib.bitLenAux_bounds 64 n h h0).2.2, Lib.bitLen_le n 64 (by omega) h⟩

set_option maxHeartbeats 4000000 in
set_option maxRecDepth 100000 in
theorem natPow_any (v : Value) (X n : Nat) (w : World) (hv : Sl .u64 w v (wd 18446744073709551616 X)) (hX : 0 < X) (hn : n < 2147483648) (hl : (wd 18446744073709551616 X).length + (wd 18446744073709551616 (X ^ n)).length < 67108864) :
    Calls Tryz.prog 72 #[v, .int .i64 (n : Int)] w fun e w' => ∃ v', e = .returned v' ∧ Sl .u64 w' v' (wd 18446744073709551616 (X ^ n)) ∧ But [] w w' := by
  obtain ⟨L, hL⟩ : ∃ L, L = Lib.bitLen n := ⟨_, rfl⟩
  have hb := lt_bitLen n (by omega)
  have BL := hide (fun W => Tryz.bits_Len (n : Int) W (by omega) (by omega))
  rw [Int.toNat_natCast, ← hL] at BL
  rw [← hL] at hb
  obtain ⟨hb1, hb2⟩ := hb
  have hlen : Hid (∀ i, (wd 18446744073709551616 (X ^ (n / 2 ^ i))).length < 67108864 ∧ (wd 18446744073709551616 X).length + (wd 18446744073709551616 (X ^ (n / 2 ^ i))).length < 67108864) := fun i => by
    have := wd_len_mono (Nat.pow_le_pow_right hX (Nat.div_le_self n (2 ^ i)))
    omega
  have hlen2 : Hid (∀ i, (wd 18446744073709551616 (X ^ (n / 2 ^ (i + 1)) * X ^ (n / 2 ^ (i + 1)))).length + (wd 18446744073709551616 X).length < 67108864) := fun i => by
    rw [← Nat.pow_add]
    have h3 := half_step n i
    have h4 := Nat.div_le_self n (2 ^ i)
    have := wd_len_mono (Nat.pow_le_pow_right hX (show n / 2 ^ (i + 1) + n / 2 ^ (i + 1) ≤ n from by omega))
    omega
  have HV := hide hv
  have hdiv : n / 2 ^ L = 0 := Nat.div_eq_of_lt hb1
  have hst : Hid ((1 : Nat) = X ^ (n / 2 ^ L)) := by show _ = _; rw [hdiv, Nat.pow_zero]
  clear hv hl hdiv hb1 hL
  obtain ⟨xa, xc, rfl, -, -⟩ := unhide HV
  generalize hnx : (wd 18446744073709551616 X).length = nx at *
  have HNX := hide hnx
  clear hnx
  go_enter Tryz.func72, Tryz.ntmps72
  go_wp2_with fail
  refine (natOf_any 1 (by omega) _).mono ?_
  rintro e w1 ⟨v1, rfl, hv1, hb1, -⟩
  have H1 := hide hv1
  have B1 := hide hb1
  clear hv1 hb1
  go_wp2_with fail
  refine (unhide BL _).mono ?_
  rintro e w2 ⟨rfl, hw⟩
  obtain rfl := hw.symm
  clear hw
  go_wp2
  go_loopw [5, 6] (fun o i wr => ∃ k : Nat, k ≤ L ∧ i = .int .i64 ((k : Int) - 1) ∧ Hid (Sl .u64 wr o (wd 18446744073709551616 (X ^ (n / 2 ^ k))) ∧ But [] w wr)) (fun _ i _ => (intOf i + 1).toNat)
  case atStart => exact ⟨L, Nat.le_refl _, rfl, by rw [← unhide hst]; exact unhide H1, unhide B1⟩
  case round =>
    obtain ⟨k, hk, rfl, HI⟩ := hrel
    rename World => wr
    by_cases hk0 : k = 0
    · subst hk0
      go_wp2
      go_ret
      have h := (unhide HI).1
      rw [Nat.pow_zero, Nat.div_one] at h
      exact ⟨_, rfl, h, (unhide HI).2⟩
    · obtain ⟨i, rfl⟩ : ∃ i, k = i + 1 := ⟨k - 1, by omega⟩
      rw [show (((i + 1 : Nat) : Int) - 1) = (i : Int) from by omega]
      have hq : n / 2 ^ i < 9223372036854775808 := by have := Nat.div_le_self n (2 ^ i); omega
      have E1 : bits .and .i64 ((n : Int) / 2 ^ i) 1 = ((n / 2 ^ i % 2 : Nat) : Int) := by
        have e : (n : Int) / 2 ^ i = ((n / 2 ^ i : Nat) : Int) := by simp
        rw [e, i64_and1 _ hq]
      obtain ⟨a, c, ho⟩ : ∃ a c, u5 = .slice a (wd 18446744073709551616 (X ^ (n / 2 ^ (i + 1)))).length c := by obtain ⟨a, c, e, -, -⟩ := (unhide HI).1; exact ⟨a, c, e⟩
      have MU := hide (natMul_any u5 u5 _ _ wr (unhide HI).1 (unhide HI).1 (by have := (unhide hlen (i + 1)).1; omega))
      have L2 := hide (unhide hlen2 i)
      subst ho
      generalize hm : (wd 18446744073709551616 (X ^ (n / 2 ^ (i + 1)))).length = m at *
      clear hm
      rcases Nat.mod_two_eq_zero_or_one (n / 2 ^ i) with hpar | hpar
      · have e1 : (((n / 2 ^ i % 2 : Nat) : Int) == 1) = false := by rw [hpar]; rfl
        have EV := hide (pow_even X n i hpar)
        generalize n / 2 ^ i % 2 = b at *
        go_wp2_with fail
        refine (unhide MU).mono ?_
        rintro e w3 ⟨v3, rfl, hv3, hb3, -⟩
        rw [unhide EV] at hv3
        have H3 := hide hv3
        have B3 : Hid (But [] w w3) := (unhide HI).2.trans' hb3
        clear hv3 hb3
        go_wp2
        refine ⟨⟨i, by omega, rfl, unhide H3, unhide B3⟩, ?_⟩
        simp [intOf]
      · have e1 : (((n / 2 ^ i % 2 : Nat) : Int) == 1) = true := by rw [hpar]; rfl
        have EV := hide (pow_odd X n i hpar)
        generalize n / 2 ^ i % 2 = b at *
        go_wp2_with fail
        refine (unhide MU).mono ?_
        rintro e w3 ⟨v3, rfl, hv3, hb3, -⟩
        have B3 : Hid (But [] w w3) := (unhide HI).2.trans' hb3
        have MX := hide (natMul_any v3 (.slice xa nx xc) _ X w3 hv3 ((unhide HV).but_nil (unhide B3)) (by rw [unhide HNX]; have := unhide L2; omega))
        obtain ⟨a3, c3, e3, -, -⟩ := hv3
        subst e3
        clear hb3
        rw [unhide EV] at MX
        generalize (wd 18446744073709551616 (X ^ (n / 2 ^ (i + 1)) * X ^ (n / 2 ^ (i + 1)))).length = m3 at *
        go_wp2_with fail
        refine (unhide MX).mono ?_
        rintro e w4 ⟨v4, rfl, hv4, hb4, -⟩
        have H4 := hide hv4
        have B4 : Hid (But [] w w4) := (unhide B3).trans' hb4
        clear hv4 hb4
        go_wp2
        refine ⟨⟨i, by omega, rfl, unhide H4, unhide B4⟩, ?_⟩
        simp [intOf]
end Go.Proofs.YtihiafgogbhjkaaGreatDoor

namespace Go.Proofs.YtihiafgogbhjkaaGreatDoor
open Go.RowKit

theorem Row.but {k : IntKind} {w w' : World} {g : Nat} {rs : List Nat} {l : List Nat} (h : Row k w g rs) (hb : But l w w') (hn : g ∉ l) : Row k w' g rs := fun i hi => by
  obtain ⟨h1, h2⟩ := h i hi
  have hl := lt_of_cell h1
  exact ⟨hb.cell_some h1 hn, (hb.frozen hl hn).trans h2⟩

set_option maxHeartbeats 2000000 in
set_option maxRecDepth 100000 in
theorem reverse_any (g cap : Nat) (bs : List Nat) (w : World) (hr : Row .u8 w g bs) (h0 : 0 < bs.length) (hl : bs.length < 1073741824) :
    Calls Tryz.prog 200 #[.slice (some ⟨g, 0, none⟩) bs.length cap] w fun e w' => e = .returned (.tuple #[]) ∧ Row .u8 w' g bs.reverse ∧ But [g] w w' := by
  have mixed : Tryz.prog.follows .mixedOrders = true := by kernel_rfl
  have HR := hide hr
  clear hr
  obtain ⟨n, hn⟩ : ∃ n, n = bs.length := ⟨_, rfl⟩
  rw [← hn] at h0 hl ⊢
  have HN := hide hn
  clear hn
  go_enter Tryz.func200, Tryz.ntmps200
  go_wp2
  go_loopw [2, 3] (fun i j wq => ∃ (k q : Nat) (cs : List Nat), i = .int .i64 k ∧ j = .int .i64 q ∧ k ≤ q + 1 ∧ Hid (k + q + 1 = n ∧ RevInv bs cs k ∧ Row .u8 wq g cs ∧ But [g] w wq)) (fun i _ _ => n - (intOf i).toNat)
  case atStart => exact ⟨0, n - 1, bs, rfl, by congr 1; omega, by omega, by omega, RevInv.start _, unhide HR, But.refl _ _⟩
  case round =>
    obtain ⟨k, q, cs, rfl, rfl, hkq, HJ⟩ := hrel
    rename World => wq
    have hcl : cs.length = n := by rw [(unhide HJ).2.1.len, unhide HN]
    have hsum := (unhide HJ).1
    by_cases hlt : k < q
    · obtain ⟨ck, fk⟩ := (unhide HJ).2.2.1 k (by omega)
      obtain ⟨cq, fq⟩ := (unhide HJ).2.2.1 q (by omega)
      have ST := hide ((unhide HJ).2.1.step (by rw [← unhide HN]; omega))
      have hq : q = n - 1 - k := by omega
      rw [← unhide HN, ← hq] at ST
      have HC := hide hcl
      have HS := hide hsum
      have ne1 : k ≠ q := by omega
      have hk1 : k < n := by omega
      have hq1 : q < n := by omega
      clear hcl hsum hq
      generalize hx : cs[k]?.getD 0 = x at *
      generalize hy : cs[q]?.getD 0 = y at *
      clear hx hy
      go_wp2_with fail
      go_region_o
      go_wp2
      refine ⟨⟨k + 1, q - 1, (cs.set k y).set q x, by go_num, by rw [Int.ofNat_sub (by omega)]; rfl, by omega, by have := unhide HS; omega, unhide ST, ?_, ?_⟩, ?_⟩
      · exact (((unhide HJ).2.2.1.set k (by rw [unhide HC]; have := unhide HS; omega) y).set q (by rw [List.length_set, unhide HC]; have := unhide HS; omega) x).but ((But.refl [] _).drew) (by simp)
      · exact (((unhide HJ).2.2.2.setCell (p := ⟨g, k, none⟩) (.inl (by simp)) (.int .u8 (y : Int))).setCell (p := ⟨g, q, none⟩) (.inl (by simp)) (.int .u8 (x : Int))).drew
      · have := unhide HS
        simp [intOf]; omega
    · have hfin : cs = bs.reverse := (unhide HJ).2.1.fin (by rw [← unhide HN]; omega)
      have HF := hide hfin
      clear hfin hcl hsum
      go_wp2
      go_end0
      exact ⟨rfl, by rw [← unhide HF]; exact (unhide HJ).2.2.1, (unhide HJ).2.2.2⟩
end Go.Proofs.YtihiafgogbhjkaaGreatDoor

namespace Go.Proofs.YtihiafgogbhjkaaGreatDoor
open Go.RowKit

theorem ten608 : (10 : Nat) ^ 608 < 18446744073709551616 ^ 33 := by decide +kernel

end Go.Proofs.YtihiafgogbhjkaaGreatDoor

namespace Go.Proofs.YtihiafgogbhjkaaGreatDoor
open Go.RowKit

set_option maxHeartbeats 2000000 in
set_option maxRecDepth 100000 in
theorem byWord_fresh (v : Value) (X d : Nat) (w : World) (hv : Sl .u64 w v (wd 18446744073709551616 X)) (hl : (wd 18446744073709551616 X).length < 1073741824) (hd : 0 < d) (hdB : d < 18446744073709551616) :
    Calls Tryz.prog 124 #[v, .int .u64 (d : Int)] w fun e w' => ∃ v', e = .returned (.tuple #[v', .int .u64 ((X % d : Nat) : Int)]) ∧ Sl .u64 w' v' (wd 18446744073709551616 (X / d)) ∧ But [] w w' ∧ Fresh w.heap.size v' := by
  have mm := wd_mem (B := 18446744073709551616) (by omega) X
  have em := vl_wd (B := 18446744073709551616) (by omega) X
  obtain ⟨a, c, rfl, hc, hcell, -⟩ := hv
  generalize wd 18446744073709551616 X = xs at *
  subst em
  obtain ⟨R, hR⟩ : ∃ R, R = vl 18446744073709551616 xs % d := ⟨_, rfl⟩
  rw [← hR]
  have HR := hide hR
  have hmk := fun wx => run_make64 wx xs.length (by omega)
  have HC := hide hcell
  have MM := hide mm
  clear hcell mm hR
  go_enter Tryz.func124, Tryz.ntmps124
  go_wp2
  go_loopw [7, 8] (fun r i wr => ∃ (k rN : Nat) (rs : List Nat), k ≤ xs.length ∧ i = .int .i64 ((k : Int) - 1) ∧ r = .int .u64 rN ∧ rN < d ∧ rs.length = xs.length ∧ Hid (ByInv xs rs d k rN ∧ But [] w wr ∧ Seg wr w.heap.size 0 rs)) (fun _ i _ => (intOf i + 1).toNat)
  case atStart => exact ⟨xs.length, 0, List.replicate xs.length 0, Nat.le_refl _, rfl, rfl, hd, by simp, ByInv.start xs d hd, (But.refl _ _).alloc _, Seg.made _ _ _⟩
  case round =>
    obtain ⟨k, rN, rs, hk, rfl, rfl, hrN, hrl, HI⟩ := hrel
    rename World => wr
    by_cases hk0 : k = 0
    · subst hk0
      have hsl := (unhide HI).2.2.sl xs.length (by omega)
      rw [hrl] at hsl
      have HSL := hide hsl
      have HF := hide (unhide HI).1.fin
      have hln : rs.length < 2147483648 := by omega
      clear hsl HC
      go_wp2_with fail
      refine (trimmed_any _ rs _ (unhide HSL) (unhide HI).1.mem hln).mono ?_
      rintro e w1 ⟨v1, rfl, hv1, hw, hsb⟩
      obtain rfl := hw.symm
      clear hw
      rw [(unhide HF).1] at hv1
      have HV1 := hide hv1
      have HSB := hide hsb
      clear hsb
      have er : Hid (rN = R) := by show _ = _; rw [unhide HR]; exact (unhide HF).2
      clear hv1
      go_wp2
      go_ret2
      exact ⟨v1, by rw [← unhide er]; rfl, unhide HV1, (unhide HI).2.1, fresh_of (unhide HSB) (Nat.le_refl _)⟩
    · obtain ⟨i, rfl⟩ : ∃ i, k = i + 1 := ⟨k - 1, by omega⟩
      obtain ⟨b, off, rfl, hci⟩ := unhide HC i (by omega)
      have cx := (unhide HI).2.1.cell_some hci (by simp)
      have hxB : xs[i]?.getD 0 < 18446744073709551616 := mem_getD (unhide MM) (by omega) i
      obtain ⟨cr, fr⟩ := (unhide HI).2.2 i (by omega)
      rw [Nat.zero_add] at cr fr
      obtain ⟨q, hq⟩ : ∃ q, (rN * 18446744073709551616 + xs[i]?.getD 0) / d = q := ⟨_, rfl⟩
      obtain ⟨r', hr'⟩ : ∃ r', (rN * 18446744073709551616 + xs[i]?.getD 0) % d = r' := ⟨_, rfl⟩
      obtain ⟨hqB, hst⟩ := (unhide HI).1.step (by omega) hxB q r' hq hr'
      have hr'd : r' < d := hst.lt
      have ST := hide hst
      have DV := hide (div64_any rN (xs[i]?.getD 0) d hdB hxB hrN wr q r' hq hr')
      have hset := (unhide HI).2.2.set i (by omega) q
      rw [Nat.zero_add] at hset
      have HSET := hide hset
      clear hset hst hci hq hr'
      generalize xs[i]?.getD 0 = x at *
      generalize rs[i]?.getD 0 = r0 at cr
      rw [show (((i + 1 : Nat) : Int) - 1) = (i : Int) from by omega]
      go_wp2_with fail
      refine (unhide DV).mono ?_
      rintro e w1 ⟨rfl, n, rfl⟩
      go_wp2
      refine ⟨⟨i, r', rs.set i q, by omega, rfl, rfl, hr'd, by rw [List.length_set]; exact hrl, unhide ST, ((unhide HI).2.1.drewN n).setCell (.inr (Nat.le_refl _)) _, ?_⟩, ?_⟩
      · exact unhide HSET
      · simp [intOf]
end Go.Proofs.YtihiafgogbhjkaaGreatDoor

namespace Go.Proofs.YtihiafgogbhjkaaGreatDoor
open Go.RowKit

/-- the row of bytes does not lie in the block of the words -/
def OffB (vb vx : Value) : Prop := ∀ k, vb.ownBlock = some k → ∀ b off n c, vx = .slice (some ⟨b, off, none⟩) n c → b ≠ k
theorem OffB.grow {w w' : World} {vb vb' vx : Value} {xs : List Nat} {o : Obj} (h : OffB vb vx) (hs : Sl .u64 w vx xs) (h0 : 0 < xs.length) (hg : (w.alloc o).grownBy w' vb.ownBlock) (hb : vb'.ownBlock = vb.ownBlock ∨ ∀ k, vb'.ownBlock = some k → (w.alloc o).heap.size ≤ k) : Sl .u64 w' vx xs ∧ OffB vb' vx := by
  constructor
  · have h1 := hs.but_nil ((But.refl [] w).alloc o)
    cases hr : vb.ownBlock with
    | none => rw [hr] at hg; exact h1.but_nil (grown_but_none hg)
    | some g => rw [hr] at hg; exact h1.but (grown_but hg) (fun b off cap n e => by have := h g hr b off n cap e; simp; omega)
  · intro k hk b off n c e
    rcases hb with hb | hb
    · rw [hb] at hk; exact h k hk b off n c e
    · have h1 := hb k hk
      have h2 := hs.lt h0 b off n c e
      simp at h1
      omega
theorem row_news {w : World} {g : Nat} {es : List UInt8} (h : Row .u8 w g (es.map UInt8.toNat)) : ∀ j u, (es.map u8v)[j]? = some u → w.cell? ((⟨g, 0, none⟩ : Addr).add j) = some u := fun j u hj => by
  rw [List.getElem?_map] at hj
  rcases Nat.lt_or_ge j es.length with hl | hl
  · rw [List.getElem?_eq_getElem hl] at hj
    simp only [Option.map_some, Option.some.injEq] at hj
    have h1 := (h j (by rw [List.length_map]; exact hl)).1
    rw [List.getElem?_map, List.getElem?_eq_getElem hl] at h1
    have e : (⟨g, 0, none⟩ : Addr).add j = ⟨g, j, none⟩ := by by_cases h : j = 0 <;> simp [Addr.add, h]
    rw [e, h1, ← hj]
    rfl
  · rw [List.getElem?_eq_none hl] at hj
    simp at hj
theorem ten19_lt {q : Nat} (h : 1 < (wd 18446744073709551616 q).length) : 10000000000000000000 ≤ q := by
  rcases Nat.lt_or_ge q 18446744073709551616 with h1 | h1
  · have := wd_length_le (B := 18446744073709551616) (by omega) q 1 (by rw [Nat.pow_one]; exact h1)
    omega
  · omega
end Go.Proofs.YtihiafgogbhjkaaGreatDoor
