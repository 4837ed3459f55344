/- Contracts of the library at this program: small numerals, the number of digits, the digits in a row, the length of a number in bits. -/
import Derived.Shelf.Strconv.Itoa1
import Derived.Shelf.LaysM
import Derived.Shelf.Strconv.Itoa2
import Derived.Shelf.Small.Bits
import Derived.Test.YtjbboicccddhbaaGreatDoorProg
import Derived.Laws.Bits64b
import Derived.Lib.ItoaNum
import Derived.Deep.RegionHeld
import Derived.Laws.OwnMore
import Derived.Lib.ItoaMem
import Derived.Laws.IdiomStrings
import Derived.Test.YtjbboicccddhbaaGreatDoorKBN36
namespace Go.Proofs
open Go.Shelf
def Tryz.lays283_ren : Go.Shelf.Ren := ⟨fun | 283 => 185 | n => n, fun | 3 => 3 | 4 => 4 | 9 => 9 | n => n, fun | n => n⟩
theorem Tryz.lays283 : Go.Proofs.Lays.n283 Tryz.prog Tryz.lays283_ren := {
  mixed := by kernel_rfl
  f283 := Tryz.func185.trans (congrArg some (by kernel_rfl))
  t3 := Tryz.underlying3
  a3 := Tryz.isAgg3
  z3 := Tryz.sizeOf3
  v3 := Tryz.zeroValue3
  t4 := Tryz.underlying4
  a4 := Tryz.isAgg4
  z4 := Tryz.sizeOf4
  v4 := Tryz.zeroValue4
  t9 := Tryz.underlying9
  a9 := Tryz.isAgg9
  z9 := Tryz.sizeOf9
  v9 := Tryz.zeroValue9 }
open Go.Lib in
theorem Tryz.internal_strconv_small (i : Nat) (h : i < 100) (w : World) :
    Calls Tryz.prog 185 #[.int .i64 i] w fun e w' => e = .returned (.string ⟨(Lib.decDigits i).toArray⟩) ∧ w' = w := Any.internal_strconv_small Tryz.lays283 i h w
def Tryz.laysM284_ren : Go.Shelf.Ren := ⟨fun | 129 => 147 | 284 => 186 | 317 => 207 | 318 => 208 | n => n, fun | 0 => 0 | 3 => 3 | 4 => 4 | 5 => 5 | 9 => 9 | 46 => 100 | 53 => 24 | 212 => 268 | n => n, fun | 17 => 4 | n => n⟩
theorem Tryz.laysM284 : Go.Proofs.LaysM.n284 Tryz.prog Tryz.laysM284_ren := {
  mixed := by kernel_rfl
  f129 := Tryz.func147.trans (congrArg some (by kernel_rfl))
  f284 := Tryz.func186.trans (congrArg some (by kernel_rfl))
  f317 := Tryz.func207.trans (congrArg some (by kernel_rfl))
  f318 := Tryz.func208.trans (congrArg some (by kernel_rfl))
  t0 := Tryz.underlying0
  a0 := Tryz.isAgg0
  z0 := Tryz.sizeOf0
  v0 := Tryz.zeroValue0
  t3 := Tryz.underlying3
  a3 := Tryz.isAgg3
  z3 := Tryz.sizeOf3
  v3 := Tryz.zeroValue3
  t4 := Tryz.underlying4
  a4 := Tryz.isAgg4
  z4 := Tryz.sizeOf4
  v4 := Tryz.zeroValue4
  t5 := Tryz.underlying5
  a5 := Tryz.isAgg5
  z5 := Tryz.sizeOf5
  v5 := Tryz.zeroValue5
  t9 := Tryz.underlying9
  a9 := Tryz.isAgg9
  z9 := Tryz.sizeOf9
  v9 := Tryz.zeroValue9
  t46 := Tryz.underlying100
  a46 := Tryz.isAgg100
  z46 := Tryz.sizeOf100
  v46 := Tryz.zeroValue100
  t53 := Tryz.underlying24
  a53 := Tryz.isAgg24
  z53 := Tryz.sizeOf24
  v53 := Tryz.zeroValue24
  t212 := Tryz.underlying268
  a212 := Tryz.isAgg268
  z212 := Tryz.sizeOf268
  v212 := Tryz.zeroValue268
  g17 := by kernel_rfl
  m17 := by kernel_rfl
  i0 := by kernel_rfl
  i3 := by kernel_rfl
  i4 := by kernel_rfl
  i5 := by kernel_rfl
  i9 := by kernel_rfl
  i46 := by kernel_rfl
  i53 := by kernel_rfl
  i212 := by kernel_rfl }
open Go.Lib in
theorem Tryz.internal_strconv_numDigits (u : Nat) (h1 : 1 ≤ u) (h2 : u < 18446744073709551616) (w : World) (htab : Lib.TabIs Tryz.prog w "internal/strconv.uint64pow10" .u64 Lib.pow10Tab) :
    Calls Tryz.prog 186 #[.int .u64 u] w fun e w' => e = .returned (.int .i64 (Lib.nDigits u)) ∧ w' = w := Any.internal_strconv_numDigits Tryz.laysM284 u h1 h2 w htab
def Tryz.lays285_ren : Go.Shelf.Ren := ⟨fun | 285 => 187 | n => n, fun | 0 => 0 | 3 => 3 | 4 => 4 | 5 => 5 | 9 => 9 | 37 => 123 | 51 => 198 | 53 => 24 | n => n, fun | n => n⟩
theorem Tryz.lays285 : Go.Proofs.Lays.n285 Tryz.prog Tryz.lays285_ren := {
  mixed := by kernel_rfl
  f285 := Tryz.func187.trans (congrArg some (by kernel_rfl))
  t0 := Tryz.underlying0
  a0 := Tryz.isAgg0
  z0 := Tryz.sizeOf0
  v0 := Tryz.zeroValue0
  t3 := Tryz.underlying3
  a3 := Tryz.isAgg3
  z3 := Tryz.sizeOf3
  v3 := Tryz.zeroValue3
  t4 := Tryz.underlying4
  a4 := Tryz.isAgg4
  z4 := Tryz.sizeOf4
  v4 := Tryz.zeroValue4
  t5 := Tryz.underlying5
  a5 := Tryz.isAgg5
  z5 := Tryz.sizeOf5
  v5 := Tryz.zeroValue5
  t9 := Tryz.underlying9
  a9 := Tryz.isAgg9
  z9 := Tryz.sizeOf9
  v9 := Tryz.zeroValue9
  t37 := Tryz.underlying123
  a37 := Tryz.isAgg123
  z37 := Tryz.sizeOf123
  v37 := Tryz.zeroValue123
  t51 := Tryz.underlying198
  a51 := Tryz.isAgg198
  z51 := Tryz.sizeOf198
  v51 := Tryz.zeroValue198
  t53 := Tryz.underlying24
  a53 := Tryz.isAgg24
  z53 := Tryz.sizeOf24
  v53 := Tryz.zeroValue24 }
open Go.RowKit Go.Sort Go.Lib in
theorem Tryz.internal_strconv_formatBase10 (blk off cap : Nat) (u : Nat) (d : Array UInt8) (w : World) (hH : Holds (fun (b : UInt8) => Value.int .u8 (b.toNat : Int)) w blk off d) (hu : u < 10 ^ d.size) (hu64 : u < 18446744073709551616) (hsz : d.size < 4611686018427387904) :
    Calls Tryz.prog 187 #[.slice (some ⟨blk, off, none⟩) d.size cap, .int .u64 u] w fun e w' =>
      e = .returned (.tuple #[]) ∧ ∃ (n v' : Nat) (dk : Array UInt8), w' = (putRow (fun (b : UInt8) => Value.int .u8 (b.toNat : Int)) w blk off dk).drewN n ∧ FmtInv d.size u 0 v' dk := Any.internal_strconv_formatBase10 Tryz.lays285 blk off cap u d w hH hu hu64 hsz
def Tryz.lays125_ren : Go.Shelf.Ren := ⟨fun | 125 => 103 | 128 => 146 | 129 => 147 | n => n, fun | 3 => 3 | 4 => 4 | 5 => 5 | 9 => 9 | 46 => 100 | 51 => 198 | 53 => 24 | n => n, fun | n => n⟩
theorem Tryz.lays125 : Go.Proofs.Lays.n125 Tryz.prog Tryz.lays125_ren := {
  mixed := by kernel_rfl
  f125 := Tryz.func103.trans (congrArg some (by kernel_rfl))
  f128 := Tryz.func146.trans (congrArg some (by kernel_rfl))
  f129 := Tryz.func147.trans (congrArg some (by kernel_rfl))
  t3 := Tryz.underlying3
  a3 := Tryz.isAgg3
  z3 := Tryz.sizeOf3
  v3 := Tryz.zeroValue3
  t4 := Tryz.underlying4
  a4 := Tryz.isAgg4
  z4 := Tryz.sizeOf4
  v4 := Tryz.zeroValue4
  t5 := Tryz.underlying5
  a5 := Tryz.isAgg5
  z5 := Tryz.sizeOf5
  v5 := Tryz.zeroValue5
  t9 := Tryz.underlying9
  a9 := Tryz.isAgg9
  z9 := Tryz.sizeOf9
  v9 := Tryz.zeroValue9
  t46 := Tryz.underlying100
  a46 := Tryz.isAgg100
  z46 := Tryz.sizeOf100
  v46 := Tryz.zeroValue100
  t51 := Tryz.underlying198
  a51 := Tryz.isAgg198
  z51 := Tryz.sizeOf198
  v51 := Tryz.zeroValue198
  t53 := Tryz.underlying24
  a53 := Tryz.isAgg24
  z53 := Tryz.sizeOf24
  v53 := Tryz.zeroValue24 }
theorem Tryz.bits_Len (x : Int) (w : World) (h0 : 0 ≤ x) (h1 : x ≤ 18446744073709551615) :
    Calls Tryz.prog 103 #[.int .u64 x] w fun e w' => e = .returned (.int .i64 (Lib.bitLen x.toNat)) ∧ w' = w := Any.bits_Len Tryz.lays125 x w h0 h1
end Go.Proofs

namespace Go.Proofs.YtjbboicccddhbaaGreatDoor
open Go.RowKit

theorem i64_and1 (a : Nat) (ha : a < 9223372036854775808) : bits .and .i64 (a : Int) 1 = ((a % 2 : Nat) : Int) := by
  have h1 : (BitVec.ofInt 64 (a : Int)).toNat = a := by
    rw [BitVec.ofInt_natCast, BitVec.toNat_ofNat]; exact Nat.mod_eq_of_lt (by omega)
  have h2 : (BitVec.ofInt 64 (1 : Int)).toNat = 1 := rfl
  show IntKind.i64.wrap ((BitVec.ofInt 64 (a : Int) &&& BitVec.ofInt 64 (1 : Int)).toNat : Int) = _
  rw [BitVec.toNat_and, h1, h2, Nat.and_one_is_mod, IntKind.wrap_i64]
  omega
theorem half_step (n i : Nat) : n / 2 ^ i = 2 * (n / 2 ^ (i + 1)) + n / 2 ^ i % 2 := by
  rw [Nat.pow_succ, ← Nat.div_div_eq_div_mul]; omega
theorem pow_even (X n i : Nat) (h : n / 2 ^ i % 2 = 0) : X ^ (n / 2 ^ (i + 1)) * X ^ (n / 2 ^ (i + 1)) = X ^ (n / 2 ^ i) := by
  rw [half_step n i, h, ← Nat.pow_add]; congr 1; omega
theorem pow_odd (X n i : Nat) (h : n / 2 ^ i % 2 = 1) : X ^ (n / 2 ^ (i + 1)) * X ^ (n / 2 ^ (i + 1)) * X = X ^ (n / 2 ^ i) := by
  rw [half_step n i, h, ← Nat.pow_add, ← Nat.pow_succ]; congr 1; omega
theorem lt_bitLen (n : Nat) (h : n < 18446744073709551616) : n < 2 ^ Lib.bitLen n ∧ Lib.bitLen n ≤ 64 := by
  by_cases h0 : n = 0
  · subst h0; exact ⟨by decide, by decide⟩
  · exact ⟨(Lib.bitLenAux_bounds 64 n h h0).2.2, Lib.bitLen_le n 64 (by omega) h⟩

set_option maxHeartbeats 4000000 in
set_option maxRecDepth 100000 in
theorem natPow_any (v : Value) (X n : Nat) (w : World) (hv : Sl .u64 w v (wd 18446744073709551616 X)) (hX : 0 < X) (hn : n < 2147483648) (hl : (wd 18446744073709551616 X).length + (wd 18446744073709551616 (X ^ n)).length < 67108864) :
    Calls Tryz.prog 55 #[v, .int .i64 (n : Int)] w fun e w' => ∃ v', e = .returned v' ∧ Sl .u64 w' v' (wd 18446744073709551616 (X ^ n)) ∧ But [] w w' := by
  obtain ⟨L, hL⟩ : ∃ L, L = Lib.bitLen n := ⟨_, rfl⟩
  have hb := lt_bitLen n (by omega)
  have BL := hide (fun W => Tryz.bits_Len (n : Int) W (by omega) (by omega))
  rw [Int.toNat_natCast, ← hL] at BL
  rw [← hL] at hb
  obtain ⟨hb1, hb2⟩ := hb
  have hlen : Hid (∀ i, (wd 18446744073709551616 (X ^ (n / 2 ^ i))).length < 67108864 ∧ (wd 18446744073709551616 X).length + (wd 18446744073709551616 (X ^ (n / 2 ^ i))).length < 67108864) := fun i => by
    have := wd_len_mono (Nat.pow_le_pow_right hX (Nat.div_le_self n (2 ^ i)))
    omega
  have hlen2 : Hid (∀ i, (wd 18446744073709551616 (X ^ (n / 2 ^ (i + 1)) * X ^ (n / 2 ^ (i + 1)))).length + (wd 18446744073709551616 X).length < 67108864) := fun i => by
    rw [← Nat.pow_add]
    have h3 := half_step n i
    have h4 := Nat.div_le_self n (2 ^ i)
    have := wd_len_mono (Nat.pow_le_pow_right hX (show n / 2 ^ (i + 1) + n / 2 ^ (i + 1) ≤ n from by omega))
    omega
  have HV := hide hv
  have hdiv : n / 2 ^ L = 0 := Nat.div_eq_of_lt hb1
  have hst : Hid ((1 : Nat) = X ^ (n / 2 ^ L)) := by show _ = _; rw [hdiv, Nat.pow_zero]
  clear hv hl hdiv hb1 hL
  obtain ⟨xa, xc, rfl, -, -⟩ := unhide HV
  generalize hnx : (wd 18446744073709551616 X).length = nx at *
  have HNX := hide hnx
  clear hnx
  go_enter Tryz.func55, Tryz.ntmps55
  go_wp2_with fail
  refine (natOf_any 1 (by omega) _).mono ?_
  rintro e w1 ⟨v1, rfl, hv1, hb1, -⟩
  have H1 := hide hv1
  have B1 := hide hb1
  clear hv1 hb1
  go_wp2_with fail
  refine (unhide BL _).mono ?_
  rintro e w2 ⟨rfl, hw⟩
  obtain rfl := hw.symm
  clear hw
  go_wp2
  go_loopw [5, 6] (fun o i wr => ∃ k : Nat, k ≤ L ∧ i = .int .i64 ((k : Int) - 1) ∧ Hid (Sl .u64 wr o (wd 18446744073709551616 (X ^ (n / 2 ^ k))) ∧ But [] w wr)) (fun _ i _ => (intOf i + 1).toNat)
  case atStart => exact ⟨L, Nat.le_refl _, rfl, by rw [← unhide hst]; exact unhide H1, unhide B1⟩
  case round =>
    obtain ⟨k, hk, rfl, HI⟩ := hrel
    rename World => wr
    by_cases hk0 : k = 0
    · subst hk0
      go_wp2
      go_ret
      have h := (unhide HI).1
      rw [Nat.pow_zero, Nat.div_one] at h
      exact ⟨_, rfl, h, (unhide HI).2⟩
    · obtain ⟨i, rfl⟩ : ∃ i, k = i + 1 := ⟨k - 1, by omega⟩
      rw [show (((i + 1 : Nat) : Int) - 1) = (i : Int) from by omega]
      have hq : n / 2 ^ i < 9223372036854775808 := by have := Nat.div_le_self n (2 ^ i); omega
      have E1 : bits .and .i64 ((n : Int) / 2 ^ i) 1 = ((n / 2 ^ i % 2 : Nat) : Int) := by
        have e : (n : Int) / 2 ^ i = ((n / 2 ^ i : Nat) : Int) := by simp
        rw [e, i64_and1 _ hq]
      obtain ⟨a, c, ho⟩ : ∃ a c, u5 = .slice a (wd 18446744073709551616 (X ^ (n / 2 ^ (i + 1)))).length c := by obtain ⟨a, c, e, -, -⟩ := (unhide HI).1; exact ⟨a, c, e⟩
      have MU := hide (natMul_any u5 u5 _ _ wr (unhide HI).1 (unhide HI).1 (by have := (unhide hlen (i + 1)).1; omega))
      have L2 := hide (unhide hlen2 i)
      subst ho
      generalize hm : (wd 18446744073709551616 (X ^ (n / 2 ^ (i + 1)))).length = m at *
      clear hm
      rcases Nat.mod_two_eq_zero_or_one (n / 2 ^ i) with hpar | hpar
      · have e1 : (((n / 2 ^ i % 2 : Nat) : Int) == 1) = false := by rw [hpar]; rfl
        have EV := hide (pow_even X n i hpar)
        generalize n / 2 ^ i % 2 = b at *
        go_wp2_with fail
        refine (unhide MU).mono ?_
        rintro e w3 ⟨v3, rfl, hv3, hb3, -⟩
        rw [unhide EV] at hv3
        have H3 := hide hv3
        have B3 : Hid (But [] w w3) := (unhide HI).2.trans' hb3
        clear hv3 hb3
        go_wp2
        refine ⟨⟨i, by omega, rfl, unhide H3, unhide B3⟩, ?_⟩
        simp [intOf]
      · have e1 : (((n / 2 ^ i % 2 : Nat) : Int) == 1) = true := by rw [hpar]; rfl
        have EV := hide (pow_odd X n i hpar)
        generalize n / 2 ^ i % 2 = b at *
        go_wp2_with fail
        refine (unhide MU).mono ?_
        rintro e w3 ⟨v3, rfl, hv3, hb3, -⟩
        have B3 : Hid (But [] w w3) := (unhide HI).2.trans' hb3
        have MX := hide (natMul_any v3 (.slice xa nx xc) _ X w3 hv3 ((unhide HV).but_nil (unhide B3)) (by rw [unhide HNX]; have := unhide L2; omega))
        obtain ⟨a3, c3, e3, -, -⟩ := hv3
        subst e3
        clear hb3
        rw [unhide EV] at MX
        generalize (wd 18446744073709551616 (X ^ (n / 2 ^ (i + 1)) * X ^ (n / 2 ^ (i + 1)))).length = m3 at *
        go_wp2_with fail
        refine (unhide MX).mono ?_
        rintro e w4 ⟨v4, rfl, hv4, hb4, -⟩
        have H4 := hide hv4
        have B4 : Hid (But [] w w4) := (unhide B3).trans' hb4
        clear hv4 hb4
        go_wp2
        refine ⟨⟨i, by omega, rfl, unhide H4, unhide B4⟩, ?_⟩
        simp [intOf]
end Go.Proofs.YtjbboicccddhbaaGreatDoor

namespace Go.Proofs.YtjbboicccddhbaaGreatDoor
open Go.RowKit

theorem Row.but {k : IntKind} {w w' : World} {g : Nat} {rs : List Nat} {l : List Nat} (h : Row k w g rs) (hb : But l w w') (hn : g ∉ l) : Row k w' g rs := fun i hi => by
  obtain ⟨h1, h2⟩ := h i hi
  have hl := lt_of_cell h1
  exact ⟨hb.cell_some h1 hn, (hb.frozen hl hn).trans h2⟩

set_option maxHeartbeats 2000000 in
set_option maxRecDepth 100000 in
theorem reverse_any (g cap : Nat) (bs : List Nat) (w : World) (hr : Row .u8 w g bs) (h0 : 0 < bs.length) (hl : bs.length < 1073741824) :
    Calls Tryz.prog 189 #[.slice (some ⟨g, 0, none⟩) bs.length cap] w fun e w' => e = .returned (.tuple #[]) ∧ Row .u8 w' g bs.reverse ∧ But [g] w w' := by
  have mixed : Tryz.prog.follows .mixedOrders = true := by kernel_rfl
  have HR := hide hr
  clear hr
  obtain ⟨n, hn⟩ : ∃ n, n = bs.length := ⟨_, rfl⟩
  rw [← hn] at h0 hl ⊢
  have HN := hide hn
  clear hn
  go_enter Tryz.func189, Tryz.ntmps189
  go_wp2
  go_loopw [2, 3] (fun i j wq => ∃ (k q : Nat) (cs : List Nat), i = .int .i64 k ∧ j = .int .i64 q ∧ k ≤ q + 1 ∧ Hid (k + q + 1 = n ∧ RevInv bs cs k ∧ Row .u8 wq g cs ∧ But [g] w wq)) (fun i _ _ => n - (intOf i).toNat)
  case atStart => exact ⟨0, n - 1, bs, rfl, by congr 1; omega, by omega, by omega, RevInv.start _, unhide HR, But.refl _ _⟩
  case round =>
    obtain ⟨k, q, cs, rfl, rfl, hkq, HJ⟩ := hrel
    rename World => wq
    have hcl : cs.length = n := by rw [(unhide HJ).2.1.len, unhide HN]
    have hsum := (unhide HJ).1
    by_cases hlt : k < q
    · obtain ⟨ck, fk⟩ := (unhide HJ).2.2.1 k (by omega)
      obtain ⟨cq, fq⟩ := (unhide HJ).2.2.1 q (by omega)
      have ST := hide ((unhide HJ).2.1.step (by rw [← unhide HN]; omega))
      have hq : q = n - 1 - k := by omega
      rw [← unhide HN, ← hq] at ST
      have HC := hide hcl
      have HS := hide hsum
      have ne1 : k ≠ q := by omega
      have hk1 : k < n := by omega
      have hq1 : q < n := by omega
      clear hcl hsum hq
      generalize hx : cs[k]?.getD 0 = x at *
      generalize hy : cs[q]?.getD 0 = y at *
      clear hx hy
      go_wp2_with fail
      go_region_o
      go_wp2
      refine ⟨⟨k + 1, q - 1, (cs.set k y).set q x, by go_num, by rw [Int.ofNat_sub (by omega)]; rfl, by omega, by have := unhide HS; omega, unhide ST, ?_, ?_⟩, ?_⟩
      · exact (((unhide HJ).2.2.1.set k (by rw [unhide HC]; have := unhide HS; omega) y).set q (by rw [List.length_set, unhide HC]; have := unhide HS; omega) x).but ((But.refl [] _).drew) (by simp)
      · exact (((unhide HJ).2.2.2.setCell (p := ⟨g, k, none⟩) (.inl (by simp)) (.int .u8 (y : Int))).setCell (p := ⟨g, q, none⟩) (.inl (by simp)) (.int .u8 (x : Int))).drew
      · have := unhide HS
        simp [intOf]; omega
    · have hfin : cs = bs.reverse := (unhide HJ).2.1.fin (by rw [← unhide HN]; omega)
      have HF := hide hfin
      clear hfin hcl hsum
      go_wp2
      go_end0
      exact ⟨rfl, by rw [← unhide HF]; exact (unhide HJ).2.2.1, (unhide HJ).2.2.2⟩
end Go.Proofs.YtjbboicccddhbaaGreatDoor

namespace Go.Proofs.YtjbboicccddhbaaGreatDoor
open Go.RowKit

theorem ten608 : (10 : Nat) ^ 608 < 18446744073709551616 ^ 33 := by decide +kernel

set_option maxHeartbeats 2000000 in
set_option maxRecDepth 100000 in
theorem powersFor_short (v : Value) (X : Nat) (w : World) (hv : Sl .u64 w v (wd 18446744073709551616 X)) (hX : X < 10 ^ 608) :
    Calls Tryz.prog 97 #[v] w fun e w' => e = .returned (.slice none 0 0) ∧ But [] w w' := by
  have h10 : (wd 18446744073709551616 (10 ^ 608)).length ≤ 33 := wd_length_le (by omega) _ _ ten608
  have h1 : (wd 18446744073709551616 10).length ≤ 1 := wd_length_le (by omega) _ _ (by omega)
  have hXl := wd_len_mono (Nat.le_of_lt hX)
  have hc : cmpN (10 ^ 608) X = 1 := by
    rcases cmpN_cases (10 ^ 608) X with ⟨h, -⟩ | ⟨h, -⟩ | ⟨-, h⟩
    · exact absurd hX (Nat.not_lt.2 (Nat.le_of_lt h))
    · rw [h] at hX; exact absurd hX (Nat.lt_irrefl _)
    · exact h
  have PW : Hid (∀ (v1 : Value) (W : World), Sl .u64 W v1 (wd 18446744073709551616 10) → Calls Tryz.prog 55 #[v1, .int .i64 608] W fun e w' => ∃ v', e = .returned v' ∧ Sl .u64 w' v' (wd 18446744073709551616 (10 ^ 608)) ∧ But [] W w') := fun v1 W h => natPow_any v1 10 608 W h (by omega) (by omega) (Nat.lt_of_le_of_lt (Nat.add_le_add h1 h10) (by omega))
  have CM : Hid (∀ (v1 : Value) (W : World), Sl .u64 W v1 (wd 18446744073709551616 (10 ^ 608)) → Sl .u64 W v (wd 18446744073709551616 X) → Calls Tryz.prog 106 #[v1, v] W fun e w' => e = .returned (.int .i64 1) ∧ ∃ q, w' = W.drewN q) := fun v1 W h1 h2 => by
    have := natCmp_any v1 v _ _ W h1 h2 (Nat.lt_of_le_of_lt h10 (by omega)) (Nat.lt_of_le_of_lt (Nat.le_trans hXl h10) (by omega))
    rw [hc] at this
    exact this
  have HV := hide hv
  clear hv h10 h1 hXl hc hX
  obtain ⟨xa, xc, rfl, -, -⟩ := unhide HV
  generalize (wd 18446744073709551616 X).length = nx at *
  go_enter Tryz.func97, Tryz.ntmps97
  go_wp2_with fail
  refine (natOf_any 10 (by omega) _).mono ?_
  rintro e w1 ⟨v1, rfl, hv1, hb1, -⟩
  have H1 := hide hv1
  have B1 := hide hb1
  clear hv1 hb1
  go_wp2_with fail
  refine (unhide PW v1 _ (unhide H1)).mono ?_
  rintro e w2 ⟨v2, rfl, hv2, hb2⟩
  have H2 := hide hv2
  have B2 : Hid (But [] w w2) := (unhide B1).trans' hb2
  clear hv2 hb2
  go_wp2_with fail
  refine wp_loop_rounds 1 ?_
  rw [rounds_succ]
  go_wp2_with fail
  refine (unhide CM v2 _ (unhide H2) ((unhide HV).but_nil (unhide B2))).mono ?_
  rintro e w3 ⟨rfl, q, rfl⟩
  go_wp2
  go_ret
  exact ⟨rfl, (unhide B2).drewN q⟩
end Go.Proofs.YtjbboicccddhbaaGreatDoor

namespace Go.Proofs.YtjbboicccddhbaaGreatDoor
open Go.RowKit

/-- ten to the power of 608, squared so often -/
def tenP (j : Nat) : Nat := 10 ^ (608 * 2 ^ j)
theorem tenP_zero : tenP 0 = 10 ^ 608 := by unfold tenP; rw [Nat.pow_zero, Nat.mul_one]
theorem tenP_succ (j : Nat) : tenP (j + 1) = tenP j * tenP j := by
  unfold tenP
  rw [← Nat.pow_add, Nat.pow_succ, ← Nat.mul_two, Nat.mul_assoc]
theorem tenP_pos (j : Nat) : 0 < tenP j := Nat.pow_pos (by omega)
theorem tenP_gt (j : Nat) : j < tenP j := by
  unfold tenP
  have h1 : j < 2 ^ j := Nat.lt_two_pow_self
  have h2 : 608 * 2 ^ j < 10 ^ (608 * 2 ^ j) := Nat.lt_pow_self (by omega)
  omega
/-- how great the powers below a number of so many words are -/
theorem tenP_below (X j n : Nat) (hl : (wd 18446744073709551616 X).length ≤ n) (h : tenP j ≤ X) : 1824 * 2 ^ j < 64 * n := by
  have h1 : X < 18446744073709551616 ^ n := lt_of_wd_length (by omega) X _ hl
  have h2 : (2 : Nat) ^ (1824 * 2 ^ j) ≤ tenP j := by
    unfold tenP
    have e : (2 : Nat) ^ (1824 * 2 ^ j) = (2 ^ 3) ^ (608 * 2 ^ j) := by rw [← Nat.pow_mul, ← Nat.mul_assoc]
    rw [e]
    exact Nat.pow_le_pow_left (by omega) _
  have h3 : (18446744073709551616 : Nat) ^ n = 2 ^ (64 * n) := by rw [Nat.pow_mul]
  rw [h3] at h1
  have h4 : (2 : Nat) ^ (1824 * 2 ^ j) < 2 ^ (64 * n) := Nat.lt_of_le_of_lt h2 (Nat.lt_of_le_of_lt h h1)
  exact (Nat.pow_lt_pow_iff_right (by omega : 1 < 2)).1 h4
theorem info_nat : ∃ i, Tryz.prog.info? 96 = some i ∧ i.zero = some (.slice none 0 0) ∧ i.size = 1 ∧ i.bytes = 24 := by
  have h : (Tryz.prog.info? 96).map (fun i => (i.zero, i.size, i.bytes)) = some (some (.slice none 0 0), 1, 24) := by kernel_rfl
  obtain ⟨i, hi, he⟩ := Option.map_eq_some_iff.1 h
  simp only [Prod.mk.injEq] at he
  exact ⟨i, hi, he.1, he.2.1, he.2.2⟩
/-- rows of words stay where a row of other things grows -/
theorem keep_grown_of {w w' : World} {base : Nat} {e : TypeId} {vo : Value} {n : Nat} {xs : List Value} (ho : w.ownsRow base e 1 vo n xs) (hn : vo = .slice none 0 0 ∨ ∃ u, xs[0]? = some u ∧ ∀ m : Int, u ≠ .int .u64 m) (hg : w.grownBy w' vo.ownBlock) : Keep64 w w' := by
  intro v ws hs
  cases hb : vo.ownBlock with
  | none => rw [hb] at hg; exact hs.but_nil (grown_but_none hg)
  | some g =>
    rw [hb] at hg
    rcases hn with rfl | ⟨u, hu, hne⟩
    · simp [Value.ownBlock] at hb
    · have hc := ho.cells hb 0 u hu
      rw [show (⟨g, 0, none⟩ : Addr).add 0 = ⟨g, 0, none⟩ from by simp [Addr.add]] at hc
      exact hs.over (grown_but hg) hc hne

/-- what holds of the powers found -/
structure PowAt (w : World) (X : Nat) (us : List Value) (vo vp : Value) (wr : World) : Prop where
  own : wr.ownsRow w.heap.size 96 1 vo us.length us
  all : ∀ j u, us[j]? = some u → Sl .u64 wr u (wd 18446744073709551616 (tenP j))
  pow : Sl .u64 wr vp (wd 18446744073709551616 (tenP us.length))
  but : But [] w wr
  low : ∀ j, j < us.length → tenP j ≤ X
  nil : vo = .slice none 0 0 ∨ 0 < us.length
theorem PowAt.le {w : World} {X : Nat} {us : List Value} {vo vp : Value} {wr : World} (h : PowAt w X us vo vp wr) : us.length ≤ X := by
  rcases Nat.eq_zero_or_pos us.length with h0 | h0
  · omega
  · have h1 := h.low (us.length - 1) (by omega)
    have h2 := tenP_gt (us.length - 1)
    omega
theorem PowAt.first {w : World} {X : Nat} {us : List Value} {vo vp : Value} {wr : World} (h : PowAt w X us vo vp wr) : vo = .slice none 0 0 ∨ ∃ u, us[0]? = some u ∧ ∀ m : Int, u ≠ .int .u64 m := by
  rcases h.nil with h0 | h0
  · exact .inl h0
  · refine .inr ⟨us[0], List.getElem?_eq_getElem h0, fun m e => ?_⟩
    have := h.all 0 us[0] (List.getElem?_eq_getElem h0)
    rw [e] at this
    obtain ⟨a, c, h1, -⟩ := this
    simp at h1
theorem PowAt.drewN {w : World} {X : Nat} {us : List Value} {vo vp : Value} {wr : World} (h : PowAt w X us vo vp wr) (q : Nat) : PowAt w X us vo vp (wr.drewN q) :=
  ⟨owns_but h.own ((But.refl [] _).drewN q), fun j u hj => (h.all j u hj).but_nil ((But.refl [] _).drewN q), h.pow.but_nil ((But.refl [] _).drewN q), h.but.drewN q, h.low, h.nil⟩
theorem PowAt.plen {w : World} {X : Nat} {us : List Value} {vo vp : Value} {wr : World} (h : PowAt w X us vo vp wr) : (wd 18446744073709551616 (tenP us.length)).length ≤ (wd 18446744073709551616 X).length + (wd 18446744073709551616 X).length + 33 := by
  rcases Nat.eq_zero_or_pos us.length with h0 | h0
  · rw [h0, tenP_zero]
    have := wd_length_le (B := 18446744073709551616) (by omega) _ _ ten608
    omega
  · obtain ⟨j, hj⟩ : ∃ j, us.length = j + 1 := ⟨us.length - 1, by omega⟩
    have h1 := wd_len_mono (h.low j (by omega))
    have h2 := wd_len_mul (tenP j) (tenP j)
    rw [hj, tenP_succ]
    omega

/-- a power more in the row -/
theorem PowAt.more {w : World} {X : Nat} {us : List Value} {vo vp : Value} {wr : World} (h : PowAt w X us vo vp wr) (hle : tenP us.length ≤ X) (hul : us.length < 35088) (W : World) (hW : W = wr.alloc (.cells #[vp] 96)) :
    ∃ v3 w3, (Builtin.append_ #[157, 157] 157 #[vo, .slice (some ⟨wr.heap.size, 0, none⟩) 1 1]).run Tryz.prog W = .ok v3 w3 ∧ w3.ownsRow w.heap.size 96 1 v3 (us ++ [vp]).length (us ++ [vp]) ∧ (∀ j u, (us ++ [vp])[j]? = some u → Sl .u64 w3 u (wd 18446744073709551616 (tenP j))) ∧ Sl .u64 w3 vp (wd 18446744073709551616 (tenP us.length)) ∧ But [] w w3 ∧ (∀ j, j < (us ++ [vp]).length → tenP j ≤ X) ∧ Keep64 wr w3 := by
  obtain ⟨i0, hi, hz0, hz1, hz2⟩ := info_nat
  subst hW
  have hp1 : vp.oneCell' = true := by
    obtain ⟨a, c, rfl, -⟩ := h.pow
    rfl
  have hc : (wr.alloc (.cells #[vp] 96)).cell? ⟨wr.heap.size, 0, none⟩ = some vp := by simp
  have hbs := h.but.size
  obtain ⟨v3, w3, hr, ho, hg, -⟩ := run_append_own (P := Tryz.prog) (wr.alloc (.cells #[vp] 96)) w.heap.size 157 157 96 i0 (.slice none 0 0) 1 24 Tryz.underlying157 hi hz0 hz1 hz2 rfl (by decide) vo us.length us (h.own.alloc _) ⟨wr.heap.size, 0, none⟩ 1 1 [vp] rfl (fun j u hj => by
    cases j with
    | zero => simp at hj; subst hj; rw [show (⟨wr.heap.size, 0, none⟩ : Addr).add 0 = ⟨wr.heap.size, 0, none⟩ from by simp [Addr.add]]; exact hc
    | succ j => simp at hj) (fun u hu => by simp at hu; subst hu; exact hp1) (by unfold maxLen; omega) (by omega) (by simp; omega)
  have hK : Keep64 wr w3 := (Keep64.of_but ((But.refl [] wr).alloc _)).trans (keep_grown_of (h.own.alloc _) h.first hg)
  refine ⟨v3, w3, hr, by rw [List.length_append]; exact ho, fun j u hj => ?_, hK _ _ h.pow, (h.but.alloc _).grown hg (fun k hk => (h.own.lt k hk).1), fun j hj => ?_, hK⟩
  · rcases Nat.lt_or_ge j us.length with hl | hl
    · rw [List.getElem?_append_left hl] at hj
      exact hK _ _ (h.all j u hj)
    · have he : j = us.length := by
        have := (List.getElem?_eq_some_iff.1 hj).1
        simp at this
        omega
      subst he
      simp at hj
      subst hj
      exact hK _ _ h.pow
  · simp at hj
    rcases Nat.lt_or_ge j us.length with hl | hl
    · exact h.low j hl
    · rw [show j = us.length from by omega]; exact hle

set_option maxHeartbeats 4000000 in
set_option maxRecDepth 100000 in
theorem powersFor_any (v : Value) (X : Nat) (w : World) (hv : Sl .u64 w v (wd 18446744073709551616 X)) (hl : (wd 18446744073709551616 X).length ≤ 1000000) :
    Calls Tryz.prog 97 #[v] w fun e w' => ∃ vo us, e = .returned vo ∧ w'.ownsRow w.heap.size 96 1 vo us.length us ∧ (∀ j u, us[j]? = some u → Sl .u64 w' u (wd 18446744073709551616 (tenP j))) ∧ But [] w w' ∧ (∀ j, j < us.length → tenP j ≤ X) ∧ X < tenP us.length := by
  have h10 : (wd 18446744073709551616 (10 ^ 608)).length ≤ 33 := wd_length_le (by omega) _ _ ten608
  have h1 : (wd 18446744073709551616 10).length ≤ 1 := wd_length_le (by omega) _ _ (by omega)
  have PW : Hid (∀ (v1 : Value) (W : World), Sl .u64 W v1 (wd 18446744073709551616 10) → Calls Tryz.prog 55 #[v1, .int .i64 608] W fun e w' => ∃ v', e = .returned v' ∧ Sl .u64 w' v' (wd 18446744073709551616 (tenP 0)) ∧ But [] W w') := fun v1 W h => by
    rw [tenP_zero]
    exact natPow_any v1 10 608 W h (by omega) (by omega) (Nat.lt_of_le_of_lt (Nat.add_le_add h1 h10) (by omega))
  have HV := hide hv
  have HLX := hide hl
  clear hv h10 h1 hl
  obtain ⟨xa, xc, rfl, -, -⟩ := unhide HV
  generalize hnx : (wd 18446744073709551616 X).length = nx at *
  have NX := hide hnx
  clear hnx
  go_enter Tryz.func97, Tryz.ntmps97
  go_wp2_with fail
  refine (natOf_any 10 (by omega) _).mono ?_
  rintro e w1 ⟨v1, rfl, hv1, hb1, -⟩
  have H1 := hide hv1
  have B1 := hide hb1
  clear hv1 hb1
  go_wp2_with fail
  refine (unhide PW v1 _ (unhide H1)).mono ?_
  rintro e w2 ⟨v2, rfl, hv2, hb2⟩
  have A0 : Hid (∃ us, PowAt w X us (.slice none 0 0) v2 w2 ∧ X + 1 + us.length = X + 1 ) := ⟨[], ⟨World.ownsRow_nil _ _ _ _, fun j u h => by simp at h, hv2, (unhide B1).trans' hb2, fun j h => by simp at h, .inl rfl⟩, by simp⟩
  clear hv2 hb2 B1 H1 PW
  go_wp2_with fail
  go_loopg [3, 4] (X + 1) (fun k vo vp wr => Hid (∃ us, PowAt w X us vo vp wr ∧ k + us.length = X + 1))
  case atStart => exact A0
  case round =>
    clear A0
    obtain ⟨us, hI, hk⟩ := unhide hrel
    clear hrel
    rename World => wr
    obtain ⟨oa, oc, hoe⟩ := owns_shape hI.own
    have hpl := hI.plen
    rw [unhide NX] at hpl
    have hlx := unhide HLX
    have CM := hide (natCmp_any _ _ (tenP us.length) X wr hI.pow ((unhide HV).but_nil hI.but) (by omega) (by rw [unhide NX]; omega))
    obtain ⟨pa, pc, hpe, -, -⟩ := id hI.pow
    rcases Nat.lt_or_ge X (tenP us.length) with hlt | hge
    · have hc : cmpN (tenP us.length) X = 1 := by
        rcases cmpN_cases (tenP us.length) X with ⟨h, -⟩ | ⟨h, -⟩ | ⟨-, h⟩
        · omega
        · omega
        · exact h
      rw [hc] at CM
      have FIN := hide (And.intro hI (And.intro hlt hoe))
      subst hoe hpe
      clear hI hpl hlt hc hk
      generalize (wd 18446744073709551616 (tenP us.length)).length = np at *
      go_wp2_with fail
      refine (unhide CM).mono ?_
      rintro e w3 ⟨rfl, q, rfl⟩
      go_wp2
      go_ret
      exact ⟨_, us, rfl, (unhide FIN).1.own, (unhide FIN).1.all, (unhide FIN).1.but.drewN q, (unhide FIN).1.low, (unhide FIN).2.1⟩
    · have hc : cmpN (tenP us.length) X ≤ 0 := by
        rcases cmpN_cases (tenP us.length) X with ⟨-, h⟩ | ⟨-, h⟩ | ⟨h, -⟩
        · omega
        · omega
        · omega
      generalize cmpN (tenP us.length) X = r at *
      have hr : decide (r ≤ 0) = true := by simp; omega
      have hL : us.length ≤ X := hI.le
      have h35 := tenP_below X us.length nx (by rw [unhide NX]; exact Nat.le_refl _) hge
      have hul : us.length < 35088 := Nat.lt_trans Nat.lt_two_pow_self (by omega)
      have HI := hide hI
      have HR := hide (And.intro hk (And.intro hL hge))
      obtain ⟨np, hnp⟩ : ∃ np, np = (wd 18446744073709551616 (tenP us.length)).length := ⟨_, rfl⟩
      have NP := hide hnp
      rw [← hnp] at hpe hpl
      have hnp0 : 0 < np := by
        rw [hnp, Nat.pos_iff_ne_zero]; intro e; rw [wd_len_zero (by omega)] at e
        have := tenP_pos us.length
        omega
      have MO := hide (fun q => (hI.drewN q).more hge hul _ rfl)
      have MU := hide (fun W (h : Sl .u64 W u4 (wd 18446744073709551616 (tenP us.length))) => natMul_any u4 u4 _ _ W h h (by rw [← hnp]; omega))
      rw [← tenP_succ] at MU
      clear hI hk hL hge h35 hnp hc
      have SH := hide hoe
      generalize us.length = L at hoe hul
      subst hoe hpe
      have hmul : wrap64 (2 * (np : Int)) = 2 * (np : Int) := by unfold wrap64; omega
      go_wp2_with fail
      refine (unhide CM).mono ?_
      rintro e w3 ⟨rfl, q, rfl⟩
      obtain ⟨v3, w3, hr3, ho3, ha3, hs3, hb3, hl3, hk3⟩ := unhide MO q
      have HR3 := hide hr3
      have AL := hide (And.intro ho3 (And.intro ha3 (And.intro hs3 (And.intro hb3 hl3))))
      clear hr3 ho3 ha3 hs3 hb3 hl3 hk3 MO
      by_cases hbr : nx < 2 * np - 1
      · have hbi : (nx : Int) < 2 * (np : Int) - 1 := by omega
        have FIN : Hid (X < tenP (us ++ [Value.slice pa np pc]).length) := by
          have h1 : X < 18446744073709551616 ^ nx := lt_of_wd_length (by omega) X _ (Nat.le_of_eq (unhide NX))
          have h2 : 18446744073709551616 ^ (np - 1) ≤ tenP us.length := by
            rcases Nat.lt_or_ge (tenP us.length) (18446744073709551616 ^ (np - 1)) with h | h
            · have := wd_length_le (B := 18446744073709551616) (by omega) _ _ h
              rw [← unhide NP] at this
              omega
            · exact h
          show _ < _
          rw [List.length_append, List.length_singleton, tenP_succ]
          refine Nat.lt_of_lt_of_le h1 (Nat.le_trans ?_ (Nat.mul_le_mul h2 h2))
          rw [← Nat.pow_add]
          exact Nat.pow_le_pow_right (by omega) (by omega)
        clear HI MU CM HR NP SH
        go_wp2_with (at_builtin; refine wpList_app rfl _ _ 157 157 rfl _ _ v3 w3 rfl rfl (unhide HR3) ?_)
        go_ret
        exact ⟨v3, _, rfl, (unhide AL).1, (unhide AL).2.1, (unhide AL).2.2.2.1, (unhide AL).2.2.2.2, unhide FIN⟩
      · have hbi : ¬ ((nx : Int) < 2 * (np : Int) - 1) := by omega
        clear CM
        go_wp2_with (at_builtin; refine wpList_app rfl _ _ 157 157 rfl _ _ v3 w3 rfl rfl (unhide HR3) ?_)
        go_wp2_with fail
        refine (unhide MU _ (unhide AL).2.2.1).mono ?_
        rintro e w4 ⟨v4, rfl, hv4, hb4, -⟩
        have R : Hid (∃ us', PowAt w X us' v3 v4 w4 ∧ gk - 1 + us'.length = X + 1) := by
          refine ⟨_, ⟨owns_but (unhide AL).1 hb4, fun j u hj => ((unhide AL).2.1 j u hj).but_nil hb4, ?_, (unhide AL).2.2.2.1.trans' hb4, (unhide AL).2.2.2.2, .inr (by simp)⟩, ?_⟩
          · rw [List.length_append, List.length_singleton]; exact hv4
          · have := unhide HR
            rw [List.length_append, List.length_singleton]
            omega
        have GK : Hid (0 < gk) := by have := unhide HR; show _ < _; omega
        clear hv4 hb4 AL HI HR MU NP
        go_wp2
        go_roundg (gk - 1)
        case measure => have := unhide GK; omega
        case rel => exact unhide R
end Go.Proofs.YtjbboicccddhbaaGreatDoor

namespace Go.Proofs.YtjbboicccddhbaaGreatDoor
open Go.RowKit Go.Sort Go.Lib

theorem holds_zero0 (w : World) (T : TypeId) (nd : Nat) (hs : nd ≤ 24) : Holds (fun (b : UInt8) => Value.int .u8 (b.toNat : Int)) (w.alloc (.cells zeros24 T)) w.heap.size 0 (Array.replicate nd (0 : UInt8)) := fun j hj => by
  rw [Array.size_replicate] at hj
  refine ⟨?_, by simp⟩
  rw [World.cell?_alloc_new, zeros24_at _ (by omega), getElem!_pos _ j (by rw [Array.size_replicate]; exact hj)]
  simp

set_option maxHeartbeats 4000000 in
set_option maxRecDepth 100000 in
theorem formatUint_any (u : Nat) (hu : u < 18446744073709551616) (w : World) (htab : Lib.TabIs Tryz.prog w "internal/strconv.uint64pow10" .u64 Lib.pow10Tab) (t : ByteArray) (ht : Hid (t = ⟨(Lib.decDigits u).toArray⟩)) :
    Calls Tryz.prog 140 #[.int .u64 u, .int .i64 10] w fun e w' => e = .returned (.string t) ∧ But [] w w' := by
  by_cases hs : u < 100
  · have H := hide htab
    clear htab
    go_enter Tryz.func140, Tryz.ntmps140
    go_wp2_with fail
    refine (Tryz.internal_strconv_small u hs _).mono ?_
    rintro e w1 ⟨rfl, hw⟩
    obtain rfl := hw.symm
    clear hw
    rw [← unhide ht]
    clear ht
    go_wp2
    go_ret
    exact ⟨rfl, But.refl _ _⟩
  · have hu1 : 1 ≤ u := by omega
    have hnd20 : Lib.nDigits u ≤ 20 := by have := Lib.numDigits_eq u hu1 hu; split at this <;> omega
    have H := hide htab
    clear htab
    go_enter Tryz.func140, Tryz.ntmps140
    go_wp2_with fail
    refine (Tryz.internal_strconv_numDigits u hu1 hu _ (Lib.tabIs_alloc (unhide H) _)).mono ?_
    rintro e w1 ⟨rfl, hw⟩
    obtain rfl := hw.symm
    clear hw
    have hH0 := holds_zero0 w 240 (Lib.nDigits u) (by omega)
    have hfmt := hide (Tryz.internal_strconv_formatBase10 w.heap.size 0 24 u (Array.replicate (Lib.nDigits u) 0) (w.alloc (.cells Lib.zeros24 240)) hH0 (by rw [Array.size_replicate]; exact Lib.lt_pow_nDigits u) hu (by rw [Array.size_replicate]; omega))
    rw [Array.size_replicate] at hfmt
    have HH := hide hH0
    clear hH0
    have hnl := Lib.decDigits_length u
    have HND := hide hnl
    clear hnl
    generalize hndd : Lib.nDigits u = nd at *
    have HE := hide hndd
    clear hndd
    have hal : Tryz.prog.arrayLen 240 = 24 := by kernel_rfl
    have hsl : ∀ W, (Instr.sliceAt 240 (.pointer (some ⟨w.heap.size, 0, none⟩)) none (some (.int .i64 (nd : Int))) none).run Tryz.prog W = .ok (.slice (some ⟨w.heap.size, 0, none⟩) nd 24) W := fun W => by
      rw [run_sliceAt_array_h W 240 ⟨w.heap.size, 0, none⟩ (by kernel_rfl) .i64 (nd : Int) (by omega) (by rw [hal]; omega)]
      go_simp
    go_wp2_with fail
    refine (unhide hfmt).mono ?_
    rintro e w1 ⟨rfl, k, v', dk, hw1, hF⟩
    have hF' : FmtInv (Lib.nDigits u) u 0 v' dk := by rw [unhide HE]; exact hF
    have hcv : (convert 123 9 (.slice (some ⟨w.heap.size, 0, none⟩) nd 24)).run Tryz.prog w1 = .ok (.string t) w1 := by
      have h := run_convert_bytes_back (P := Tryz.prog) w1 123 9 5 ⟨w.heap.size, 0, none⟩ 24 (Lib.decDigits u) Tryz.underlying123 Tryz.underlying5 Tryz.underlying9 (fun j hj => by
        rw [Lib.row_is_numeral hF' j hj, Lib.add_plain, hw1, World.cell?_drewN]
        exact cell?_putRow (fun (b : UInt8) => Value.int .u8 (b.toNat : Int)) _ w.heap.size 0 _ dk (unhide HH) (by rw [hF.size, Array.size_replicate]) j (by rw [hF.size]; rw [unhide HND] at hj; exact hj))
      rw [unhide HND, ← unhide ht] at h
      exact h
    have hB : But [] w w1 := by
      rw [hw1, alloc_eq_grow]
      obtain ⟨os', _, e⟩ := putRow_grow_new (fun (b : UInt8) => Value.int .u8 (b.toNat : Int)) w #[.cells Lib.zeros24 240] w.heap.size 0 dk (Nat.le_refl _)
      rw [e]
      have hg : But [] w (grow w os') := ⟨rfl, rfl, rfl, by show w.heap.size ≤ (w.heap ++ os').size; rw [Array.size_append]; omega, fun k hk _ => Array.getElem?_append_left hk⟩
      exact hg.drewN k
    clear hw1 hF hF' HH HND HE hfmt
    go_wp2
    go_ret
    exact ⟨rfl, hB⟩

set_option maxHeartbeats 1000000 in
theorem strconvFormatUint_any (u : Nat) (hu : u < 18446744073709551616) (w : World) (htab : Lib.TabIs Tryz.prog w "internal/strconv.uint64pow10" .u64 Lib.pow10Tab) (t : ByteArray) (ht : Hid (t = ⟨(Lib.decDigits u).toArray⟩)) :
    Calls Tryz.prog 95 #[.int .u64 u, .int .i64 10] w fun e w' => e = .returned (.string t) ∧ But [] w w' := by
  have H := hide htab
  clear htab
  go_enter Tryz.func95, Tryz.ntmps95
  go_wp2_with fail
  refine (formatUint_any u hu _ (unhide H) t ht).mono ?_
  rintro e w1 ⟨rfl, hb⟩
  go_wp2
  go_ret
  exact ⟨rfl, hb⟩
end Go.Proofs.YtjbboicccddhbaaGreatDoor
