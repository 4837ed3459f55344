/- A whole number is divided by a word, as the Go text of package nat does it. -/
import Derived.Test.YteipfplbcbaheaaGreatDoorJN10
import Derived.Test.YteipfplbcbaheaaGreatDoorJN11
namespace Go.Proofs.YteipfplbcbaheaaGreatDoor
open Go.RowKit

structure ByInv (xs rs : List Nat) (d k r : Nat) : Prop where
  len : rs.length = xs.length
  mem : ∀ x ∈ rs, x < 18446744073709551616
  lt : r < d
  val : vl 18446744073709551616 (xs.drop k) = d * vl 18446744073709551616 (rs.drop k) + r
theorem ByInv.start (xs : List Nat) (d : Nat) (hd : 0 < d) : ByInv xs (List.replicate xs.length 0) d xs.length 0 :=
  ⟨by simp, fun x hx => by rw [List.mem_replicate] at hx; omega, hd, by simp [vl]⟩
theorem ByInv.step {xs rs : List Nat} {d i r : Nat} (h : ByInv xs rs d (i + 1) r) (hi : i < xs.length) (hx : xs[i]?.getD 0 < 18446744073709551616) (q r' : Nat) (hq : (r * 18446744073709551616 + xs[i]?.getD 0) / d = q) (hr : (r * 18446744073709551616 + xs[i]?.getD 0) % d = r') : q < 18446744073709551616 ∧ ByInv xs (rs.set i q) d i r' := by
  have hl := h.lt
  have hd : 0 < d := by omega
  have hqB : q < 18446744073709551616 := by
    rw [← hq, Nat.div_lt_iff_lt_mul hd, Nat.mul_comm]
    have : (r + 1) * 18446744073709551616 ≤ d * 18446744073709551616 := Nat.mul_le_mul_right _ hl
    omega
  refine ⟨hqB, by rw [List.length_set]; exact h.len, mem_set h.mem _ _ hqB, by rw [← hr]; exact Nat.mod_lt _ hd, ?_⟩
  rw [set_drop rs i q (by rw [h.len]; exact hi), vl, vl_drop 18446744073709551616 xs i hi, h.val]
  have := Nat.div_add_mod (r * 18446744073709551616 + xs[i]?.getD 0) d
  rw [hq, hr] at this
  generalize vl 18446744073709551616 (rs.drop (i + 1)) = V at *
  generalize xs[i]?.getD 0 = x at *
  grind
theorem ByInv.fin {xs rs : List Nat} {d r : Nat} (h : ByInv xs rs d 0 r) : vl 18446744073709551616 rs = vl 18446744073709551616 xs / d ∧ r = vl 18446744073709551616 xs % d := by
  have h1 := h.val
  have hl := h.lt
  simp only [List.drop_zero] at h1
  have hd : 0 < d := by omega
  rw [h1]
  exact ⟨by rw [Nat.mul_add_div hd, Nat.div_eq_of_lt hl, Nat.add_zero], by rw [Nat.mul_add_mod, Nat.mod_eq_of_lt hl]⟩

set_option maxHeartbeats 2000000 in
set_option maxRecDepth 100000 in
theorem byWord_any (v : Value) (X d : Nat) (w : World) (hv : Sl .u64 w v (wd 18446744073709551616 X)) (hl : (wd 18446744073709551616 X).length < 1073741824) (hd : 0 < d) (hdB : d < 18446744073709551616) :
    Calls Tryz.prog 133 #[v, .int .u64 (d : Int)] w fun e w' => ∃ v', e = .returned (.tuple #[v', .int .u64 ((X % d : Nat) : Int)]) ∧ Sl .u64 w' v' (wd 18446744073709551616 (X / d)) ∧ But [] w w' := by
  have mm := wd_mem (B := 18446744073709551616) (by omega) X
  have em := vl_wd (B := 18446744073709551616) (by omega) X
  obtain ⟨a, c, rfl, hc, hcell, -⟩ := hv
  generalize wd 18446744073709551616 X = xs at *
  subst em
  obtain ⟨R, hR⟩ : ∃ R, R = vl 18446744073709551616 xs % d := ⟨_, rfl⟩
  rw [← hR]
  have HR := hide hR
  have hmk := fun wx => run_make64 wx xs.length (by omega)
  have HC := hide hcell
  have MM := hide mm
  clear hcell mm hR
  go_enter Tryz.func133, Tryz.ntmps133
  go_wp2
  go_loopw [7, 8] (fun r i wr => ∃ (k rN : Nat) (rs : List Nat), k ≤ xs.length ∧ i = .int .i64 ((k : Int) - 1) ∧ r = .int .u64 rN ∧ rN < d ∧ rs.length = xs.length ∧ Hid (ByInv xs rs d k rN ∧ But [] w wr ∧ Seg wr w.heap.size 0 rs)) (fun _ i _ => (intOf i + 1).toNat)
  case atStart => exact ⟨xs.length, 0, List.replicate xs.length 0, Nat.le_refl _, rfl, rfl, hd, by simp, ByInv.start xs d hd, (But.refl _ _).alloc _, Seg.made _ _ _⟩
  case round =>
    obtain ⟨k, rN, rs, hk, rfl, rfl, hrN, hrl, HI⟩ := hrel
    rename World => wr
    by_cases hk0 : k = 0
    · subst hk0
      have hsl := (unhide HI).2.2.sl xs.length (by omega)
      rw [hrl] at hsl
      have HSL := hide hsl
      have HF := hide (unhide HI).1.fin
      have hln : rs.length < 2147483648 := by omega
      clear hsl HC
      go_wp2_with fail
      refine (trimmed_any _ rs _ (unhide HSL) (unhide HI).1.mem hln).mono ?_
      rintro e w1 ⟨v1, rfl, hv1, hw, -⟩
      obtain rfl := hw.symm
      clear hw
      rw [(unhide HF).1] at hv1
      have HV1 := hide hv1
      have er : Hid (rN = R) := by show _ = _; rw [unhide HR]; exact (unhide HF).2
      clear hv1
      go_wp2
      go_ret2
      exact ⟨v1, by rw [← unhide er]; rfl, unhide HV1, (unhide HI).2.1⟩
    · obtain ⟨i, rfl⟩ : ∃ i, k = i + 1 := ⟨k - 1, by omega⟩
      obtain ⟨b, off, rfl, hci⟩ := unhide HC i (by omega)
      have cx := (unhide HI).2.1.cell_some hci (by simp)
      have hxB : xs[i]?.getD 0 < 18446744073709551616 := mem_getD (unhide MM) (by omega) i
      obtain ⟨cr, fr⟩ := (unhide HI).2.2 i (by omega)
      rw [Nat.zero_add] at cr fr
      obtain ⟨q, hq⟩ : ∃ q, (rN * 18446744073709551616 + xs[i]?.getD 0) / d = q := ⟨_, rfl⟩
      obtain ⟨r', hr'⟩ : ∃ r', (rN * 18446744073709551616 + xs[i]?.getD 0) % d = r' := ⟨_, rfl⟩
      obtain ⟨hqB, hst⟩ := (unhide HI).1.step (by omega) hxB q r' hq hr'
      have hr'd : r' < d := hst.lt
      have ST := hide hst
      have DV := hide (div64_any rN (xs[i]?.getD 0) d hdB hxB hrN wr q r' hq hr')
      have hset := (unhide HI).2.2.set i (by omega) q
      rw [Nat.zero_add] at hset
      have HSET := hide hset
      clear hset hst hci hq hr'
      generalize xs[i]?.getD 0 = x at *
      generalize rs[i]?.getD 0 = r0 at cr
      rw [show (((i + 1 : Nat) : Int) - 1) = (i : Int) from by omega]
      go_wp2_with fail
      refine (unhide DV).mono ?_
      rintro e w1 ⟨rfl, n, rfl⟩
      go_wp2
      refine ⟨⟨i, r', rs.set i q, by omega, rfl, rfl, hr'd, by rw [List.length_set]; exact hrl, unhide ST, ((unhide HI).2.1.drewN n).setCell (.inr (Nat.le_refl _)) _, ?_⟩, ?_⟩
      · exact unhide HSET
      · simp [intOf]
end Go.Proofs.YteipfplbcbaheaaGreatDoor
