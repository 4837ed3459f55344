/- A row of bytes is turned about, as the library's text does it; the powers of ten for a short number, as the Go text of package nat makes them. -/
import Derived.Deep.RegionHeld
import Derived.Test.YtnfnphbihgchhaaGreatDoorKN16
import Derived.Test.YtnfnphbihgchhaaGreatDoorKN24
import Derived.Test.YtnfnphbihgchhaaGreatDoorKPt
namespace Go.Proofs.YtnfnphbihgchhaaGreatDoor
open Go.RowKit

theorem Row.but {k : IntKind} {w w' : World} {g : Nat} {rs : List Nat} {l : List Nat} (h : Row k w g rs) (hb : But l w w') (hn : g ∉ l) : Row k w' g rs := fun i hi => by
  obtain ⟨h1, h2⟩ := h i hi
  have hl := lt_of_cell h1
  exact ⟨hb.cell_some h1 hn, (hb.frozen hl hn).trans h2⟩

set_option maxHeartbeats 2000000 in
set_option maxRecDepth 100000 in
theorem reverse_any (g cap : Nat) (bs : List Nat) (w : World) (hr : Row .u8 w g bs) (h0 : 0 < bs.length) (hl : bs.length < 1073741824) :
    Calls Tryz.prog 97 #[.slice (some ⟨g, 0, none⟩) bs.length cap] w fun e w' => e = .returned (.tuple #[]) ∧ Row .u8 w' g bs.reverse ∧ But [g] w w' := by
  have mixed : Tryz.prog.follows .mixedOrders = true := by kernel_rfl
  have HR := hide hr
  clear hr
  obtain ⟨n, hn⟩ : ∃ n, n = bs.length := ⟨_, rfl⟩
  rw [← hn] at h0 hl ⊢
  have HN := hide hn
  clear hn
  go_enter Tryz.func97, Tryz.ntmps97
  go_wp2
  go_loopw [2, 3] (fun i j wq => ∃ (k q : Nat) (cs : List Nat), i = .int .i64 k ∧ j = .int .i64 q ∧ k ≤ q + 1 ∧ Hid (k + q + 1 = n ∧ RevInv bs cs k ∧ Row .u8 wq g cs ∧ But [g] w wq)) (fun i _ _ => n - (intOf i).toNat)
  case atStart => exact ⟨0, n - 1, bs, rfl, by congr 1; omega, by omega, by omega, RevInv.start _, unhide HR, But.refl _ _⟩
  case round =>
    obtain ⟨k, q, cs, rfl, rfl, hkq, HJ⟩ := hrel
    rename World => wq
    have hcl : cs.length = n := by rw [(unhide HJ).2.1.len, unhide HN]
    have hsum := (unhide HJ).1
    by_cases hlt : k < q
    · obtain ⟨ck, fk⟩ := (unhide HJ).2.2.1 k (by omega)
      obtain ⟨cq, fq⟩ := (unhide HJ).2.2.1 q (by omega)
      have ST := hide ((unhide HJ).2.1.step (by rw [← unhide HN]; omega))
      have hq : q = n - 1 - k := by omega
      rw [← unhide HN, ← hq] at ST
      have HC := hide hcl
      have HS := hide hsum
      have ne1 : k ≠ q := by omega
      have hk1 : k < n := by omega
      have hq1 : q < n := by omega
      clear hcl hsum hq
      generalize hx : cs[k]?.getD 0 = x at *
      generalize hy : cs[q]?.getD 0 = y at *
      clear hx hy
      go_wp2_with fail
      go_region_o
      go_wp2
      refine ⟨⟨k + 1, q - 1, (cs.set k y).set q x, by go_num, by rw [Int.ofNat_sub (by omega)]; rfl, by omega, by have := unhide HS; omega, unhide ST, ?_, ?_⟩, ?_⟩
      · exact (((unhide HJ).2.2.1.set k (by rw [unhide HC]; have := unhide HS; omega) y).set q (by rw [List.length_set, unhide HC]; have := unhide HS; omega) x).but ((But.refl [] _).drew) (by simp)
      · exact (((unhide HJ).2.2.2.setCell (p := ⟨g, k, none⟩) (.inl (by simp)) (.int .u8 (y : Int))).setCell (p := ⟨g, q, none⟩) (.inl (by simp)) (.int .u8 (x : Int))).drew
      · have := unhide HS
        simp [intOf]; omega
    · have hfin : cs = bs.reverse := (unhide HJ).2.1.fin (by rw [← unhide HN]; omega)
      have HF := hide hfin
      clear hfin hcl hsum
      go_wp2
      go_end0
      exact ⟨rfl, by rw [← unhide HF]; exact (unhide HJ).2.2.1, (unhide HJ).2.2.2⟩
end Go.Proofs.YtnfnphbihgchhaaGreatDoor

namespace Go.Proofs.YtnfnphbihgchhaaGreatDoor
open Go.RowKit

theorem ten608 : (10 : Nat) ^ 608 < 18446744073709551616 ^ 33 := by decide +kernel

set_option maxHeartbeats 2000000 in
set_option maxRecDepth 100000 in
theorem powersFor_short (v : Value) (X : Nat) (w : World) (hv : Sl .u64 w v (wd 18446744073709551616 X)) (hX : X < 10 ^ 608) :
    Calls Tryz.prog 63 #[v] w fun e w' => e = .returned (.slice none 0 0) ∧ But [] w w' := by
  have h10 : (wd 18446744073709551616 (10 ^ 608)).length ≤ 33 := wd_length_le (by omega) _ _ ten608
  have h1 : (wd 18446744073709551616 10).length ≤ 1 := wd_length_le (by omega) _ _ (by omega)
  have hXl := wd_len_mono (Nat.le_of_lt hX)
  have hc : cmpN (10 ^ 608) X = 1 := by
    rcases cmpN_cases (10 ^ 608) X with ⟨h, -⟩ | ⟨h, -⟩ | ⟨-, h⟩
    · exact absurd hX (Nat.not_lt.2 (Nat.le_of_lt h))
    · rw [h] at hX; exact absurd hX (Nat.lt_irrefl _)
    · exact h
  have PW : Hid (∀ (v1 : Value) (W : World), Sl .u64 W v1 (wd 18446744073709551616 10) → Calls Tryz.prog 84 #[v1, .int .i64 608] W fun e w' => ∃ v', e = .returned v' ∧ Sl .u64 w' v' (wd 18446744073709551616 (10 ^ 608)) ∧ But [] W w') := fun v1 W h => natPow_any v1 10 608 W h (by omega) (by omega) (Nat.lt_of_le_of_lt (Nat.add_le_add h1 h10) (by omega))
  have CM : Hid (∀ (v1 : Value) (W : World), Sl .u64 W v1 (wd 18446744073709551616 (10 ^ 608)) → Sl .u64 W v (wd 18446744073709551616 X) → Calls Tryz.prog 47 #[v1, v] W fun e w' => e = .returned (.int .i64 1) ∧ ∃ q, w' = W.drewN q) := fun v1 W h1 h2 => by
    have := natCmp_any v1 v _ _ W h1 h2 (Nat.lt_of_le_of_lt h10 (by omega)) (Nat.lt_of_le_of_lt (Nat.le_trans hXl h10) (by omega))
    rw [hc] at this
    exact this
  have HV := hide hv
  clear hv h10 h1 hXl hc hX
  obtain ⟨xa, xc, rfl, -, -⟩ := unhide HV
  generalize (wd 18446744073709551616 X).length = nx at *
  go_enter Tryz.func63, Tryz.ntmps63
  go_wp2_with fail
  refine (natOf_any 10 (by omega) _).mono ?_
  rintro e w1 ⟨v1, rfl, hv1, hb1, -⟩
  have H1 := hide hv1
  have B1 := hide hb1
  clear hv1 hb1
  go_wp2_with fail
  refine (unhide PW v1 _ (unhide H1)).mono ?_
  rintro e w2 ⟨v2, rfl, hv2, hb2⟩
  have H2 := hide hv2
  have B2 : Hid (But [] w w2) := (unhide B1).trans' hb2
  clear hv2 hb2
  go_wp2_with fail
  refine wp_loop_rounds 1 ?_
  rw [rounds_succ]
  go_wp2_with fail
  refine (unhide CM v2 _ (unhide H2) ((unhide HV).but_nil (unhide B2))).mono ?_
  rintro e w3 ⟨rfl, q, rfl⟩
  go_wp2
  go_ret
  exact ⟨rfl, (unhide B2).drewN q⟩
end Go.Proofs.YtnfnphbihgchhaaGreatDoor
