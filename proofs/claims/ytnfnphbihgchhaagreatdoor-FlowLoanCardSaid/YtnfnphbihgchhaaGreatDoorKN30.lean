/- A short number's text, as the Go text of package nat writes it. -/
import Derived.Lib.AppendIntMem
import Derived.Test.YtnfnphbihgchhaaGreatDoorKC1
import Derived.Test.YtnfnphbihgchhaaGreatDoorKPu
namespace Go.Proofs.YtnfnphbihgchhaaGreatDoor
open Go.RowKit

theorem TabIs.but {w w' : World} (h : Lib.TabIs Tryz.prog w "internal/strconv.uint64pow10" .u64 Lib.pow10Tab) (hb : But [] w w') : Lib.TabIs Tryz.prog w' "internal/strconv.uint64pow10" .u64 Lib.pow10Tab :=
  Go.Lib.tabBelow_of_tabIs h w' hb.below
theorem short_len {X : Nat} (h : X < 10 ^ 608) : (wd 18446744073709551616 X).length ≤ 33 := wd_length_le (by omega) _ _ (Nat.lt_trans h ten608)

set_option maxHeartbeats 2000000 in
set_option maxRecDepth 100000 in
theorem appendLong_nil (v : Value) (X : Nat) (w : World) (hv : Sl .u64 w v (wd 18446744073709551616 X)) (hX : 0 < X) (hS : X < 10 ^ 608) :
    Calls Tryz.prog 62 #[.slice none 0 0, v, .int .i64 0, .slice none 0 0] w fun e w' => ∃ v', e = .returned v' ∧ w'.ownsRow w.heap.size 5 1 v' (rdig X).reverse.length ((rdig X).reverse.map u8v) ∧ But [] w w' := by
  have AS := hide (appendShort_nil v X w hv hX (by have := short_len hS; omega) (by have := rdig_length X 608 hS; omega))
  obtain ⟨xa, xc, rfl, -, -⟩ := hv
  clear hS hX
  generalize (wd 18446744073709551616 X).length = n at *
  go_enter Tryz.func62, Tryz.ntmps62
  go_wp2_with fail
  refine (unhide AS).mono ?_
  rintro e w1 ⟨v1, rfl, ho, hb⟩
  have HO := hide ho
  clear ho
  go_wp2
  go_ret
  exact ⟨v1, rfl, unhide HO, hb⟩

set_option maxHeartbeats 2000000 in
set_option maxRecDepth 100000 in
theorem natText_any (v : Value) (X : Nat) (w : World) (hv : Sl .u64 w v (wd 18446744073709551616 X)) (hX : X < 10 ^ 608) (htab : Lib.TabIs Tryz.prog w "internal/strconv.uint64pow10" .u64 Lib.pow10Tab) (t : ByteArray) (ht : Hid (t = ⟨(Lib.decDigits X).toArray⟩)) :
    Calls Tryz.prog 39 #[v] w fun e w' => e = .returned (.string t) ∧ But [] w w' := by
  by_cases hu : X < 18446744073709551616
  · have H := hide htab
    have HW := hide (natWord_any v X hu w hv)
    obtain ⟨xa, xc, rfl, -, -⟩ := hv
    clear htab hX
    generalize (wd 18446744073709551616 X).length = n at *
    go_enter Tryz.func39, Tryz.ntmps39
    go_wp2_with fail
    refine (unhide HW).mono ?_
    rintro e w1 ⟨rfl, hw⟩
    obtain rfl := hw.symm
    clear hw
    go_wp2_with fail
    refine (strconvFormatUint_any X hu _ (unhide H) t ht).mono ?_
    rintro e w1 ⟨rfl, hb⟩
    go_wp2
    go_ret
    exact ⟨rfl, hb⟩
  · have hp : 0 < X := by omega
    have hl := short_len hX
    have HW := hide (natWord_long v X (by omega) w hv (by omega))
    have PF := hide (powersFor_short v X w hv hX)
    have AL := hide (fun (W : World) (hb : But [] w W) => appendLong_nil v X W (hv.but_nil hb) hp hX)
    have hrl : 0 < (rdig X).reverse.length := by rw [List.length_reverse, rdig_pos hp]; simp
    have HRR := hide (rdig_rev X hp)
    obtain ⟨xa, xc, rfl, -, -⟩ := hv
    clear htab hX hu hl
    generalize (wd 18446744073709551616 X).length = n at *
    go_enter Tryz.func39, Tryz.ntmps39
    go_wp2_with fail
    refine (unhide HW).mono ?_
    rintro e w1 ⟨rfl, hw⟩
    obtain rfl := hw.symm
    clear hw
    go_wp2_with fail
    refine (unhide PF).mono ?_
    rintro e w1 ⟨rfl, hb1⟩
    have B1 := hide hb1
    clear hb1
    go_wp2_with fail
    refine (unhide AL _ (unhide B1)).mono ?_
    rintro e w2 ⟨v2, rfl, ho2, hb2⟩
    have hB2 : But [] w w2 := (unhide B1).trans' hb2
    obtain ⟨g, cg, rfl, hg, hcg, hrow⟩ := owns_row ho2 hrl
    have hcv := run_convert_bytes_back (P := Tryz.prog) w2 99 9 5 ⟨g, 0, none⟩ cg (rdig X).reverse Tryz.underlying99 Tryz.underlying5 Tryz.underlying9 (fun j hj => row_news hrow j _ (by rw [List.getElem?_map, List.getElem?_eq_getElem hj]; rfl))
    rw [unhide HRR, ← unhide ht] at hcv
    rw [unhide HRR]
    have HB2 := hide hB2
    clear ho2 hb2 hrow hB2 hrl
    generalize (Lib.decDigits X).length = m at *
    go_wp2
    go_ret
    exact ⟨rfl, unhide HB2⟩
end Go.Proofs.YtnfnphbihgchhaaGreatDoor
