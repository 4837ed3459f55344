/- A word's decimal digits, as the library's text writes them. -/
import Derived.Lib.ItoaMem
import Derived.Laws.IdiomStrings
import Derived.Test.YtnfnphbihgchhaaGreatDoorKBase
import Derived.Test.YtnfnphbihgchhaaGreatDoorKShelf
namespace Go.Proofs.YtnfnphbihgchhaaGreatDoor
open Go.RowKit Go.Sort Go.Lib

theorem holds_zero0 (w : World) (T : TypeId) (nd : Nat) (hs : nd ≤ 24) : Holds (fun (b : UInt8) => Value.int .u8 (b.toNat : Int)) (w.alloc (.cells zeros24 T)) w.heap.size 0 (Array.replicate nd (0 : UInt8)) := fun j hj => by
  rw [Array.size_replicate] at hj
  refine ⟨?_, by simp⟩
  rw [World.cell?_alloc_new, zeros24_at _ (by omega), getElem!_pos _ j (by rw [Array.size_replicate]; exact hj)]
  simp

set_option maxHeartbeats 4000000 in
set_option maxRecDepth 100000 in
theorem formatUint_any (u : Nat) (hu : u < 18446744073709551616) (w : World) (htab : Lib.TabIs Tryz.prog w "internal/strconv.uint64pow10" .u64 Lib.pow10Tab) (t : ByteArray) (ht : Hid (t = ⟨(Lib.decDigits u).toArray⟩)) :
    Calls Tryz.prog 82 #[.int .u64 u, .int .i64 10] w fun e w' => e = .returned (.string t) ∧ But [] w w' := by
  by_cases hs : u < 100
  · have H := hide htab
    clear htab
    go_enter Tryz.func82, Tryz.ntmps82
    go_wp2_with fail
    refine (Tryz.internal_strconv_small u hs _).mono ?_
    rintro e w1 ⟨rfl, hw⟩
    obtain rfl := hw.symm
    clear hw
    rw [← unhide ht]
    clear ht
    go_wp2
    go_ret
    exact ⟨rfl, But.refl _ _⟩
  · have hu1 : 1 ≤ u := by omega
    have hnd20 : Lib.nDigits u ≤ 20 := by have := Lib.numDigits_eq u hu1 hu; split at this <;> omega
    have H := hide htab
    clear htab
    go_enter Tryz.func82, Tryz.ntmps82
    go_wp2_with fail
    refine (Tryz.internal_strconv_numDigits u hu1 hu _ (Lib.tabIs_alloc (unhide H) _)).mono ?_
    rintro e w1 ⟨rfl, hw⟩
    obtain rfl := hw.symm
    clear hw
    have hH0 := holds_zero0 w 125 (Lib.nDigits u) (by omega)
    have hfmt := hide (Tryz.internal_strconv_formatBase10 w.heap.size 0 24 u (Array.replicate (Lib.nDigits u) 0) (w.alloc (.cells Lib.zeros24 125)) hH0 (by rw [Array.size_replicate]; exact Lib.lt_pow_nDigits u) hu (by rw [Array.size_replicate]; omega))
    rw [Array.size_replicate] at hfmt
    have HH := hide hH0
    clear hH0
    have hnl := Lib.decDigits_length u
    have HND := hide hnl
    clear hnl
    generalize hndd : Lib.nDigits u = nd at *
    have HE := hide hndd
    clear hndd
    have hal : Tryz.prog.arrayLen 125 = 24 := by kernel_rfl
    have hsl : ∀ W, (Instr.sliceAt 125 (.pointer (some ⟨w.heap.size, 0, none⟩)) none (some (.int .i64 (nd : Int))) none).run Tryz.prog W = .ok (.slice (some ⟨w.heap.size, 0, none⟩) nd 24) W := fun W => by
      rw [run_sliceAt_array_h W 125 ⟨w.heap.size, 0, none⟩ (by kernel_rfl) .i64 (nd : Int) (by omega) (by rw [hal]; omega)]
      go_simp
    go_wp2_with fail
    refine (unhide hfmt).mono ?_
    rintro e w1 ⟨rfl, k, v', dk, hw1, hF⟩
    have hF' : FmtInv (Lib.nDigits u) u 0 v' dk := by rw [unhide HE]; exact hF
    have hcv : (convert 99 9 (.slice (some ⟨w.heap.size, 0, none⟩) nd 24)).run Tryz.prog w1 = .ok (.string t) w1 := by
      have h := run_convert_bytes_back (P := Tryz.prog) w1 99 9 5 ⟨w.heap.size, 0, none⟩ 24 (Lib.decDigits u) Tryz.underlying99 Tryz.underlying5 Tryz.underlying9 (fun j hj => by
        rw [Lib.row_is_numeral hF' j hj, Lib.add_plain, hw1, World.cell?_drewN]
        exact cell?_putRow (fun (b : UInt8) => Value.int .u8 (b.toNat : Int)) _ w.heap.size 0 _ dk (unhide HH) (by rw [hF.size, Array.size_replicate]) j (by rw [hF.size]; rw [unhide HND] at hj; exact hj))
      rw [unhide HND, ← unhide ht] at h
      exact h
    have hB : But [] w w1 := by
      rw [hw1, alloc_eq_grow]
      obtain ⟨os', _, e⟩ := putRow_grow_new (fun (b : UInt8) => Value.int .u8 (b.toNat : Int)) w #[.cells Lib.zeros24 125] w.heap.size 0 dk (Nat.le_refl _)
      rw [e]
      have hg : But [] w (grow w os') := ⟨rfl, rfl, rfl, by show w.heap.size ≤ (w.heap ++ os').size; rw [Array.size_append]; omega, fun k hk _ => Array.getElem?_append_left hk⟩
      exact hg.drewN k
    clear hw1 hF hF' HH HND HE hfmt
    go_wp2
    go_ret
    exact ⟨rfl, hB⟩

set_option maxHeartbeats 1000000 in
theorem strconvFormatUint_any (u : Nat) (hu : u < 18446744073709551616) (w : World) (htab : Lib.TabIs Tryz.prog w "internal/strconv.uint64pow10" .u64 Lib.pow10Tab) (t : ByteArray) (ht : Hid (t = ⟨(Lib.decDigits u).toArray⟩)) :
    Calls Tryz.prog 61 #[.int .u64 u, .int .i64 10] w fun e w' => e = .returned (.string t) ∧ But [] w w' := by
  have H := hide htab
  clear htab
  go_enter Tryz.func61, Tryz.ntmps61
  go_wp2_with fail
  refine (formatUint_any u hu _ (unhide H) t ht).mono ?_
  rintro e w1 ⟨rfl, hb⟩
  go_wp2
  go_ret
  exact ⟨rfl, hb⟩
end Go.Proofs.YtnfnphbihgchhaaGreatDoor
