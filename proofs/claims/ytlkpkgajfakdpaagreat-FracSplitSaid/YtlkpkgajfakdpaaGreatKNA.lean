/- A word's number, and what a number tells of itself: is it a word, is it 1, as the Go text of package nat does it. -/
import Derived.Test.YtlkpkgajfakdpaaGreatKN11
namespace Go.Proofs.YtlkpkgajfakdpaaGreat
open Go.RowKit

theorem wd_word (u : Nat) (h0 : 0 < u) (hu : u < 18446744073709551616) : wd 18446744073709551616 u = [u] := by rw [wd_pos (by omega) h0, Nat.mod_eq_of_lt hu, Nat.div_eq_of_lt hu, wd_zero]
set_option maxHeartbeats 1000000 in
theorem natOf_any (u : Nat) (hu : u < 18446744073709551616) (w : World) :
    Calls Tryz.prog 43 #[.int .u64 u] w fun e w' => ∃ v, e = .returned v ∧ Sl .u64 w' v (wd 18446744073709551616 u) ∧ But [] w w' ∧ Own w.heap.size w' v := by
  by_cases h0 : u = 0
  · subst h0
    go_enter Tryz.func43, Tryz.ntmps43
    go_wp2
    go_ret
    exact ⟨_, rfl, by rw [wd_zero]; exact Sl.nil _ _, But.refl _ _, own_nil _ _ _⟩
  · have n0 : ((u : Int) == 0) = false := by simp; exact h0
    go_enter Tryz.func43, Tryz.ntmps43
    go_wp2
    go_ret
    refine ⟨_, rfl, ?_, (But.refl _ _).alloc _, ?_⟩
    · rw [wd_word u (by omega) hu]
      exact Sl.mk (xs := [u]) w.heap.size 0 1 (by simp) (fun i hi => by
        have : i = 0 := by simpa using hi
        subst this; simp) (fun _ i v hv => by
        rw [World.cell?_alloc_new] at hv
        rcases i with _ | i
        · exact ⟨u, by simpa using hv.symm⟩
        · simp at hv)
    · intro b off n c e
      simp at e
      obtain ⟨⟨rfl, rfl, -⟩, -, -⟩ := e
      exact ⟨Nat.le_refl _, fun i _ => by simp⟩

/-- a word as a number of words: none for 0 -/
theorem word_open {w : World} {v : Value} {u : Nat} (h : Sl .u64 w v (wd 18446744073709551616 u)) (hu : u < 18446744073709551616) : (u = 0 ∧ ∃ a c, v = .slice a 0 c) ∨ (0 < u ∧ ∃ b off c, v = .slice (some ⟨b, off, none⟩) 1 c ∧ w.cell? ⟨b, off, none⟩ = some (.int .u64 u)) := by
  rcases Nat.eq_zero_or_pos u with h0 | h0
  · subst h0
    rw [wd_zero] at h
    obtain ⟨a, c, e, -⟩ := h
    exact .inl ⟨rfl, a, c, e⟩
  · rw [wd_word u h0 hu] at h
    rcases h.open with ⟨e, -⟩ | ⟨-, b, off, c, e, -, -, hc⟩
    · simp at e
    · exact .inr ⟨h0, b, off, c, e, hc 0 (by simp)⟩
theorem wd_len_two (u : Nat) (hu : 18446744073709551616 ≤ u) : 2 ≤ (wd 18446744073709551616 u).length := by
  rcases Nat.lt_or_ge (wd 18446744073709551616 u).length 2 with h | h
  · have := lt_of_wd_length (B := 18446744073709551616) (by omega) u 1 (by omega)
    omega
  · exact h

set_option maxHeartbeats 1000000 in
theorem natWord_any (v : Value) (u : Nat) (hu : u < 18446744073709551616) (w : World) (hv : Sl .u64 w v (wd 18446744073709551616 u)) :
    Calls Tryz.prog 49 #[v] w fun e w' => e = .returned (.tuple #[.int .u64 u, .bool true]) ∧ w' = w := by
  rcases word_open hv hu with ⟨rfl, a, c, rfl⟩ | ⟨h0, b, off, c, rfl, hc⟩
  · go_enter Tryz.func49, Tryz.ntmps49
    go_wp2
    go_ret2
    exact ⟨rfl, rfl⟩
  · go_enter Tryz.func49, Tryz.ntmps49
    go_wp2
    go_ret2
    exact ⟨rfl, rfl⟩
set_option maxHeartbeats 1000000 in
theorem natWord_long (v : Value) (u : Nat) (hu : 18446744073709551616 ≤ u) (w : World) (hv : Sl .u64 w v (wd 18446744073709551616 u)) (hl : (wd 18446744073709551616 u).length < 2147483648) :
    Calls Tryz.prog 49 #[v] w fun e w' => e = .returned (.tuple #[.int .u64 0, .bool false]) ∧ w' = w := by
  have h2 := wd_len_two u hu
  obtain ⟨a, c, rfl, -, -⟩ := hv
  generalize (wd 18446744073709551616 u).length = l at *
  have n0 : ((l : Int) == 0) = false := beq_eq_false_iff_ne.2 (by omega)
  have n1 : ((l : Int) == 1) = false := beq_eq_false_iff_ne.2 (by omega)
  clear hu
  go_enter Tryz.func49, Tryz.ntmps49
  go_wp2
  go_ret2
  exact ⟨rfl, rfl⟩

set_option maxHeartbeats 1000000 in
theorem natOne_any (v : Value) (u : Nat) (w : World) (hv : Sl .u64 w v (wd 18446744073709551616 u)) (hl : (wd 18446744073709551616 u).length < 2147483648) (r : Bool) (hr : Hid (r = decide (u = 1))) :
    Calls Tryz.prog 45 #[v] w fun e w' => e = .returned (.bool r) ∧ w' = w := by
  rcases Nat.lt_or_ge u 18446744073709551616 with hu | hu
  · rcases word_open hv hu with ⟨rfl, a, c, rfl⟩ | ⟨h0, b, off, c, rfl, hc⟩
    · have e : Hid (r = false) := by show _ = _; rw [unhide hr]; rfl
      clear hr
      go_enter Tryz.func45, Tryz.ntmps45
      go_wp2
      go_ret
      exact ⟨by rw [unhide e]; rfl, rfl⟩
    · have e : ((u : Int) == 1) = r := by rw [unhide hr, Bool.eq_iff_iff]; simp; omega
      clear hr
      go_enter Tryz.func45, Tryz.ntmps45
      go_wp2
      go_ret
      exact ⟨rfl, rfl⟩
  · have e : Hid (r = false) := by show _ = _; rw [unhide hr]; simp; omega
    have h2 := wd_len_two u hu
    clear hr hu
    obtain ⟨a, c, rfl, -, -⟩ := hv
    generalize (wd 18446744073709551616 u).length = l at *
    have n1 : ((l : Int) == 1) = false := beq_eq_false_iff_ne.2 (by omega)
    go_enter Tryz.func45, Tryz.ntmps45
    go_wp2
    go_ret
    exact ⟨by rw [unhide e]; rfl, rfl⟩
end Go.Proofs.YtlkpkgajfakdpaaGreat
