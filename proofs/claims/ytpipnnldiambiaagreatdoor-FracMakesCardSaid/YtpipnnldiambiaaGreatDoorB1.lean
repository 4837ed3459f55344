/- Words without noughts at their end, and the words of one number, as the Go text of package tontinebig makes them. -/
import Derived.Test.YtpipnnldiambiaaGreatDoorProg
import Derived.Test.YtpipnnldiambiaaGreatDoorBase
import Derived.Deep.QuietTactic
import Derived.BigQuiet
import Derived.Outline
namespace Go.Proofs.YtpipnnldiambiaaGreatDoor
open Go.RowKit

theorem take_snoc_getD (xs : List Nat) (n : Nat) (h : n < xs.length) : xs.take (n + 1) = xs.take n ++ [xs[n]?.getD 0] := by
  rw [List.take_succ_eq_append_getElem h]; simp [List.getElem?_eq_getElem h]
theorem trim_fin {B : Nat} (hB : 1 < B) (xs : List Nat) (n : Nat) (hn : n ≤ xs.length) (hq : vl B (xs.take n) = vl B xs) (hm : ∀ x ∈ xs, x < B) (hlast : n = 0 ∨ xs[n-1]?.getD 0 ≠ 0) : wd B (vl B xs) = xs.take n := by
  rw [← hq]
  rcases hlast with rfl | hlast
  · simp [vl, wd_zero]
  · obtain ⟨k, rfl⟩ : ∃ k, n = k + 1 := ⟨n - 1, by
      have : n ≠ 0 := by
        rintro rfl
        rcases xs with _ | ⟨x, xs⟩
        · simp at hlast
        · simp only [List.take_zero, vl] at hq
          simp only [Nat.zero_sub, List.getElem?_cons_zero, Option.getD_some] at hlast
          omega
      omega⟩
    rw [take_snoc_getD xs k (by omega)]
    simp only [Nat.add_sub_cancel] at hlast
    have hk : k < xs.length := by omega
    refine wd_vl_last hB _ _ (fun x hx => hm x (List.mem_of_mem_take hx)) ?_ (Nat.pos_of_ne_zero hlast)
    have := hm xs[k] (List.getElem_mem hk)
    simpa [List.getElem?_eq_getElem hk] using this
theorem take_getD (xs : List Nat) (n i : Nat) (h : i < n) : (xs.take n)[i]?.getD 0 = xs[i]?.getD 0 := by rw [List.getElem?_take_of_lt h]

/-- a slice that lies where another one lies -/
def SameBase (v v' : Value) : Prop := ∀ b off n c, v' = .slice (some ⟨b, off, none⟩) n c → ∃ n' c', v = .slice (some ⟨b, off, none⟩) n' c'
theorem sameBase (a : Option Addr) (n c n' c' : Nat) : SameBase (.slice a n c) (.slice a n' c') := fun _ _ _ _ e => ⟨n, c, congrArg (fun a => Value.slice a n c) (Value.slice.inj e).1⟩

set_option maxHeartbeats 400000 in
theorem trim_any2 (v : Value) (xs : List Nat) (w : World) (hv : Sl .u32 w v xs) (hm : ∀ x ∈ xs, x < 4294967296) (hl : xs.length < 2147483648) :
    Calls Tryz.prog 78 #[v] w fun e w' => ∃ v', e = .returned v' ∧ Sl .u32 w v' (wd 4294967296 (vl 4294967296 xs)) ∧ w' = w ∧ SameBase v v' := by
  rcases hv.open with ⟨rfl, a, cap, rfl⟩ | ⟨h0, b, off, cap, rfl, hc, hb, hcell⟩
  · go_enter Tryz.func78, Tryz.ntmps78
    go_wp2
    refine wp_loop_rounds 1 ?_
    rw [rounds_succ]
    go_wp2
    go_ret
    exact ⟨_, rfl, by simp only [vl, wd_zero]; exact ⟨a, cap, rfl, Nat.zero_le _, fun i hi => by simp at hi⟩, rfl, sameBase _ _ _ _ _⟩
  · go_enter Tryz.func78, Tryz.ntmps78
    go_wp2
    go_loop [3] (fun i => ∃ n : Nat, n ≤ xs.length ∧ i = .int .i64 n ∧ Hid (vl 4294967296 (xs.take n) = vl 4294967296 xs)) (fun i => (intOf i).toNat)
    case atStart => exact ⟨xs.length, Nat.le_refl _, rfl, by show _ = _; simp⟩
    case round =>
      obtain ⟨n, hn, rfl, hq⟩ := hrel
      by_cases hp : n = 0
      · subst hp
        go_wp2
        go_ret
        refine ⟨_, rfl, ?_, rfl, sameBase _ _ _ _ _⟩
        rw [trim_fin (by omega) xs 0 hn hq.out hm (.inl rfl)]
        rw [List.take_zero]
        exact Sl.mk (xs := []) b off cap (Nat.zero_le _) (fun i hi => by simp at hi)
      · have hcn := hcell (n - 1) (by omega)
        by_cases hz : xs[n-1]?.getD 0 = 0
        · go_wp2
          refine ⟨⟨n - 1, by omega, by rw [Int.ofNat_sub (by omega)]; rfl, ?_⟩, by simp [intOf]; omega⟩
          show _ = _
          rw [← hq.out]
          obtain ⟨k, rfl⟩ : ∃ k, n = k + 1 := ⟨n - 1, by omega⟩
          rw [Nat.add_sub_cancel] at hz ⊢
          rw [take_snoc_getD xs k (by omega), hz, vl_zero_last]
        · go_wp2
          go_ret
          refine ⟨_, rfl, ?_, rfl, sameBase _ _ _ _ _⟩
          rw [trim_fin (by omega) xs n hn hq.out hm (.inr hz)]
          have hl' : (xs.take n).length = n := by simp; omega
          have h := Sl.mk (k := .u32) (w := w) (xs := xs.take n) b off cap (by omega) (fun i hi => by rw [take_getD xs n i (by omega)]; exact hcell i (by omega))
          rw [hl'] at h
          exact h

theorem trim_any (v : Value) (xs : List Nat) (w : World) (hv : Sl .u32 w v xs) (hm : ∀ x ∈ xs, x < 4294967296) (hl : xs.length < 2147483648) :
    Calls Tryz.prog 78 #[v] w fun e w' => ∃ v', e = .returned v' ∧ Sl .u32 w v' (wd 4294967296 (vl 4294967296 xs)) ∧ w' = w :=
  (trim_any2 v xs w hv hm hl).mono fun _ _ ⟨v', h1, h2, h3, _⟩ => ⟨v', h1, h2, h3⟩

set_option maxHeartbeats 400000 in
theorem words_any (u : Nat) (w : World) (hu : u < 18446744073709551616) :
    Calls Tryz.prog 79 #[.int .u64 u] w fun e w' => ∃ v', e = .returned v' ∧ Sl .u32 w' v' (wd 4294967296 u) ∧ But [] w w' := by
  go_enter Tryz.func79, Tryz.ntmps79
  go_wp2_with fail
  have h0 : Sl .u32 (w.alloc (.cells #[.int .u32 ((u : Int) % 4294967296), .int .u32 ((u : Int) / 4294967296)] 126)) (.slice (some ⟨w.heap.size, 0, none⟩) 2 2) [u % 4294967296, u / 4294967296] :=
    Sl.mk (xs := [u % 4294967296, u / 4294967296]) w.heap.size 0 2 (by simp) (fun i hi => by
      match i, hi with
      | 0, _ => simp
      | 1, _ => simp)
  refine (trim_any _ [u % 4294967296, u / 4294967296] _ h0 ?_ ?_).mono ?_
  · intro x hx
    simp only [List.mem_cons, List.not_mem_nil, or_false] at hx
    omega
  · simp
  rintro e w' ⟨v', rfl, hs, rfl⟩
  go_wp2
  go_ret
  refine ⟨v', rfl, ?_, (But.refl _ _).alloc _⟩
  have e : vl 4294967296 [u % 4294967296, u / 4294967296] = u := by simp only [vl]; omega
  rw [e] at hs
  exact hs

/-- the number at an address: its sign and its words -/
def IntAt (w : World) (b o : Nat) (z : Int) : Prop := w.cell? ⟨b, o, none⟩ = some (.bool (decide (z < 0))) ∧ ∃ v, w.cell? ⟨b, o + 1, none⟩ = some v ∧ Sl .u32 w v (wd 4294967296 z.natAbs)

set_option maxHeartbeats 400000 in
theorem give_any (b o : Nat) (neg : Bool) (v : Value) (xs : List Nat) (v0 v1 : Value) (w : World) (hv : Sl .u32 w v xs) (_hl : xs.length < 2147483648)
    (h0 : w.cell? ⟨b, o, none⟩ = some v0) (h1 : w.cell? ⟨b, o + 1, none⟩ = some v1) (f0 : w.frozen? ⟨b, o, none⟩ = false) (f1 : w.frozen? ⟨b, o + 1, none⟩ = false) :
    Calls Tryz.prog 53 #[.pointer (some ⟨b, o, none⟩), .bool neg, v] w fun e w' => e = .returned (.pointer (some ⟨b, o, none⟩)) ∧ w' = (w.setCell ⟨b, o + 1, none⟩ v).setCell ⟨b, o, none⟩ (.bool (neg && decide (0 < xs.length))) := by
  obtain ⟨a, cap, rfl, -, -⟩ := hv
  cases neg <;> by_cases hp : 0 < xs.length
  all_goals
    go_enter Tryz.func53, Tryz.ntmps53
    go_wp2
    go_ret
    exact ⟨rfl, by simp [hp]⟩
end Go.Proofs.YtpipnnldiambiaaGreatDoor
