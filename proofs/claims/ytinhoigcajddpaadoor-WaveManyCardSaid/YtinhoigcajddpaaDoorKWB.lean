/- Turn8 of package tontineref. -/
import Derived.Test.YtinhoigcajddpaaDoorKWA
namespace Go.Proofs.YtinhoigcajddpaaDoor
open Go.RowKit

/-- n is one of the first j powers of 2 -/
def okb (n j : Nat) : Bool := (List.range j).any fun t => n == 2 ^ t
theorem okb_succ (n j : Nat) : okb n (j + 1) = (okb n j || n == 2 ^ j) := by
  unfold okb
  rw [List.range_succ, List.any_append]
  simp
theorem okb_true (e : Nat) (h : e ≤ 8) : okb (2 ^ e) 9 = true := by
  unfold okb
  rw [List.any_eq_true]
  exact ⟨e, List.mem_range.2 (by omega), by simp⟩
theorem okb_false (n : Nat) (h : ∀ e, e ≤ 8 → n ≠ 2 ^ e) : okb n 9 = false := by
  unfold okb
  rw [List.any_eq_false]
  intro e he
  have := h e (by have := List.mem_range.1 he; omega)
  simpa using this

set_option maxHeartbeats 4000000 in
set_option maxRecDepth 100000 in
theorem refTurn8_bad (back : Bool) (n : Nat) (a : Option Addr) (cap : Nat) (_hn : n ≤ 300) (hb : ∀ e, e ≤ 8 → n ≠ 2 ^ e) (w : World) : Calls Tryd.prog 11 #[.slice a n cap, .bool back] w fun r w' => r = .returned (.tuple #[.slice none 0 0, .int .i64 4]) ∧ w' = w := by
  have hf := hide (okb_false n hb)
  clear hb
  go_enter Tryd.func11, Tryd.ntmps11
  go_wp2
  go_loopw [7, 8] (fun o i wq => ∃ j p : Nat, i = .int .i64 (p : Int) ∧ o = .bool (okb n j) ∧ 1 ≤ p ∧ p ≤ 512 ∧ Hid (j ≤ 9 ∧ p = 2 ^ j ∧ wq = w)) (fun _ i _ => 512 - (intOf i).toNat)
  case atStart => exact ⟨0, 1, rfl, rfl, by omega, by omega, by omega, rfl, rfl⟩
  case round =>
    obtain ⟨j, p, rfl, rfl, hp1, hp2, HI⟩ := hrel
    rename World => wq
    obtain ⟨hj, hp, hwq⟩ := unhide HI
    obtain rfl := hwq.symm
    by_cases h9 : j = 9
    · subst h9
      obtain rfl : p = 512 := hp
      have hff := unhide hf
      clear HI hwq
      go_wp2
      refine bodyPost_ret (v := .tuple #[.slice none 0 0, .int .i64 4]) (by simp [results, Tryd.results11, go_sem]) rfl ?_
      exact ⟨rfl, rfl⟩
    · have hp8 : p ≤ 256 := by rw [hp]; exact (show 2 ^ j ≤ 2 ^ 8 from Nat.pow_le_pow_right (by omega) (by omega))
      have hs : Hid (okb n (j + 1) = (okb n j || n == p)) := by rw [hp]; exact okb_succ n j
      have hp' : Hid (p * 2 = 2 ^ (j + 1)) := by rw [hp]; exact (Nat.pow_succ ..).symm
      obtain ⟨ob, hob⟩ : ∃ ob, ob = okb n j := ⟨_, rfl⟩
      rw [← hob] at hs ⊢
      have fin : ∀ b, b = (ob || n == p) → ∃ j' p' : Nat, Value.int .i64 ((p : Int) * 2) = .int .i64 (p' : Int) ∧ Value.bool b = .bool (okb n j') ∧ 1 ≤ p' ∧ p' ≤ 512 ∧ Hid (j' ≤ 9 ∧ p' = 2 ^ j' ∧ True) := fun b hb => ⟨j + 1, p * 2, by simp, by rw [hb, unhide hs], by omega, by omega, by omega, unhide hp', trivial⟩
      have FIN := hide fin
      clear hp HI hs hp' hob fin hwq
      cases ob
      · by_cases hnp : n = p
        · have hnp' : ((n : Int) == (p : Int)) = true := by simp [hnp]
          have HNP := hide hnp
          clear hnp
          go_wp2
          exact ⟨unhide FIN _ (by have := unhide HNP; simp [this]), by simp [intOf]; omega⟩
        · have hnp' : ((n : Int) == (p : Int)) = false := by
            rw [beq_eq_false_iff_ne]
            omega
          go_wp2
          exact ⟨unhide FIN _ (by simp [hnp]), by simp [intOf]; omega⟩
      · go_wp2
        exact ⟨unhide FIN _ (by simp), by simp [intOf]; omega⟩

set_option maxHeartbeats 8000000 in
set_option maxRecDepth 100000 in
theorem refTurn8_any (back : Bool) (e : Nat) (h8 : e ≤ 8) (v : Value) (f : Nat → CV) (w : World) (hv : CAt w v (2 ^ e) f) : Calls Tryd.prog 11 #[v, .bool back] w fun r w' => ∃ g, r = .returned (.tuple #[.slice (some ⟨g, 0, none⟩) (2 ^ e) (2 ^ e), .int .i64 0]) ∧ w.heap.size ≤ g ∧ CRow w' g (2 ^ e) (tb back e f) ∧ But [] w w' := by
  have mixed : Tryd.prog.follows .mixedOrders = true := by kernel_rfl
  have ht := refTurned_any back e h8 v f w hv
  have hf := okb_true e h8
  obtain ⟨F, hF⟩ : ∃ F, F = tn back e f := ⟨_, rfl⟩
  have hFb : ∀ i, tb back e f i = if back then cdiv (floatOfInt .f64 ((2 ^ e : Nat) : Int)) (F i) else F i := fun i => by rw [hF]; unfold tb; cases back <;> rfl
  rw [← hF] at ht
  obtain ⟨a, cap, rfl, -, -⟩ := hv
  have h256 : 2 ^ e ≤ 256 := (show 2 ^ e ≤ 2 ^ 8 from Nat.pow_le_pow_right (by omega) h8)
  obtain ⟨n, hn⟩ : ∃ n, n = 2 ^ e := ⟨_, rfl⟩
  rw [← hn] at ht hf h256 hFb ⊢
  have HT := hide ht
  have HF := hide hf
  have HFB := hide hFb
  clear ht hF hFb hn hf
  go_enter Tryd.func11, Tryd.ntmps11
  go_wp2
  go_loopw [7, 8] (fun o i wq => ∃ j p : Nat, i = .int .i64 (p : Int) ∧ o = .bool (okb n j) ∧ 1 ≤ p ∧ p ≤ 512 ∧ Hid (j ≤ 9 ∧ p = 2 ^ j ∧ wq = w)) (fun _ i _ => 512 - (intOf i).toNat)
  case atStart => exact ⟨0, 1, rfl, rfl, by omega, by omega, by omega, rfl, rfl⟩
  case round =>
    obtain ⟨j, p, rfl, rfl, hp1, hp2, HI⟩ := hrel
    rename World => wq
    obtain ⟨hj, hp, hwq⟩ := unhide HI
    obtain rfl := hwq.symm
    by_cases h9 : j = 9
    · subst h9
      obtain rfl : p = 512 := hp
      have hff := unhide HF
      clear HI hwq
      go_wp2_with fail
      refine (unhide HT).mono ?_
      rintro r w1 ⟨g, rfl, hg, hr, hb⟩
      have HR := hide (And.intro hg (And.intro hr hb))
      clear hg hr hb
      go_wp2
      go_loopw [30] (fun i wq => ∃ k : Nat, i = .int .i64 (k : Int) ∧ k ≤ n ∧ Hid (CRow wq g n (fun i => if i < k then tb back e f i else F i) ∧ But [g] w1 wq)) (fun i _ => n - (intOf i).toNat)
      case atStart => exact ⟨0, rfl, by omega, (unhide HR).2.1.ext fun i hi => by rw [if_neg (by omega)], But.refl _ _⟩
      case round =>
        obtain ⟨k, rfl, hkn, HI⟩ := hrel
        rename World => wq
        by_cases hlt : k < n
        · obtain ⟨x, y, c0, e0, f0⟩ := (unhide HI).1 k hlt
          have E0 : Hid (cx x y = F k) := e0.trans (if_neg (by omega))
          have C0 := hide c0
          have F0 := hide f0
          clear e0 c0 f0
          cases back
          · go_wp2
            refine ⟨⟨k + 1, by go_num, by omega, (unhide HI).1.ext fun i hi => ?_, (unhide HI).2⟩, by simp [intOf]; omega⟩
            have h1 := unhide HFB i
            simp only [Bool.false_eq_true, if_false] at h1
            rw [h1]
            simp
          · go_wp2
            refine turn8_r14 14 _ _ wq g k n x y (by simp) (by simp [Act.eval]) (by simp [Act.eval]) (by simp [Act.eval]) hlt (by omega) (unhide C0) (unhide F0) ?_
            intro V1 q x' y' h3
            have nxt : CRow ((wq.drewN q).setCell ⟨g, k, none⟩ (.complex .f64 x' y')) g n (fun i => if i < k + 1 then tb true e f i else F i) ∧ But [g] w1 ((wq.drewN q).setCell ⟨g, k, none⟩ (.complex .f64 x' y')) := by
              refine ⟨(((unhide HI).1.but ((But.refl [] _).drewN q) (by simp)).set k x' y').ext fun i hi => ?_, ((unhide HI).2.drewN q).setCell (p := ⟨g, k, none⟩) (.inl (by simp)) _⟩
              by_cases h1 : i = k
              · subst h1
                have h2 := unhide HFB i
                simp only [if_true] at h2
                rw [if_pos rfl, if_pos (by omega), h2, ← unhide E0, h3]
                rfl
              · rw [if_neg h1]
                by_cases h2 : i < k
                · rw [if_pos h2, if_pos (by omega)]
                · rw [if_neg h2, if_neg (by omega)]
            obtain ⟨W1, hW1⟩ : ∃ W1, W1 = (wq.drewN q).setCell ⟨g, k, none⟩ (.complex .f64 x' y') := ⟨_, rfl⟩
            rw [← hW1] at nxt ⊢
            have NX := hide nxt
            clear hW1 nxt h3
            simp only [putted, List.foldl_cons, List.foldl_nil, Act.put, List.setIfInBounds_toArray, List.set_cons_zero, List.set_cons_succ]
            go_wp2
            exact ⟨⟨k + 1, by go_num, by omega, unhide NX⟩, by simp [intOf]; omega⟩
        · obtain rfl : k = n := by omega
          go_wp2
          refine bodyPost_ret (v := .tuple #[.slice (some ⟨g, 0, none⟩) k k, .int .i64 0]) (by simp [results, Tryd.results11, go_sem]) rfl ?_
          exact ⟨g, rfl, (unhide HR).1, (unhide HI).1.ext fun i hi => by rw [if_pos hi], (unhide HR).2.2.trans (unhide HI).2 (fun x hx => by simp at hx; subst hx; exact .inr (unhide HR).1)⟩
    · have hp8 : p ≤ 256 := by rw [hp]; exact (show 2 ^ j ≤ 2 ^ 8 from Nat.pow_le_pow_right (by omega) (by omega))
      have hs : Hid (okb n (j + 1) = (okb n j || n == p)) := by rw [hp]; exact okb_succ n j
      have hp' : Hid (p * 2 = 2 ^ (j + 1)) := by rw [hp]; exact (Nat.pow_succ ..).symm
      obtain ⟨ob, hob⟩ : ∃ ob, ob = okb n j := ⟨_, rfl⟩
      rw [← hob] at hs ⊢
      have fin : ∀ b, b = (ob || n == p) → ∃ j' p' : Nat, Value.int .i64 ((p : Int) * 2) = .int .i64 (p' : Int) ∧ Value.bool b = .bool (okb n j') ∧ 1 ≤ p' ∧ p' ≤ 512 ∧ Hid (j' ≤ 9 ∧ p' = 2 ^ j' ∧ True) := fun b hb => ⟨j + 1, p * 2, by simp, by rw [hb, unhide hs], by omega, by omega, by omega, unhide hp', trivial⟩
      have FIN := hide fin
      clear hp HI hs hp' hob fin hwq
      cases ob
      · by_cases hnp : n = p
        · have hnp' : ((n : Int) == (p : Int)) = true := by simp [hnp]
          have HNP := hide hnp
          clear hnp
          go_wp2
          exact ⟨unhide FIN _ (by have := unhide HNP; simp [this]), by simp [intOf]; omega⟩
        · have hnp' : ((n : Int) == (p : Int)) = false := by
            rw [beq_eq_false_iff_ne]
            omega
          go_wp2
          exact ⟨unhide FIN _ (by simp [hnp]), by simp [intOf]; omega⟩
      · go_wp2
        exact ⟨unhide FIN _ (by simp), by simp [intOf]; omega⟩
end Go.Proofs.YtinhoigcajddpaaDoor
