/- Many8 of package tontineref. -/
import Derived.Test.YtinhoigcajddpaaDoorKWB
namespace Go.Proofs.YtinhoigcajddpaaDoor
open Go.RowKit

/-- v is a row of the call's own, with k floats -/
def EvF (base : Nat) (w : World) (v : Value) (k : Nat) (f : Nat → Option Nat) : Prop := ∃ xs : List Value, w.ownsRow base 32 1 v k xs ∧ ∀ i, i < k → ∃ x, xs[i]? = some (.float .f64 x) ∧ can x = f i
theorem EvF.nil (base : Nat) (w : World) (f : Nat → Option Nat) : EvF base w (.slice none 0 0) 0 f := ⟨[], World.ownsRow_nil _ _ _ _, fun i hi => by omega⟩
theorem EvF.but {base : Nat} {w w' : World} {v : Value} {k : Nat} {f : Nat → Option Nat} (h : EvF base w v k f) (hb : But [] w w') : EvF base w' v k f := by
  obtain ⟨xs, h1, h2⟩ := h
  exact ⟨xs, h1.kept (grown_of_but hb) (by
    by_cases h0 : v.ownBlock = none
    · exact .inl h0
    · exact .inr h0), h2⟩
theorem EvF.at {base : Nat} {w : World} {v : Value} {k : Nat} {f : Nat → Option Nat} (h : EvF base w v k f) : FAt w v k f := by
  obtain ⟨xs, h1, h2⟩ := h
  have h3 := h1
  rcases h1.2 with ⟨rfl, rfl⟩ | ⟨g, cap, cur, rfl, -, -, hnc, -⟩
  · exact ⟨none, 0, rfl, Nat.le_refl _, fun i hi => by omega⟩
  · refine ⟨_, cap, rfl, hnc, fun i hi => ?_⟩
    obtain ⟨x, e1, e2⟩ := h2 i hi
    have hc := h3.cells (g := g) rfl i _ e1
    rw [addr_addC] at hc
    exact ⟨g, 0, x, rfl, hc, e2⟩
theorem EvF.form {base : Nat} {w : World} {v : Value} {k : Nat} {f : Nat → Option Nat} (h : EvF base w v k f) : ∃ a c, v = .slice a k c := by
  obtain ⟨xs, h1, -⟩ := h
  rcases h1.2 with ⟨rfl, h0⟩ | ⟨g, cap, cur, rfl, -⟩
  · exact ⟨none, 0, by rw [h0]⟩
  · exact ⟨_, _, rfl⟩
theorem push_f (base : Nat) (w : World) (v : Value) (k : Nat) (f : Nat → Option Nat) (h : EvF base w v k f) (x : Nat) (hf : can x = f k) (hk : k < 1000000) (hb : base ≤ w.heap.size) :
    ∃ v' w', (Builtin.append_ #[22, 22] 22 #[v, .slice (some ⟨w.heap.size, 0, none⟩) 1 1]).run Tryd.prog (w.alloc (.cells #[.float .f64 x] 32)) = .ok v' w' ∧ EvF base w' v' (k + 1) f ∧ (∀ k, v.ownBlock = some k → base ≤ k) ∧ w.grownBy w' v.ownBlock := by
  obtain ⟨i, hi, hz, hs, hbt⟩ := info_f64
  have hal : But [] w (w.alloc (.cells #[.float .f64 x] 32)) := (But.refl _ _).alloc _
  obtain ⟨xs, ho, hx⟩ := h.but hal
  have hbase : ∀ k, v.ownBlock = some k → base ≤ k := fun k hk => (ho.lt k hk).1
  obtain ⟨W, hW⟩ : ∃ W, W = w.alloc (.cells #[.float .f64 x] 32) := ⟨_, rfl⟩
  have hcell : W.cell? ⟨w.heap.size, 0, none⟩ = some (.float .f64 x) := by rw [hW, World.cell?_alloc_new]; rfl
  rw [← hW] at ho hal ⊢
  obtain ⟨v', w', hr, ho', hg, -⟩ := run_append_own (P := Tryd.prog) W base 22 22 32 i _ 1 8 Tryd.underlying22 hi hz hs hbt rfl (by decide) v k xs ho ⟨w.heap.size, 0, none⟩ 1 1 [.float .f64 x] rfl (fun j u hj => by
      rcases j with _ | j
      · simp at hj; subst hj; rw [addr_addC]; exact hcell
      · simp at hj) (fun u hu => by
      simp only [List.mem_singleton] at hu
      subst hu; rfl) (by unfold maxLen; omega) (by omega) (Nat.le_trans hb hal.size)
  have hlen : xs.length = k := by have := ho.1; omega
  refine ⟨v', w', hr, ⟨xs ++ [.float .f64 x], ho', fun j hj => ?_⟩, hbase, ⟨hg.os.trans hal.os, hg.tape.trans hal.tape, hg.output.trans hal.output, Nat.le_trans hal.size hg.size, fun b hb1 hb2 => (hg.block b (Nat.lt_of_lt_of_le hb1 hal.size) hb2).trans (hal.block b hb1 (by simp))⟩⟩
  by_cases e : j < k
  · obtain ⟨a, e1, e2⟩ := hx j e
    exact ⟨a, by rw [List.getElem?_append_left (by omega)]; exact e1, e2⟩
  · obtain rfl : j = k := by omega
    refine ⟨x, ?_, hf⟩
    rw [List.getElem?_append_right (by omega), hlen, Nat.sub_self]
    rfl
theorem But.grown_at {w0 w w' : World} {v : Value} (h : But [] w0 w) (hb : ∀ k, v.ownBlock = some k → w0.heap.size ≤ k) (hg : w.grownBy w' v.ownBlock) : But [] w0 w' :=
  ⟨hg.os.trans h.os, hg.tape.trans h.tape, hg.output.trans h.output, Nat.le_trans h.size hg.size, fun k hk _ => by
    rw [hg.block k (Nat.lt_of_lt_of_le hk h.size) (fun e => by have := hb k e.symm; omega)]
    exact h.block k hk (by simp)⟩

set_option maxHeartbeats 4000000 in
set_option maxRecDepth 100000 in
theorem many8_range (v : Value) (n : Int) (hn : n < 0 ∨ 200 < n) (w : World) : Calls Tryd.prog 5 #[v, .int .i64 n] w fun r w' => r = .returned (.tuple #[.slice none 0 0, .int .i64 2]) ∧ w' = w := by
  rcases hn with hn | hn
  all_goals
    go_enter Tryd.func5, Tryd.ntmps5
    go_wp2
    refine bodyPost_ret (v := .tuple #[.slice none 0 0, .int .i64 2]) (by simp [results, Tryd.results5, go_sem]) rfl ?_
    exact ⟨rfl, rfl⟩

set_option maxHeartbeats 8000000 in
set_option maxRecDepth 100000 in
theorem many8_bad (v : Value) (m : Nat) (f : Nat → Option Nat) (n : Nat) (hn : n ≤ 200) (hm : m ≤ 300) (hb : ∀ e, e ≤ 8 → m ≠ 2 ^ e) (w : World) (hv : FAt w v m f) : Calls Tryd.prog 5 #[v, .int .i64 (n : Int)] w fun r w' => r = .returned (.tuple #[.slice none 0 0, .int .i64 4]) ∧ But [] w w' := by
  have tb8 := fun a cap (w : World) => refTurn8_bad false m a cap hm hb w
  obtain ⟨a, cap, rfl, hcap, hc⟩ := hv
  have HV := hide hc
  have TB := hide tb8
  clear tb8 hc hb
  go_enter Tryd.func5, Tryd.ntmps5
  go_wp2
  go_loopw [6, 25] (fun z i wq => ∃ k : Nat, i = .int .i64 (k : Int) ∧ k ≤ m ∧ Hid (Ev w.heap.size wq z k (fun j => (f j, can 0)) ∧ But [] w wq)) (fun _ i _ => m - (intOf i).toNat)
  case atStart => exact ⟨0, rfl, by omega, Ev.nil _ _ _, But.refl _ _⟩
  case round =>
    obtain ⟨k, rfl, hkm, HI⟩ := hrel
    rename World => wq
    by_cases hlt : k < m
    · obtain ⟨b, off, x, rfl, c0, e0⟩ := unhide HV k hlt
      have c0' := (unhide HI).2.cell_some c0 (by simp)
      obtain ⟨v', w', r1, hE, hg, -⟩ := push_any w.heap.size wq u6 k _ (unhide HI).1 x 0 (by rw [cx, e0]) (by omega) (unhide HI).2.size
      have HF := hide (And.intro hE ((unhide HI).2.grown_own (unhide HI).1 (Nat.le_refl _) hg))
      have R1 := hide r1
      clear r1 hE hg e0 c0
      go_wp2_with (at_builtin; refine wpList_appC rfl _ _ 35 35 rfl _ _ v' w' rfl rfl (unhide R1) ?_)
      exact ⟨⟨k + 1, by go_num, by omega, unhide HF⟩, by simp [intOf]; omega⟩
    · obtain rfl : k = m := by omega
      obtain ⟨a1, d1, rfl⟩ := (unhide HI).1.form
      go_wp2_with fail
      refine (unhide TB a1 d1 _).mono ?_
      rintro r w1 ⟨rfl, hw⟩
      obtain rfl := hw.symm
      go_wp2
      refine bodyPost_ret (v := .tuple #[.slice none 0 0, .int .i64 4]) (by simp [results, Tryd.results5, go_sem]) rfl ?_
      exact ⟨rfl, (unhide HI).2⟩

set_option maxHeartbeats 8000000 in
set_option maxRecDepth 100000 in
theorem many8_any (e : Nat) (h8 : e ≤ 8) (v : Value) (f : Nat → Option Nat) (n : Nat) (hn : n ≤ 200) (w : World) (hv : FAt w v (2 ^ e) f) : Calls Tryd.prog 5 #[v, .int .i64 (n : Int)] w fun r w' => ∃ v', r = .returned (.tuple #[v', .int .i64 0]) ∧ FAt w' v' (2 ^ e) (mf e n f) ∧ But [] w w' := by
  have tF := fun v (w : World) (h : CAt w v (2 ^ e) (fun j => (f j, can 0))) => refTurn8_any false e h8 v _ w h
  have tT := fun v (w : World) (h : CAt w v (2 ^ e) (fun k => cpow c1 (tb false e (fun j => (f j, can 0)) k) n)) => refTurn8_any true e h8 v _ w h
  obtain ⟨T1, hT1⟩ : ∃ T1, T1 = tb false e (fun j => (f j, can 0)) := ⟨_, rfl⟩
  rw [← hT1] at tF tT
  obtain ⟨T2, hT2⟩ : ∃ T2, T2 = tb true e (fun k => cpow c1 (T1 k) n) := ⟨_, rfl⟩
  rw [← hT2] at tT
  have hmf : mf e n f = fun i => (T2 i).1 := by rw [hT2, hT1]; rfl
  rw [hmf]
  have h256 : 2 ^ e ≤ 256 := (show 2 ^ e ≤ 2 ^ 8 from Nat.pow_le_pow_right (by omega) h8)
  obtain ⟨m, hm⟩ : ∃ m, m = 2 ^ e := ⟨_, rfl⟩
  rw [← hm] at tF tT h256 hv ⊢
  obtain ⟨a, cap, rfl, hcap, hc⟩ := hv
  have HV := hide hc
  have TF := hide tF
  have TT := hide tT
  have hst := store_c
  clear tF tT hmf hT1 hT2 hm hc
  go_enter Tryd.func5, Tryd.ntmps5
  go_wp2
  go_loopw [6, 25] (fun z i wq => ∃ k : Nat, i = .int .i64 (k : Int) ∧ k ≤ m ∧ Hid (Ev w.heap.size wq z k (fun j => (f j, can 0)) ∧ But [] w wq)) (fun _ i _ => m - (intOf i).toNat)
  case atStart => exact ⟨0, rfl, by omega, Ev.nil _ _ _, But.refl _ _⟩
  case round =>
    obtain ⟨k, rfl, hkm, HI⟩ := hrel
    rename World => wq
    by_cases hlt : k < m
    · obtain ⟨b, off, x, rfl, c0, e0⟩ := unhide HV k hlt
      have c0' := (unhide HI).2.cell_some c0 (by simp)
      obtain ⟨v', w', r1, hE, hg, -⟩ := push_any w.heap.size wq u6 k _ (unhide HI).1 x 0 (by rw [cx, e0]) (by omega) (unhide HI).2.size
      have HF := hide (And.intro hE ((unhide HI).2.grown_own (unhide HI).1 (Nat.le_refl _) hg))
      have R1 := hide r1
      clear r1 hE hg e0 c0
      go_wp2_with (at_builtin; refine wpList_appC rfl _ _ 35 35 rfl _ _ v' w' rfl rfl (unhide R1) ?_)
      exact ⟨⟨k + 1, by go_num, by omega, unhide HF⟩, by simp [intOf]; omega⟩
    · obtain rfl : k = m := by omega
      obtain ⟨a1, d1, rfl⟩ := (unhide HI).1.form
      have TF' := hide (unhide TF _ wq (unhide HI).1.at)
      have BQ := hide (unhide HI).2
      clear TF HI HV
      go_wp2_with fail
      refine (unhide TF').mono ?_
      rintro r w1 ⟨g1, rfl, hg1, hr1, hb1⟩
      have R1 := hide (And.intro (Nat.le_trans (unhide BQ).size hg1) (And.intro hr1 ((unhide BQ).trans' hb1)))
      clear hr1 hb1 hg1 TF' BQ
      go_wp2
      go_loopw [45] (fun i wq => ∃ j : Nat, i = .int .i64 (j : Int) ∧ j ≤ k ∧ Hid (CRow wq g1 k (fun i => if i < j then cpow c1 (T1 i) n else T1 i) ∧ But [] w wq)) (fun i _ => k - (intOf i).toNat)
      case atStart => exact ⟨0, rfl, by omega, (unhide R1).2.1.ext fun i hi => by rw [if_neg (by omega)], (unhide R1).2.2⟩
      case round =>
        obtain ⟨j, rfl, hjk, HI⟩ := hrel
        rename World => wq2
        by_cases hlt2 : j < k
        · obtain ⟨x0, y0, c0, e0, f0⟩ := (unhide HI).1 j hlt2
          have E0 : Hid (cx x0 y0 = T1 j) := e0.trans (if_neg (by omega))
          have F0 := hide f0
          have C0 := hide c0
          clear e0 f0
          go_wp2
          go_loopw [11, 12, 13] (fun x p i wr => ∃ a b c d l : Nat, x = .complex .f64 a b ∧ i = .int .i64 (l : Int) ∧ p = .complex .f64 c d ∧ l ≤ 200 ∧ Hid ((∃ q, wr = wq2.drewN q) ∧ cpow c1 (T1 j) n = cpow (cx c d) (cx a b) l)) (fun _ _ i _ => (intOf i).toNat)
          case atStart => exact ⟨x0, y0, _, _, n, rfl, rfl, rfl, hn, ⟨0, rfl⟩, by rw [unhide E0]; rfl⟩
          case round =>
            obtain ⟨a, b, c, d, l, rfl, rfl, rfl, hl, HL⟩ := hrel
            rename World => wr
            by_cases h0 : l = 0
            · subst h0
              obtain ⟨⟨q, hq⟩, hR⟩ := unhide HL
              subst hq
              rw [cpow_zero] at hR
              have HR := hide hR
              have c0' : (wq2.drewN q).cell? ⟨g1, j, none⟩ = some (.complex .f64 x0 y0) := unhide C0
              have f0' : (wq2.drewN q).frozen? ⟨g1, j, none⟩ = false := unhide F0
              clear hR HL c0
              go_wp2
              refine ⟨⟨j + 1, by go_num, by omega, ?_, ?_⟩, by simp [intOf]; omega⟩
              · refine (((unhide HI).1.but ((But.refl [] _).drewN q) (by simp)).set j _ _).ext fun i hi => ?_
                by_cases h1 : i = j
                · rw [if_pos h1, if_pos (by omega), h1]
                  exact (unhide HR).symm
                · rw [if_neg h1]
                  by_cases h2 : i < j
                  · rw [if_pos h2, if_pos (by omega)]
                  · rw [if_neg h2, if_neg (by omega)]
              · exact ((unhide HI).2.drewN q).setCell (.inr (unhide R1).1) _
            · rcases Nat.mod_two_eq_zero_or_one l with hm | hm
              · have hm' : (l : Int).tmod 2 = 0 := by rw [tmod_nat, hm]; rfl
                go_wp2_with fail
                refine (refProduct_any a b a b _).mono ?_
                rintro e w1 ⟨x, y, q1, rfl, rfl, h1⟩
                have H1 := hide h1
                clear h1
                go_wp2
                obtain ⟨⟨q, hq⟩, hR⟩ := unhide HL
                refine ⟨⟨x, y, c, d, l / 2, rfl, by go_num, rfl, by omega, ⟨q + q1, by rw [hq, World.drewN_drewN]⟩, by rw [hR, cpow_even _ _ _ hm h0, unhide H1]⟩, by simp [intOf]; omega⟩
              · have hm' : (l : Int).tmod 2 = 1 := by rw [tmod_nat, hm]; rfl
                go_wp2_with fail
                refine (refProduct_any c d a b _).mono ?_
                rintro e w1 ⟨x, y, q1, rfl, rfl, h1⟩
                have H1 := hide h1
                clear h1
                go_wp2_with fail
                refine (refProduct_any a b a b _).mono ?_
                rintro e w1 ⟨x2, y2, q2, rfl, rfl, h2⟩
                have H2 := hide h2
                clear h2
                go_wp2
                obtain ⟨⟨q, hq⟩, hR⟩ := unhide HL
                refine ⟨⟨x2, y2, x, y, l / 2, rfl, by go_num, rfl, by omega, ⟨q + q1 + q2, by rw [hq]; simp only [World.drewN_drewN, Nat.add_assoc]⟩, by rw [hR, cpow_odd _ _ _ hm, unhide H1, unhide H2]⟩, by simp [intOf]; omega⟩
        · obtain rfl : j = k := by omega
          have hC : CAt wq2 (.slice (some ⟨g1, 0, none⟩) j j) j (fun i => cpow c1 (T1 i) n) := ((unhide HI).1.ext fun i hi => by rw [if_pos hi]).at (Nat.le_refl _)
          have TT' := hide (unhide TT _ wq2 hC)
          have BQ := hide (unhide HI).2
          clear hC TT HI R1
          go_wp2_with fail
          refine (unhide TT').mono ?_
          rintro r w3 ⟨g2, rfl, hg2, hr2, hb2⟩
          have HW := hide (And.intro hr2 ((unhide BQ).trans' hb2))
          clear hr2 hb2 hg2 TT' BQ
          go_wp2
          go_loopw [14, 76] (fun o i wq => ∃ l : Nat, i = .int .i64 (l : Int) ∧ l ≤ j ∧ Hid (EvF w3.heap.size wq o l (fun i => (T2 i).1) ∧ But [] w3 wq)) (fun _ i _ => j - (intOf i).toNat)
          case atStart => exact ⟨0, rfl, by omega, EvF.nil _ _ _, But.refl _ _⟩
          case round =>
            obtain ⟨l, rfl, hlj, HI⟩ := hrel
            rename World => wq3
            by_cases hlt3 : l < j
            · obtain ⟨x, y, c0, e0, -⟩ := (unhide HW).1 l hlt3
              have c0' := (unhide HI).2.cell_some c0 (by simp)
              obtain ⟨v', w', r1, hE, hbs, hg⟩ := push_f w3.heap.size wq3 u14 l _ (unhide HI).1 x (congrArg Prod.fst e0) (by omega) (unhide HI).2.size
              have HF := hide (And.intro hE ((unhide HI).2.grown_at hbs hg))
              have R1 := hide r1
              clear r1 hE hg e0 c0 hbs
              go_wp2_with (at_builtin; refine wpList_appC rfl _ _ 22 22 rfl _ _ v' w' rfl rfl (unhide R1) ?_)
              exact ⟨⟨l + 1, by go_num, by omega, unhide HF⟩, by simp [intOf]; omega⟩
            · obtain rfl : l = j := by omega
              obtain ⟨a3, d3, rfl⟩ := (unhide HI).1.form
              go_wp2
              refine bodyPost_ret (v := .tuple #[.slice a3 l d3, .int .i64 0]) (by simp [results, Tryd.results5, go_sem]) rfl ?_
              exact ⟨_, rfl, (unhide HI).1.at, (unhide HW).2.trans' (unhide HI).2⟩
end Go.Proofs.YtinhoigcajddpaaDoor
