/- Many, as the Go text of package wave has it. -/
import Derived.Test.YtinhoigcajddpaaDoorKW6
namespace Go.Proofs.YtinhoigcajddpaaDoor
open Go.RowKit

/-- the slice v holds n floats -/
def FAt (w : World) (v : Value) (n : Nat) (f : Nat → Option Nat) : Prop := ∃ a cap, v = .slice a n cap ∧ n ≤ cap ∧ ∀ i, i < n → ∃ b off x, a = some ⟨b, off, none⟩ ∧ w.cell? ⟨b, off + i, none⟩ = some (.float .f64 x) ∧ can x = f i
theorem FAt.but {w w' : World} {v : Value} {n : Nat} {f : Nat → Option Nat} (h : FAt w v n f) (hb : But [] w w') : FAt w' v n f := by
  obtain ⟨a, cap, e, hc, h⟩ := h
  refine ⟨a, cap, e, hc, fun i hi => ?_⟩
  obtain ⟨b, off, x, e1, h1, h2⟩ := h i hi
  exact ⟨b, off, x, e1, hb.cell_some h1 (by simp), h2⟩
def FRow (w : World) (g n : Nat) (f : Nat → Option Nat) : Prop := ∀ i, i < n → ∃ x, w.cell? ⟨g, i, none⟩ = some (.float .f64 x) ∧ can x = f i ∧ w.frozen? ⟨g, i, none⟩ = false
theorem FRow.but {w w' : World} {g n : Nat} {f : Nat → Option Nat} {l : List Nat} (h : FRow w g n f) (hb : But l w w') (hn : g ∉ l) : FRow w' g n f := fun i hi => by
  obtain ⟨x, h1, h2, h3⟩ := h i hi
  exact ⟨x, hb.cell_some h1 hn, h2, (hb.frozen (p := ⟨g, i, none⟩) (lt_of_cell h1) hn).trans h3⟩
theorem FRow.ext {w : World} {g n : Nat} {f f' : Nat → Option Nat} (h : FRow w g n f) (he : ∀ i, i < n → f i = f' i) : FRow w g n f' := fun i hi => by
  obtain ⟨x, h1, h2, h3⟩ := h i hi
  exact ⟨x, h1, h2.trans (he i hi), h3⟩
theorem FRow.set {w : World} {g n : Nat} {f : Nat → Option Nat} (h : FRow w g n f) (j x : Nat) : FRow (w.setCell ⟨g, j, none⟩ (.float .f64 x)) g n (fun i => if i = j then can x else f i) := fun i hi => by
  obtain ⟨a, h1, h2, h3⟩ := h i hi
  by_cases e : i = j
  · subst e
    exact ⟨x, World.cell?_setCell_same _ _ _ h1, by simp, by simpa using h3⟩
  · exact ⟨a, by rw [World.cell?_setCell_other _ _ _ _ (fun h => e (Addr.mk.inj h).2.1.symm)]; exact h1, by simp [e, h2], by simpa using h3⟩
theorem FRow.at {w : World} {g n cap : Nat} {f : Nat → Option Nat} (h : FRow w g n f) (hc : n ≤ cap) : FAt w (.slice (some ⟨g, 0, none⟩) n cap) n f :=
  ⟨_, cap, rfl, hc, fun i hi => by
    obtain ⟨x, h1, h2, -⟩ := h i hi
    exact ⟨g, 0, x, rfl, by rw [Nat.zero_add]; exact h1, h2⟩⟩
theorem info_f64 : ∃ i, Tryd.prog.info? 32 = some i ∧ i.zero = some (.float .f64 0) ∧ i.size = 1 ∧ i.bytes = 8 := by
  have h : (Tryd.prog.info? 32).map (fun i => (i.zero, i.size, i.bytes)) = some (some (.float .f64 0), 1, 8) := by kernel_rfl
  cases e : Tryd.prog.info? 32 with
  | none => rw [e] at h; simp at h
  | some i =>
    rw [e] at h
    simp only [Option.map_some, Option.some.injEq, Prod.mk.injEq] at h
    exact ⟨i, rfl, h.1, h.2.1, h.2.2⟩
theorem run_makeFl (wx : World) (n : Nat) (h : n < 1000000) : (Instr.makeSlice 22 (.int .i64 (n : Int)) (.int .i64 (n : Int))).run Tryd.prog wx = .ok (.slice (some ⟨wx.heap.size, 0, none⟩) n n) (wx.alloc (.cells (madeCells #[.float .f64 0] n) 32)) := by
  obtain ⟨i, hi, hz, hs, hb⟩ := info_f64
  have hr := run_make (P := Tryd.prog) wx 22 32 i _ Tryd.underlying22 hi hz .i64 .i64 (n : Int) (n : Int) (by omega) (by omega) (by rw [hb]; omega) (by omega)
  rw [hs, Nat.mul_one, Int.toNat_natCast] at hr
  exact hr
theorem made_rowF (wx : World) (n : Nat) : FRow (wx.alloc (.cells (madeCells #[.float .f64 0] n) 32)) wx.heap.size n (fun _ => can 0) := fun i hi => by
  refine ⟨0, ?_, rfl, by simp⟩
  rw [World.cell?_alloc_new]
  simp [madeCells, hi, Nat.mod_one]

/-- how likely each amount of n claims together is, by floats -/
def mf (e n : Nat) (f : Nat → Option Nat) (i : Nat) : Option Nat := (tb true e (fun k => cpow c1 (tb false e (fun j => (f j, can 0)) k) n) i).1

set_option maxHeartbeats 4000000 in
set_option maxRecDepth 100000 in
theorem many_range (v : Value) (n : Int) (hn : n < 0 ∨ 200 < n) (w : World) : Calls Tryd.prog 4 #[v, .int .i64 n] w fun r w' => r = .returned (.tuple #[.slice none 0 0, .iface 27 (.int .i64 2)]) ∧ w' = w := by
  rcases hn with hn | hn
  all_goals
    go_enter Tryd.func4, Tryd.ntmps4
    go_wp2
    refine bodyPost_ret (v := .tuple #[.slice none 0 0, .iface 27 (.int .i64 2)]) (by simp [results, Tryd.results4, go_sem]) rfl ?_
    exact ⟨rfl, rfl⟩
set_option maxHeartbeats 4000000 in
set_option maxRecDepth 100000 in
theorem many_bad (m : Nat) (a : Option Addr) (cap : Nat) (n : Nat) (hn : n ≤ 200) (hm : m ≤ 300) (hb : ∀ e, e ≤ 8 → m ≠ 2 ^ e) (w : World) : Calls Tryd.prog 4 #[.slice a m cap, .int .i64 (n : Int)] w fun r w' => r = .returned (.tuple #[.slice none 0 0, .iface 27 (.int .i64 4)]) ∧ w' = w := by
  have hck := check_bad m hm hb w
  have HC := hide hck
  clear hck hb
  go_enter Tryd.func4, Tryd.ntmps4
  go_wp2_with fail
  refine (unhide HC).mono ?_
  rintro r w1 ⟨rfl, hw⟩
  obtain rfl := hw.symm
  go_wp2
  refine bodyPost_ret (v := .tuple #[.slice none 0 0, .iface 27 (.int .i64 4)]) (by simp [results, Tryd.results4, go_sem]) rfl ?_
  exact ⟨rfl, rfl⟩

set_option maxHeartbeats 8000000 in
set_option maxRecDepth 100000 in
theorem many_any (e : Nat) (h8 : e ≤ 8) (v : Value) (f : Nat → Option Nat) (n : Nat) (hn : n ≤ 200) (w : World) (hv : FAt w v (2 ^ e) f) : Calls Tryd.prog 4 #[v, .int .i64 (n : Int)] w fun r w' => ∃ v', r = .returned (.tuple #[v', .nilIface]) ∧ FAt w' v' (2 ^ e) (mf e n f) ∧ But [] w w' := by
  have hck := check_ok e h8 w
  have tF := fun v (w : World) (h : CAt w v (2 ^ e) (fun j => (f j, can 0))) => turn_false e h8 v _ w h
  have tT := fun v (w : World) (h : CAt w v (2 ^ e) (fun k => cpow c1 (tb false e (fun j => (f j, can 0)) k) n)) => turn_true e h8 v _ w h
  obtain ⟨T1, hT1⟩ : ∃ T1, T1 = tb false e (fun j => (f j, can 0)) := ⟨_, rfl⟩
  rw [← hT1] at tF tT
  obtain ⟨T2, hT2⟩ : ∃ T2, T2 = tb true e (fun k => cpow c1 (T1 k) n) := ⟨_, rfl⟩
  rw [← hT2] at tT
  have hmf : mf e n f = fun i => (T2 i).1 := by rw [hT2, hT1]; rfl
  rw [hmf]
  have h256 : 2 ^ e ≤ 256 := (show 2 ^ e ≤ 2 ^ 8 from Nat.pow_le_pow_right (by omega) h8)
  have hmk := run_makeC w (2 ^ e) (by omega)
  have bV : But [] w (w.alloc (.cells (madeCells #[.complex .f64 0 0] (2 ^ e)) 36)) := (But.refl _ _).alloc _
  have rV := made_row w (2 ^ e)
  have hmF := fun wx => run_makeFl wx (2 ^ e) (by omega)
  have rF := fun wx => made_rowF wx (2 ^ e)
  obtain ⟨m, hm⟩ : ∃ m, m = 2 ^ e := ⟨_, rfl⟩
  rw [← hm] at hck tF tT hmk bV rV h256 hv hmF rF ⊢
  obtain ⟨V, hV⟩ : ∃ V, V = w.alloc (.cells (madeCells #[.complex .f64 0 0] m) 36) := ⟨_, rfl⟩
  rw [← hV] at hmk bV rV
  obtain ⟨G, hG⟩ : ∃ G, G = w.heap.size := ⟨_, rfl⟩
  rw [← hG] at hmk rV
  obtain ⟨a, cap, rfl, hcap, hc⟩ := hv
  have HV := hide hc
  have HC := hide hck
  have TF := hide tF
  have TT := hide tT
  have RV := hide rV
  have BV := hide bV
  have HG := hide hG
  have RF := hide rF
  have MF := hide hmF
  have hst := store_c
  have hsf := store_f
  clear hck tF tT rV bV hG rF hmf hT1 hT2 hV hm hc hmF
  go_enter Tryd.func4, Tryd.ntmps4
  go_wp2_with fail
  refine (unhide HC).mono ?_
  rintro r w1 ⟨rfl, hw⟩
  obtain rfl := hw.symm
  clear HC
  go_wp2
  go_loopw [33] (fun i wq => ∃ k : Nat, i = .int .i64 (k : Int) ∧ k ≤ m ∧ Hid (CRow wq G m (fun i => if i < k then (f i, can 0) else cx 0 0) ∧ But [] w wq)) (fun i _ => m - (intOf i).toNat)
  case atStart => exact ⟨0, rfl, by omega, (unhide RV).ext fun i hi => by rw [if_neg (by omega)], unhide BV⟩
  case round =>
    obtain ⟨k, rfl, hkm, HI⟩ := hrel
    rename World => wq
    by_cases hlt : k < m
    · obtain ⟨b, off, x, rfl, c0, e0⟩ := unhide HV k hlt
      have c0' := (unhide HI).2.cell_some c0 (by simp)
      obtain ⟨x1, y1, c1, -, f1⟩ := (unhide HI).1 k hlt
      have E0 := hide e0
      clear e0 c0
      go_wp2
      refine ⟨⟨k + 1, by go_num, by omega, ?_, ?_⟩, by simp [intOf]; omega⟩
      · refine ((unhide HI).1.set k _ _).ext fun i hi => ?_
        by_cases h1 : i = k
        · rw [if_pos h1, if_pos (by omega), h1, ← unhide E0]
          rfl
        · rw [if_neg h1]
          by_cases h2 : i < k
          · rw [if_pos h2, if_pos (by omega)]
          · rw [if_neg h2, if_neg (by omega)]
      · exact (unhide HI).2.setCell (.inr (by rw [unhide HG]; exact Nat.le_refl _)) _
    · obtain rfl : k = m := by omega
      have hC : CAt wq (.slice (some ⟨G, 0, none⟩) k k) k (fun j => (f j, can 0)) := ((unhide HI).1.ext fun i hi => by rw [if_pos hi]).at (Nat.le_refl _)
      have TF' := hide (unhide TF _ wq hC)
      have BQ := hide (unhide HI).2
      clear hC TF HI RV BV
      go_wp2_with fail
      refine (unhide TF').mono ?_
      rintro r w1 ⟨g1, rfl, hg1, hr1, hb1⟩
      have R1 := hide (And.intro (Nat.le_trans (unhide BQ).size hg1) (And.intro hr1 ((unhide BQ).trans' hb1)))
      clear hr1 hb1 hg1 TF' BQ
      go_wp2
      go_loopw [51] (fun i wq => ∃ j : Nat, i = .int .i64 (j : Int) ∧ j ≤ k ∧ Hid (CRow wq g1 k (fun i => if i < j then cpow c1 (T1 i) n else T1 i) ∧ But [] w wq)) (fun i _ => k - (intOf i).toNat)
      case atStart => exact ⟨0, rfl, by omega, (unhide R1).2.1.ext fun i hi => by rw [if_neg (by omega)], (unhide R1).2.2⟩
      case round =>
        obtain ⟨j, rfl, hjk, HI⟩ := hrel
        rename World => wq2
        by_cases hlt2 : j < k
        · obtain ⟨x, y, c0, e0, f0⟩ := (unhide HI).1 j hlt2
          have E0 : Hid (cx x y = T1 j) := e0.trans (if_neg (by omega))
          clear e0
          go_wp2_with fail
          refine (power_any x y n hn _).mono ?_
          rintro r w2 ⟨x2, y2, q2, rfl, rfl, h2⟩
          have H2 := hide h2
          clear h2
          go_wp2
          refine ⟨⟨j + 1, by go_num, by omega, ?_, ?_⟩, by simp [intOf]; omega⟩
          · refine (((unhide HI).1.but ((But.refl [] _).drewN q2) (by simp)).set j _ _).ext fun i hi => ?_
            by_cases h1 : i = j
            · rw [if_pos h1, if_pos (by omega), h1, ← unhide E0]
              exact unhide H2
            · rw [if_neg h1]
              by_cases h2 : i < j
              · rw [if_pos h2, if_pos (by omega)]
              · rw [if_neg h2, if_neg (by omega)]
          · exact ((unhide HI).2.drewN q2).setCell (.inr (unhide R1).1) _
        · obtain rfl : j = k := by omega
          have hC : CAt wq2 (.slice (some ⟨g1, 0, none⟩) j j) j (fun i => cpow c1 (T1 i) n) := ((unhide HI).1.ext fun i hi => by rw [if_pos hi]).at (Nat.le_refl _)
          have TT' := hide (unhide TT _ wq2 hC)
          have BQ := hide (unhide HI).2
          clear hC TT HI R1
          go_wp2_with fail
          refine (unhide TT').mono ?_
          rintro r w3 ⟨g2, rfl, hg2, hr2, hb2⟩
          have bw3 := (unhide BQ).trans' hb2
          have hmF := unhide MF w3
          have rW := unhide RF w3
          have bW : But [] w3 (w3.alloc (.cells (madeCells #[.float .f64 0] j) 32)) := (But.refl _ _).alloc _
          obtain ⟨W, hW⟩ : ∃ W, W = w3.alloc (.cells (madeCells #[.float .f64 0] j) 32) := ⟨_, rfl⟩
          rw [← hW] at hmF rW bW
          obtain ⟨G3, hG3⟩ : ∃ G3, G3 = w3.heap.size := ⟨_, rfl⟩
          rw [← hG3] at hmF rW
          have HW := hide (And.intro (hr2.but bW (by simp)) (And.intro rW (And.intro (bw3.trans' bW) (show w.heap.size ≤ G3 by rw [hG3]; exact bw3.size))))
          have ne : Hid (0 < j → g2 ≠ G3) := fun h0 => by have := hr2.lt h0; omega
          clear hr2 hb2 hg2 bw3 rW bW hW hG3 TT' BQ
          go_wp2
          go_loopw [73] (fun i wq => ∃ l : Nat, i = .int .i64 (l : Int) ∧ l ≤ j ∧ Hid (CRow wq g2 j T2 ∧ FRow wq G3 j (fun i => if i < l then (T2 i).1 else can 0) ∧ But [] w wq)) (fun i _ => j - (intOf i).toNat)
          case atStart => exact ⟨0, rfl, by omega, (unhide HW).1, (unhide HW).2.1.ext fun i hi => by rw [if_neg (by omega)], (unhide HW).2.2.1⟩
          case round =>
            obtain ⟨l, rfl, hlj, HI⟩ := hrel
            rename World => wq3
            by_cases hlt3 : l < j
            · obtain ⟨x, y, c0, e0, -⟩ := (unhide HI).1 l hlt3
              obtain ⟨x1, c1, -, f1⟩ := (unhide HI).2.1 l hlt3
              have E0 := hide e0
              clear e0
              go_wp2
              refine ⟨⟨l + 1, by go_num, by omega, ?_, ?_, ?_⟩, by simp [intOf]; omega⟩
              · exact (unhide HI).1.but ((But.refl [G3] _).setCell (p := ⟨G3, l, none⟩) (.inl (by simp)) _) (by simpa using unhide ne (by omega))
              · refine ((unhide HI).2.1.set l _).ext fun i hi => ?_
                by_cases h1 : i = l
                · rw [if_pos h1, if_pos (by omega), h1, ← unhide E0]
                  rfl
                · rw [if_neg h1]
                  by_cases h2 : i < l
                  · rw [if_pos h2, if_pos (by omega)]
                  · rw [if_neg h2, if_neg (by omega)]
              · exact (unhide HI).2.2.setCell (.inr (unhide HW).2.2.2) _
            · obtain rfl : l = j := by omega
              go_wp2
              refine bodyPost_ret (v := .tuple #[.slice (some ⟨G3, 0, none⟩) l l, .nilIface]) (by simp [results, Tryd.results4, go_sem]) rfl ?_
              exact ⟨_, rfl, ((unhide HI).2.1.ext fun i hi => by rw [if_pos hi]).at (Nat.le_refl _), (unhide HI).2.2⟩
end Go.Proofs.YtinhoigcajddpaaDoor
