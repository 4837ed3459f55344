/- Rows of complex numbers in memory; all roots of a number, as the Go text of package wave makes them. -/
import Derived.Laws.MakeOwn
import Derived.OwnWalk
import Derived.WalkSpells
import Derived.Test.YtinhoigcajddpaaDoorKW2
namespace Go.Proofs.YtinhoigcajddpaaDoor
open Go.RowKit

/-- block g holds, from its beginning on, n complex numbers, which may be written over -/
def CRow (w : World) (g n : Nat) (f : Nat → CV) : Prop := ∀ i, i < n → ∃ x y, w.cell? ⟨g, i, none⟩ = some (.complex .f64 x y) ∧ cx x y = f i ∧ w.frozen? ⟨g, i, none⟩ = false
theorem CRow.but {w w' : World} {g n : Nat} {f : Nat → CV} {l : List Nat} (h : CRow w g n f) (hb : But l w w') (hn : g ∉ l) : CRow w' g n f := fun i hi => by
  obtain ⟨x, y, h1, h2, h3⟩ := h i hi
  exact ⟨x, y, hb.cell_some h1 hn, h2, (hb.frozen (p := ⟨g, i, none⟩) (lt_of_cell h1) hn).trans h3⟩
theorem CRow.ext {w : World} {g n : Nat} {f f' : Nat → CV} (h : CRow w g n f) (he : ∀ i, i < n → f i = f' i) : CRow w g n f' := fun i hi => by
  obtain ⟨x, y, h1, h2, h3⟩ := h i hi
  exact ⟨x, y, h1, h2.trans (he i hi), h3⟩
theorem CRow.set {w : World} {g n : Nat} {f : Nat → CV} (h : CRow w g n f) (j x y : Nat) : CRow (w.setCell ⟨g, j, none⟩ (.complex .f64 x y)) g n (fun i => if i = j then cx x y else f i) := fun i hi => by
  obtain ⟨a, b, h1, h2, h3⟩ := h i hi
  by_cases e : i = j
  · subst e
    exact ⟨x, y, World.cell?_setCell_same _ _ _ h1, by simp, by simpa using h3⟩
  · exact ⟨a, b, by rw [World.cell?_setCell_other _ _ _ _ (fun h => e (Addr.mk.inj h).2.1.symm)]; exact h1, by simp [e, h2], by simpa using h3⟩
theorem CRow.lt {w : World} {g n : Nat} {f : Nat → CV} (h : CRow w g n f) (h0 : 0 < n) : g < w.heap.size := by
  obtain ⟨x, y, h1, -⟩ := h 0 h0
  exact lt_of_cell h1
/-- the slice v holds n complex numbers -/
def CAt (w : World) (v : Value) (n : Nat) (f : Nat → CV) : Prop := ∃ a cap, v = .slice a n cap ∧ n ≤ cap ∧ ∀ i, i < n → ∃ b off x y, a = some ⟨b, off, none⟩ ∧ w.cell? ⟨b, off + i, none⟩ = some (.complex .f64 x y) ∧ cx x y = f i
theorem CAt.but {w w' : World} {v : Value} {n : Nat} {f : Nat → CV} (h : CAt w v n f) (hb : But [] w w') : CAt w' v n f := by
  obtain ⟨a, cap, e, hc, h⟩ := h
  refine ⟨a, cap, e, hc, fun i hi => ?_⟩
  obtain ⟨b, off, x, y, e1, h1, h2⟩ := h i hi
  exact ⟨b, off, x, y, e1, hb.cell_some h1 (by simp), h2⟩
theorem CRow.at {w : World} {g n cap : Nat} {f : Nat → CV} (h : CRow w g n f) (hc : n ≤ cap) : CAt w (.slice (some ⟨g, 0, none⟩) n cap) n f :=
  ⟨_, cap, rfl, hc, fun i hi => by
    obtain ⟨x, y, h1, h2, -⟩ := h i hi
    exact ⟨g, 0, x, y, rfl, by rw [Nat.zero_add]; exact h1, h2⟩⟩

theorem info_c128 : ∃ i, Tryd.prog.info? 36 = some i ∧ i.zero = some (.complex .f64 0 0) ∧ i.size = 1 ∧ i.bytes = 16 := by
  have h : (Tryd.prog.info? 36).map (fun i => (i.zero, i.size, i.bytes)) = some (some (.complex .f64 0 0), 1, 16) := by kernel_rfl
  cases e : Tryd.prog.info? 36 with
  | none => rw [e] at h; simp at h
  | some i =>
    rw [e] at h
    simp only [Option.map_some, Option.some.injEq, Prod.mk.injEq] at h
    exact ⟨i, rfl, h.1, h.2.1, h.2.2⟩
theorem run_makeC (wx : World) (n : Nat) (h : n < 1000000) : (Instr.makeSlice 35 (.int .i64 (n : Int)) (.int .i64 (n : Int))).run Tryd.prog wx = .ok (.slice (some ⟨wx.heap.size, 0, none⟩) n n) (wx.alloc (.cells (madeCells #[.complex .f64 0 0] n) 36)) := by
  obtain ⟨i, hi, hz, hs, hb⟩ := info_c128
  have hr := run_make (P := Tryd.prog) wx 35 36 i _ Tryd.underlying35 hi hz .i64 .i64 (n : Int) (n : Int) (by omega) (by omega) (by rw [hb]; omega) (by omega)
  rw [hs, Nat.mul_one, Int.toNat_natCast] at hr
  exact hr
theorem made_row (wx : World) (n : Nat) : CRow (wx.alloc (.cells (madeCells #[.complex .f64 0 0] n) 36)) wx.heap.size n (fun _ => cx 0 0) := fun i hi => by
  refine ⟨0, 0, ?_, rfl, by simp⟩
  rw [World.cell?_alloc_new]
  simp [madeCells, hi, Nat.mod_one]

theorem store_c (w : World) (a : Addr) (x y : Nat) (m : Mode) : (store a (.complex .f64 x y) m).run Tryd.prog w = stored Tryd.prog w a (.complex .f64 x y) m := run_store Tryd.prog w a _ m rfl
theorem store_f (w : World) (a : Addr) (x : Nat) (m : Mode) : (store a (.float .f64 x) m).run Tryd.prog w = stored Tryd.prog w a (.float .f64 x) m := run_store Tryd.prog w a _ m rfl

/-- the roots of 2 to the power of e -/
def wr (e : Nat) : Nat → CV
  | 0 => c1
  | k + 1 => cprod (wr e k) (rt e)

set_option maxHeartbeats 4000000 in
set_option maxRecDepth 100000 in
theorem roots_any (e : Nat) (h8 : e + 1 ≤ 8) (w : World) : Calls Tryd.prog 23 #[.int .i64 ((2 ^ (e + 1) : Nat) : Int)] w fun r w' => ∃ g, r = .returned (.slice (some ⟨g, 0, none⟩) (2 ^ e) (2 ^ e)) ∧ w.heap.size ≤ g ∧ CRow w' g (2 ^ e) (wr (e + 1)) ∧ But [] w w' := by
  have hfr := firstRoot_any (e + 1) (by omega) h8 w
  obtain ⟨m, hm⟩ : ∃ m, m = 2 ^ e := ⟨_, rfl⟩
  have e1 : 2 ^ (e + 1) = m * 2 := by rw [hm, Nat.pow_succ]
  have hm1 : 1 ≤ m := by rw [hm]; exact Nat.one_le_two_pow
  have hm2 : m ≤ 128 := by rw [hm]; exact (show 2 ^ e ≤ 2 ^ 7 from Nat.pow_le_pow_right (by omega) (by omega))
  rw [e1] at hfr ⊢
  rw [← hm]
  obtain ⟨n, hn⟩ : ∃ n, n = m * 2 := ⟨_, rfl⟩
  rw [← hn] at hfr ⊢
  have hn512 : n ≤ 512 := by omega
  have hdiv : (n : Int) / 2 = (m : Int) := by omega
  have hdiv' : (n : Int).tdiv 2 = (m : Int) := by rw [tdiv_nat]; omega
  have hmk := fun wx => run_makeC wx m (by omega)
  have HF := hide hfr
  clear hfr hm hn e1
  go_enter Tryd.func23, Tryd.ntmps23
  go_wp2_with fail
  refine (unhide HF).mono ?_
  rintro r w1 ⟨x, y, q1, rfl, rfl, h1⟩
  have H1 := hide h1
  clear h1 HF
  obtain ⟨V, hV⟩ : ∃ V, V = (w.drewN q1).alloc (.cells (madeCells #[.complex .f64 0 0] m) 36) := ⟨_, rfl⟩
  have rV : CRow V w.heap.size m (fun _ => cx 0 0) := by rw [hV]; exact made_row (w.drewN q1) m
  have bV : But [] w V := by rw [hV]; exact ((But.refl [] w).drewN q1).alloc _
  obtain ⟨G, hG⟩ : ∃ G, G = w.heap.size := ⟨_, rfl⟩
  rw [← hG] at rV
  have hmk' : (Instr.makeSlice 35 (.int .i64 (m : Int)) (.int .i64 (m : Int))).run Tryd.prog (w.drewN q1) = .ok (.slice (some ⟨G, 0, none⟩) m m) V := by rw [hmk, hV, hG]; rfl
  obtain ⟨x0, y0, c0, -, f0⟩ := rV 0 (by omega)
  have RV := hide rV
  have BV := hide bV
  have HG := hide hG
  clear rV bV hG hmk hV
  have hst := store_c
  go_wp2
  go_loopw [5] (fun i wq => ∃ k : Nat, i = .int .i64 (k : Int) ∧ 1 ≤ k ∧ k ≤ m ∧ Hid (CRow wq G m (fun i => if i < k then wr (e + 1) i else cx 0 0) ∧ But [] w wq)) (fun i _ => m - (intOf i).toNat)
  case atStart =>
    refine ⟨1, rfl, by omega, hm1, ((unhide RV).set 0 _ _).ext fun i hi => ?_, (unhide BV).setCell (.inr (by rw [unhide HG]; exact Nat.le_refl _)) _⟩
    by_cases h : i = 0
    · subst h; rfl
    · rw [if_neg h, if_neg (by omega)]
  case round =>
    obtain ⟨k, rfl, hk1, hkm, HI⟩ := hrel
    rename World => wq
    by_cases hlt : k < m
    · obtain ⟨a0, b0, ca, ea, -⟩ := (unhide HI).1 (k - 1) (by omega)
      obtain ⟨a1, b1, cb, -, fb⟩ := (unhide HI).1 k hlt
      have EA := hide ea
      clear ea RV BV
      have ek : (k : Int) - 1 = ((k - 1 : Nat) : Int) := by omega
      have ek2 : ((k : Int) - 1).toNat = k - 1 := by omega
      go_wp2_with fail
      refine (product_any a0 b0 x y _).mono ?_
      rintro r w1 ⟨x2, y2, q2, rfl, rfl, h2⟩
      have H2 := hide h2
      clear h2
      go_wp2
      refine ⟨⟨k + 1, by go_num, by omega, by omega, ?_, ?_⟩, by simp [intOf]; omega⟩
      · refine (((unhide HI).1.but ((But.refl [] _).drewN q2) (by simp)).set k x2 y2).ext fun i hi => ?_
        by_cases h : i = k
        · rw [if_pos h, if_pos (by omega), unhide H2, unhide EA, if_pos (by omega), unhide H1, h]
          obtain ⟨j, rfl⟩ : ∃ j, k = j + 1 := ⟨k - 1, by omega⟩
          rfl
        · rw [if_neg h]
          by_cases h' : i < k
          · rw [if_pos h', if_pos (by omega)]
          · rw [if_neg h', if_neg (by omega)]
      · exact ((unhide HI).2.drewN q2).setCell (.inr (by rw [unhide HG]; exact Nat.le_refl _)) _
    · obtain rfl : k = m := by omega
      go_wp2
      go_ret
      exact ⟨G, rfl, by rw [unhide HG]; exact Nat.le_refl _, (unhide HI).1.ext fun i hi => by rw [if_pos hi], (unhide HI).2⟩
end Go.Proofs.YtinhoigcajddpaaDoor
