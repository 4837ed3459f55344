/- Numbers turned, as the Go text of package wave does it: halves are turned by themselves, and put together. -/
import Derived.Test.YtinhoigcajddpaaDoorKW4
namespace Go.Proofs.YtinhoigcajddpaaDoor
open Go.RowKit

def cadd (a b : CV) : CV := (fop .add a.1 b.1, fop .add a.2 b.2)
def csub (a b : CV) : CV := (fop .sub a.1 b.1, fop .sub a.2 b.2)
def rb (back : Bool) (z : CV) : CV := if back then z else (z.1, fneg z.2)
/-- 2 to the power of e numbers, turned -/
def tn (back : Bool) : Nat → (Nat → CV) → Nat → CV
  | 0, f, i => f i
  | e + 1, f, i =>
    if i < 2 ^ e then cadd (tn back e (fun k => f (2 * k)) i) (cprod (rb back (wr (e + 1) i)) (tn back e (fun k => f (2 * k + 1)) i))
    else csub (tn back e (fun k => f (2 * k)) (i - 2 ^ e)) (cprod (rb back (wr (e + 1) (i - 2 ^ e))) (tn back e (fun k => f (2 * k + 1)) (i - 2 ^ e)))
/-- as far as halves have been put together -/
def half (S D : Nat → CV) (m k i : Nat) : CV := if i < k then S i else if m ≤ i ∧ i < m + k then D (i - m) else cx 0 0
theorem half_end (S D : Nat → CV) (m i : Nat) (hi : i < 2 * m) : half S D m m i = if i < m then S i else D (i - m) := by
  unfold half
  by_cases h : i < m
  · rw [if_pos h, if_pos h]
  · rw [if_neg h, if_neg h, if_pos (by omega)]
theorem half_start (S D : Nat → CV) (m i : Nat) : half S D m 0 i = cx 0 0 := by
  unfold half
  rw [if_neg (by omega), if_neg (by omega)]
theorem half_step (S D : Nat → CV) (m k i : Nat) (hk : k < m) : (if i = k + m then D k else if i = k then S k else half S D m k i) = half S D m (k + 1) i := by
  unfold half
  by_cases h1 : i = k + m
  · subst h1
    rw [if_pos rfl, if_neg (by omega), if_pos (by omega), show k + m - m = k from by omega]
  · rw [if_neg h1]
    by_cases h2 : i = k
    · subst h2
      rw [if_pos rfl, if_pos (by omega)]
    · rw [if_neg h2]
      by_cases h3 : i < k
      · rw [if_pos h3, if_pos (by omega)]
      · rw [if_neg h3, if_neg (show ¬ i < k + 1 by omega)]
        by_cases h4 : m ≤ i ∧ i < m + k
        · rw [if_pos h4, if_pos (by omega)]
        · rw [if_neg h4, if_neg (by omega)]

set_option maxHeartbeats 8000000 in
set_option maxRecDepth 100000 in
theorem turned_any (back : Bool) : ∀ (e : Nat), e ≤ 8 → ∀ (v : Value) (f : Nat → CV) (w : World), CAt w v (2 ^ e) f → Calls Tryd.prog 15 #[v, .bool back] w fun r w' => ∃ g, r = .returned (.slice (some ⟨g, 0, none⟩) (2 ^ e) (2 ^ e)) ∧ w.heap.size ≤ g ∧ CRow w' g (2 ^ e) (tn back e f) ∧ But [] w w'
  | 0, _, v, f, w, hv => by
    obtain ⟨a, cap, rfl, hcap, hc⟩ := hv
    obtain ⟨b, off, x, y, rfl, c0, e0⟩ := hc 0 (by omega)
    rw [Nat.add_zero] at c0
    have E0 := hide e0
    have hmk := run_makeC w 1 (by omega)
    have bV : But [] w (w.alloc (.cells (madeCells #[.complex .f64 0 0] 1) 36)) := (But.refl _ _).alloc _
    have rV := made_row w 1
    obtain ⟨V, hV⟩ : ∃ V, V = w.alloc (.cells (madeCells #[.complex .f64 0 0] 1) 36) := ⟨_, rfl⟩
    rw [← hV] at hmk bV rV
    obtain ⟨G, hG⟩ : ∃ G, G = w.heap.size := ⟨_, rfl⟩
    rw [← hG] at hmk rV
    obtain ⟨x0, y0, d0, -, f0⟩ := rV 0 (by omega)
    have c0' := bV.cell_some c0 (by simp)
    have RV := hide rV
    have BV := hide bV
    have HG := hide hG
    have hst := store_c
    have hbG : b ≠ G := by
      have h1 : b < w.heap.size := lt_of_cell c0
      omega
    clear rV bV hG hV hc e0 c0
    rw [Nat.pow_zero] at hcap ⊢
    have hmk' : (Instr.makeSlice 35 (.int .i64 1) (.int .i64 1)).run Tryd.prog w = .ok (.slice (some ⟨G, 0, none⟩) 1 1) V := hmk
    go_enter Tryd.func15, Tryd.ntmps15
    go_wp2
    go_ret
    refine ⟨G, rfl, by rw [unhide HG]; exact Nat.le_refl _, ((unhide RV).set 0 _ _).ext fun i hi => ?_, (unhide BV).setCell (.inr (by rw [unhide HG]; exact Nat.le_refl _)) _⟩
    obtain rfl : i = 0 := by omega
    rw [if_pos rfl]
    exact unhide E0
  | e + 1, h8, v, f, w, hv => by
    have hrt := roots_any e h8
    have ih := turned_any back e (by omega)
    obtain ⟨m, hm⟩ : ∃ m, m = 2 ^ e := ⟨_, rfl⟩
    have e1 : 2 ^ (e + 1) = 2 * m := by rw [hm, Nat.pow_succ, Nat.mul_comm]
    have hm1 : 1 ≤ m := by rw [hm]; exact Nat.one_le_two_pow
    have hm2 : m ≤ 128 := by rw [hm]; exact (show 2 ^ e ≤ 2 ^ 7 from Nat.pow_le_pow_right (by omega) (by omega))
    rw [e1] at hrt hv ⊢
    rw [← hm] at hrt ih
    obtain ⟨fE, hfE⟩ : ∃ fE, fE = tn back e (fun k => f (2 * k)) := ⟨_, rfl⟩
    obtain ⟨fO, hfO⟩ : ∃ fO, fO = tn back e (fun k => f (2 * k + 1)) := ⟨_, rfl⟩
    obtain ⟨S, hS⟩ : ∃ S : Nat → CV, S = fun i => cadd (fE i) (cprod (rb back (wr (e + 1) i)) (fO i)) := ⟨_, rfl⟩
    obtain ⟨D, hD⟩ : ∃ D : Nat → CV, D = fun i => csub (fE i) (cprod (rb back (wr (e + 1) i)) (fO i)) := ⟨_, rfl⟩
    have hfin : ∀ i, i < 2 * m → half S D m m i = tn back (e + 1) f i := fun i hi => by
      rw [half_end _ _ _ _ hi, tn, ← hm, ← hfE, ← hfO, hS, hD]
    have i1 := fun v1 (w1 : World) (h : CAt w1 v1 m (fun k => f (2 * k))) => ih v1 _ w1 h
    have i2 := fun v2 (w1 : World) (h : CAt w1 v2 m (fun k => f (2 * k + 1))) => ih v2 _ w1 h
    rw [← hfE] at i1
    rw [← hfO] at i2
    have hmk := run_makeC w (2 * m) (by omega)
    have bV : But [] w (w.alloc (.cells (madeCells #[.complex .f64 0 0] (2 * m)) 36)) := (But.refl _ _).alloc _
    have rV := made_row w (2 * m)
    have hszV : (w.alloc (.cells (madeCells #[.complex .f64 0 0] (2 * m)) 36)).heap.size = w.heap.size + 1 := by simp
    obtain ⟨V, hV⟩ : ∃ V, V = w.alloc (.cells (madeCells #[.complex .f64 0 0] (2 * m)) 36) := ⟨_, rfl⟩
    rw [← hV] at hmk bV rV hszV
    obtain ⟨G, hG⟩ : ∃ G, G = w.heap.size := ⟨_, rfl⟩
    rw [← hG] at hmk rV hszV
    have hpa := parted_any v m f V (hv.but bV) hm2
    obtain ⟨a, cap, rfl, hcap, -⟩ := hv
    obtain ⟨n, hn⟩ : ∃ n, n = 2 * m := ⟨_, rfl⟩
    rw [← hn] at hmk rV hrt hcap hpa hfin ⊢
    have hn1 : n ≤ 2 * m := by omega
    have hn2 : 2 * m ≤ n := by omega
    have hdiv : (n : Int) / 2 = (m : Int) := by omega
    have hdiv' : (n : Int).tdiv 2 = (m : Int) := by rw [tdiv_nat]; omega
    have hne1 : ((n : Int) == 1) = false := by
      rw [beq_eq_false_iff_ne]
      omega
    have HFIN := hide hfin
    have HS := hide hS
    have HD := hide hD
    have RV := hide rV
    have BV := hide bV
    have HG := hide hG
    have HZ := hide hszV
    have I1 := hide i1
    have I2 := hide i2
    have HPA := hide hpa
    have HRT := hide hrt
    clear hfin hS hD rV bV hG hszV i1 i2 hpa hrt ih hV hfE hfO hm e1 hn
    go_enter Tryd.func15, Tryd.ntmps15
    go_wp2_with fail
    refine (unhide HPA).mono ?_
    rintro r w1 ⟨v1, v2, rfl, hv1, hv2, hb1⟩
    have V2 := hide hv2
    have B1 := hide hb1
    have I1' := hide (unhide I1 v1 w1 hv1)
    clear hv1 hv2 hb1 HPA I1
    go_wp2_with fail
    refine (unhide I1').mono ?_
    rintro r w2 ⟨g1, rfl, hg1, hr1, hb2⟩
    have hv2 := (unhide V2).but hb2
    have I2' := hide (unhide I2 v2 w2 hv2)
    have R1 := hide hr1
    have B2 := hide ((unhide B1).trans' hb2)
    have G1 := hide (Nat.le_trans (unhide B1).size hg1)
    clear hr1 hb2 hv2 V2 I2 I1' hg1
    go_wp2_with fail
    refine (unhide I2').mono ?_
    rintro r w3 ⟨g2, rfl, hg2, hr2, hb3⟩
    have R1' := hide ((unhide R1).but hb3 (by simp))
    have R2 := hide hr2
    have B3 := hide ((unhide B2).trans' hb3)
    have G2 := hide (Nat.le_trans (unhide B2).size hg2)
    clear hr2 hb3 hg2 I2' R1 B2
    go_wp2_with fail
    refine (unhide HRT _).mono ?_
    rintro r w4 ⟨g3, rfl, hg3, hr3, hb4⟩
    have hgs := unhide HZ
    have hg1 := unhide G1
    have hg2 := unhide G2
    have hg3' := Nat.le_trans (unhide B3).size hg3
    have ne1 : g1 ≠ G := by omega
    have ne2 : g2 ≠ G := by omega
    have ne3 : g3 ≠ G := by omega
    have A1 := hide ((unhide R1').but hb4 (by simp))
    have A2 := hide ((unhide R2).but hb4 (by simp))
    have A3 := hide hr3
    have B4 := hide ((unhide B3).trans' hb4)
    clear hr3 hb4 hg3 hg3' hg1 hg2 hgs R1' R2 B3 HRT HZ G1 G2
    go_wp2
    go_loopw [42] (fun i wq => ∃ k : Nat, i = .int .i64 (k : Int) ∧ k ≤ m ∧ Hid (CRow wq G n (half S D m k) ∧ But [G] w4 wq)) (fun i _ => m - (intOf i).toNat)
    case atStart => exact ⟨0, rfl, by omega, ((unhide RV).but (unhide B4) (by simp)).ext fun i hi => (half_start S D m i).symm, But.refl _ _⟩
    case round =>
      obtain ⟨k, rfl, hkm, HI⟩ := hrel
      rename World => wq
      have hst := store_c
      have hadd := fun t a b c d (w : World) => run_cadd (P := Tryd.prog) w t a b c d
      have hsub := fun t a b c d (w : World) => run_csub (P := Tryd.prog) w t a b c d
      have hng := fun x (w : World) => run_neg (P := Tryd.prog) w x
      by_cases hlt : k < m
      · obtain ⟨xE, yE, cE, eE, -⟩ := unhide A1 k hlt
        obtain ⟨xO, yO, cO, eO, -⟩ := unhide A2 k hlt
        obtain ⟨xR, yR, cR, eR, -⟩ := unhide A3 k hlt
        obtain ⟨x0, y0, c0, -, f0⟩ := (unhide HI).1 k (by omega)
        obtain ⟨x1, y1, c1, -, f1⟩ := (unhide HI).1 (k + m) (by omega)
        have cE' := (unhide HI).2.cell_some cE (by simpa using ne1)
        have cO' := (unhide HI).2.cell_some cO (by simpa using ne2)
        have cR' := (unhide HI).2.cell_some cR (by simpa using ne3)
        have EE := hide eE
        have EO := hide eO
        have ER := hide eR
        clear cE cO cR eE eO eR
        have hkm1 : k ≠ k + m := by omega
        have hkn : k + m < n := by omega
        have ht1 : ((k : Int) + (m : Int)).toNat = k + m := by omega
        have fin : ∀ (x2 y2 x3 y3 x4 y4 : Nat) (q3 q4 : Nat), cx x2 y2 = cprod (rb back (cx xR yR)) (cx xO yO) → cx x3 y3 = cadd (cx xE yE) (cx x2 y2) → cx x4 y4 = csub (cx xE yE) (cx x2 y2) → CRow (((wq.drewN q3).setCell ⟨G, k, none⟩ (.complex .f64 x3 y3)).drewN q4 |>.setCell ⟨G, k + m, none⟩ (.complex .f64 x4 y4)) G n (half S D m (k + 1)) ∧ But [G] w4 (((wq.drewN q3).setCell ⟨G, k, none⟩ (.complex .f64 x3 y3)).drewN q4 |>.setCell ⟨G, k + m, none⟩ (.complex .f64 x4 y4)) := fun x2 y2 x3 y3 x4 y4 q3 q4 h2 h3 h4 => by
          refine ⟨?_, ?_⟩
          · refine (((((unhide HI).1.but ((But.refl [] _).drewN q3) (by simp)).set k x3 y3).but ((But.refl [] _).drewN q4) (by simp)).set (k + m) x4 y4).ext fun i hi => ?_
            rw [← half_step S D m k i hlt, h3, h4, h2, unhide HS, unhide HD, unhide EE, unhide EO, unhide ER]
          · exact (((((unhide HI).2.drewN q3).setCell (p := ⟨G, k, none⟩) (.inl (by simp)) _).drewN q4).setCell (p := ⟨G, k + m, none⟩) (.inl (by simp)) _)
        have FIN := hide fin
        clear fin
        cases back
        · go_wp2_with fail
          refine (product_any xR (Op.negFloat .f64 yR) xO yO _).mono ?_
          rintro r w5 ⟨x2, y2, q2, rfl, rfl, h2⟩
          have H2 := hide h2
          clear h2
          go_wp2
          refine ⟨⟨k + 1, by go_num, by omega, unhide FIN x2 y2 _ _ _ _ _ _ ?_ ?_ ?_⟩, by simp [intOf]; omega⟩
          · rw [unhide H2]; simp [rb, cx, can_neg]
          · simp only [cx, cadd, can_flB]
          · simp only [cx, csub, can_flB]
        · go_wp2_with fail
          refine (product_any xR yR xO yO _).mono ?_
          rintro r w5 ⟨x2, y2, q2, rfl, rfl, h2⟩
          have H2 := hide h2
          clear h2
          go_wp2
          refine ⟨⟨k + 1, by go_num, by omega, unhide FIN x2 y2 _ _ _ _ _ _ ?_ ?_ ?_⟩, by simp [intOf]; omega⟩
          · rw [unhide H2]; simp [rb, cx]
          · simp only [cx, cadd, can_flB]
          · simp only [cx, csub, can_flB]
      · obtain rfl : k = m := by omega
        go_wp2
        go_ret
        refine ⟨G, rfl, by rw [unhide HG]; exact Nat.le_refl _, (unhide HI).1.ext fun i hi => unhide HFIN i hi, ?_⟩
        exact ((unhide BV).trans' (unhide B4)).trans (unhide HI).2 (fun x hx => by simp at hx; subst hx; exact .inr (by rw [unhide HG]; exact Nat.le_refl _))
end Go.Proofs.YtinhoigcajddpaaDoor
