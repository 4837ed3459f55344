/- Numbers turned, as the Go text of package tontineref does it. -/
import Derived.Test.YtinhoigcajddpaaDoorKW8
import Derived.Test.YtinhoigcajddpaaDoorKW9
namespace Go.Proofs.YtinhoigcajddpaaDoor
open Go.RowKit

set_option maxHeartbeats 8000000 in
set_option maxRecDepth 100000 in
theorem refTurned_any (back : Bool) : ∀ (e : Nat), e ≤ 8 → ∀ (v : Value) (f : Nat → CV) (w : World), CAt w v (2 ^ e) f → Calls Tryd.prog 17 #[v, .bool back] w fun r w' => ∃ g, r = .returned (.slice (some ⟨g, 0, none⟩) (2 ^ e) (2 ^ e)) ∧ w.heap.size ≤ g ∧ CRow w' g (2 ^ e) (tn back e f) ∧ But [] w w'
  | 0, _, v, f, w, hv => by
    obtain ⟨a, cap, rfl, hcap, hc⟩ := hv
    obtain ⟨b, off, x, y, rfl, c0, e0⟩ := hc 0 (by omega)
    rw [Nat.add_zero] at c0
    have E0 := hide e0
    rw [Nat.pow_zero] at hcap ⊢
    clear hc e0
    go_enter Tryd.func17, Tryd.ntmps17
    go_wp2
    go_ret
    refine ⟨w.heap.size, rfl, Nat.le_refl _, fun i hi => ?_, (But.refl _ _).alloc _⟩
    obtain rfl : i = 0 := by omega
    exact ⟨x, y, by rw [World.cell?_alloc_new]; rfl, unhide E0, by simp⟩
  | e + 1, h8, v, f, w, hv => by
    have mixed : Tryd.prog.follows .mixedOrders = true := by kernel_rfl
    have hrt := refRoot_any (e + 1) (by omega) h8
    have ih := refTurned_any back e (by omega)
    obtain ⟨m, hm⟩ : ∃ m, m = 2 ^ e := ⟨_, rfl⟩
    have e1 : 2 ^ (e + 1) = 2 * m := by rw [hm, Nat.pow_succ, Nat.mul_comm]
    have hm1 : 1 ≤ m := by rw [hm]; exact Nat.one_le_two_pow
    have hm2 : m ≤ 128 := by rw [hm]; exact (show 2 ^ e ≤ 2 ^ 7 from Nat.pow_le_pow_right (by omega) (by omega))
    rw [e1] at hrt hv ⊢
    rw [← hm] at ih
    obtain ⟨fE, hfE⟩ : ∃ fE, fE = tn back e (fun k => f (2 * k)) := ⟨_, rfl⟩
    obtain ⟨fO, hfO⟩ : ∃ fO, fO = tn back e (fun k => f (2 * k + 1)) := ⟨_, rfl⟩
    obtain ⟨S, hS⟩ : ∃ S : Nat → CV, S = fun i => cadd (fE i) (cprod (rb back (wr (e + 1) i)) (fO i)) := ⟨_, rfl⟩
    obtain ⟨D, hD⟩ : ∃ D : Nat → CV, D = fun i => csub (fE i) (cprod (rb back (wr (e + 1) i)) (fO i)) := ⟨_, rfl⟩
    have hfin : ∀ i, i < 2 * m → half S D m m i = tn back (e + 1) f i := fun i hi => by
      rw [half_end _ _ _ _ hi, tn, ← hm, ← hfE, ← hfO, hS, hD]
    have i1 := fun v1 (w1 : World) (h : CAt w1 v1 m (fun k => f (2 * k))) => ih v1 _ w1 h
    have i2 := fun v2 (w1 : World) (h : CAt w1 v2 m (fun k => f (2 * k + 1))) => ih v2 _ w1 h
    rw [← hfE] at i1
    rw [← hfO] at i2
    have hmk := fun wx => run_makeC wx (2 * m) (by omega)
    have hmr := fun wx => made_row wx (2 * m)
    obtain ⟨a, cap, rfl, hcap, hc⟩ := hv
    obtain ⟨n, hn⟩ : ∃ n, n = 2 * m := ⟨_, rfl⟩
    rw [← hn] at hmk hmr hrt hcap hfin hc ⊢
    have hn1 : n ≤ 2 * m := by omega
    have hn2 : 2 * m ≤ n := by omega
    have hdiv : (n : Int) / 2 = (m : Int) := by omega
    have hdiv' : (n : Int).tdiv 2 = (m : Int) := by rw [tdiv_nat]; omega
    have hne1 : ((n : Int) == 1) = false := by
      rw [beq_eq_false_iff_ne]
      omega
    have HFIN := hide hfin
    have HS := hide hS
    have HD := hide hD
    have I1 := hide i1
    have I2 := hide i2
    have HRT := hide hrt
    have HMK := hide hmk
    have HMR := hide hmr
    have HC := hide hc
    have HN := hide hn
    clear hfin hS hD i1 i2 hrt ih hfE hfO hm e1 hn hmk hmr hc
    go_enter Tryd.func17, Tryd.ntmps17
    go_wp2
    go_loopw [6, 7, 8] (fun e o i wq => ∃ k : Nat, k ≤ m ∧ i = .int .i64 ((2 * k : Nat) : Int) ∧ Hid (Ev w.heap.size wq e k (fun i => f (2 * i)) ∧ Ev w.heap.size wq o k (fun i => f (2 * i + 1)) ∧ Two2 e o ∧ But [] w wq)) (fun _ _ i _ => n - (intOf i).toNat)
    case atStart => exact ⟨0, Nat.zero_le _, rfl, Ev.nil _ _ _, Ev.nil _ _ _, fun b hb => by simp [Value.ownBlock] at hb, But.refl _ _⟩
    case round =>
      obtain ⟨k, hk, rfl, HI⟩ := hrel
      rename World => wq
      by_cases hlt : k < m
      · obtain ⟨b, off, x, y, rfl, c0, e0⟩ := unhide HC (2 * k) (by omega)
        obtain ⟨b', off', x1, y1, eq1, c1, e1⟩ := unhide HC (2 * k + 1) (by omega)
        simp only [Option.some.injEq, Addr.mk.injEq, and_true] at eq1
        obtain ⟨rfl, rfl⟩ := eq1
        have R8 := fun id Q base => turned_r8 id Q base w wq b off n cap (2 * k) x y x1 y1 u6 u7 k (fun i => f (2 * i)) (fun i => f (2 * i + 1))
        have K0 := hide c0
        have K1 := hide c1
        have E0 := hide e0
        have E1 := hide e1
        clear c0 c1 e0 e1
        obtain ⟨p, hp⟩ : ∃ p, p = 2 * k := ⟨_, rfl⟩
        rw [← hp] at K0 K1 E0 E1 R8 ⊢
        have hpn : p + 1 < n := by omega
        have HP := hide hp
        have HR8 := hide R8
        clear hp R8
        go_wp2
        refine unhide HR8 8 _ _ (by simp) (by simp [Act.eval]) (by simp [Act.eval]) (by simp [Act.eval]) (by simp [Act.eval]) hpn (by omega) (by omega) (unhide K0) (unhide K1) (by have := unhide HP; rw [unhide E0, this]) (by have := unhide HP; rw [unhide E1, this]) (unhide HI).2.2.2 (unhide HI).1 (unhide HI).2.1 (unhide HI).2.2.1 ?_
        intro b1 b2 vE vO w' hb1 hE1 hO1 hT1
        have HF := hide (And.intro hE1 (And.intro hO1 (And.intro hT1 hb1)))
        clear hE1 hO1 hT1 hb1 HR8
        simp only [putted, List.foldl_cons, List.foldl_nil, Act.put, List.setIfInBounds_toArray, List.set_cons_zero, List.set_cons_succ]
        go_wp2
        refine ⟨⟨k + 1, by omega, by have := unhide HP; go_num, unhide HF⟩, by simp [intOf]; omega⟩
      · obtain rfl : k = m := by omega
        have hnn : ¬ ((2 * k : Nat) : Int) < (n : Int) := by omega
        obtain ⟨a1, d1, rfl⟩ := (unhide HI).1.form
        obtain ⟨a2, d2, rfl⟩ := (unhide HI).2.1.form
        have I1' := hide (unhide I1 _ wq (unhide HI).1.at)
        have V2 := hide (unhide HI).2.1.at
        have B1 := hide (unhide HI).2.2.2
        clear HI I1 HC
        go_wp2_with fail
        refine (unhide I1').mono ?_
        rintro r w2 ⟨g1, rfl, hg1, hr1, hb2⟩
        have hv2 := (unhide V2).but hb2
        have I2' := hide (unhide I2 _ w2 hv2)
        have R1 := hide hr1
        have B2 := hide ((unhide B1).trans' hb2)
        clear hr1 hb2 hv2 V2 I2 I1' hg1 B1
        go_wp2_with fail
        refine (unhide I2').mono ?_
        rintro r w3 ⟨g2, rfl, hg2, hr2, hb3⟩
        have hR1 := (unhide R1).but hb3 (by simp)
        have hB3 := (unhide B2).trans' hb3
        have hmk := unhide HMK w3
        have rV := unhide HMR w3
        have bV : But [] w3 (w3.alloc (.cells (madeCells #[.complex .f64 0 0] n) 36)) := (But.refl _ _).alloc _
        obtain ⟨V, hV⟩ : ∃ V, V = w3.alloc (.cells (madeCells #[.complex .f64 0 0] n) 36) := ⟨_, rfl⟩
        rw [← hV] at hmk rV bV
        obtain ⟨G, hG⟩ : ∃ G, G = w3.heap.size := ⟨_, rfl⟩
        rw [← hG] at hmk rV
        have ne1 : g1 ≠ G := by have := hR1.lt (by omega); omega
        have ne2 : g2 ≠ G := by have := hr2.lt (by omega); omega
        have A1 := hide (hR1.but bV (by simp))
        have A2 := hide (hr2.but bV (by simp))
        have RV := hide rV
        have BV := hide (hB3.trans' bV)
        have HG : Hid (w.heap.size ≤ G) := by rw [hG]; exact hB3.size
        clear hR1 hr2 hB3 hb3 hg2 rV bV hV hG I2' R1 B2 HMK HMR
        go_wp2
        go_loopw [12, 13] (fun z i wq => ∃ j x y : Nat, i = .int .i64 (j : Int) ∧ z = .complex .f64 x y ∧ j ≤ k ∧ Hid (cx x y = wr (e + 1) j ∧ CRow wq G n (half S D k j) ∧ But [G] V wq)) (fun _ i _ => k - (intOf i).toNat)
        case atStart => exact ⟨0, _, _, rfl, rfl, by omega, rfl, (unhide RV).ext fun i hi => (half_start S D k i).symm, But.refl _ _⟩
        case round =>
          obtain ⟨j, xR, yR, rfl, rfl, hjk, HI⟩ := hrel
          rename World => wq2
          by_cases hlt2 : j < k
          · obtain ⟨xE, yE, cE, eE, -⟩ := unhide A1 j hlt2
            obtain ⟨xO, yO, cO, eO, -⟩ := unhide A2 j hlt2
            have cE' := (unhide HI).2.2.cell_some cE (by simpa using ne1)
            have cO' := (unhide HI).2.2.cell_some cO (by simpa using ne2)
            have EE := hide eE
            have EO := hide eO
            clear cE cO eE eO
            have hng := fun x (w : World) => run_neg (P := Tryd.prog) w x
            -- what is left behind the product
            have rest : ∀ (x2 y2 q2 : Nat), cx x2 y2 = cprod (rb back (cx xR yR)) (cx xO yO) → ∀ (q x y q' x' y' q3 xN yN : Nat), cx x y = (fop .add (can xE) (can x2), fop .add (can yE) (can y2)) → cx x' y' = (fop .sub (can xE) (can x2), fop .sub (can yE) (can y2)) → cx xN yN = cprod (cx xR yR) (rt (e + 1)) →
                cx xN yN = wr (e + 1) (j + 1) ∧ CRow ((((((wq2.drewN q2).drewN q).setCell ⟨G, j, none⟩ (.complex .f64 x y)).drewN q').setCell ⟨G, j + k, none⟩ (.complex .f64 x' y')).drewN q3) G n (half S D k (j + 1)) ∧ But [G] V ((((((wq2.drewN q2).drewN q).setCell ⟨G, j, none⟩ (.complex .f64 x y)).drewN q').setCell ⟨G, j + k, none⟩ (.complex .f64 x' y')).drewN q3) := fun x2 y2 q2 h2 q x y q' x' y' q3 xN yN h3 h4 h5 => by
              refine ⟨?_, ?_, ?_⟩
              · rw [h5, (unhide HI).1]; rfl
              · refine ((((((unhide HI).2.1.but (((But.refl [] _).drewN q2).drewN q) (by simp)).set j x y).but ((But.refl [] _).drewN q') (by simp)).set (j + k) x' y').but ((But.refl [] _).drewN q3) (by simp)).ext fun i hi => ?_
                have h2a : can x2 = (cprod (rb back (cx xR yR)) (cx xO yO)).1 := congrArg Prod.fst h2
                have h2b : can y2 = (cprod (rb back (cx xR yR)) (cx xO yO)).2 := congrArg Prod.snd h2
                have s1 : cx x y = S j := by
                  rw [h3, h2a, h2b, unhide HS, (unhide HI).1, unhide EO]
                  show _ = cadd (fE j) _
                  rw [← unhide EE]
                  rfl
                have s2 : cx x' y' = D j := by
                  rw [h4, h2a, h2b, unhide HD, (unhide HI).1, unhide EO]
                  show _ = csub (fE j) _
                  rw [← unhide EE]
                  rfl
                rw [← half_step S D k j i hlt2, s1, s2]
              · exact ((((((unhide HI).2.2.drewN q2).drewN q).setCell (p := ⟨G, j, none⟩) (.inl (by simp)) _).drewN q').setCell (p := ⟨G, j + k, none⟩) (.inl (by simp)) _).drewN q3
            have RE := hide rest
            clear rest
            obtain ⟨x0, y0, c0, -, f0⟩ := (unhide HI).2.1 j (by omega)
            have C0 := hide c0
            have F0 := hide f0
            have cell2 : ∀ (q2 q x y : Nat), ∃ x1 y1, (((wq2.drewN q2).drewN q).setCell ⟨G, j, none⟩ (.complex .f64 x y)).cell? ⟨G, j + k, none⟩ = some (.complex .f64 x1 y1) ∧ (((wq2.drewN q2).drewN q).setCell ⟨G, j, none⟩ (.complex .f64 x y)).frozen? ⟨G, j + k, none⟩ = false ∧ (((wq2.drewN q2).drewN q).setCell ⟨G, j, none⟩ (.complex .f64 x y)).cell? ⟨g1, j, none⟩ = some (.complex .f64 xE yE) := fun q2 q x y => by
              obtain ⟨x1, y1, c1, -, f1⟩ := ((unhide HI).2.1.but (((But.refl [] _).drewN q2).drewN q) (by simp)).set j x y (j + k) (by omega)
              exact ⟨x1, y1, c1, f1, ((But.refl [G] ((wq2.drewN q2).drewN q)).setCell (p := ⟨G, j, none⟩) (.inl (by simp)) (.complex .f64 x y)).cell_some cE' (by simpa using ne1)⟩
            have C2 := hide cell2
            have CE := hide cE'
            clear c0 f0 cell2 cE'
            cases back
            · go_wp2_with fail
              refine (refProduct_any xR (Op.negFloat .f64 yR) xO yO _).mono ?_
              rintro r w5 ⟨x2, y2, q2, rfl, rfl, h2⟩
              have RE' := hide (unhide RE x2 y2 q2 (by rw [h2]; simp [rb, cx, can_neg]))
              clear h2 RE
              go_wp2
              refine turned_r19 19 _ _ (wq2.drewN q2) G j n g1 k x2 y2 xE yE (by simp) (by simp [Act.eval]) (by simp [Act.eval]) (by simp [Act.eval]) (by simp [Act.eval]) hlt2 (by omega) (by omega) (by omega) (unhide CE) (unhide C0) (unhide F0) ?_
              intro V1 q x y h3
              obtain ⟨x1, y1, c1, f1, cE1⟩ := unhide C2 q2 q x y
              have RE2 := hide (fun q' x' y' q3 xN yN => unhide RE' q x y q' x' y' q3 xN yN h3)
              obtain ⟨W1, hW1⟩ : ∃ W1, W1 = ((wq2.drewN q2).drewN q).setCell ⟨G, j, none⟩ (.complex .f64 x y) := ⟨_, rfl⟩
              rw [← hW1] at c1 f1 cE1 RE2 ⊢
              have C1 := hide c1
              have F1 := hide f1
              have CE1 := hide cE1
              clear hW1 c1 f1 cE1 h3 RE' C2
              simp only [putted, List.foldl_cons, List.foldl_nil, Act.put, List.setIfInBounds_toArray, List.set_cons_zero, List.set_cons_succ]
              go_wp2
              refine turned_r20 20 _ _ W1 G j n g1 k x2 y2 xE yE (by simp) (by simp [Act.eval]) (by simp [Act.eval]) (by simp [Act.eval]) (by simp [Act.eval]) (by simp [Act.eval]) (by have := unhide HN; omega) hlt2 (by omega) (by omega) (by omega) (unhide CE1) (unhide C1) (unhide F1) ?_
              intro V2 q' x' y' h4
              have RE3 := hide (fun q3 xN yN => unhide RE2 q' x' y' q3 xN yN h4)
              obtain ⟨W2, hW2⟩ : ∃ W2, W2 = (W1.drewN q').setCell ⟨G, j + k, none⟩ (.complex .f64 x' y') := ⟨_, rfl⟩
              rw [← hW2] at RE3 ⊢
              clear hW2 h4 RE2
              simp only [putted, List.foldl_cons, List.foldl_nil, Act.put, List.setIfInBounds_toArray, List.set_cons_zero, List.set_cons_succ]
              go_wp2_with fail
              refine (unhide HRT _).mono ?_
              rintro r w6 ⟨xT, yT, q3, rfl, rfl, h5⟩
              have H5 := hide h5
              clear h5
              go_wp2_with fail
              refine (refProduct_any xR yR xT yT _).mono ?_
              rintro r w7 ⟨xN, yN, q4, rfl, rfl, h6⟩
              have H6 := hide h6
              clear h6
              go_wp2
              exact ⟨⟨j + 1, xN, yN, by go_num, rfl, by omega, unhide RE3 (q3 + q4) xN yN (by rw [unhide H6, unhide H5])⟩, by simp [intOf]; omega⟩
            · go_wp2_with fail
              refine (refProduct_any xR yR xO yO _).mono ?_
              rintro r w5 ⟨x2, y2, q2, rfl, rfl, h2⟩
              have RE' := hide (unhide RE x2 y2 q2 (by rw [h2]; simp [rb, cx]))
              clear h2 RE
              go_wp2
              refine turned_r19 19 _ _ (wq2.drewN q2) G j n g1 k x2 y2 xE yE (by simp) (by simp [Act.eval]) (by simp [Act.eval]) (by simp [Act.eval]) (by simp [Act.eval]) hlt2 (by omega) (by omega) (by omega) (unhide CE) (unhide C0) (unhide F0) ?_
              intro V1 q x y h3
              obtain ⟨x1, y1, c1, f1, cE1⟩ := unhide C2 q2 q x y
              have RE2 := hide (fun q' x' y' q3 xN yN => unhide RE' q x y q' x' y' q3 xN yN h3)
              obtain ⟨W1, hW1⟩ : ∃ W1, W1 = ((wq2.drewN q2).drewN q).setCell ⟨G, j, none⟩ (.complex .f64 x y) := ⟨_, rfl⟩
              rw [← hW1] at c1 f1 cE1 RE2 ⊢
              have C1 := hide c1
              have F1 := hide f1
              have CE1 := hide cE1
              clear hW1 c1 f1 cE1 h3 RE' C2
              simp only [putted, List.foldl_cons, List.foldl_nil, Act.put, List.setIfInBounds_toArray, List.set_cons_zero, List.set_cons_succ]
              go_wp2
              refine turned_r20 20 _ _ W1 G j n g1 k x2 y2 xE yE (by simp) (by simp [Act.eval]) (by simp [Act.eval]) (by simp [Act.eval]) (by simp [Act.eval]) (by simp [Act.eval]) (by have := unhide HN; omega) hlt2 (by omega) (by omega) (by omega) (unhide CE1) (unhide C1) (unhide F1) ?_
              intro V2 q' x' y' h4
              have RE3 := hide (fun q3 xN yN => unhide RE2 q' x' y' q3 xN yN h4)
              obtain ⟨W2, hW2⟩ : ∃ W2, W2 = (W1.drewN q').setCell ⟨G, j + k, none⟩ (.complex .f64 x' y') := ⟨_, rfl⟩
              rw [← hW2] at RE3 ⊢
              clear hW2 h4 RE2
              simp only [putted, List.foldl_cons, List.foldl_nil, Act.put, List.setIfInBounds_toArray, List.set_cons_zero, List.set_cons_succ]
              go_wp2_with fail
              refine (unhide HRT _).mono ?_
              rintro r w6 ⟨xT, yT, q3, rfl, rfl, h5⟩
              have H5 := hide h5
              clear h5
              go_wp2_with fail
              refine (refProduct_any xR yR xT yT _).mono ?_
              rintro r w7 ⟨xN, yN, q4, rfl, rfl, h6⟩
              have H6 := hide h6
              clear h6
              go_wp2
              exact ⟨⟨j + 1, xN, yN, by go_num, rfl, by omega, unhide RE3 (q3 + q4) xN yN (by rw [unhide H6, unhide H5])⟩, by simp [intOf]; omega⟩
          · obtain rfl : j = k := by omega
            have hdec : ¬ (j : Int) < (j : Int) := by omega
            go_wp2
            go_ret
            refine ⟨G, rfl, unhide HG, (unhide HI).2.1.ext fun i hi => unhide HFIN i hi, ?_⟩
            exact (unhide BV).trans (unhide HI).2.2 (fun x hx => by simp at hx; subst hx; exact .inr (unhide HG))
end Go.Proofs.YtinhoigcajddpaaDoor
