/- The fraction nearest to one, of those whose lower numbers are not too great, as the Go text of package frac finds it. -/
import Derived.Test.YtihiafgogbhjkaaGreatDoorRM4
namespace Go.Proofs.YtihiafgogbhjkaaGreatDoor
open Go.RowKit

/-- what the call leaves: a fraction than which none with such a lower number is nearer -/
def NearFin (w : World) (f : Rat) (most : Nat) (e : Ending) (w' : World) : Prop := ∃ v' x, e = .returned (.tuple #[v', .nilIface]) ∧ FracAt w' v' x ∧ Len x 21 ∧ x.den ≤ most ∧ (∀ y : Rat, y.den ≤ most → Bef f x y) ∧ But [] w w'
theorem mark_len (O : Int) (u : Nat) (h0 : 0 < u) (h1 : u ≤ 1000000) (l : Len ((O : Int) : Rat) 20) : Len ((O : Rat) * (((u : Int) : Rat))⁻¹) 21 := len_mul l (len_inv (int_len (u : Int) (by omega) (by omega)) (inv_num_one u h0)) 21 (by omega)

set_option maxHeartbeats 16000000 in
set_option maxRecDepth 100000 in
theorem near_any (f : Rat) (most : Nat) (fs : Bool) (fx fy : Int) (w : World) (hf : ∀ W, FracAt W (.agg #[.bool fs, .int .u64 fx, .int .u64 fy, .pointer none]) f) (hp : f.num.natAbs < 18446744073709551616) (hq : f.den < 18446744073709551616) (hm0 : 0 < most) (hm : most ≤ 1000000) :
    Calls Tryz.prog 46 #[.agg #[.bool fs, .int .u64 fx, .int .u64 fy, .pointer none], .int .i64 (most : Int)] w fun e w' => NearFin w f most e w' := by
  have lf : Len f 1 := len_of (m := 1) (n := 1) (by rw [Nat.pow_one]; exact hp) (by rw [Nat.pow_one]; exact hq) 1 (Nat.le_refl _) (Nat.le_refl _)
  have hK : (fl f).natAbs + 1 ≤ 18446744073709551616 := by have := fl_le_abs f; omega
  have NB := hide (fun W => neighbours_any _ f most W hf hp hq hm0 hm)
  have HF := hide (And.intro hf (And.intro lf hK))
  have hmf : ∀ (fn : Fn) (first cap : Array Value) (w : World), (Instr.makeFunc fn first cap).run Tryz.prog w = .ok (.func fn first cap) w := fun _ _ _ _ => rfl
  have c1 : ¬ (most : Int) < 1 := by omega
  have c2 : ¬ (1000000 : Int) < (most : Int) := by omega
  have c3 : ¬ 1000000 < most := by omega
  have c4 : ¬ most < 1 := by omega
  clear hf hp hq lf hK
  obtain ⟨W, hW⟩ : ∃ W, W = (w.alloc (.cells #[.bool fs, .int .u64 fx, .int .u64 fy, .pointer none] 27)).alloc (.cells #[.bool false, .int .u64 0, .int .u64 0, .pointer none] 27) := ⟨_, rfl⟩
  obtain ⟨tA, tC, -, fz, hB⟩ := two_news w W _ _ _ _ hW
  have a0 := tA 0
  have a1 := tA 1
  have a2 := tA 2
  have a3 := tA 3
  have CR : Hid (P4 W (w.heap.size + 1) false 0 0 none) := ⟨tC 0, tC 1, tC 2, tC 3⟩
  have OR : Hid (Open W (w.heap.size + 1)) := fz
  simp only [List.getElem?_toArray, List.getElem?_cons_zero, List.getElem?_cons_succ] at a0 a1 a2 a3
  have HW := hide hW
  have HB := hide hB
  clear hW hB tA tC fz
  go_enter Tryz.func46, Tryz.ntmps46
  go_wp2_with fail
  rw [← unhide HW]
  obtain ⟨gf, hgf⟩ : ∃ gf, gf = w.heap.size := ⟨_, rfl⟩
  obtain ⟨gr, hgr⟩ : ∃ gr, gr = w.heap.size + 1 := ⟨_, rfl⟩
  rw [← hgf] at a0 a1 a2 a3
  rw [← hgr] at CR OR
  rw [← hgr, ← hgf]
  have HGR : Hid (w.heap.size ≤ gr) := by show _ ≤ _; omega
  have ngr : gf ≠ gr := by omega
  clear hgf hgr HW
  refine (unhide NB _).mono ?_
  rintro e1 w1 ⟨va, vb, Oa, Ob, ua, ub, rfl, hA, hBm, hN, hb1⟩
  obtain ⟨ua0, uam, la, ub0, ubm, lb, hda, hdb, hbest⟩ := hN
  have lA : Len ((Oa : Int) : Rat) 20 := over_len Oa _ ua (unhide HF).2.2 (by omega) la
  have lB : Len ((Ob : Int) : Rat) 20 := over_len Ob _ ub (unhide HF).2.2 (by omega) lb
  obtain ⟨sa, xa, ya, pa, rfl, fa⟩ := id hA
  obtain ⟨sb, xb, yb, pb, rfl, fb⟩ := id hBm
  obtain ⟨V, hV⟩ : ∃ V, V = (w1.alloc (.cells #[.bool sa, .int .u64 xa, .int .u64 ya, .pointer pa, .int .i64 (ua : Int)] 129)).alloc (.cells #[.bool sb, .int .u64 xb, .int .u64 yb, .pointer pb, .int .i64 (ub : Int)] 129) := ⟨_, rfl⟩
  obtain ⟨tA, tB, -, -, bV⟩ := two_news w1 V _ _ _ _ hV
  have m0 := tA 0
  have m1 := tA 1
  have m2 := tA 2
  have m3 := tA 3
  have m4 := tA 4
  have n0 := tB 0
  have n1 := tB 1
  have n2 := tB 2
  have n3 := tB 3
  have n4 := tB 4
  simp only [List.getElem?_toArray, List.getElem?_cons_zero, List.getElem?_cons_succ] at m0 m1 m2 m3 m4 n0 n1 n2 n3 n4
  have bW := hb1.trans' bV
  have HAV := hide (hA.but bV)
  have HBV := hide (hBm.but bV)
  replace a0 := bW.cell_some a0 (by simp)
  replace a1 := bW.cell_some a1 (by simp)
  replace a2 := bW.cell_some a2 (by simp)
  replace a3 := bW.cell_some a3 (by simp)
  replace OR : Hid (Open V gr) := (unhide OR).but bW (unhide CR).lt (by simp)
  replace CR : Hid (P4 V gr false 0 0 none) := (unhide CR).but bW (by simp)
  replace HB : Hid (But [] w V) := (unhide HB).trans' bW
  have NE := hide (nearer_any _ _ Oa Ob ua ub f gf fs fx fy V (unhide HAV) (unhide HBV) ua0 (by omega) ub0 (by omega) lA lB (unhide HF).1 (unhide HF).2.1 ⟨a0, a1, a2, a3⟩ hda hdb)
  have VA := hide (fun W' (h : But [] V W') => markValue_any _ Oa ua W' ((unhide HAV).but h) ua0 (by omega) (lA.mono (by omega)))
  have VB := hide (fun W' (h : But [] V W') => markValue_any _ Ob ub W' ((unhide HBV).but h) ub0 (by omega) (lB.mono (by omega)))
  have L1 := mark_len Oa ua ua0 (by omega) lA
  have L2 := mark_len Ob ub ub0 (by omega) lB
  obtain ⟨d1, hd1⟩ : ∃ d1, d1 = (Oa : Rat) * (((ua : Int) : Rat))⁻¹ := ⟨_, rfl⟩
  obtain ⟨d2, hd2⟩ : ∃ d2, d2 = (Ob : Rat) * (((ub : Int) : Rat))⁻¹ := ⟨_, rfl⟩
  rw [← hd1] at VA L1 NE hbest hda
  rw [← hd2] at VB L2 NE hbest hdb
  have LB := hide (And.intro L1 (And.intro L2 (And.intro (show d1.den ≤ most by omega) (And.intro (show d2.den ≤ most by omega) hbest))))
  clear hda hdb hA hBm fa fb la lb lA lB hb1 bV bW tA tB HAV HBV L1 L2 hbest hd1 hd2 NB HF ua0 uam ub0 ubm c1 c2 c3 c4
  go_wp2_with fail
  rw [← hV]
  clear hV
  generalize w1.heap.size + 1 = gB at *
  generalize w1.heap.size = gA at *
  first
    | refine (unhide NE).mono ?_
    | (go_at_call 108; refine (unhide NE).mono ?_)
  rintro e2 w2 ⟨b, rfl, hbt, hbf, hb2⟩
  have HBT := hide (And.intro hbt hbf)
  have K2 := hide hb2
  replace m0 := hb2.cell_some m0 (by simp)
  replace m1 := hb2.cell_some m1 (by simp)
  replace m2 := hb2.cell_some m2 (by simp)
  replace m3 := hb2.cell_some m3 (by simp)
  replace m4 := hb2.cell_some m4 (by simp)
  replace n0 := hb2.cell_some n0 (by simp)
  replace n1 := hb2.cell_some n1 (by simp)
  replace n2 := hb2.cell_some n2 (by simp)
  replace n3 := hb2.cell_some n3 (by simp)
  replace n4 := hb2.cell_some n4 (by simp)
  replace OR : ∀ j, w2.frozen? ⟨gr, j, none⟩ = false := (unhide OR).but hb2 (unhide CR).lt (by simp)
  obtain ⟨r0, r1, r2, r3⟩ := (unhide CR).but hb2 (by simp)
  have H2 : Hid (But [] w w2) := (unhide HB).trans' hb2
  clear hb2 hbt hbf NE CR HB a0 a1 a2 a3
  cases b
  · go_wp2_with fail
    refine (unhide VB _ (unhide K2)).mono ?_
    rintro e3 w3 ⟨v3, rfl, hv3, hb3⟩
    have HV3 := hide hv3
    obtain ⟨x8, y8, p8, rfl, -⟩ := hv3.agg
    generalize decide (d2.num < 0) = r8 at *
    have grl : gr < w2.heap.size := lt_of_cell r0
    replace OR : ∀ j, w3.frozen? ⟨gr, j, none⟩ = false := Open.but (w := w2) (g := gr) OR hb3 grl (by simp)
    replace r0 := hb3.cell_some r0 (by simp)
    replace r1 := hb3.cell_some r1 (by simp)
    replace r2 := hb3.cell_some r2 (by simp)
    replace r3 := hb3.cell_some r3 (by simp)
    have H3 : Hid (But [] w w3) := (unhide H2).trans' hb3
    have FIN : Hid (Len d2 21 ∧ d2.den ≤ most ∧ ∀ y : Rat, y.den ≤ most → Bef f d2 y) := by
      obtain ⟨l1, l2, m1, m2, hb⟩ := unhide LB
      have hB := (unhide HBT).2 (by simp)
      refine ⟨l2, m2, fun y hy => ?_⟩
      rcases hb y hy with rfl | rfl | h | h
      · exact hB
      · exact Bef.refl _ _
      · exact hB.of_lt h
      · exact .inl h
    clear hb3 hv3 H2 K2 VA VB LB HBT m0 m1 m2 m3 m4 n0 n1 n2 n3 n4 grl
    go_wp2
    have hBg := but_set4 w3 gr (.bool r8) (.int .u64 x8) (.int .u64 y8) (.pointer p8)
    exact bodyPost_ret (v := .tuple #[.agg #[.bool r8, .int .u64 x8, .int .u64 y8, .pointer p8], .nilIface]) (by simp [results, Tryz.results46, go_sem, r0, r1, r2, r3]) rfl ⟨_, d2, rfl, (unhide HV3).over r0 hBg, (unhide FIN).1, (unhide FIN).2.1, (unhide FIN).2.2, (unhide H3).trans hBg (fun x hx => by simp at hx; subst hx; exact .inr (unhide HGR))⟩
  · go_wp2_with fail
    refine (unhide VA _ (unhide K2)).mono ?_
    rintro e3 w3 ⟨v3, rfl, hv3, hb3⟩
    have HV3 := hide hv3
    obtain ⟨x8, y8, p8, rfl, -⟩ := hv3.agg
    generalize decide (d1.num < 0) = r8 at *
    have grl : gr < w2.heap.size := lt_of_cell r0
    replace OR : ∀ j, w3.frozen? ⟨gr, j, none⟩ = false := Open.but (w := w2) (g := gr) OR hb3 grl (by simp)
    replace r0 := hb3.cell_some r0 (by simp)
    replace r1 := hb3.cell_some r1 (by simp)
    replace r2 := hb3.cell_some r2 (by simp)
    replace r3 := hb3.cell_some r3 (by simp)
    have H3 : Hid (But [] w w3) := (unhide H2).trans' hb3
    have FIN : Hid (Len d1 21 ∧ d1.den ≤ most ∧ ∀ y : Rat, y.den ≤ most → Bef f d1 y) := by
      obtain ⟨l1, l2, m1, m2, hb⟩ := unhide LB
      have hB := (unhide HBT).1 (by simp)
      refine ⟨l1, m1, fun y hy => ?_⟩
      rcases hb y hy with rfl | rfl | h | h
      · exact Bef.refl _ _
      · exact hB
      · exact .inl h
      · exact hB.of_lt h
    clear hb3 hv3 H2 K2 VA VB LB HBT m0 m1 m2 m3 m4 n0 n1 n2 n3 n4 grl
    go_wp2
    have hBg := but_set4 w3 gr (.bool r8) (.int .u64 x8) (.int .u64 y8) (.pointer p8)
    exact bodyPost_ret (v := .tuple #[.agg #[.bool r8, .int .u64 x8, .int .u64 y8, .pointer p8], .nilIface]) (by simp [results, Tryz.results46, go_sem, r0, r1, r2, r3]) rfl ⟨_, d1, rfl, (unhide HV3).over r0 hBg, (unhide FIN).1, (unhide FIN).2.1, (unhide FIN).2.2, (unhide H3).trans hBg (fun x hx => by simp at hx; subst hx; exact .inr (unhide HGR))⟩
end Go.Proofs.YtihiafgogbhjkaaGreatDoor
