/- How far a fraction is off, as the Go text of package tontinekeep asks. -/
import Derived.Test.YtihiafgogbhjkaaGreatDoorRM4
namespace Go.Proofs.YtihiafgogbhjkaaGreatDoor
open Go.RowKit

set_option maxHeartbeats 16000000 in
set_option maxRecDepth 100000 in
theorem off_any (vg : Value) (g f : Rat) (gp : Nat) (fs : Bool) (fx fy : Int) (w : World) (hg : FracAt w vg g) (hf : ∀ W, FracAt W (.agg #[.bool fs, .int .u64 fx, .int .u64 fy, .pointer none]) f) (lg : Len g 21) (lf : Len f 1) (hc : P4 w gp fs fx fy none) :
    Calls Tryz.prog 53 #[vg, .pointer (some ⟨gp, 0, none⟩)] w fun e w' => ∃ v', e = .returned v' ∧ FracAt w' v' (dist g f) ∧ But [] w w' := by
  have SU := hide (fun W (h : But [] w W) => fracSub_any vg _ g f W (hg.but h) (hf W) (lg.mono (by omega)) (lf.mono (by omega)))
  obtain ⟨d, hd⟩ : ∃ d, d = g - f := ⟨_, rfl⟩
  have hdist : dist g f = absR d := by rw [hd]; rfl
  rw [hdist]
  rw [← hd] at SU
  have SG := hide (fun W v (h : FracAt W v d) => fracSign_any v d W h)
  have NG := hide (fun W v (h : FracAt W v d) => fracNeg_any v d W h)
  have HAB : Hid ((d.num < 0 → absR d = -d) ∧ (¬ d.num < 0 → absR d = d)) := ⟨fun h => if_pos h, fun h => if_neg h⟩
  obtain ⟨x1, y1, p1, rfl, -⟩ := hg.agg
  generalize decide (g.num < 0) = s1 at *
  clear hg hf lg lf hd hdist
  obtain ⟨W, hW⟩ : ∃ W, W = (w.alloc (.cells #[.bool s1, .int .u64 x1, .int .u64 y1, .pointer p1] 27)).alloc (.cells #[.bool false, .int .u64 0, .int .u64 0, .pointer none] 27) := ⟨_, rfl⟩
  obtain ⟨tA, tC, -, fz, hB⟩ := two_news w W _ _ _ _ hW
  have a0 := tA 0
  have a1 := tA 1
  have a2 := tA 2
  have a3 := tA 3
  have r0 := tC 0
  have r1 := tC 1
  have r2 := tC 2
  have r3 := tC 3
  simp only [List.getElem?_toArray, List.getElem?_cons_zero, List.getElem?_cons_succ] at a0 a1 a2 a3 r0 r1 r2 r3
  obtain ⟨f0, f1, f2, f3⟩ := hc
  have gpl : gp < w.heap.size := lt_of_cell f0
  have gpl1 : gp < w.heap.size + 1 := by omega
  have gne : ¬ gp = w.heap.size := by omega
  have gne1 : ¬ gp = w.heap.size + 1 := by omega
  clear tA tC
  have HW := hide hW
  have HB := hide hB
  clear hW hB
  go_enter Tryz.func53, Tryz.ntmps53
  go_wp2_with fail
  rw [← unhide HW]
  obtain ⟨ga, hga⟩ : ∃ ga, ga = w.heap.size := ⟨_, rfl⟩
  obtain ⟨gr, hgr⟩ : ∃ gr, gr = w.heap.size + 1 := ⟨_, rfl⟩
  rw [← hga] at a0 a1 a2 a3
  rw [← hgr] at r0 r1 r2 r3 fz
  rw [← hgr, ← hga]
  have HGR : Hid (w.heap.size ≤ gr) := by show _ ≤ _; omega
  clear hga hgr HW gpl gpl1 gne gne1
  refine (unhide SU _ (unhide HB)).mono ?_
  rintro e1 w1 ⟨v1, rfl, hv1, hb1⟩
  have HV := hide hv1
  obtain ⟨x2, y2, p2, rfl, -⟩ := hv1.agg
  obtain ⟨s2, hs2⟩ : ∃ s2, s2 = decide (d.num < 0) := ⟨_, rfl⟩
  rw [← hs2] at HV ⊢
  have grl : gr < W.heap.size := lt_of_cell r0
  replace fz : ∀ j, w1.frozen? ⟨gr, j, none⟩ = false := fun j => (hb1.frozen (p := ⟨gr, j, none⟩) grl (by simp)).trans (fz j)
  replace r0 := hb1.cell_some r0 (by simp)
  replace r1 := hb1.cell_some r1 (by simp)
  replace r2 := hb1.cell_some r2 (by simp)
  replace r3 := hb1.cell_some r3 (by simp)
  replace HB : Hid (But [] w w1) := (unhide HB).trans' hb1
  clear hb1 hv1 grl a0 a1 a2 a3 f0 f1 f2 f3 SU hs2
  obtain ⟨V, hV⟩ : ∃ V, V = w1.alloc (.cells #[.bool s2, .int .u64 x2, .int .u64 y2, .pointer p2] 27) := ⟨_, rfl⟩
  have d0 : V.cell? ⟨w1.heap.size, 0, none⟩ = some (.bool s2) := by rw [hV]; simp
  have d1 : V.cell? ⟨w1.heap.size, 1, none⟩ = some (.int .u64 x2) := by rw [hV]; simp
  have d2 : V.cell? ⟨w1.heap.size, 2, none⟩ = some (.int .u64 y2) := by rw [hV]; simp
  have d3 : V.cell? ⟨w1.heap.size, 3, none⟩ = some (.pointer p2) := by rw [hV]; simp
  have bV : But [] w1 V := by rw [hV]; exact (But.refl _ _).alloc _
  have grl : gr < w1.heap.size := lt_of_cell r0
  have ndr : w1.heap.size ≠ gr := by omega
  go_wp2_with fail
  rw [← hV]
  clear hV
  replace fz : ∀ j, V.frozen? ⟨gr, j, none⟩ = false := fun j => (bV.frozen (p := ⟨gr, j, none⟩) grl (by simp)).trans (fz j)
  replace r0 := bV.cell_some r0 (by simp)
  replace r1 := bV.cell_some r1 (by simp)
  replace r2 := bV.cell_some r2 (by simp)
  replace r3 := bV.cell_some r3 (by simp)
  replace HB : Hid (But [] w V) := (unhide HB).trans' bV
  replace HV : Hid (FracAt V (.agg #[.bool s2, .int .u64 x2, .int .u64 y2, .pointer p2]) d) := (unhide HV).but bV
  clear bV grl
  generalize w1.heap.size = gd at *
  refine (unhide SG _ _ (unhide HV)).mono ?_
  rintro e2 w2 ⟨rfl, hb2⟩
  have grl : gr < V.heap.size := lt_of_cell r0
  replace fz : ∀ j, w2.frozen? ⟨gr, j, none⟩ = false := fun j => (hb2.frozen (p := ⟨gr, j, none⟩) grl (by simp)).trans (fz j)
  replace r0 := hb2.cell_some r0 (by simp)
  replace r1 := hb2.cell_some r1 (by simp)
  replace r2 := hb2.cell_some r2 (by simp)
  replace r3 := hb2.cell_some r3 (by simp)
  replace d0 := hb2.cell_some d0 (by simp)
  replace d1 := hb2.cell_some d1 (by simp)
  replace d2 := hb2.cell_some d2 (by simp)
  replace d3 := hb2.cell_some d3 (by simp)
  replace HB : Hid (But [] w w2) := (unhide HB).trans' hb2
  replace HV : Hid (FracAt w2 (.agg #[.bool s2, .int .u64 x2, .int .u64 y2, .pointer p2]) d) := (unhide HV).but hb2
  clear hb2 grl SG
  by_cases hn : d.num < 0
  · have hs : d.num.sign = -1 := Int.sign_eq_neg_one_of_neg hn
    have HE := hide ((unhide HAB).1 hn)
    rw [hs]
    clear hs hn HAB
    go_wp2_with fail
    refine (unhide NG _ _ (unhide HV)).mono ?_
    rintro e3 w3 ⟨v3, rfl, hv3, hb3⟩
    have HV3 := hide hv3
    obtain ⟨x8, y8, p8, rfl, -⟩ := hv3.agg
    generalize decide ((-d).num < 0) = r8 at *
    have grl : gr < w2.heap.size := lt_of_cell r0
    replace fz : ∀ j, w3.frozen? ⟨gr, j, none⟩ = false := fun j => (hb3.frozen (p := ⟨gr, j, none⟩) grl (by simp)).trans (fz j)
    replace r0 := hb3.cell_some r0 (by simp)
    replace r1 := hb3.cell_some r1 (by simp)
    replace r2 := hb3.cell_some r2 (by simp)
    replace r3 := hb3.cell_some r3 (by simp)
    have H3 : Hid (But [] w w3) := (unhide HB).trans' hb3
    clear hb3 hv3 HB HV grl d0 d1 d2 d3 NG
    go_wp2
    have hBg := but_set4 w3 gr (.bool r8) (.int .u64 x8) (.int .u64 y8) (.pointer p8)
    exact bodyPost_ret (v := .agg #[.bool r8, .int .u64 x8, .int .u64 y8, .pointer p8]) (by simp [results, Tryz.results53, go_sem, r0, r1, r2, r3]) rfl ⟨_, rfl, by rw [unhide HE]; exact (unhide HV3).over r0 hBg, (unhide H3).trans hBg (fun x hx => by simp at hx; subst hx; exact .inr (unhide HGR))⟩
  · have HE := hide ((unhide HAB).2 (by omega))
    have hs : ¬ d.num.sign < 0 := fun e => hn (Int.neg_of_sign_eq_neg_one (by
      rcases Int.lt_trichotomy d.num 0 with h | h | h
      · exact absurd h hn
      · rw [h] at e; simp at e
      · rw [Int.sign_eq_one_of_pos h] at e; omega))
    obtain ⟨sg, hsg⟩ : ∃ sg, sg = d.num.sign := ⟨_, rfl⟩
    rw [← hsg] at hs ⊢
    clear hsg hn HAB NG
    go_wp2
    have hBg := but_set4 w2 gr (.bool s2) (.int .u64 x2) (.int .u64 y2) (.pointer p2)
    exact bodyPost_ret (v := .agg #[.bool s2, .int .u64 x2, .int .u64 y2, .pointer p2]) (by simp [results, Tryz.results53, go_sem, r0, r1, r2, r3]) rfl ⟨_, rfl, by rw [unhide HE]; exact (unhide HV).over r0 hBg, (unhide HB).trans hBg (fun x hx => by simp at hx; subst hx; exact .inr (unhide HGR))⟩
end Go.Proofs.YtihiafgogbhjkaaGreatDoor
