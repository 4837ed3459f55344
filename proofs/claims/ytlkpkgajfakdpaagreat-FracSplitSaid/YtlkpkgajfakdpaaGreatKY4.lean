/- A fraction is compared with so many times another one, as the Go text of package frac does it. -/
import Derived.Test.YtlkpkgajfakdpaaGreatKY0
import Derived.Test.YtlkpkgajfakdpaaGreatKYR
namespace Go.Proofs.YtlkpkgajfakdpaaGreat
open Go.RowKit

def opCt0 : Oper := { dst := some 12, op := Op.load 33 (Operand.tmp 3), type := 33, pos := "split.go:101", after := #[], guard := none }
def opCt1 : Oper := { dst := some 13, op := Op.move (Operand.tmp 1), type := 3, pos := "split.go:101", after := #[], guard := none }
def opCt2 : Oper := { dst := some 14, op := Op.call { callee := Callee.value (Operand.func 6), args := #[Operand.tmp 13], argTypes := #[3] }, type := 33, pos := "split.go:101", after := #[{ on := 1, ground := Ground.data }], guard := none }
def opCt3 : Oper := { dst := some 15, op := Op.call { callee := Callee.value (Operand.func 15), args := #[Operand.tmp 14], argTypes := #[33] }, type := 33, pos := "split.go:101", after := #[{ on := 2, ground := Ground.data }, { on := 2, ground := Ground.chain }], guard := none }
def opCt4 : Oper := { dst := some 16, op := Op.call { callee := Callee.value (Operand.func 8), args := #[Operand.tmp 12, Operand.tmp 15], argTypes := #[33, 33] }, type := 33, pos := "split.go:101", after := #[{ on := 0, ground := Ground.data }, { on := 3, ground := Ground.data }, { on := 3, ground := Ground.chain }], guard := none }
def opCt5 : Oper := { dst := some 17, op := Op.load 33 (Operand.tmp 5), type := 33, pos := "split.go:101", after := #[], guard := none }
def opCt6 : Oper := { dst := some 18, op := Op.call { callee := Callee.value (Operand.func 11), args := #[Operand.tmp 16, Operand.tmp 17], argTypes := #[33, 33] }, type := 3, pos := "split.go:101", after := #[{ on := 4, ground := Ground.data }, { on := 5, ground := Ground.data }, { on := 4, ground := Ground.chain }], guard := none }
def opCt7 : Oper := { dst := some 7, op := Op.assign (Operand.tmp 18), type := 3, pos := "split.go:101", after := #[{ on := 6, ground := Ground.data }, { on := 6, ground := Ground.chain }, { on := 0, ground := Ground.phase }, { on := 1, ground := Ground.phase }, { on := 2, ground := Ground.phase }, { on := 3, ground := Ground.phase }, { on := 4, ground := Ground.phase }, { on := 5, ground := Ground.phase }, { on := 6, ground := Ground.phase }], guard := none }
def opCts : Array Oper := #[opCt0, opCt1, opCt2, opCt3, opCt4, opCt5, opCt6, opCt7]
def opCtT (i : Nat) : Nat := match i with
  | 0 => 12
  | 1 => 13
  | 2 => 14
  | 3 => 15
  | 4 => 16
  | 5 => 17
  | 6 => 18
  | _ => 7
/-- what each operation's value is -/
def opCtC (n : Int) (r : Int) (s1 : Bool) (x1 : Int) (y1 : Int) (p1 : Option Addr) (s2 : Bool) (x2 : Int) (y2 : Int) (p2 : Option Addr) (s3 : Bool) (x3 : Int) (y3 : Int) (p3 : Option Addr) (f : Rat) (i : Nat) (w : World) (v : Value) : Prop := match i with
  | 0 => v = .agg #[.bool s1, .int .u64 x1, .int .u64 y1, .pointer p1]
  | 1 => v = .int .i64 n
  | 2 => v = .agg #[.bool s3, .int .u64 x3, .int .u64 y3, .pointer p3]
  | 3 => FracAt w v ((n : Int) : Rat)⁻¹
  | 4 => FracAt w v (f * ((n : Int) : Rat)⁻¹)
  | 5 => v = .agg #[.bool s2, .int .u64 x2, .int .u64 y2, .pointer p2]
  | 6 => v = .int .i64 r
  | _ => v = .int .i64 r
theorem opCtC_but {n : Int} {r : Int} {s1 : Bool} {x1 : Int} {y1 : Int} {p1 : Option Addr} {s2 : Bool} {x2 : Int} {y2 : Int} {p2 : Option Addr} {s3 : Bool} {x3 : Int} {y3 : Int} {p3 : Option Addr} {f : Rat} {i : Nat} {w w' : World} {v : Value} (h : opCtC n r s1 x1 y1 p1 s2 x2 y2 p2 s3 x3 y3 p3 f i w v) (hi : i < 8) (hb : But [] w w') : opCtC n r s1 x1 y1 p1 s2 x2 y2 p2 s3 x3 y3 p3 f i w' v := by
  have : i = 0 ∨ i = 1 ∨ i = 2 ∨ i = 3 ∨ i = 4 ∨ i = 5 ∨ i = 6 ∨ i = 7 := by omega
  rcases this with rfl | rfl | rfl | rfl | rfl | rfl | rfl | rfl
  all_goals first | exact h | exact FracAt.but h hb | exact FracsAt.but h hb
theorem opCtT_inj : ∀ i j, i < 8 → j < 8 → opCtT i = opCtT j → i = j := fun i j hi hj => (by decide : ∀ i, i < 8 → ∀ j, j < 8 → opCtT i = opCtT j → i = j) i hi j hj
set_option maxRecDepth 100000 in
theorem cmpTimes_region (id : Nat) (Q : Exit → Act → World → Prop) (base : Act) (W0 : World) (n : Int) (r : Int) (s1 : Bool) (x1 : Int) (y1 : Int) (p1 : Option Addr) (s2 : Bool) (x2 : Int) (y2 : Int) (p2 : Option Addr) (s3 : Bool) (x3 : Int) (y3 : Int) (p3 : Option Addr) (f : Rat) (hs : 18 < base.tmps.size) (g3 g5 : Nat) (e3 : base.eval (.tmp 3) = .pointer (some ⟨g3, 0, none⟩)) (e1 : base.eval (.tmp 1) = .int .i64 n) (e5 : base.eval (.tmp 5) = .pointer (some ⟨g5, 0, none⟩))
    (c1 : P4 W0 g3 s1 x1 y1 p1) (c2 : P4 W0 g5 s2 x2 y2 p2)
    (WH : ∀ w, Calls Tryz.prog 6 #[.int .i64 n] w fun e w' => e = .returned (.agg #[.bool s3, .int .u64 x3, .int .u64 y3, .pointer p3]) ∧ But [] w w')
    (TU : ∀ w, Calls Tryz.prog 15 #[.agg #[.bool s3, .int .u64 x3, .int .u64 y3, .pointer p3]] w fun e w' => ∃ v, e = .returned v ∧ FracAt w' v ((n : Int) : Rat)⁻¹ ∧ But [] w w')
    (MU : ∀ w, But [] W0 w → ∀ v, FracAt w v ((n : Int) : Rat)⁻¹ → Calls Tryz.prog 8 #[.agg #[.bool s1, .int .u64 x1, .int .u64 y1, .pointer p1], v] w fun e w' => ∃ v, e = .returned v ∧ FracAt w' v (f * ((n : Int) : Rat)⁻¹) ∧ But [] w w')
    (CM : ∀ w, But [] W0 w → ∀ v, FracAt w v (f * ((n : Int) : Rat)⁻¹) → Calls Tryz.prog 11 #[v, .agg #[.bool s2, .int .u64 x2, .int .u64 y2, .pointer p2]] w fun e w' => e = .returned (.int .i64 r) ∧ But [] w w')
    (hQ : ∀ w (v3 : Value) (v4 : Value), But [] W0 w → Q .normal (putted base [(12, .agg #[.bool s1, .int .u64 x1, .int .u64 y1, .pointer p1]), (13, .int .i64 n), (14, .agg #[.bool s3, .int .u64 x3, .int .u64 y3, .pointer p3]), (15, v3), (16, v4), (17, .agg #[.bool s2, .int .u64 x2, .int .u64 y2, .pointer p2]), (18, .int .i64 r), (7, .int .i64 r)]) w) :
    (Code.region id opCts true).wp Tryz.prog Q base W0 := by
  have hdr : ∀ {w}, But [] W0.drew w → But [] W0 w := fun h => (But.refl _ _).drew.trans' h
  have hT : ∀ i, i < 8 → opCtT i < base.tmps.size := fun i hi => by
    have h : opCtT i ≤ 18 := by revert i; decide
    omega
  refine region_go (by kernel_rfl) (low_of (by kernel_rfl)) (opCtC n r s1 x1 y1 p1 s2 x2 y2 p2 s3 x3 y3 p3 f) opCtT (by kernel_rfl) ?_ opCtT_inj hT (fun i w w' v hi h hb => opCtC_but h hi hb) ?_ ?_
  · intro i o j want ho hg w v hv
    have hi : i < 8 := (Array.getElem?_eq_some_iff.1 ho).1
    have : i = 0 ∨ i = 1 ∨ i = 2 ∨ i = 3 ∨ i = 4 ∨ i = 5 ∨ i = 6 ∨ i = 7 := by omega
    rcases this with rfl | rfl | rfl | rfl | rfl | rfl | rfl | rfl
    · obtain rfl := Option.some.inj ((show opCts[0]? = some opCt0 from rfl).symm.trans ho)
      exact absurd (show (none : Option (Nat × Bool)) = some (j, want) from hg) (by simp)
    · obtain rfl := Option.some.inj ((show opCts[1]? = some opCt1 from rfl).symm.trans ho)
      exact absurd (show (none : Option (Nat × Bool)) = some (j, want) from hg) (by simp)
    · obtain rfl := Option.some.inj ((show opCts[2]? = some opCt2 from rfl).symm.trans ho)
      exact absurd (show (none : Option (Nat × Bool)) = some (j, want) from hg) (by simp)
    · obtain rfl := Option.some.inj ((show opCts[3]? = some opCt3 from rfl).symm.trans ho)
      exact absurd (show (none : Option (Nat × Bool)) = some (j, want) from hg) (by simp)
    · obtain rfl := Option.some.inj ((show opCts[4]? = some opCt4 from rfl).symm.trans ho)
      exact absurd (show (none : Option (Nat × Bool)) = some (j, want) from hg) (by simp)
    · obtain rfl := Option.some.inj ((show opCts[5]? = some opCt5 from rfl).symm.trans ho)
      exact absurd (show (none : Option (Nat × Bool)) = some (j, want) from hg) (by simp)
    · obtain rfl := Option.some.inj ((show opCts[6]? = some opCt6 from rfl).symm.trans ho)
      exact absurd (show (none : Option (Nat × Bool)) = some (j, want) from hg) (by simp)
    · obtain rfl := Option.some.inj ((show opCts[7]? = some opCt7 from rfl).symm.trans ho)
      exact absurd (show (none : Option (Nat × Bool)) = some (j, want) from hg) (by simp)
  · intro i o a w K ho hH he hdep hk
    have hi : i < 8 := (Array.getElem?_eq_some_iff.1 ho).1
    have hD := dep_have (ps := [(2, 1), (3, 2), (4, 0), (4, 3), (6, 4), (6, 5), (7, 0), (7, 1), (7, 2), (7, 3), (7, 4), (7, 5), (7, 6)]) (by kernel_rfl) ho (fun j => opCtC n r s1 x1 y1 p1 s2 x2 y2 p2 s3 x3 y3 p3 f j w (a.eval (.tmp (opCtT j)))) hdep
    have e3' := (he 3 (fun j hj e => absurd e.symm (by revert j; decide))).trans e3
    have e1' := (he 1 (fun j hj e => absurd e.symm (by revert j; decide))).trans e1
    have e5' := (he 5 (fun j hj e => absurd e.symm (by revert j; decide))).trans e5
    have : i = 0 ∨ i = 1 ∨ i = 2 ∨ i = 3 ∨ i = 4 ∨ i = 5 ∨ i = 6 ∨ i = 7 := by omega
    rcases this with rfl | rfl | rfl | rfl | rfl | rfl | rfl | rfl
    · obtain rfl := Option.some.inj ((show opCts[0]? = some opCt0 from rfl).symm.trans ho)
      exact wp_value (run_loadF a w _ _ _ _ _ _ g3 0 _ _ _ _ e3' (c1.but (hdr hH) (by simp))) (hk _ _ (But.refl _ _) rfl)
    · obtain rfl := Option.some.inj ((show opCts[1]? = some opCt1 from rfl).symm.trans ho)
      exact wp_value (run_mv a w _ _ _ _ _ _ _ e1') (hk _ _ (But.refl _ _) rfl)
    · obtain rfl := Option.some.inj ((show opCts[2]? = some opCt2 from rfl).symm.trans ho)
      exact wp_enter (run_whole a w _ _ _ _ _ _ _ (hD 1 (by simp))) (R := fun w' v => But [] w w' ∧ v = _) ((WH w).mono fun e w' ⟨he, hb⟩ => ⟨_, he, hb, rfl⟩) (fun v w' hv => hk v w' hv.1 hv.2)
    · obtain rfl := Option.some.inj ((show opCts[3]? = some opCt3 from rfl).symm.trans ho)
      exact wp_enter (run_turnF a w _ _ _ _ _ _ _ (hD 2 (by simp))) (R := fun w' v => FracAt w' v (((n : Int) : Rat)⁻¹) ∧ But [] w w') (TU w) (fun v w' hv => hk v w' hv.2 hv.1)
    · obtain rfl := Option.some.inj ((show opCts[4]? = some opCt4 from rfl).symm.trans ho)
      exact wp_enter (run_mulF a w _ _ _ _ _ _ _ _ _ (hD 0 (by simp)) rfl) (R := fun w' v => FracAt w' v (f * ((n : Int) : Rat)⁻¹) ∧ But [] w w') (MU w (hdr hH) _ (hD 3 (by simp))) (fun v w' hv => hk v w' hv.2 hv.1)
    · obtain rfl := Option.some.inj ((show opCts[5]? = some opCt5 from rfl).symm.trans ho)
      exact wp_value (run_loadF a w _ _ _ _ _ _ g5 0 _ _ _ _ e5' (c2.but (hdr hH) (by simp))) (hk _ _ (But.refl _ _) rfl)
    · obtain rfl := Option.some.inj ((show opCts[6]? = some opCt6 from rfl).symm.trans ho)
      exact wp_enter (run_cmpF a w _ _ _ _ _ _ _ _ _ rfl (hD 5 (by simp))) (R := fun w' v => But [] w w' ∧ v = _) ((CM w (hdr hH) _ (hD 4 (by simp))).mono fun e w' ⟨he, hb⟩ => ⟨_, he, hb, rfl⟩) (fun v w' hv => hk v w' hv.1 hv.2)
    · obtain rfl := Option.some.inj ((show opCts[7]? = some opCt7 from rfl).symm.trans ho)
      exact wp_value (run_as a w _ _ _ _ _ _ _ (hD 6 (by simp))) (hk _ _ (But.refl _ _) rfl)
  · intro a w h
    have ea := h.puts hT (fun i => match i with
      | 0 => .agg #[.bool s1, .int .u64 x1, .int .u64 y1, .pointer p1]
      | 1 => .int .i64 n
      | 2 => .agg #[.bool s3, .int .u64 x3, .int .u64 y3, .pointer p3]
      | 3 => a.eval (.tmp 15)
      | 4 => a.eval (.tmp 16)
      | 5 => .agg #[.bool s2, .int .u64 x2, .int .u64 y2, .pointer p2]
      | 6 => .int .i64 r
      | _ => .int .i64 r) (fun i hi => by
      have hi' : i < 8 := hi
      have hc := h.has i hi rfl
      have : i = 0 ∨ i = 1 ∨ i = 2 ∨ i = 3 ∨ i = 4 ∨ i = 5 ∨ i = 6 ∨ i = 7 := by omega
      rcases this with rfl | rfl | rfl | rfl | rfl | rfl | rfl | rfl
      all_goals first | exact hc | rfl)
    rw [ea]
    exact hQ w (a.eval (.tmp 15)) (a.eval (.tmp 16)) (hdr h.but)

set_option maxHeartbeats 4000000 in
set_option maxRecDepth 100000 in
theorem cmpTimes_any (vf vg : Value) (f g : Rat) (n : Int) (w : World) (hf : FracAt w vf f) (hg : FracAt w vg g) (lf : Len f 4) (lg : Len g 150) (hn1 : -4611686018427387904 < n) (hn2 : n < 4611686018427387904) (r : Int) (hr : Hid (r = sg (f - g * ((n : Int) : Rat)))) :
    Calls Tryz.prog 38 #[vf, .int .i64 n, vg] w fun e w' => e = .returned (.int .i64 r) ∧ But [] w w' := by
  have HF0 := hide hf
  have HG0 := hide hg
  obtain ⟨x1, y1, p1, rfl, -⟩ := hf.agg
  obtain ⟨x2, y2, p2, rfl, -⟩ := hg.agg
  clear hf hg
  generalize decide (f.num < 0) = s1 at *
  generalize decide (g.num < 0) = s2 at *
  obtain ⟨W, hW⟩ : ∃ W, W = (w.alloc (.cells #[.bool s1, .int .u64 x1, .int .u64 y1, .pointer p1] 33)).alloc (.cells #[.bool s2, .int .u64 x2, .int .u64 y2, .pointer p2] 33) := ⟨_, rfl⟩
  have hB : But [] w W := by rw [hW]; exact ((But.refl _ _).alloc _).alloc _
  obtain ⟨c1, c2⟩ : P4 W w.heap.size s1 x1 y1 p1 ∧ P4 W (w.heap.size + 1) s2 x2 y2 p2 := by
    obtain ⟨tA, tB, -⟩ := two_new w W _ _ _ hW
    have a0 := tA 0
    have a1 := tA 1
    have a2 := tA 2
    have a3 := tA 3
    have b0 := tB 0
    have b1 := tB 1
    have b2 := tB 2
    have b3 := tB 3
    exact ⟨⟨a0, a1, a2, a3⟩, ⟨b0, b1, b2, b3⟩⟩
  have HF : Hid (FracAt W (.agg #[.bool s1, .int .u64 x1, .int .u64 y1, .pointer p1]) f) := (unhide HF0).but hB
  have HG : Hid (FracAt W (.agg #[.bool s2, .int .u64 x2, .int .u64 y2, .pointer p2]) g) := (unhide HG0).but hB
  have HB := hide hB
  have HW := hide hW
  have C1 := hide c1
  have C2 := hide c2
  clear HF0 HG0 hB hW c1 c2
  obtain ⟨g3, hg3⟩ : ∃ g3, g3 = w.heap.size := ⟨_, rfl⟩
  obtain ⟨g5, hg5⟩ : ∃ g5, g5 = w.heap.size + 1 := ⟨_, rfl⟩
  rw [← hg3] at C1
  rw [← hg5] at C2
  have l3 : g3 < W.heap.size := lt_of_cell (unhide C1).1
  have l5 : g5 < W.heap.size := lt_of_cell (unhide C2).1
  by_cases h0 : n = 0
  · subst h0
    have SG := hide (fun W' (h : But [] W W') => fracSign_any _ f W' ((unhide HF).but h))
    rw [sign_sg] at SG
    have er : r = sg f := by rw [unhide hr]; congr 1; rw [show (((0 : Int) : Int) : Rat) = 0 from rfl]; grind
    rw [← er] at SG
    obtain ⟨a0, a1, a2, a3⟩ := unhide C1
    clear hr er
    go_enter Tryz.func38, Tryz.ntmps38
    go_wp2_with fail
    rw [← unhide HW, ← hg3]
    clear HW hg3 hg5
    go_wp2_with fail
    refine (unhide SG _ (But.refl _ _)).mono ?_
    rintro e w1 ⟨rfl, hb1⟩
    have hB1 := (unhide HB).trans' hb1
    clear hb1
    go_wp2
    go_ret
    exact ⟨rfl, hB1⟩
  · obtain ⟨s3, x3, FW, CW⟩ := whole_is n (by omega) (by omega)
    have hn0 : ((n : Int) : Rat).num ≠ 0 := by rw [(int_parts n).1]; exact h0
    have ln : Len ((n : Int) : Rat) 1 := len_int n (by omega)
    have lF : Len (f * ((n : Int) : Rat)⁻¹) 5 := len_mul lf (len_inv ln hn0) 5 (by omega)
    obtain ⟨q, hq⟩ : ∃ q : Int, q = sg (f * ((n : Int) : Rat)⁻¹ - g) := ⟨_, rfl⟩
    have WH := hide CW
    have TU := hide (fun W' => fracTurned_any _ _ W' (FW W') hn0)
    have MU := hide (fun W' (h : But [] W W') v (hv : FracAt W' v ((n : Int) : Rat)⁻¹) => fracMul_any _ v f _ W' ((unhide HF).but h) hv (lf.mono (by omega)) ((len_inv ln hn0).mono (by omega)))
    have CM := hide (fun W' (h : But [] W W') v (hv : FracAt W' v (f * ((n : Int) : Rat)⁻¹)) => fracCmp_any v _ _ g W' hv ((unhide HG).but h) (lF.mono (by omega)) (lg.mono (by omega)) q (by show q = _; rw [hq]; exact (cmpZ_sg _ _).symm))
    have HQ := hide hq
    have h0i : ((n : Int) == 0) = false := by simp [h0]
    clear CW FW hq ln lF hn0 lf lg
    go_enter Tryz.func38, Tryz.ntmps38
    go_wp2_with fail
    rw [← unhide HW, ← hg5, ← hg3]
    clear HW hg3 hg5
    refine cmpTimes_region 3 _ _ W n q s1 x1 y1 p1 s2 x2 y2 p2 s3 x3 0 none f (by simp) g3 g5 (by simp [Act.eval]) (by simp [Act.eval]) (by simp [Act.eval]) (unhide C1) (unhide C2) (unhide WH) (unhide TU) (unhide MU) (unhide CM) ?_
    intro w1 v3 v4 hb1
    have hB1 := (unhide HB).trans' hb1
    clear hb1 WH TU MU CM C1 C2 HF HG HB
    simp only [putted, List.foldl_cons, List.foldl_nil, Act.put, List.setIfInBounds_toArray, List.set_cons_zero, List.set_cons_succ]
    have hq3 : q = -1 ∨ q = 0 ∨ q = 1 := by
      rw [unhide HQ]
      unfold sg
      split
      · exact .inl rfl
      · split
        · exact .inr (.inl rfl)
        · exact .inr (.inr rfl)
    by_cases hneg : n < 0
    · have er : r = -q := by rw [unhide hr, unhide HQ]; exact (times_neg f g n hneg).symm
      clear hr HQ
      subst er
      go_wp2
      go_ret
      exact ⟨by congr 2, hB1⟩
    · have er : r = q := by rw [unhide hr, unhide HQ]; exact (times_pos f g n (by omega)).symm
      clear hr HQ
      subst er
      go_wp2
      go_ret
      exact ⟨rfl, hB1⟩
end Go.Proofs.YtlkpkgajfakdpaaGreat
