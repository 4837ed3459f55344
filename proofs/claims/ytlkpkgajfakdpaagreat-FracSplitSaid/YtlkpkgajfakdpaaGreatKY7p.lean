/- Units are parted: what is left behind cutting off, plain. -/
import Derived.Test.YtlkpkgajfakdpaaGreatKR0
import Derived.Test.YtlkpkgajfakdpaaGreatKY0
import Derived.Test.YtlkpkgajfakdpaaGreatKY3
import Derived.Test.YtlkpkgajfakdpaaGreatKYM
namespace Go.Proofs.YtlkpkgajfakdpaaGreat
open Go.RowKit

theorem tot_rest (ws : List Rat) (e : Rat) (F : Nat → Nat) (k : Nat) (hk : k ≤ ws.length) : tot ((List.range k).map fun i => ws[i]?.getD 0 * e - ((F i : Int) : Rat)) = tot (ws.take k) * e - ((((List.range k).map F).sum : Int) : Rat) := by
  induction k with
  | zero =>
    show (0 : Rat) = 0 * e - (((0 : Nat) : Int) : Rat)
    rw [show (((0 : Nat) : Int) : Rat) = 0 from rfl]
    grind
  | succ k ih =>
    have hlt : k < ws.length := by omega
    rw [List.range_succ, List.map_append, tot_append, ih (by omega), List.map_append, List.sum_append, List.take_add_one, tot_append, List.getElem?_eq_getElem hlt]
    have h1 : ∀ x : Rat, tot [x] = x := fun x => by show x + 0 = x; grind
    rw [List.map_singleton, h1, List.map_singleton, List.sum_singleton, Int.natCast_add, Rat.intCast_add, Option.toList_some, h1, List.getElem?_eq_getElem hlt, Option.getD_some]
    grind
theorem tot_member : ∀ (ws : List Rat), (∀ f ∈ ws, 0 ≤ f) → ∀ f ∈ ws, f ≤ tot ws
  | [], _, f, hf => by simp at hf
  | a :: l, h, f, hf => by
    have h1 := tot_nonneg l (fun x hx => h x (by simp [hx]))
    have h2 := h a (by simp)
    show f ≤ a + tot l
    rcases List.mem_cons.1 hf with e | e
    · subst e; grind
    · have := tot_member l (fun x hx => h x (by simp [hx])) f e
      grind
/-- what cutting off leaves -/
structure Cuts (U : Nat) (ws : List Rat) (e : Rat) (F : Nat → Nat) (m : Nat) : Prop where
  each : ∀ x, ((U : Int) : Rat) * x / tot ws = x * e
  pos : 0 ≤ e
  up : 0 < m → 0 < e
  low : ∀ i, i < ws.length → ((F i : Int) : Rat) ≤ ws[i]?.getD 0 * e
  high : ∀ i, i < ws.length → ws[i]?.getD 0 * e < ((F i : Int) : Rat) + 1
  rest : tot ((List.range ws.length).map fun i => ws[i]?.getD 0 * e - ((F i : Int) : Rat)) = ((m : Int) : Rat)
  sum : ((List.range ws.length).map F).sum + m = U
  le : m ≤ ws.length
theorem each_le (U : Nat) (ws : List Rat) (h0 : ∀ f ∈ ws, 0 ≤ f) (ht : 0 < tot ws) (i : Nat) (hi : i < ws.length) : ws[i]?.getD 0 * (((U : Int) : Rat) * (tot ws)⁻¹) ≤ ((U : Int) : Rat) ∧ 0 ≤ ((U : Int) : Rat) * (tot ws)⁻¹ := by
  have hne : tot ws ≠ 0 := fun h => by rw [h] at ht; exact Rat.lt_irrefl ht
  have hU : (0 : Rat) ≤ ((U : Int) : Rat) := by
    have : ((0 : Int) : Rat) ≤ ((U : Int) : Rat) := Rat.intCast_le_intCast.2 (by omega)
    simpa using this
  have hi0 : (0 : Rat) ≤ (tot ws)⁻¹ := Rat.le_of_lt (Rat.inv_pos.2 ht)
  have he := Rat.mul_nonneg hU hi0
  refine ⟨?_, he⟩
  rw [List.getElem?_eq_getElem hi, Option.getD_some]
  have h1 := tot_member ws h0 _ (List.getElem_mem hi)
  have h2 := Rat.mul_le_mul_of_nonneg_right h1 he
  have h3 : tot ws * (((U : Int) : Rat) * (tot ws)⁻¹) = ((U : Int) : Rat) := by
    have := Rat.inv_mul_cancel _ hne
    grind
  rw [h3] at h2
  exact h2
theorem cuts_of (U : Nat) (ws : List Rat) (_h0 : ∀ f ∈ ws, 0 ≤ f) (ht : 0 < tot ws) (F : Nat → Nat) (hF : ∀ i, i < ws.length → ((F i : Nat) : Int) = fl (ws[i]?.getD 0 * (((U : Int) : Rat) * (tot ws)⁻¹))) :
    ∃ m, Cuts U ws (((U : Int) : Rat) * (tot ws)⁻¹) F m := by
  have hne : tot ws ≠ 0 := fun h => by rw [h] at ht; exact Rat.lt_irrefl ht
  have hlow : ∀ i, i < ws.length → ((F i : Int) : Rat) ≤ ws[i]?.getD 0 * (((U : Int) : Rat) * (tot ws)⁻¹) := fun i hi => by rw [hF i hi]; exact fl_le _
  have hhigh : ∀ i, i < ws.length → ws[i]?.getD 0 * (((U : Int) : Rat) * (tot ws)⁻¹) < ((F i : Int) : Rat) + 1 := fun i hi => by rw [hF i hi]; exact lt_fl _
  have hr := tot_rest ws (((U : Int) : Rat) * (tot ws)⁻¹) F ws.length (Nat.le_refl _)
  have h3 : tot ws * (((U : Int) : Rat) * (tot ws)⁻¹) = ((U : Int) : Rat) := by
    have := Rat.inv_mul_cancel _ hne
    grind
  rw [List.take_length, h3] at hr
  have hn := tot_nonneg ((List.range ws.length).map fun i => ws[i]?.getD 0 * (((U : Int) : Rat) * (tot ws)⁻¹) - ((F i : Int) : Rat)) (fun x hx => by
    obtain ⟨i, hi, rfl⟩ := List.mem_map.1 hx
    have := hlow i (List.mem_range.1 hi)
    grind)
  have hle := tot_le ((List.range ws.length).map fun i => ws[i]?.getD 0 * (((U : Int) : Rat) * (tot ws)⁻¹) - ((F i : Int) : Rat)) (fun x hx => by
    obtain ⟨i, hi, rfl⟩ := List.mem_map.1 hx
    have := hhigh i (List.mem_range.1 hi)
    grind)
  have hr0 := hr
  rw [hr] at hn hle
  rw [← Rat.intCast_sub] at hn hle hr
  rw [List.length_map, List.length_range] at hle
  have e1 : (0 : Int) ≤ (U : Int) - (((List.range ws.length).map F).sum : Int) := Rat.intCast_le_intCast.1 (by simpa using hn)
  have e2 := Rat.intCast_le_intCast.1 hle
  obtain ⟨m, hm⟩ : ∃ m : Nat, (m : Int) = (U : Int) - (((List.range ws.length).map F).sum : Int) := ⟨((U : Int) - (((List.range ws.length).map F).sum : Int)).toNat, by omega⟩
  have hep : 0 ≤ ((U : Int) : Rat) * (tot ws)⁻¹ := by
    have hU : (0 : Rat) ≤ ((U : Int) : Rat) := by
      have : ((0 : Int) : Rat) ≤ ((U : Int) : Rat) := Rat.intCast_le_intCast.2 (by omega)
      simpa using this
    exact Rat.mul_nonneg hU (Rat.le_of_lt (Rat.inv_pos.2 ht))
  refine ⟨m, fun x => ?_, hep, fun h => ?_, hlow, hhigh, by rw [hr, hm], by omega, by omega⟩
  · rw [Rat.div_def]
    grind
  · exact Rat.mul_pos (int_pos (by omega)) (Rat.inv_pos.2 ht)
theorem range_get (F : Nat → Nat) (n i : Nat) (hi : i < n) : ((List.range n).map F)[i]?.getD 0 = F i := by
  rw [List.getElem?_map, List.getElem?_range hi]
  rfl
theorem cuts_fair (U : Nat) (ws : List Rat) (e : Rat) (F : Nat → Nat) (m : Nat) (h : Cuts U ws e F m) (js : List Nat) (hR : 0 < m → Rowed (cutR (fun j => ws[j]?.getD 0) F e) ws.length js) (h0 : m = 0 → js.take m = []) : Fair U (fun i => ws[i]?.getD 0) (tot ws) ws.length (bumps ((List.range ws.length).map F) (js.take m)) := by
  have hg := range_get F ws.length
  have hcut : ∀ i, i < ws.length → ws[i]?.getD 0 * e - (((((List.range ws.length).map F)[i]?.getD 0 : Nat) : Int) : Rat) = cutR (fun j => ws[j]?.getD 0) F e i := fun i hi => by rw [hg i hi]; rfl
  refine fair_of U m _ _ e ws.length _ js h.pos h.up h.each (by simp) (fun i hi => by rw [hg i hi]; exact h.low i hi) (fun i hi => by rw [hg i hi]; exact h.high i hi) ?_ h.sum h.le (fun hm => ?_) h0
  · rw [← h.rest]
    congr 1
    refine List.map_congr_left (fun i hi => ?_)
    rw [hg i (List.mem_range.1 hi)]
  · have hr := hR hm
    refine ⟨hr.perm, fun p q hpq hq ha => hr.sorted p q hpq hq ?_⟩
    have hp1 := (hr.mem _).1 (List.getElem_mem hq)
    have hp2 := (hr.mem _).1 (List.getElem_mem (show p < js.length by omega))
    unfold Ahead at ha ⊢
    simp only [hcut _ hp1, hcut _ hp2] at ha
    exact ha
end Go.Proofs.YtlkpkgajfakdpaaGreat

namespace Go.Proofs.YtlkpkgajfakdpaaGreat
open Go.RowKit

def opEa0 : Oper := { dst := some 45, op := Op.move (Operand.tmp 0), type := 3, pos := "split.go:25", after := #[], guard := none }
def opEa1 : Oper := { dst := some 46, op := Op.call { callee := Callee.value (Operand.func 6), args := #[Operand.tmp 45], argTypes := #[3] }, type := 33, pos := "split.go:25", after := #[{ on := 0, ground := Ground.data }], guard := none }
def opEa2 : Oper := { dst := some 47, op := Op.load 33 (Operand.tmp 8), type := 33, pos := "split.go:25", after := #[], guard := none }
def opEa3 : Oper := { dst := some 48, op := Op.call { callee := Callee.value (Operand.func 15), args := #[Operand.tmp 47], argTypes := #[33] }, type := 33, pos := "split.go:25", after := #[{ on := 2, ground := Ground.data }, { on := 1, ground := Ground.chain }], guard := none }
def opEa4 : Oper := { dst := some 49, op := Op.call { callee := Callee.value (Operand.func 8), args := #[Operand.tmp 46, Operand.tmp 48], argTypes := #[33, 33] }, type := 33, pos := "split.go:25", after := #[{ on := 1, ground := Ground.data }, { on := 3, ground := Ground.data }, { on := 3, ground := Ground.chain }], guard := none }
def opEa5 : Oper := { dst := some 9, op := Op.alloc 33, type := 0, pos := "split.go:25", after := #[], guard := none }
def opEa6 : Oper := { dst := none, op := Op.store 33 (Operand.tmp 9) (Operand.tmp 49), type := 0, pos := "split.go:25", after := #[{ on := 5, ground := Ground.data }, { on := 4, ground := Ground.data }, { on := 4, ground := Ground.chain }, { on := 0, ground := Ground.phase }, { on := 1, ground := Ground.phase }, { on := 2, ground := Ground.phase }, { on := 3, ground := Ground.phase }, { on := 4, ground := Ground.phase }, { on := 5, ground := Ground.phase }], guard := none }
def opEas : Array Oper := #[opEa0, opEa1, opEa2, opEa3, opEa4, opEa5, opEa6]
def opEaT (i : Nat) : Nat := match i with
  | 0 => 45
  | 1 => 46
  | 2 => 47
  | 3 => 48
  | 4 => 49
  | _ => 9
/-- what each operation's value is -/
def opEaC (B : Nat) (U : Int) (s1 : Bool) (x1 : Int) (y1 : Int) (p1 : Option Addr) (s2 : Bool) (x2 : Int) (y2 : Int) (p2 : Option Addr) (t : Rat) (i : Nat) (w : World) (v : Value) : Prop := match i with
  | 0 => v = .int .i64 U
  | 1 => v = .agg #[.bool s1, .int .u64 x1, .int .u64 y1, .pointer p1]
  | 2 => v = .agg #[.bool s2, .int .u64 x2, .int .u64 y2, .pointer p2]
  | 3 => FracAt w v t⁻¹
  | 4 => FracAt w v (((U : Int) : Rat) * t⁻¹)
  | _ => Laid4 B w v
theorem opEaC_but {B : Nat} {U : Int} {s1 : Bool} {x1 : Int} {y1 : Int} {p1 : Option Addr} {s2 : Bool} {x2 : Int} {y2 : Int} {p2 : Option Addr} {t : Rat} {i : Nat} {w w' : World} {v : Value} (h : opEaC B U s1 x1 y1 p1 s2 x2 y2 p2 t i w v) (hi : i < 6) (hb : But [] w w') : opEaC B U s1 x1 y1 p1 s2 x2 y2 p2 t i w' v := by
  have : i = 0 ∨ i = 1 ∨ i = 2 ∨ i = 3 ∨ i = 4 ∨ i = 5 := by omega
  rcases this with rfl | rfl | rfl | rfl | rfl | rfl
  all_goals first | exact h | exact FracAt.but h hb | exact FracsAt.but h hb | exact Laid4.but h hb | exact FracErr.but h hb
theorem opEaT_inj : ∀ i j, i < 6 → j < 6 → opEaT i = opEaT j → i = j := fun i j hi hj => (by decide : ∀ i, i < 6 → ∀ j, j < 6 → opEaT i = opEaT j → i = j) i hi j hj
set_option maxRecDepth 100000 in
theorem each_region (id : Nat) (Q : Exit → Act → World → Prop) (base : Act) (W0 : World) (B : Nat) (U : Int) (s1 : Bool) (x1 : Int) (y1 : Int) (p1 : Option Addr) (s2 : Bool) (x2 : Int) (y2 : Int) (p2 : Option Addr) (t : Rat) (hs : 49 < base.tmps.size) (g8 : Nat) (hBW : B ≤ W0.heap.size) (e0 : base.eval (.tmp 0) = .int .i64 U) (e8 : base.eval (.tmp 8) = .pointer (some ⟨g8, 0, none⟩))
    (c2 : P4 W0 g8 s2 x2 y2 p2)
    (WH : ∀ w, Calls Tryz.prog 6 #[.int .i64 U] w fun e w' => e = .returned (.agg #[.bool s1, .int .u64 x1, .int .u64 y1, .pointer p1]) ∧ But [] w w')
    (TU : ∀ w, But [] W0 w → Calls Tryz.prog 15 #[.agg #[.bool s2, .int .u64 x2, .int .u64 y2, .pointer p2]] w fun e w' => ∃ v, e = .returned v ∧ FracAt w' v t⁻¹ ∧ But [] w w')
    (MU : ∀ w v, FracAt w v t⁻¹ → Calls Tryz.prog 8 #[.agg #[.bool s1, .int .u64 x1, .int .u64 y1, .pointer p1], v] w fun e w' => ∃ v, e = .returned v ∧ FracAt w' v (((U : Int) : Rat) * t⁻¹) ∧ But [] w w')
    (hQ : ∀ w1 bn v3 s' x' y' p', But [] W0 w1 → B ≤ bn → P4 w1 bn false 0 0 none → (∀ j, w1.frozen? ⟨bn, j, none⟩ = false) → FracAt w1 (.agg #[.bool s', .int .u64 x', .int .u64 y', .pointer p']) (((U : Int) : Rat) * t⁻¹) → Q .normal (putted base [(45, .int .i64 U), (46, .agg #[.bool s1, .int .u64 x1, .int .u64 y1, .pointer p1]), (47, .agg #[.bool s2, .int .u64 x2, .int .u64 y2, .pointer p2]), (48, v3), (49, (.agg #[.bool s', .int .u64 x', .int .u64 y', .pointer p'])), (9, .pointer (some ⟨bn, 0, none⟩))]) (put4 w1 bn s' x' y' p')) :
    (Code.region id opEas true).wp Tryz.prog Q base W0 := by
  have hdr : ∀ {w}, But [] W0.drew w → But [] W0 w := fun h => (But.refl _ _).drew.trans' h
  have hT : ∀ i, i < 6 → opEaT i < base.tmps.size := fun i hi => by
    have h : opEaT i ≤ 49 := by revert i; decide
    omega
  refine region_flow (by kernel_rfl) (low_of (by kernel_rfl)) (fun i o ho => (calm_of (ops := opEas) (by kernel_rfl) i o ho).1)
    (fun _ w => But [] W0.drew w) (opEaC B U s1 x1 y1 p1 s2 x2 y2 p2 t) opEaT 6 rfl opEaT_inj hT (But.refl _ _)
    (fun i hi => ?_) ?_ (fun a w => ∃ w1 bn v3 s' x' y' p', a = putted base [(45, .int .i64 U), (46, .agg #[.bool s1, .int .u64 x1, .int .u64 y1, .pointer p1]), (47, .agg #[.bool s2, .int .u64 x2, .int .u64 y2, .pointer p2]), (48, v3), (49, (.agg #[.bool s', .int .u64 x', .int .u64 y', .pointer p'])), (9, .pointer (some ⟨bn, 0, none⟩))] ∧ w = put4 w1 bn s' x' y' p' ∧ But [] W0 w1 ∧ B ≤ bn ∧ P4 w1 bn false 0 0 none ∧ (∀ j, w1.frozen? ⟨bn, j, none⟩ = false) ∧ FracAt w1 (.agg #[.bool s', .int .u64 x', .int .u64 y', .pointer p']) (((U : Int) : Rat) * t⁻¹)) ?_ ?_
  · exact dep_of (ops := opEas) (ps := [(6, 0), (6, 1), (6, 2), (6, 3), (6, 4), (6, 5)]) (by kernel_rfl) 6 i (by
      have : i = 0 ∨ i = 1 ∨ i = 2 ∨ i = 3 ∨ i = 4 ∨ i = 5 := by omega
      rcases this with rfl | rfl | rfl | rfl | rfl | rfl <;> simp)
  · intro dn i o a w K hi ho hdi hH he hdep hK
    have hD := fun j hj => (dep_have (ps := [(1, 0), (3, 1), (3, 2), (4, 1), (4, 3)]) (by kernel_rfl) ho (fun j => dn j = true ∧ opEaC B U s1 x1 y1 p1 s2 x2 y2 p2 t j w (a.eval (.tmp (opEaT j)))) hdep j hj).2
    have hk : ∀ v w', But [] w w' → opEaC B U s1 x1 y1 p1 s2 x2 y2 p2 t i w' v → K (a.put (some (opEaT i)) v) w' := fun v w' hb hv => hK v w' (hH.trans' hb) (fun j hj _ u hu => opEaC_but hu hj hb) hv
    have e0' := (he 0 (fun j hj e => absurd e.symm (by revert j; decide))).trans e0
    have e8' := (he 8 (fun j hj e => absurd e.symm (by revert j; decide))).trans e8
    have : i = 0 ∨ i = 1 ∨ i = 2 ∨ i = 3 ∨ i = 4 ∨ i = 5 := by omega
    rcases this with rfl | rfl | rfl | rfl | rfl | rfl
    · obtain rfl := Option.some.inj ((show opEas[0]? = some opEa0 from rfl).symm.trans ho)
      exact wp_value (run_mv a w _ _ _ _ _ _ _ e0') (hk _ _ (But.refl _ _) rfl)
    · obtain rfl := Option.some.inj ((show opEas[1]? = some opEa1 from rfl).symm.trans ho)
      exact wp_enter (run_whole a w _ _ _ _ _ _ _ (hD 0 (by simp))) (R := fun w' v => But [] w w' ∧ v = _) ((WH w).mono fun e w' ⟨he, hb⟩ => ⟨_, he, hb, rfl⟩) (fun v w' hv => hk v w' hv.1 hv.2)
    · obtain rfl := Option.some.inj ((show opEas[2]? = some opEa2 from rfl).symm.trans ho)
      exact wp_value (run_loadF a w _ _ _ _ _ _ g8 0 _ _ _ _ e8' (c2.but (hdr hH) (by simp))) (hk _ _ (But.refl _ _) rfl)
    · obtain rfl := Option.some.inj ((show opEas[3]? = some opEa3 from rfl).symm.trans ho)
      exact wp_enter (run_turnF a w _ _ _ _ _ _ _ (hD 2 (by simp))) (R := fun w' v => FracAt w' v (t⁻¹) ∧ But [] w w') (TU w (hdr hH)) (fun v w' hv => hk v w' hv.2 hv.1)
    · obtain rfl := Option.some.inj ((show opEas[4]? = some opEa4 from rfl).symm.trans ho)
      exact wp_enter (run_mulF a w _ _ _ _ _ _ _ _ _ (hD 1 (by simp)) rfl) (R := fun w' v => FracAt w' v (((U : Int) : Rat) * t⁻¹) ∧ But [] w w') (MU w _ (hD 3 (by simp))) (fun v w' hv => hk v w' hv.2 hv.1)
    · obtain rfl := Option.some.inj ((show opEas[5]? = some opEa5 from rfl).symm.trans ho)
      exact wp_value (run_alloc4 a w _ _ _ _ _) (hk _ _ ((But.refl _ _).alloc _) ⟨w.heap.size, rfl, Nat.le_trans hBW (hdr hH).size, ⟨by simp, by simp, by simp, by simp⟩, fun j => by simp⟩)
  · intro dn o a w K ho hall h hK
    obtain rfl := Option.some.inj ((show opEas[6]? = some opEa6 from rfl).symm.trans ho)
    have cl : FracAt w (a.eval (.tmp 49)) (((U : Int) : Rat) * t⁻¹) := h.has 4 (by omega) (hall 4 (by omega))
    obtain ⟨bn, eb, hb1, hb2, hb3⟩ : Laid4 B w (a.eval (.tmp 9)) := h.has 5 (by omega) (hall 5 (by omega))
    have cl' := cl
    obtain ⟨x', y', p', ev, -⟩ := cl.agg
    rw [ev] at cl'
    have ea := h.puts hT (fun i => match i with
      | 0 => .int .i64 U
      | 1 => .agg #[.bool s1, .int .u64 x1, .int .u64 y1, .pointer p1]
      | 2 => .agg #[.bool s2, .int .u64 x2, .int .u64 y2, .pointer p2]
      | 3 => a.eval (.tmp 48)
      | 4 => .agg #[.bool (decide ((((U : Int) : Rat) * t⁻¹).num < 0)), .int .u64 x', .int .u64 y', .pointer p']
      | _ => .pointer (some ⟨bn, 0, none⟩)) (fun i hi => by
      have hc := h.has i hi (hall i hi)
      have : i = 0 ∨ i = 1 ∨ i = 2 ∨ i = 3 ∨ i = 4 ∨ i = 5 := by omega
      rcases this with rfl | rfl | rfl | rfl | rfl | rfl
      all_goals first | exact ev | exact eb | exact hc | rfl)
    exact wp_skipped (run_store4 a w _ _ _ _ _ bn _ x' y' p' eb ev hb2 hb3) (hK _ _ ⟨w, bn, a.eval (.tmp 48), _, x', y', p', ea, rfl, hdr h.mem, hb1, hb2, hb3, cl'⟩)
  · rintro a w ⟨w1, bn, v3, s', x', y', p', rfl, rfl, h1, h2, h3, h4, h5⟩
    exact hQ  w1 bn v3 s' x' y' p' h1 h2 h3 h4 h5
/-- what parting units comes to -/
def SplitR (U : Int) (ws : List Rat) (w w' : World) (e : Ending) : Prop := But [] w w' ∧ (((U < 0 ∨ 1000000000000000 < U ∨ (∃ f ∈ ws, f < 0) ∨ tot ws = 0) ∧ ∃ z : Int, e = .returned (.tuple #[.slice none 0 0, .iface 44 (.int .i64 z)])) ∨ (∃ (gp N : Nat) (ls : List Nat), U = (N : Int) ∧ 0 < ws.length ∧ 0 < tot ws ∧ (∀ f ∈ ws, 0 ≤ f) ∧ e = .returned (.tuple #[.slice (some ⟨gp, 0, none⟩) ws.length ws.length, .nilIface]) ∧ IntsAt w' gp 0 ws.length (fun i => ls[i]?.getD 0) ∧ Fair N (fun i => ws[i]?.getD 0) (tot ws) ws.length ls))
theorem sum_succ (F : Nat → Nat) (k : Nat) : ((List.range (k + 1)).map F).sum = ((List.range k).map F).sum + F k := by
  rw [List.range_succ, List.map_append, List.sum_append]
  simp
theorem sum_mono (F : Nat → Nat) (k n : Nat) (h : k ≤ n) : ((List.range k).map F).sum ≤ ((List.range n).map F).sum := by
  induction n with
  | zero => obtain rfl : k = 0 := by omega
            exact Nat.le_refl _
  | succ n ih =>
    by_cases e : k = n + 1
    · rw [e]; exact Nat.le_refl _
    · rw [sum_succ]
      exact Nat.le_trans (ih (by omega)) (Nat.le_add_right _ _)

/-- while those of whom the most was cut off get a unit more -/
structure LastI (w wr : World) (gs gp k j : Nat) (Fs js : List Nat) : Prop where
  but : But [] w wr
  row : IntsAt wr gs 0 k (fun i => (bumps Fs (js.take j))[i]?.getD 0)
  places : IntsAt wr gp 0 k (fun i => js[i]?.getD 0)
  loose : ∀ i, wr.frozen? ⟨gs, i, none⟩ = false
theorem LastI.next {w wr : World} {gs gp k j : Nat} {Fs js : List Nat} (h : LastI w wr gs gp k j Fs js) (hj : j < js.length) (hl : Fs.length = k) (hp : js[j] < k) (o : w.heap.size ≤ gs) (hne : gp ≠ gs) : LastI w (wr.setCell ⟨gs, js[j], none⟩ (.int .i64 (((bumps Fs (js.take j))[js[j]]?.getD 0 + 1 : Nat) : Int))) gs gp k (j + 1) Fs js := by
  have hb : But [gs] wr (wr.setCell ⟨gs, js[j], none⟩ (.int .i64 (((bumps Fs (js.take j))[js[j]]?.getD 0 + 1 : Nat) : Int))) := (But.refl [gs] wr).setCell (.inl (by simp)) _
  have hr := h.row.set hp ((bumps Fs (js.take j))[js[j]]?.getD 0 + 1)
  rw [Nat.zero_add] at hr
  refine ⟨h.but.setCell (.inr o) _, hr.congr (fun i hi => ?_), h.places.but hb (by simpa using hne), fun i => by rw [World.frozen?_setCell]; exact h.loose i⟩
  have e : js.take (j + 1) = js.take j ++ [js[j]] := by rw [List.take_add_one, List.getElem?_eq_getElem hj]; rfl
  rw [e, bumps_snoc]
  by_cases ei : i = js[j]
  · rw [if_pos ei, ei, List.getElem?_set_self (by rw [bumps_len, hl]; exact hp)]
    rfl
  · rw [if_neg ei, List.getElem?_set_ne (fun e2 => ei e2.symm)]

set_option maxHeartbeats 8000000 in
set_option maxRecDepth 100000 in
theorem split_any (U : Int) (hU1 : -9223372036854775808 ≤ U) (hU2 : U < 9223372036854775808) (v : Value) (ws : List Rat) (w : World) (hws : FracsAt w v ws) (hsm : Small v) (hn2 : ws.length ≤ 100) (hl : ∀ f ∈ ws, Len f 1) :
    Calls Tryz.prog 5 #[.int .i64 U, v] w fun e w' => SplitR U ws w w' e := by
  have SU := hide (fun W' (h : But [] w W') => in_parts (sum_any ws.length ws v W' rfl (hws.but h) hl hn2 hsm))
  obtain ⟨a, cap, rfl, hcap, -⟩ := id hws
  have HWS := hide hws
  have HL := hide hl
  obtain ⟨n, hn⟩ : ∃ n, n = ws.length := ⟨_, rfl⟩
  have HN := hide hn
  rw [← hn] at hn2 hcap SU HWS
  rw [← hn]
  clear hws hsm hl hn
  by_cases c1 : U < 0
  · have FIN : Hid (SplitR U ws w w (.returned (.tuple #[.slice none 0 0, .iface 44 (.int .i64 2)]))) := ⟨But.refl _ _, .inl ⟨.inl c1, _, rfl⟩⟩
    go_enter Tryz.func5, Tryz.ntmps5
    go_wp2
    go_ret2
    exact unhide FIN
  by_cases c2 : 1000000000000000 < U
  · have FIN : Hid (SplitR U ws w w (.returned (.tuple #[.slice none 0 0, .iface 44 (.int .i64 2)]))) := ⟨But.refl _ _, .inl ⟨.inr (.inl c2), _, rfl⟩⟩
    go_enter Tryz.func5, Tryz.ntmps5
    go_wp2
    go_ret2
    exact unhide FIN
  obtain ⟨N, hUN⟩ : ∃ N : Nat, U = (N : Int) := ⟨U.toNat, by omega⟩
  have HUN := hide hUN
  have HNB : Hid (N ≤ 1000000000000000) := by show _ ≤ _; omega
  clear hUN
  have hcl : ¬ (n : Int) > 50000 := by omega
  go_enter Tryz.func5, Tryz.ntmps5
  go_wp2
  go_loopw [30] (fun i wr => ∃ k : Nat, k ≤ n ∧ i = .int .i64 (k : Int) ∧ Hid (But [] w wr ∧ ∀ j, j < k → 0 ≤ ws[j]?.getD 0)) (fun i _ => n - (intOf i).toNat)
  case atStart => exact ⟨0, Nat.zero_le _, rfl, But.refl _ _, fun j hj => by omega⟩
  case round =>
    obtain ⟨k, hk, rfl, HI⟩ := hrel
    rename World => wr
    by_cases hlt : k < n
    · have hkl : k < ws.length := by have := unhide HN; omega
      rcases (unhide HWS).open with ⟨er, -⟩ | ⟨-, b, off, cap2, er, -, -⟩
      · rw [er] at hkl
        simp at hkl
      simp only [Value.slice.injEq] at er
      obtain ⟨rfl, -, rfl⟩ := er
      obtain ⟨s9, x9, y9, p9, ⟨l0, l1, l2, l3⟩, f9⟩ := ((unhide HWS).but (unhide HI).1).get k hlt
      have SG := hide (fun W' (h : But [] wr W') => fracSign_any _ _ W' (f9.but h))
      rw [sign_sg] at SG
      have BA : Hid (But [] wr (wr.alloc (.cells #[.bool s9, .int .u64 x9, .int .u64 y9, .pointer p9] 33))) := (But.refl _ _).alloc _
      have HK := hide hkl
      obtain ⟨q, hq⟩ : ∃ q : Int, q = sg (ws[k]?.getD 0) := ⟨_, rfl⟩
      rw [← hq] at SG
      have HQ := hide hq
      clear f9 hkl hq
      go_wp2_with fail
      refine (unhide SG _ (unhide BA)).mono ?_
      rintro e' w1 ⟨rfl, hb1⟩
      have B1 : Hid (But [] wr w1) := (unhide BA).trans' hb1
      clear hb1 BA SG l0 l1 l2 l3
      by_cases hneg : q < 0
      · have FIN : Hid (SplitR U ws w w1 (.returned (.tuple #[.slice none 0 0, .iface 44 (.int .i64 1)]))) := ⟨(unhide HI).1.trans' (unhide B1), .inl ⟨.inr (.inr (.inl ⟨ws[k]'(unhide HK), List.getElem_mem _, by
          rw [unhide HQ, List.getElem?_eq_getElem (unhide HK), Option.getD_some] at hneg
          rcases rat_cases (ws[k]'(unhide HK)) with h | h | h
          · exact h
          · rw [h, sg_zero] at hneg; omega
          · rw [sg_pos h] at hneg; omega⟩)), _, rfl⟩⟩
        go_wp2
        go_ret2
        exact unhide FIN
      · go_wp2
        refine ⟨⟨k + 1, by omega, by go_num, (unhide HI).1.trans' (unhide B1), fun j hj => ?_⟩, by simp [intOf]; omega⟩
        by_cases ej : j = k
        · rw [ej]
          rw [unhide HQ] at hneg
          rcases rat_cases (ws[k]?.getD 0) with h | h | h
          · rw [sg_neg h] at hneg; omega
          · rw [h]; exact Rat.le_refl
          · exact Rat.le_of_lt h
        · exact (unhide HI).2 j (by omega)
    · obtain rfl : k = n := by omega
      have hw0 : ∀ f ∈ ws, 0 ≤ f := fun f hf => by
        obtain ⟨i, hi, rfl⟩ := List.mem_iff_getElem.1 hf
        have := (unhide HI).2 i (by have := unhide HN; omega)
        rwa [List.getElem?_eq_getElem hi, Option.getD_some] at this
      have HW0 := hide hw0
      have BW : Hid (But [] w wr) := (unhide HI).1
      have ltot : Len (tot ws) 101 := (len_tot ws (unhide HL) (by have := unhide HN; omega)).mono (by have := unhide HN; omega)
      have LT := hide ltot
      clear hw0 ltot HI
      go_wp2_with fail
      refine (unhide SU _ (unhide BW)).mono ?_
      rintro e' w1 ⟨st, xt, yt, pt, rfl, ht, hb1⟩
      obtain ⟨V8, hV8⟩ : ∃ V8, V8 = w1.alloc (.cells #[.bool st, .int .u64 xt, .int .u64 yt, .pointer pt] 33) := ⟨_, rfl⟩
      have b8 : But [] w1 V8 := by rw [hV8]; exact (But.refl _ _).alloc _
      have c8 : P4 V8 w1.heap.size st xt yt pt := by rw [hV8]; exact ⟨by simp, by simp, by simp, by simp⟩
      have SG := hide (fun W' (h : But [] V8 W') => fracSign_any _ _ W' ((ht.but b8).but h))
      rw [sign_sg] at SG
      have BW8 : Hid (But [] w V8) := ((unhide BW).trans' hb1).trans' b8
      have HT := hide (ht.but b8)
      have HV8 := hide hV8
      have C8 := hide c8
      obtain ⟨q, hq⟩ : ∃ q : Int, q = sg (tot ws) := ⟨_, rfl⟩
      rw [← hq] at SG
      have HQ := hide hq
      clear hq ht hb1 b8 c8 hV8 SU BW
      go_wp2_with fail
      rw [← unhide HV8]
      refine (unhide SG _ (But.refl _ _)).mono ?_
      rintro e' w2 ⟨rfl, hb2⟩
      obtain ⟨g8, hg8⟩ : ∃ g8, g8 = w1.heap.size := ⟨_, rfl⟩
      rw [← hg8] at C8
      rw [← hg8]
      have C82 := hide ((unhide C8).but hb2 (by simp))
      have HT2 := hide ((unhide HT).but hb2)
      have BW2 : Hid (But [] w w2) := (unhide BW8).trans' hb2
      clear hb2 hg8 C8 HT BW8 HV8 SG
      by_cases ht0 : tot ws = 0
      · have hq0 : q = 0 := by rw [unhide HQ, ht0, sg_zero]
        have FIN : Hid (SplitR U ws w w2 (.returned (.tuple #[.slice none 0 0, .iface 44 (.int .i64 11)]))) := ⟨unhide BW2, .inl ⟨.inr (.inr (.inr ht0)), _, rfl⟩⟩
        subst hq0
        clear ht0
        go_wp2
        go_ret2
        exact unhide FIN
      · have htp : 0 < tot ws := by
          rcases rat_cases (tot ws) with h | h | h
          · have := tot_nonneg ws (unhide HW0)
            exfalso; grind
          · exact absurd h ht0
          · exact h
        have hk0 : 0 < k := by
          rcases Nat.eq_zero_or_pos k with h | h
          · have h2 := unhide HN
            rw [h] at h2
            rw [List.length_eq_zero_iff.1 h2.symm] at htp
            exact absurd htp Rat.lt_irrefl
          · exact h
        have hb : (q == 0) = false := by
          rw [unhide HQ, sg_pos htp]; rfl
        rcases (unhide HWS).open with ⟨er, -⟩ | ⟨-, b, off, cap2, er, -, -⟩
        · have h2 := unhide HN
          rw [er] at h2
          simp at h2
          omega
        simp only [Value.slice.injEq] at er
        obtain ⟨rfl, -, rfl⟩ := er
        have htn : (tot ws).num ≠ 0 := fun h => ht0 (Rat.num_eq_zero.1 h)
        obtain ⟨sw, xw, FWH, CWH⟩ := whole_is U hU1 hU2
        have lU : Len ((U : Int) : Rat) 1 := len_int U (by omega)
        have li : Len (tot ws)⁻¹ 101 := len_inv (unhide LT) htn
        have WH := hide CWH
        have TU := hide (fun W' (h : But [] w2 W') => fracTurned_any _ _ W' ((unhide HT2).but h) htn)
        have MU := hide (fun W' u (h : FracAt W' u (tot ws)⁻¹) => fracMul_any _ u _ _ W' (FWH W') h (lU.mono (by omega)) (li.mono (by omega)))
        have le : Len (((U : Int) : Rat) * (tot ws)⁻¹) 150 := len_mul lU li 150 (by omega)
        have eUN := unhide HUN
        obtain ⟨e, he⟩ : ∃ e : Rat, e = ((U : Int) : Rat) * (tot ws)⁻¹ := ⟨_, rfl⟩
        have heN : e = (((N : Nat) : Int) : Rat) * (tot ws)⁻¹ := by rw [he, eUN]
        obtain ⟨F, hF⟩ : ∃ F : Nat → Nat, F = fun i => (fl (ws[i]?.getD 0 * e)).toNat := ⟨_, rfl⟩
        have hel := fun i hi => each_le N ws (unhide HW0) htp i hi
        rw [← heN] at hel
        have he0 : 0 ≤ e := (hel 0 (by have := unhide HN; omega)).2
        have hge : ∀ i, i < ws.length → 0 ≤ ws[i]?.getD 0 * e := fun i hi => by
          rw [List.getElem?_eq_getElem hi]
          exact Rat.mul_nonneg (unhide HW0 _ (List.getElem_mem _)) he0
        have hFi : ∀ i, i < ws.length → ((F i : Nat) : Int) = fl (ws[i]?.getD 0 * e) := fun i hi => by
          rw [hF]
          have := fl_nonneg _ (hge i hi)
          show ((fl (ws[i]?.getD 0 * e)).toNat : Int) = _
          omega
        have hFN : ∀ i, i < ws.length → fl (ws[i]?.getD 0 * e) ≤ (N : Int) := fun i hi => Rat.intCast_le_intCast.1 (Rat.le_trans (fl_le _) (hel i hi).1)
        have hFl : ∀ i, i < k → fl (ws[i]?.getD 0 * e) < 4611686018427387904 := fun i hi => by
          have h1 := hFN i (by have := unhide HN; omega)
          have h2 := unhide HNB
          omega
        have hFb : ∀ i, i < k → F i ≤ 1000000000000000 := fun i hi => by
          have h0 := hFi i (by have := unhide HN; omega)
          have h1 := hFN i (by have := unhide HN; omega)
          have h2 := unhide HNB
          omega
        obtain ⟨m, hm⟩ : ∃ m, Cuts N ws e F m := by
          rw [heN]
          exact cuts_of N ws (unhide HW0) htp F (by rw [← heN]; exact hFi)
        have CU := hide (fun W' u (h : But [] w W') (hu : FracAt W' u e) => cutShares_any W' b off k cap ws e u hu he0 (by rw [he]; exact le) hk0 ((unhide HWS).but h) (unhide HN) hn2 (unhide HL) (unhide HW0) hFl)
        have MC := hide (fun W' u b2 (h : But [] w W') (hu : FracAt W' u e) (h0 : 0 < e) (hI : IntsAt W' b2 0 k F) => mostCut_any W' b off k cap b2 0 k ws F e h0 hk0 u hu (by rw [he]; exact le) ((unhide HWS).but h) (unhide HN) hn2 (unhide HL) hI (fun i hi => by have := hFb i hi; omega))
        rw [← hF] at CU
        have HM := hide hm
        have HFB := hide hFb
        have HTP := hide htp
        clear htn CWH FWH lU li le eUN heN hF hel he0 hge hFi hFN hFl hFb hm ht0 htp
        have HE := hide he
        clear he
        go_wp2
        refine each_region 12 _ _ w2 w2.heap.size U sw xw 0 none st xt yt pt (tot ws) (by simp) g8 (Nat.le_refl _) (by simp [Act.eval]) (by simp [Act.eval]) (unhide C82) (unhide WH) (unhide TU) (unhide MU) ?_
        intro w3 bn v3 s' x' y' p' hb3 hge hp hz hf
        rw [← unhide HE] at hf
        obtain ⟨V9, hV9⟩ : ∃ V9, V9 = put4 w3 bn s' x' y' p' := ⟨_, rfl⟩
        have b9 : But [bn] w3 V9 := by rw [hV9]; exact put4_but _ _ _ _ _ _
        have bw9 : But [] w V9 := ((unhide BW2).trans' hb3).trans b9 (fun x hx => by simp at hx; subst hx; exact .inr (Nat.le_trans (unhide BW2).size hge))
        have c9 : P4 V9 bn s' x' y' p' := by rw [hV9]; exact put4_p4 w3 bn s' x' y' p' hp
        have f9 : FracAt V9 (.agg #[.bool s', .int .u64 x', .int .u64 y', .pointer p']) e := hf.over hp.1 b9
        rw [← hV9]
        have CU9 := hide (unhide CU V9 _ bw9 f9)
        have BW9 := hide bw9
        have C9 := hide c9
        have F9 := hide f9
        obtain ⟨a0, a1, a2, a3⟩ := c9
        clear hV9 b9 bw9 f9 hb3 hge hp hz hf C82 WH TU MU CU HT2 BW2 HE
        simp only [putted, List.foldl_cons, List.foldl_nil, Act.put, List.setIfInBounds_toArray, List.set_cons_zero, List.set_cons_succ]
        go_wp2_with fail
        refine (unhide CU9).mono ?_
        rintro e' w4 ⟨gs, rfl, hgs, hI, hz4, hb4⟩
        have hI0 := hI
        obtain ⟨d0, d1, d2, d3⟩ := (unhide C9).but hb4 (by simp)
        have BW4 : Hid (But [] w w4) := (unhide BW9).trans' hb4
        have HGS : Hid (w.heap.size ≤ gs) := Nat.le_trans (unhide BW9).size hgs
        have HI4 := hide hI
        have HZ4 := hide hz4
        have MC4 := hide (fun h0 => unhide MC w4 (.agg #[.bool s', .int .u64 x', .int .u64 y', .pointer p']) gs (unhide BW4) ((unhide F9).but hb4) h0 hI)
        obtain ⟨S, hS⟩ : ∃ S : Nat → Nat, S = fun j => ((List.range j).map F).sum := ⟨_, rfl⟩
        have hS0 : S 0 = 0 := by rw [hS]; rfl
        have hSs : ∀ j, S (j + 1) = S j + F j := fun j => by rw [hS]; exact sum_succ F j
        have hSm : ∀ j, j ≤ k → S j ≤ S k := fun j hj => by rw [hS]; exact sum_mono F j k hj
        have hSU : (S k : Int) + (m : Int) = U := by
          have h1 := (unhide HM).sum
          rw [← unhide HN] at h1
          have h2 : S k = ((List.range k).map F).sum := by rw [hS]
          have h3 := unhide HUN
          omega
        have HSS := hide hSs
        have HSM := hide hSm
        have HSU := hide hSU
        clear hI hI0 hz4 hgs hb4 hS hSs hSm hSU MC CU9 F9 C9 BW9 a0 a1 a2 a3
        go_wp2
        go_loopw [11, 56] (fun l i wr => ∃ j : Nat, j ≤ k ∧ i = .int .i64 (j : Int) ∧ l = .int .i64 (U - (S j : Int)) ∧ wr = w4) (fun _ i _ => k - (intOf i).toNat)
        case atStart => exact ⟨0, Nat.zero_le _, rfl, by rw [hS0]; simp, rfl⟩
        case round =>
          obtain ⟨j, hj, rfl, rfl, rfl⟩ := hrel
          by_cases hjk : j < k
          · have c0 := unhide HI4 j hjk
            rw [Nat.zero_add] at c0
            have h1 := unhide HSS j
            have h2 := unhide HSM (j + 1) (by omega)
            have h3 := unhide HSU
            obtain ⟨z, hz⟩ : ∃ z : Int, z = U - (S j : Int) := ⟨_, rfl⟩
            have hw : wrap64 (z - (F j : Int)) = U - (S (j + 1) : Int) := by unfold wrap64; omega
            have HW := hide hw
            rw [← hz]
            clear h1 h2 h3 hz hw
            go_wp2
            exact ⟨⟨j + 1, by omega, by go_num, by congr 1, trivial⟩, by simp [intOf]; omega⟩
          · obtain rfl : j = k := by omega
            have hl : U - (S j : Int) = (m : Int) := by have := unhide HSU; omega
            rw [hl]
            have mle : m ≤ j := by have h := (unhide HM).le; have h2 := unhide HN; omega
            have hFs : Hid (∀ i, i < j → ((List.range j).map F)[i]?.getD 0 = F i) := range_get F j
            clear hl hS0 HSS HSM HSU
            by_cases hm0 : m = 0
            · have FIN : Hid (SplitR U ws w wr (.returned (.tuple #[.slice (some ⟨gs, 0, none⟩) j j, .nilIface]))) := by
                have hfr := cuts_fair N ws e F m (unhide HM) [] (fun h => by omega) (fun _ => by simp)
                rw [List.take_nil] at hfr
                rw [← unhide HN] at hfr
                refine ⟨unhide BW4, .inr ⟨gs, N, _, unhide HUN, by rw [← unhide HN]; exact hk0, unhide HTP, unhide HW0, by rw [← unhide HN], ?_, by rw [← unhide HN]; exact hfr⟩⟩
                rw [← unhide HN]
                exact (unhide HI4).congr (fun i hi => (unhide hFs i hi).symm)
              subst hm0
              clear MC4
              go_wp2
              go_ret2
              exact unhide FIN
            · have hmp : (m : Int) > 0 := by omega
              have MCr := hide (unhide MC4 ((unhide HM).up (by omega)))
              have m0 : (0 : Int) ≤ (m : Int) := by omega
              have m1 : (m : Int) ≤ (j : Int) := by omega
              clear MC4
              go_wp2_with fail
              refine (unhide MCr).mono ?_
              rintro e' w5 ⟨gp, js, rfl, hgp, hR, hJ, hb5⟩
              have hjl : js.length = j := hR.len
              have hnd := hR.nodup
              have hin : ∀ i (hi : i < js.length), js[i] < j := fun i hi => (hR.mem _).1 (List.getElem_mem hi)
              have HIN := hide hin
              have gsl : gs < wr.heap.size := lt_of_cell (a := ⟨gs, 0 + 0, none⟩) (unhide HI4 0 hk0)
              have HI0 : Hid (LastI w w5 gs gp j 0 ((List.range j).map F) js) := ⟨(unhide BW4).trans' hb5, ((unhide HI4).but hb5 (by simp)).congr (fun i hi => by rw [List.take_zero]; exact (unhide hFs i hi).symm), hJ, fun i => (hb5.frozen (p := ⟨gs, i, none⟩) gsl (by simp)).trans (unhide HZ4 i)⟩
              have hne : gp ≠ gs := by omega
              have HR := hide hR
              have BND : Hid (∀ t i, t ≤ js.length → (bumps ((List.range j).map F) (js.take t))[i]?.getD 0 ≤ 1000000000000001) := fun t i ht => by
                have h1 := bumps_get ((List.range j).map F) (js.take t) (fun x hx => by
                  rw [List.length_map, List.length_range]
                  exact (unhide HR).mem x |>.1 (List.mem_of_mem_take hx)) (hnd.sublist (List.take_sublist _ _)) i
                rw [h1]
                have h2 : ((List.range j).map F)[i]?.getD 0 ≤ 1000000000000000 := by
                  by_cases hi : i < j
                  · rw [unhide hFs i hi]; exact unhide HFB i hi
                  · rw [List.getElem?_eq_none (by simpa using hi)]; exact Nat.zero_le _
                split <;> omega
              clear hR hJ hb5 hnd hin gsl MCr d0 d1 d2 d3 HI4 HZ4
              go_wp2
              go_loopw [73] (fun i wr => ∃ t : Nat, t ≤ m ∧ i = .int .i64 (t : Int) ∧ Hid (LastI w wr gs gp j t ((List.range j).map F) js)) (fun i _ => m - (intOf i).toNat)
              case atStart => exact ⟨0, Nat.zero_le _, rfl, unhide HI0⟩
              case round =>
                obtain ⟨t, ht, rfl, HI⟩ := hrel
                rename World => wv
                by_cases htm : t < m
                · have htl : t < js.length := by omega
                  have hp := unhide HIN t htl
                  have c0 : wv.cell? ⟨gp, 0 + t, none⟩ = some (.int .i64 ((js[t]?.getD 0 : Nat) : Int)) := (unhide HI).places t (by omega)
                  rw [Nat.zero_add, List.getElem?_eq_getElem htl, Option.getD_some] at c0
                  have c1' : wv.cell? ⟨gs, 0 + js[t], none⟩ = some (.int .i64 (((bumps ((List.range j).map F) (js.take t))[js[t]]?.getD 0 : Nat) : Int)) := (unhide HI).row _ hp
                  rw [Nat.zero_add] at c1'
                  have fz := (unhide HI).loose js[t]
                  have NX := hide ((unhide HI).next htl (by simp) hp (unhide HGS) hne)
                  have hbd := unhide BND t js[t] (by omega)
                  generalize (bumps ((List.range j).map F) (js.take t))[js[t]]?.getD 0 = z at *
                  obtain ⟨pz, hpz⟩ : ∃ pz, pz = js[t] := ⟨_, rfl⟩
                  rw [← hpz] at hp c0 c1' fz NX
                  rw [show ((z + 1 : Nat) : Int) = (z : Int) + 1 from by omega] at NX
                  clear hpz
                  go_wp2
                  exact ⟨⟨t + 1, by omega, by go_num, unhide NX⟩, by simp [intOf]; omega⟩
                · obtain rfl : t = m := by omega
                  have FIN : Hid (SplitR U ws w wv (.returned (.tuple #[.slice (some ⟨gs, 0, none⟩) j j, .nilIface]))) := by
                    have hfr := cuts_fair N ws e F t (unhide HM) js (fun _ => by rw [← unhide HN]; exact unhide HR) (fun h => absurd h hm0)
                    rw [← unhide HN] at hfr
                    refine ⟨(unhide HI).but, .inr ⟨gs, N, _, unhide HUN, by rw [← unhide HN]; exact hk0, unhide HTP, unhide HW0, by rw [← unhide HN], ?_, by rw [← unhide HN]; exact hfr⟩⟩
                    rw [← unhide HN]
                    exact (unhide HI).row
                  clear HI
                  go_wp2
                  go_ret2
                  exact unhide FIN
end Go.Proofs.YtlkpkgajfakdpaaGreat
