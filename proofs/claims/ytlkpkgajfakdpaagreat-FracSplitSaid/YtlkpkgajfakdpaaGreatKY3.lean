/- Shares are cut off, by bounds that are short, as the Go text of package frac does it. -/
import Derived.Test.YtlkpkgajfakdpaaGreatKM0
import Derived.Test.YtlkpkgajfakdpaaGreatKQ1
import Derived.Test.YtlkpkgajfakdpaaGreatKY2r
import Derived.Test.YtlkpkgajfakdpaaGreatKYM
namespace Go.Proofs.YtlkpkgajfakdpaaGreat
open Go.RowKit

def opSh0 : Oper := { dst := some 30, op := Op.load 33 (Operand.tmp 10), type := 33, pos := "split.go:57", after := #[], guard := none }
def opSh1 : Oper := { dst := some 31, op := Op.load 33 (Operand.tmp 9), type := 33, pos := "split.go:57", after := #[], guard := none }
def opSh2 : Oper := { dst := some 32, op := Op.load 33 (Operand.tmp 6), type := 33, pos := "split.go:57", after := #[], guard := none }
def opSh3 : Oper := { dst := some 33, op := Op.call { callee := Callee.value (Operand.func 8), args := #[Operand.tmp 31, Operand.tmp 32], argTypes := #[33, 33] }, type := 33, pos := "split.go:57", after := #[{ on := 1, ground := Ground.data }, { on := 2, ground := Ground.data }], guard := none }
def opSh4 : Oper := { dst := some 34, op := Op.call { callee := Callee.value (Operand.func 33), args := #[Operand.tmp 33], argTypes := #[33] }, type := 33, pos := "split.go:57", after := #[{ on := 3, ground := Ground.data }, { on := 3, ground := Ground.chain }], guard := none }
def opSh5 : Oper := { dst := some 35, op := Op.call { callee := Callee.value (Operand.func 11), args := #[Operand.tmp 30, Operand.tmp 34], argTypes := #[33, 33] }, type := 3, pos := "split.go:57", after := #[{ on := 0, ground := Ground.data }, { on := 4, ground := Ground.data }, { on := 4, ground := Ground.chain }], guard := none }
def opSh6 : Oper := { dst := some 36, op := Op.binOp BinOp.neq 3 (Operand.tmp 35) (Operand.const (Value.int IntKind.i64 0)) 3, type := 4, pos := "split.go:57", after := #[{ on := 5, ground := Ground.data }], guard := none }
def opShs : Array Oper := #[opSh0, opSh1, opSh2, opSh3, opSh4, opSh5, opSh6]
def opShT (i : Nat) : Nat := match i with
  | 0 => 30
  | 1 => 31
  | 2 => 32
  | 3 => 33
  | 4 => 34
  | 5 => 35
  | _ => 36
/-- what each operation's value is -/
def opShC (r : Int) (s1 : Bool) (x1 : Int) (y1 : Int) (p1 : Option Addr) (s2 : Bool) (x2 : Int) (y2 : Int) (p2 : Option Addr) (s3 : Bool) (x3 : Int) (y3 : Int) (p3 : Option Addr) (f : Rat) (g : Rat) (i : Nat) (w : World) (v : Value) : Prop := match i with
  | 0 => v = .agg #[.bool s1, .int .u64 x1, .int .u64 y1, .pointer p1]
  | 1 => v = .agg #[.bool s2, .int .u64 x2, .int .u64 y2, .pointer p2]
  | 2 => v = .agg #[.bool s3, .int .u64 x3, .int .u64 y3, .pointer p3]
  | 3 => FracAt w v f
  | 4 => FracAt w v g
  | 5 => v = .int .i64 r
  | _ => v = .bool (r != 0)
theorem opShC_but {r : Int} {s1 : Bool} {x1 : Int} {y1 : Int} {p1 : Option Addr} {s2 : Bool} {x2 : Int} {y2 : Int} {p2 : Option Addr} {s3 : Bool} {x3 : Int} {y3 : Int} {p3 : Option Addr} {f : Rat} {g : Rat} {i : Nat} {w w' : World} {v : Value} (h : opShC r s1 x1 y1 p1 s2 x2 y2 p2 s3 x3 y3 p3 f g i w v) (hi : i < 7) (hb : But [] w w') : opShC r s1 x1 y1 p1 s2 x2 y2 p2 s3 x3 y3 p3 f g i w' v := by
  have : i = 0 ∨ i = 1 ∨ i = 2 ∨ i = 3 ∨ i = 4 ∨ i = 5 ∨ i = 6 := by omega
  rcases this with rfl | rfl | rfl | rfl | rfl | rfl | rfl
  all_goals first | exact h | exact FracAt.but h hb | exact FracsAt.but h hb
theorem opShT_inj : ∀ i j, i < 7 → j < 7 → opShT i = opShT j → i = j := fun i j hi hj => (by decide : ∀ i, i < 7 → ∀ j, j < 7 → opShT i = opShT j → i = j) i hi j hj
set_option maxRecDepth 100000 in
theorem share_region (id : Nat) (Q : Exit → Act → World → Prop) (base : Act) (W0 : World) (r : Int) (s1 : Bool) (x1 : Int) (y1 : Int) (p1 : Option Addr) (s2 : Bool) (x2 : Int) (y2 : Int) (p2 : Option Addr) (s3 : Bool) (x3 : Int) (y3 : Int) (p3 : Option Addr) (f : Rat) (g : Rat) (hs : 36 < base.tmps.size) (g6 g9 g10 : Nat) (e10 : base.eval (.tmp 10) = .pointer (some ⟨g10, 0, none⟩)) (e9 : base.eval (.tmp 9) = .pointer (some ⟨g9, 0, none⟩)) (e6 : base.eval (.tmp 6) = .pointer (some ⟨g6, 0, none⟩))
    (c1 : P4 W0 g10 s1 x1 y1 p1) (c2 : P4 W0 g9 s2 x2 y2 p2) (c3 : P4 W0 g6 s3 x3 y3 p3)
    (MU : ∀ w, But [] W0 w → Calls Tryz.prog 8 #[.agg #[.bool s2, .int .u64 x2, .int .u64 y2, .pointer p2], .agg #[.bool s3, .int .u64 x3, .int .u64 y3, .pointer p3]] w fun e w' => ∃ v, e = .returned v ∧ FracAt w' v f ∧ But [] w w')
    (FL : ∀ w v, FracAt w v f → Calls Tryz.prog 33 #[v] w fun e w' => ∃ v', e = .returned v' ∧ FracAt w' v' g ∧ But [] w w')
    (CM : ∀ w, But [] W0 w → ∀ v, FracAt w v g → Calls Tryz.prog 11 #[.agg #[.bool s1, .int .u64 x1, .int .u64 y1, .pointer p1], v] w fun e w' => e = .returned (.int .i64 r) ∧ But [] w w')
    (hQ : ∀ w (v3 : Value) (v4 : Value), But [] W0 w → Q .normal (putted base [(30, .agg #[.bool s1, .int .u64 x1, .int .u64 y1, .pointer p1]), (31, .agg #[.bool s2, .int .u64 x2, .int .u64 y2, .pointer p2]), (32, .agg #[.bool s3, .int .u64 x3, .int .u64 y3, .pointer p3]), (33, v3), (34, v4), (35, .int .i64 r), (36, .bool (r != 0))]) w) :
    (Code.region id opShs true).wp Tryz.prog Q base W0 := by
  have hdr : ∀ {w}, But [] W0.drew w → But [] W0 w := fun h => (But.refl _ _).drew.trans' h
  have hT : ∀ i, i < 7 → opShT i < base.tmps.size := fun i hi => by
    have h : opShT i ≤ 36 := by revert i; decide
    omega
  refine region_go (by kernel_rfl) (low_of (by kernel_rfl)) (opShC r s1 x1 y1 p1 s2 x2 y2 p2 s3 x3 y3 p3 f g) opShT (by kernel_rfl) ?_ opShT_inj hT (fun i w w' v hi h hb => opShC_but h hi hb) ?_ ?_
  · intro i o j want ho hg w v hv
    have hi : i < 7 := (Array.getElem?_eq_some_iff.1 ho).1
    have : i = 0 ∨ i = 1 ∨ i = 2 ∨ i = 3 ∨ i = 4 ∨ i = 5 ∨ i = 6 := by omega
    rcases this with rfl | rfl | rfl | rfl | rfl | rfl | rfl
    · obtain rfl := Option.some.inj ((show opShs[0]? = some opSh0 from rfl).symm.trans ho)
      exact absurd (show (none : Option (Nat × Bool)) = some (j, want) from hg) (by simp)
    · obtain rfl := Option.some.inj ((show opShs[1]? = some opSh1 from rfl).symm.trans ho)
      exact absurd (show (none : Option (Nat × Bool)) = some (j, want) from hg) (by simp)
    · obtain rfl := Option.some.inj ((show opShs[2]? = some opSh2 from rfl).symm.trans ho)
      exact absurd (show (none : Option (Nat × Bool)) = some (j, want) from hg) (by simp)
    · obtain rfl := Option.some.inj ((show opShs[3]? = some opSh3 from rfl).symm.trans ho)
      exact absurd (show (none : Option (Nat × Bool)) = some (j, want) from hg) (by simp)
    · obtain rfl := Option.some.inj ((show opShs[4]? = some opSh4 from rfl).symm.trans ho)
      exact absurd (show (none : Option (Nat × Bool)) = some (j, want) from hg) (by simp)
    · obtain rfl := Option.some.inj ((show opShs[5]? = some opSh5 from rfl).symm.trans ho)
      exact absurd (show (none : Option (Nat × Bool)) = some (j, want) from hg) (by simp)
    · obtain rfl := Option.some.inj ((show opShs[6]? = some opSh6 from rfl).symm.trans ho)
      exact absurd (show (none : Option (Nat × Bool)) = some (j, want) from hg) (by simp)
  · intro i o a w K ho hH he hdep hk
    have hi : i < 7 := (Array.getElem?_eq_some_iff.1 ho).1
    have hD := dep_have (ps := [(3, 1), (3, 2), (4, 3), (5, 0), (5, 4), (6, 5)]) (by kernel_rfl) ho (fun j => opShC r s1 x1 y1 p1 s2 x2 y2 p2 s3 x3 y3 p3 f g j w (a.eval (.tmp (opShT j)))) hdep
    have e10' := (he 10 (fun j hj e => absurd e.symm (by revert j; decide))).trans e10
    have e9' := (he 9 (fun j hj e => absurd e.symm (by revert j; decide))).trans e9
    have e6' := (he 6 (fun j hj e => absurd e.symm (by revert j; decide))).trans e6
    have : i = 0 ∨ i = 1 ∨ i = 2 ∨ i = 3 ∨ i = 4 ∨ i = 5 ∨ i = 6 := by omega
    rcases this with rfl | rfl | rfl | rfl | rfl | rfl | rfl
    · obtain rfl := Option.some.inj ((show opShs[0]? = some opSh0 from rfl).symm.trans ho)
      exact wp_value (run_loadF a w _ _ _ _ _ _ g10 0 _ _ _ _ e10' (c1.but (hdr hH) (by simp))) (hk _ _ (But.refl _ _) rfl)
    · obtain rfl := Option.some.inj ((show opShs[1]? = some opSh1 from rfl).symm.trans ho)
      exact wp_value (run_loadF a w _ _ _ _ _ _ g9 0 _ _ _ _ e9' (c2.but (hdr hH) (by simp))) (hk _ _ (But.refl _ _) rfl)
    · obtain rfl := Option.some.inj ((show opShs[2]? = some opSh2 from rfl).symm.trans ho)
      exact wp_value (run_loadF a w _ _ _ _ _ _ g6 0 _ _ _ _ e6' (c3.but (hdr hH) (by simp))) (hk _ _ (But.refl _ _) rfl)
    · obtain rfl := Option.some.inj ((show opShs[3]? = some opSh3 from rfl).symm.trans ho)
      exact wp_enter (run_mulF a w _ _ _ _ _ _ _ _ _ (hD 1 (by simp)) (hD 2 (by simp))) (R := fun w' v => FracAt w' v (f) ∧ But [] w w') (MU w (hdr hH)) (fun v w' hv => hk v w' hv.2 hv.1)
    · obtain rfl := Option.some.inj ((show opShs[4]? = some opSh4 from rfl).symm.trans ho)
      exact wp_enter (run_floorF a w _ _ _ _ _ _ _ rfl) (R := fun w' v => FracAt w' v (g) ∧ But [] w w') (FL w _ (hD 3 (by simp))) (fun v w' hv => hk v w' hv.2 hv.1)
    · obtain rfl := Option.some.inj ((show opShs[5]? = some opSh5 from rfl).symm.trans ho)
      exact wp_enter (run_cmpF a w _ _ _ _ _ _ _ _ _ (hD 0 (by simp)) rfl) (R := fun w' v => But [] w w' ∧ v = _) ((CM w (hdr hH) _ (hD 4 (by simp))).mono fun e w' ⟨he, hb⟩ => ⟨_, he, hb, rfl⟩) (fun v w' hv => hk v w' hv.1 hv.2)
    · obtain rfl := Option.some.inj ((show opShs[6]? = some opSh6 from rfl).symm.trans ho)
      exact wp_value (run_neq0 a w _ _ _ _ _ _ r (hD 5 (by simp))) (hk _ _ (But.refl _ _) rfl)
  · intro a w h
    have ea := h.puts hT (fun i => match i with
      | 0 => .agg #[.bool s1, .int .u64 x1, .int .u64 y1, .pointer p1]
      | 1 => .agg #[.bool s2, .int .u64 x2, .int .u64 y2, .pointer p2]
      | 2 => .agg #[.bool s3, .int .u64 x3, .int .u64 y3, .pointer p3]
      | 3 => a.eval (.tmp 33)
      | 4 => a.eval (.tmp 34)
      | 5 => .int .i64 r
      | _ => .bool (r != 0)) (fun i hi => by
      have hi' : i < 7 := hi
      have hc := h.has i hi rfl
      have : i = 0 ∨ i = 1 ∨ i = 2 ∨ i = 3 ∨ i = 4 ∨ i = 5 ∨ i = 6 := by omega
      rcases this with rfl | rfl | rfl | rfl | rfl | rfl | rfl
      all_goals first | exact hc | rfl)
    rw [ea]
    exact hQ w (a.eval (.tmp 33)) (a.eval (.tmp 34)) (hdr h.but)
/-- a whole number's fraction lies in words -/
theorem frac_int {w : World} {v : Value} {z : Nat} (h : FracAt w v (((z : Nat) : Int) : Rat)) (hz : z < 4611686018427387904) : v = .agg #[.bool false, .int .u64 (z : Int), .int .u64 0, .pointer none] := by
  obtain ⟨i1, i2⟩ := int_parts (z : Int)
  rcases h with ⟨-, -, rfl⟩ | ⟨hb, -⟩
  · rw [i1, i2]
    have : decide ((z : Int) < 0) = false := decide_eq_false (by omega)
    rw [this]
    rfl
  · rw [i1, i2] at hb
    exfalso
    omega
/-- while shares are cut off -/
structure CutI (w wr : World) (ge gl gh gp n k : Nat) (vw : Value) (ws : List Rat) (e lo hi : Rat) (F : Nat → Nat) : Prop where
  but : But [] w wr
  row : IntsAt wr gp 0 n (fun i => if i < k then F i else 0)
  loose : ∀ j, wr.frozen? ⟨gp, j, none⟩ = false
  each : BoxAt wr ge e
  low : BoxAt wr gl lo
  high : BoxAt wr gh hi
theorem CutI.keep {w wr wr' : World} {ge gl gh gp n k : Nat} {vw : Value} {ws : List Rat} {e lo hi : Rat} {F : Nat → Nat} (h : CutI w wr ge gl gh gp n k vw ws e lo hi F) (hn : 0 < n) (hb : But [] wr wr') : CutI w wr' ge gl gh gp n k vw ws e lo hi F :=
  ⟨h.but.trans' hb, h.row.but hb (by simp), fun j => (hb.frozen (p := ⟨gp, j, none⟩) (show gp < wr.heap.size from lt_of_cell (a := ⟨gp, 0 + 0, none⟩) (h.row 0 hn)) (by simp)).trans (h.loose j), h.each.but hb, h.low.but hb, h.high.but hb⟩
theorem BoxAt.overI {w W : World} {b : Nat} {f : Rat} (h : BoxAt w b f) {g : Nat} {z : Int} (c0 : w.cell? ⟨g, 0, none⟩ = some (.int .i64 z)) (hb : But [g] w W) (hne : b ≠ g) : BoxAt W b f := by
  have hl := h.lt
  obtain ⟨⟨s, x, y, p, h1, h2⟩, h3⟩ := h
  exact ⟨⟨s, x, y, p, h1.but hb (by simpa using hne), h2.overI c0 hb⟩, fun j => (hb.frozen (p := ⟨b, j, none⟩) hl (by simpa using hne)).trans (h3 j)⟩
theorem CutI.put {w wr : World} {ge gl gh gp n k : Nat} {vw : Value} {ws : List Rat} {e lo hi : Rat} {F : Nat → Nat} (h : CutI w wr ge gl gh gp n k vw ws e lo hi F) (_hn : 0 < n) {g : Nat} {s0 : Bool} {x0 y0 : Int} {p0 : Option Addr} (c : P4 wr g s0 x0 y0 p0) (o : w.heap.size ≤ g) (n0 : gp ≠ g) (n1 : ge ≠ g) (n2 : gl ≠ g) (n3 : gh ≠ g) (s : Bool) (x y : Int) (p : Option Addr) : CutI w (put4 wr g s x y p) ge gl gh gp n k vw ws e lo hi F := by
  have hb := put4_but wr g s x y p
  have hc : ∀ g' ∈ [g], ∃ s, wr.cell? ⟨g', 0, none⟩ = some (.bool s) := fun g' hg => by simp at hg; subst hg; exact ⟨_, c.1⟩
  exact ⟨h.but.trans hb (fun x hx => by simp at hx; subst hx; exact .inr o), h.row.but hb (by simpa using n0), fun j => by rw [put4_fz]; exact h.loose j, h.each.beside hb (by simpa using n1) hc, h.low.beside hb (by simpa using n2) hc, h.high.beside hb (by simpa using n3) hc⟩
theorem CutI.next {w wr : World} {ge gl gh gp n k : Nat} {vw : Value} {ws : List Rat} {e lo hi : Rat} {F : Nat → Nat} (h : CutI w wr ge gl gh gp n k vw ws e lo hi F) (hk : k < n) (o : w.heap.size ≤ gp) (n1 : ge ≠ gp) (n2 : gl ≠ gp) (n3 : gh ≠ gp) : CutI w (wr.setCell ⟨gp, k, none⟩ (.int .i64 (F k : Int))) ge gl gh gp n (k + 1) vw ws e lo hi F := by
  have hb : But [gp] wr (wr.setCell ⟨gp, k, none⟩ (.int .i64 (F k : Int))) := (But.refl [gp] wr).setCell (.inl (by simp)) _
  have hr := h.row.set hk (F k)
  rw [Nat.zero_add] at hr
  have c0 := h.row 0 (by omega)
  rw [Nat.zero_add] at c0
  exact ⟨h.but.setCell (.inr o) _, hr.congr (fun i hi => by
    by_cases e : i = k
    · rw [if_pos e, if_pos (by omega), e]
    · rw [if_neg e]
      by_cases e2 : i < k
      · rw [if_pos e2, if_pos (by omega)]
      · rw [if_neg e2, if_neg (by omega)]), fun j => by rw [World.frozen?_setCell]; exact h.loose j, h.each.overI c0 hb n1, h.low.overI c0 hb n2, h.high.overI c0 hb n3⟩
set_option maxHeartbeats 8000000 in
set_option maxRecDepth 100000 in
theorem cutShares_any (w : World) (b off n c : Nat) (ws : List Rat) (e : Rat) (v : Value) (hv : FracAt w v e) (he0 : 0 ≤ e) (le : Len e 150) (h0 : 0 < n)
    (hws : FracsAt w (.slice (some ⟨b, off, none⟩) n c) ws) (hn : n = ws.length) (hn2 : n ≤ 100) (hl : ∀ f ∈ ws, Len f 1) (hw0 : ∀ f ∈ ws, 0 ≤ f) (hFl : ∀ i, i < n → fl (ws[i]?.getD 0 * e) < 4611686018427387904) :
    Calls Tryz.prog 16 #[.slice (some ⟨b, off, none⟩) n c, v] w fun e' w' => ∃ gp : Nat, e' = .returned (.slice (some ⟨gp, 0, none⟩) n n) ∧ w.heap.size ≤ gp ∧ IntsAt w' gp 0 n (fun i => (fl (ws[i]?.getD 0 * e)).toNat) ∧ (∀ j, w'.frozen? ⟨gp, j, none⟩ = false) ∧ But [] w w' := by
  have hge : ∀ i, i < n → 0 ≤ ws[i]?.getD 0 * e := fun i hi => by
    rw [List.getElem?_eq_getElem (by omega)]
    exact Rat.mul_nonneg (hw0 _ (List.getElem_mem _)) he0
  obtain ⟨F, hF⟩ : ∃ F : Nat → Nat, F = fun i => (fl (ws[i]?.getD 0 * e)).toNat := ⟨_, rfl⟩
  have hFi : ∀ i, i < n → ((F i : Nat) : Int) = fl (ws[i]?.getD 0 * e) := fun i hi => by
    rw [hF]
    have := fl_nonneg _ (hge i hi)
    show ((fl (ws[i]?.getD 0 * e)).toNat : Int) = _
    omega
  rw [← hF]
  have HFI := hide hFi
  have HFL : Hid (∀ i, i < n → F i < 4611686018427387904) := fun i hi => by have := hFi i hi; have := hFl i hi; omega
  have HV0 := hide hv
  obtain ⟨x, y, p, rfl, -⟩ := hv.agg
  generalize decide (e.num < 0) = s at *
  obtain ⟨W, hW⟩ : ∃ W, W = w.alloc (.cells #[.bool s, .int .u64 x, .int .u64 y, .pointer p] 33) := ⟨_, rfl⟩
  have hB : But [] w W := by rw [hW]; exact (But.refl _ _).alloc _
  have be : BoxAt W w.heap.size e := by rw [hW]; exact BoxAt.new _ _ _ _ _ _ _ (unhide HV0)
  have BO := hide (bounds_any _ e W ((unhide HV0).but hB) (Rat.num_nonneg.2 he0) le)
  have HB := hide hB
  have BE := hide be
  have HW := hide hW
  have HN := hide hn
  have HWS := hide hws
  have HL := hide hl
  have HW0 := hide hw0
  have HE0 := hide he0
  have LE := hide le
  have hmk := fun wx => run_makeI wx n (by omega)
  clear hv hge hF hFi hFl hB be hW hn hws hl hw0 he0 le
  go_enter Tryz.func16, Tryz.ntmps16
  go_wp2_with fail
  rw [← unhide HW]
  refine (unhide BO).mono ?_
  rintro e' w1 ⟨s1, x1, y1, p1, s2, x2, y2, p2, rfl, ⟨lo, hi, flo, fhi, hlo, hhi, hlo0, l1, l2⟩, hb1⟩
  have FLO := hide flo
  have FHI := hide fhi
  have LOH : Hid (lo ≤ e ∧ e ≤ hi ∧ 0 ≤ lo ∧ Len lo 151 ∧ Len hi 151) := ⟨hlo, hhi, hlo0, l1, l2⟩
  have HB1 := hide hb1
  clear flo fhi hlo hhi hlo0 l1 l2 hb1 HW BO
  obtain ⟨A, hA⟩ : ∃ A, A = w1.alloc (.cells #[.bool s1, .int .u64 x1, .int .u64 y1, .pointer p1] 33) := ⟨_, rfl⟩
  obtain ⟨Z, hZ⟩ : ∃ Z, Z = A.alloc (.cells #[.bool s2, .int .u64 x2, .int .u64 y2, .pointer p2] 33) := ⟨_, rfl⟩
  obtain ⟨V, hV⟩ : ∃ V, V = Z.alloc (.cells (madeCells #[.int .i64 0] n) 3) := ⟨_, rfl⟩
  have zA : A.heap.size = w1.heap.size + 1 := by rw [hA]; simp
  have zZ : Z.heap.size = w1.heap.size + 2 := by rw [hZ]; simp [zA]
  have bA : But [] w1 A := by rw [hA]; exact (But.refl _ _).alloc _
  have bZ : But [] A Z := by rw [hZ]; exact (But.refl _ _).alloc _
  have bV : But [] Z V := by rw [hV]; exact (But.refl _ _).alloc _
  have k1 : BoxAt A w1.heap.size lo := by rw [hA]; exact BoxAt.new _ _ _ _ _ _ _ (unhide FLO)
  have k2 : BoxAt Z (w1.heap.size + 1) hi := by rw [← zA, hZ]; exact BoxAt.new _ _ _ _ _ _ _ ((unhide FHI).but bA)
  have HI0 : Hid (CutI w V w.heap.size w1.heap.size (w1.heap.size + 1) (w1.heap.size + 2) n 0 (.slice (some ⟨b, off, none⟩) n c) ws e lo hi F) := {
    but := ((((unhide HB).trans' (unhide HB1)).trans' bA).trans' bZ).trans' bV
    row := by
      rw [← zZ, hV]
      exact (made_ints Z n _).congr (fun i _ => by simp)
    loose := fun j => by rw [← zZ, hV]; simp
    each := (unhide BE).but ((((unhide HB1).trans' bA).trans' bZ).trans' bV)
    low := k1.but (bZ.trans' bV)
    high := k2.but bV }
  have hVV : V = ((w1.alloc (.cells #[.bool s1, .int .u64 x1, .int .u64 y1, .pointer p1] 33)).alloc (.cells #[.bool s2, .int .u64 x2, .int .u64 y2, .pointer p2] 33)).alloc (.cells (madeCells #[.int .i64 0] n) 3) := by rw [hV, hZ, hA]
  have HVV := hide hVV
  have h1w : w.heap.size < w1.heap.size := Nat.lt_of_lt_of_le (unhide BE).lt (unhide HB1).size
  clear hA hZ hV zA zZ bA bZ bV k1 k2 hVV FLO FHI BE HB HB1
  go_wp2
  rw [← unhide HVV]
  obtain ⟨ge, hge⟩ : ∃ ge, ge = w.heap.size := ⟨_, rfl⟩
  obtain ⟨gl, hgl⟩ : ∃ gl, gl = w1.heap.size := ⟨_, rfl⟩
  obtain ⟨gh, hgh⟩ : ∃ gh, gh = w1.heap.size + 1 := ⟨_, rfl⟩
  obtain ⟨gp, hgp⟩ : ∃ gp, gp = w1.heap.size + 2 := ⟨_, rfl⟩
  rw [show w1.heap.size + 1 + 1 = w1.heap.size + 2 from rfl, ← hgp, ← hgh, ← hgl, ← hge]
  rw [← hgp, ← hgh, ← hgl, ← hge] at HI0
  have o1 : ge < gl := by omega
  have o2 : gl < gh := by omega
  have o3 : gh < gp := by omega
  have OW : Hid (ge = w.heap.size) := hge
  clear hge hgl hgh hgp HVV hmk h1w
  go_loopw [21] (fun i wr => ∃ k : Nat, k ≤ n ∧ i = .int .i64 (k : Int) ∧ Hid (CutI w wr ge gl gh gp n k (.slice (some ⟨b, off, none⟩) n c) ws e lo hi F)) (fun i _ => n - (intOf i).toNat)
  case atStart => exact ⟨0, Nat.zero_le _, rfl, unhide HI0⟩
  case round =>
    obtain ⟨k, hk, rfl, HI⟩ := hrel
    rename World => wr
    by_cases hlt : k < n
    · have hkl : k < ws.length := by have := unhide HN; omega
      obtain ⟨s9, x9, y9, p9, c9, f9⟩ := ((unhide HWS).but (unhide HI).but).get k hlt
      have lw : Len (ws[k]?.getD 0) 1 := by rw [List.getElem?_eq_getElem hkl]; exact unhide HL _ (List.getElem_mem hkl)
      have w0 : 0 ≤ ws[k]?.getD 0 := by rw [List.getElem?_eq_getElem hkl]; exact unhide HW0 _ (List.getElem_mem hkl)
      have hFk := unhide HFI k hlt
      have hFkl := unhide HFL k hlt
      generalize ws[k]?.getD 0 = wk at *
      obtain ⟨q1, q2, q3, q4, q5⟩ := unhide LOH
      have m1 : wk * lo ≤ wk * e := Rat.mul_le_mul_of_nonneg_left q1 w0
      have m2 : wk * e ≤ wk * hi := Rat.mul_le_mul_of_nonneg_left q2 w0
      have g0 := fl_nonneg (wk * lo) (Rat.mul_nonneg w0 q3)
      have g1 := fl_mono m1
      have g2 := fl_mono m2
      obtain ⟨zl, hzl⟩ : ∃ zl : Nat, (zl : Int) = fl (wk * lo) := ⟨(fl (wk * lo)).toNat, by omega⟩
      have zl1 : zl < 4611686018427387904 := by omega
      have lwl : Len (wk * lo) 158 := len_mul lw q4 158 (by omega)
      have lwh : Len (wk * hi) 158 := len_mul lw q5 158 (by omega)
      have lwe : Len (wk * e) 158 := len_mul lw (unhide LE) 158 (by omega)
      obtain ⟨⟨sl, xl, yl, pl, cl, fl'⟩, -⟩ := (unhide HI).low
      obtain ⟨⟨sh, xh, yh, ph, ch, fh⟩, -⟩ := (unhide HI).high
      obtain ⟨⟨se, xe, ye, pe, ce, fe⟩, -⟩ := (unhide HI).each
      obtain ⟨V9, hV9⟩ : ∃ V9, V9 = wr.alloc (.cells #[.bool s9, .int .u64 x9, .int .u64 y9, .pointer p9] 33) := ⟨_, rfl⟩
      have b9 : But [] wr V9 := by rw [hV9]; exact (But.refl _ _).alloc _
      have c9' : P4 V9 wr.heap.size s9 x9 y9 p9 := by rw [hV9]; exact ⟨by simp, by simp, by simp, by simp⟩
      have MU1 := hide (fun W' (h : But [] V9 W') => fracMul_any _ _ wk lo W' ((f9.but b9).but h) ((fl'.but b9).but h) (lw.mono (by omega)) (q4.mono (by omega)))
      have MU2 := hide (fun W' (h : But [] V9 W') => fracMul_any _ _ wk hi W' ((f9.but b9).but h) ((fh.but b9).but h) (lw.mono (by omega)) (q5.mono (by omega)))
      have MU3 := hide (fun W' (h : But [] V9 W') => fracMul_any _ _ wk e W' ((f9.but b9).but h) ((fe.but b9).but h) (lw.mono (by omega)) ((unhide LE).mono (by omega)))
      have FL1 := hide (fun W' u (h : FracAt W' u (wk * lo)) => floor_any u (wk * lo) W' h lwl)
      have FL2 := hide (fun W' u (h : FracAt W' u (wk * hi)) => floor_any u (wk * hi) W' h lwh)
      have FL3 := hide (fun W' u (h : FracAt W' u (wk * e)) => floor_any u (wk * e) W' h lwe)
      rw [← hzl] at FL1
      rw [← hFk] at FL3
      obtain ⟨zh, hzh⟩ : ∃ zh : Nat, (zh : Int) = fl (wk * hi) := ⟨(fl (wk * hi)).toNat, by omega⟩
      rw [← hzh] at FL2
      have lzh : Len (((zh : Nat) : Int) : Rat) 159 := by
        have hh := lwh.lt.1
        have hd := (int_parts (zh : Int))
        have hle : zh ≤ (wk * hi).num.natAbs := by
          have h1 := Int.ediv_le_self (b := ((wk * hi).den : Int)) (Rat.num_nonneg.2 (Rat.le_trans (Rat.mul_nonneg w0 q3) (Rat.le_trans m1 m2)))
          have h2 : fl (wk * hi) = (wk * hi).num / ((wk * hi).den : Int) := rfl
          omega
        refine len_of (m := 158) (n := 1) ?_ ?_ 159 (by omega) (by omega)
        · rw [hd.1]; exact Nat.lt_of_le_of_lt (by rw [Int.natAbs_natCast]; exact hle) hh
        · rw [hd.2]; decide
      have CMP : Hid (∀ (W' : World) (u : Value), FracAt W' u (((zh : Nat) : Int) : Rat) → Calls Tryz.prog 11 #[.agg #[.bool false, .int .u64 (zl : Int), .int .u64 0, .pointer none], u] W' fun e' w' => e' = .returned (.int .i64 (sg ((((zl : Nat) : Int) : Rat) - (((zh : Nat) : Int) : Rat)))) ∧ But [] W' w') := fun W' u hu =>
        fracCmp_any _ u _ _ W' (int_at (s := false) (p := zl) rfl (by omega) (by simp)) hu ((len_int (zl : Int) (by omega)).mono (by omega)) (lzh.mono (by omega)) _ (by show _ = _; exact (cmpZ_sg _ _).symm)
      have B9 := hide b9
      have HV9 := hide hV9
      have C9 := hide c9'
      have CL := hide (cl.but b9 (by simp))
      have CH := hide (ch.but b9 (by simp))
      have CE := hide (ce.but b9 (by simp))
      have KEY : Hid (sg ((((zl : Nat) : Int) : Rat) - (((zh : Nat) : Int) : Rat)) = 0 → zl = F k) := fun h => by
        have e1 : (((zl : Nat) : Int) : Rat) - (((zh : Nat) : Int) : Rat) = 0 := by
          rcases rat_cases ((((zl : Nat) : Int) : Rat) - (((zh : Nat) : Int) : Rat)) with h1 | h1 | h1
          · rw [sg_neg h1] at h; omega
          · exact h1
          · rw [sg_pos h1] at h; omega
        have e2 : (((zl : Nat) : Int) : Rat) = (((zh : Nat) : Int) : Rat) := by grind
        have e3 := Rat.intCast_inj.1 e2
        omega
      generalize sg ((((zl : Nat) : Int) : Rat) - (((zh : Nat) : Int) : Rat)) = r at *
      obtain ⟨l0, l1, l2, l3⟩ := cl
      obtain ⟨w0', w1', w2', w3'⟩ := c9
      clear ch ce fl' fh fe f9 lw w0 m1 m2 g0 g1 g2 lwl lwh lwe q1 q2 q3 q4 q5 hzl hzh lzh hFk c9' b9 hV9
      have lgl : gl < wr.heap.size := lt_of_cell l0
      have lb : b < wr.heap.size := lt_of_cell w0'
      go_wp2_with fail
      rw [← unhide HV9]
      obtain ⟨g9, hg9⟩ : ∃ g9, g9 = wr.heap.size := ⟨_, rfl⟩
      rw [← hg9] at C9
      rw [← hg9]
      have ogp : gp < g9 := by rw [hg9]; exact lt_of_cell (a := ⟨gp, 0 + 0, none⟩) ((unhide HI).row 0 h0)
      clear hg9 HV9 l0 l1 l2 l3 w0' w1' w2' w3' lgl lb
      refine (unhide MU1 _ (But.refl _ _)).mono ?_
      rintro e' w2 ⟨v28, rfl, hm, hb2⟩
      have HB2 := hide hb2
      have HM := hide hm
      clear hb2 hm MU1
      go_wp2_with fail
      refine (unhide FL1 _ _ (unhide HM)).mono ?_
      rintro e' w3 ⟨v29, rfl, hf3, hb3⟩
      obtain rfl := frac_int hf3 zl1
      obtain ⟨VA, hVA⟩ : ∃ VA, VA = w3.alloc (.cells #[.bool false, .int .u64 (zl : Int), .int .u64 0, .pointer none] 33) := ⟨_, rfl⟩
      have bA : But [] w3 VA := by rw [hVA]; exact (But.refl _ _).alloc _
      have cA : P4 VA w3.heap.size false (zl : Int) 0 none := by rw [hVA]; exact ⟨by simp, by simp, by simp, by simp⟩
      have zA : ∀ j, VA.frozen? ⟨w3.heap.size, j, none⟩ = false := fun j => by rw [hVA]; simp
      have o10 : g9 < w3.heap.size := Nat.lt_of_lt_of_le (lt_of_cell (unhide C9).1) (((unhide HB2).trans' hb3).size)
      have HBA : Hid (But [] V9 VA) := ((unhide HB2).trans' hb3).trans' bA
      have HVA := hide hVA
      have CA := hide cA
      have ZA := hide zA
      clear hf3 hb3 hVA bA cA zA HB2 HM FL1
      go_wp2
      rw [← unhide HVA]
      obtain ⟨g10, hg10⟩ : ∃ g10, g10 = w3.heap.size := ⟨_, rfl⟩
      rw [← hg10] at CA ZA o10
      rw [← hg10]
      clear hg10 HVA
      refine share_region 7 _ _ VA r false (zl : Int) 0 none s9 x9 y9 p9 sh xh yh ph (wk * hi) (((zh : Nat) : Int) : Rat) (by simp) gh g9 g10 (by simp [Act.eval]) (by simp [Act.eval]) (by simp [Act.eval]) (unhide CA) ((unhide C9).but (unhide HBA) (by simp)) ((unhide CH).but (unhide HBA) (by simp)) (fun W' h => unhide MU2 W' ((unhide HBA).trans' h)) (unhide FL2) (fun W' _ u hu => unhide CMP W' u hu) ?_
      intro w4 v3 v4 hb4
      have HB4 : Hid (But [] V9 w4) := (unhide HBA).trans' hb4
      have kA := (unhide CA).but hb4 (by simp)
      have zA4 : ∀ j, w4.frozen? ⟨g10, j, none⟩ = false := fun j => (hb4.frozen (p := ⟨g10, j, none⟩) (show g10 < VA.heap.size from lt_of_cell (unhide CA).1) (by simp)).trans (unhide ZA j)
      have ZA4 := hide zA4
      have KA := hide kA
      have HI4 : Hid (CutI w w4 ge gl gh gp n k (.slice (some ⟨b, off, none⟩) n c) ws e lo hi F) := (unhide HI).keep h0 ((unhide B9).trans' (unhide HB4))
      clear hb4 CA ZA HBA MU2 FL2 CMP HI HI0 kA zA4
      simp only [putted, List.foldl_cons, List.foldl_nil, Act.put, List.setIfInBounds_toArray, List.set_cons_zero, List.set_cons_succ]
      by_cases hr : r = 0
      · have hb : (r != 0) = false := by simp [hr]
        have ek := unhide KEY hr
        subst ek
        obtain ⟨a0, a1, a2, a3⟩ := unhide KA
        have IN := hide (fracInt_small (F k) (by omega) w4)
        have l10 : g10 < w4.heap.size := lt_of_cell a0
        clear hr KEY
        go_wp2_with fail
        refine (unhide IN).mono ?_
        rintro e' w5 ⟨rfl, hb5⟩
        have HI5 : Hid (CutI w w5 ge gl gh gp n k (.slice (some ⟨b, off, none⟩) n c) ws e lo hi F) := (unhide HI4).keep h0 hb5
        clear hb5 IN a0 a1 a2 a3 l10 HI4 KA ZA4
        have c0 := (unhide HI5).row k hlt
        rw [Nat.zero_add] at c0
        have fz := (unhide HI5).loose k
        go_wp2
        exact ⟨⟨k + 1, by omega, by go_num, (unhide HI5).next hlt (by have := unhide OW; omega) (by omega) (by omega) (by omega)⟩, by simp [intOf]; omega⟩
      · have hb : (r != 0) = true := by simp [hr]
        obtain ⟨a0, a1, a2, a3⟩ := (unhide C9).but (unhide HB4) (by simp)
        obtain ⟨d0, d1, d2, d3⟩ := (unhide CE).but (unhide HB4) (by simp)
        clear hr KEY
        go_wp2_with fail
        refine (unhide MU3 _ (unhide HB4)).mono ?_
        rintro e' w5 ⟨v39, rfl, hm5, hb5⟩
        have HM5 := hide hm5
        have HI5 : Hid (CutI w w5 ge gl gh gp n k (.slice (some ⟨b, off, none⟩) n c) ws e lo hi F) := (unhide HI4).keep h0 hb5
        have KA5 := hide ((unhide KA).but hb5 (by simp))
        have ZA5 : Hid (∀ j, w5.frozen? ⟨g10, j, none⟩ = false) := fun j => (hb5.frozen (p := ⟨g10, j, none⟩) (show g10 < w4.heap.size from lt_of_cell (unhide KA).1) (by simp)).trans (unhide ZA4 j)
        clear hm5 hb5 MU3 HI4 KA ZA4 a0 a1 a2 a3 d0 d1 d2 d3
        go_wp2_with fail
        refine (unhide FL3 _ _ (unhide HM5)).mono ?_
        rintro e' w6 ⟨v40, rfl, hf6, hb6⟩
        obtain rfl := frac_int hf6 hFkl
        have HI6 : Hid (CutI w w6 ge gl gh gp n k (.slice (some ⟨b, off, none⟩) n c) ws e lo hi F) := (unhide HI5).keep h0 hb6
        obtain ⟨sA, xA, yA, pA, kA⟩ : ∃ sA xA yA pA, P4 w6 g10 sA xA yA pA := ⟨_, _, _, _, (unhide KA5).but hb6 (by simp)⟩
        have zA : ∀ j, w6.frozen? ⟨g10, j, none⟩ = false := fun j => (hb6.frozen (p := ⟨g10, j, none⟩) (show g10 < w5.heap.size from lt_of_cell (unhide KA5).1) (by simp)).trans (unhide ZA5 j)
        have HI7 : Hid (CutI w (put4 w6 g10 false (F k : Int) 0 none) ge gl gh gp n k (.slice (some ⟨b, off, none⟩) n c) ws e lo hi F) := (unhide HI6).put h0 kA (by have := unhide OW; omega) (by omega) (by omega) (by omega) (by omega) _ _ _ _
        have IN := hide (fracInt_small (F k) (by omega) (put4 w6 g10 false (F k : Int) 0 none))
        obtain ⟨a0, a1, a2, a3⟩ := kA
        have l10 : g10 < w6.heap.size := lt_of_cell a0
        clear hf6 hb6 FL3 HI5 HI6 KA5 ZA5 HM5
        go_wp2_with fail
        refine (unhide IN).mono ?_
        rintro e' w7 ⟨rfl, hb7⟩
        have HI8 : Hid (CutI w w7 ge gl gh gp n k (.slice (some ⟨b, off, none⟩) n c) ws e lo hi F) := (unhide HI7).keep h0 hb7
        clear hb7 IN a0 a1 a2 a3 l10 HI7 zA
        have c0 := (unhide HI8).row k hlt
        rw [Nat.zero_add] at c0
        have fz := (unhide HI8).loose k
        go_wp2
        exact ⟨⟨k + 1, by omega, by go_num, (unhide HI8).next hlt (by have := unhide OW; omega) (by omega) (by omega) (by omega)⟩, by simp [intOf]; omega⟩
    · obtain rfl : k = n := by omega
      go_wp2
      go_ret
      exact ⟨gp, rfl, by have := unhide OW; omega, (unhide HI).row.congr (fun i hi => by rw [if_pos hi]), (unhide HI).loose, (unhide HI).but⟩
end Go.Proofs.YtlkpkgajfakdpaaGreat
