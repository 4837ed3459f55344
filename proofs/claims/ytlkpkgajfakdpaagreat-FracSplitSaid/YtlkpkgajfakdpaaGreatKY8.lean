/- Fractions are added one by one, as the Go text of package tontinekeep does it. -/
import Derived.Test.YtlkpkgajfakdpaaGreatKF6
import Derived.Test.YtlkpkgajfakdpaaGreatKV1
import Derived.Test.YtlkpkgajfakdpaaGreatKY0
import Derived.Test.YtlkpkgajfakdpaaGreatKYM
import Derived.Test.YtlkpkgajfakdpaaGreatKYR
namespace Go.Proofs.YtlkpkgajfakdpaaGreat
open Go.RowKit

def opMo0 : Oper := { dst := some 12, op := Op.load 33 (Operand.tmp 3), type := 33, pos := "keep.go:48", after := #[], guard := none }
def opMo1 : Oper := { dst := some 13, op := Op.move (Operand.tmp 0), type := 23, pos := "keep.go:48", after := #[], guard := none }
def opMo2 : Oper := { dst := some 14, op := Op.move (Operand.tmp 4), type := 3, pos := "keep.go:48", after := #[], guard := none }
def opMo3 : Oper := { dst := some 15, op := Op.indexAddr 23 (Operand.tmp 13) (Operand.tmp 14), type := 0, pos := "keep.go:48", after := #[{ on := 1, ground := Ground.data }, { on := 2, ground := Ground.data }], guard := none }
def opMo4 : Oper := { dst := some 16, op := Op.load 33 (Operand.tmp 15), type := 33, pos := "keep.go:48", after := #[{ on := 3, ground := Ground.data }], guard := none }
def opMo5 : Oper := { dst := some 17, op := Op.call { callee := Callee.value (Operand.func 19), args := #[Operand.tmp 12, Operand.tmp 16], argTypes := #[33, 33] }, type := 33, pos := "keep.go:48", after := #[{ on := 0, ground := Ground.data }, { on := 4, ground := Ground.data }], guard := none }
def opMo6 : Oper := { dst := none, op := Op.store 33 (Operand.tmp 3) (Operand.tmp 17), type := 0, pos := "keep.go:48", after := #[{ on := 5, ground := Ground.data }, { on := 5, ground := Ground.chain }, { on := 0, ground := Ground.phase }, { on := 1, ground := Ground.phase }, { on := 2, ground := Ground.phase }, { on := 3, ground := Ground.phase }, { on := 4, ground := Ground.phase }, { on := 5, ground := Ground.phase }], guard := none }
def opMos : Array Oper := #[opMo0, opMo1, opMo2, opMo3, opMo4, opMo5, opMo6]
def opMoT (i : Nat) : Nat := match i with
  | 0 => 12
  | 1 => 13
  | 2 => 14
  | 3 => 15
  | 4 => 16
  | _ => 17
/-- what each operation's value is -/
def opMoC (b : Nat) (off : Nat) (n : Nat) (c : Nat) (k : Nat) (s1 : Bool) (x1 : Int) (y1 : Int) (p1 : Option Addr) (s2 : Bool) (x2 : Int) (y2 : Int) (p2 : Option Addr) (f : Rat) (i : Nat) (w : World) (v : Value) : Prop := match i with
  | 0 => v = .agg #[.bool s1, .int .u64 x1, .int .u64 y1, .pointer p1]
  | 1 => v = .slice (some ⟨b, off, none⟩) n c
  | 2 => v = .int .i64 (k : Int)
  | 3 => v = .pointer (some ⟨b, off + k * 4, none⟩)
  | 4 => v = .agg #[.bool s2, .int .u64 x2, .int .u64 y2, .pointer p2]
  | _ => FracAt w v f
theorem opMoC_but {b : Nat} {off : Nat} {n : Nat} {c : Nat} {k : Nat} {s1 : Bool} {x1 : Int} {y1 : Int} {p1 : Option Addr} {s2 : Bool} {x2 : Int} {y2 : Int} {p2 : Option Addr} {f : Rat} {i : Nat} {w w' : World} {v : Value} (h : opMoC b off n c k s1 x1 y1 p1 s2 x2 y2 p2 f i w v) (hi : i < 6) (hb : But [] w w') : opMoC b off n c k s1 x1 y1 p1 s2 x2 y2 p2 f i w' v := by
  have : i = 0 ∨ i = 1 ∨ i = 2 ∨ i = 3 ∨ i = 4 ∨ i = 5 := by omega
  rcases this with rfl | rfl | rfl | rfl | rfl | rfl
  all_goals first | exact h | exact FracAt.but h hb | exact FracsAt.but h hb
theorem opMoT_inj : ∀ i j, i < 6 → j < 6 → opMoT i = opMoT j → i = j := fun i j hi hj => (by decide : ∀ i, i < 6 → ∀ j, j < 6 → opMoT i = opMoT j → i = j) i hi j hj
set_option maxRecDepth 100000 in
theorem more_region (id : Nat) (Q : Exit → Act → World → Prop) (base : Act) (W0 : World) (b : Nat) (off : Nat) (n : Nat) (c : Nat) (k : Nat) (s1 : Bool) (x1 : Int) (y1 : Int) (p1 : Option Addr) (s2 : Bool) (x2 : Int) (y2 : Int) (p2 : Option Addr) (f : Rat) (gb : Nat) {sb : Bool} {xb yb : Int} {pb : Option Addr} (hs : 17 < base.tmps.size) (eb : base.eval (.tmp 3) = .pointer (some ⟨gb, 0, none⟩)) (cb : P4 W0 gb sb xb yb pb) (fzb : ∀ j, W0.frozen? ⟨gb, j, none⟩ = false) (e0 : base.eval (.tmp 0) = .slice (some ⟨b, off, none⟩) n c) (e4 : base.eval (.tmp 4) = .int .i64 (k : Int))
    (hk' : k < n) (hn : n < 1000000) (c1 : P4 W0 gb s1 x1 y1 p1) (c2 : P4o W0 b (off + k * 4) s2 x2 y2 p2)
    (AD : ∀ w, But [] W0 w → Calls Tryz.prog 19 #[.agg #[.bool s1, .int .u64 x1, .int .u64 y1, .pointer p1], .agg #[.bool s2, .int .u64 x2, .int .u64 y2, .pointer p2]] w fun e w' => ∃ v, e = .returned v ∧ FracAt w' v f ∧ But [] w w')
    (hQ : ∀ w1 s' x' y' p', But [] W0 w1 → FracAt w1 (.agg #[.bool s', .int .u64 x', .int .u64 y', .pointer p']) (f) → Q .normal (putted base [(12, .agg #[.bool s1, .int .u64 x1, .int .u64 y1, .pointer p1]), (13, .slice (some ⟨b, off, none⟩) n c), (14, .int .i64 (k : Int)), (15, .pointer (some ⟨b, off + k * 4, none⟩)), (16, .agg #[.bool s2, .int .u64 x2, .int .u64 y2, .pointer p2]), (17, (.agg #[.bool s', .int .u64 x', .int .u64 y', .pointer p']))]) (put4 w1 gb s' x' y' p')) :
    (Code.region id opMos true).wp Tryz.prog Q base W0 := by
  have hdr : ∀ {w}, But [] W0.drew w → But [] W0 w := fun h => (But.refl _ _).drew.trans' h
  have lgb : gb < W0.heap.size := lt_of_cell cb.1
  have hT : ∀ i, i < 6 → opMoT i < base.tmps.size := fun i hi => by
    have h : opMoT i ≤ 17 := by revert i; decide
    omega
  refine region_flow (by kernel_rfl) (low_of (by kernel_rfl)) (fun i o ho => (calm_of (ops := opMos) (by kernel_rfl) i o ho).1)
    (fun _ w => But [] W0.drew w) (opMoC b off n c k s1 x1 y1 p1 s2 x2 y2 p2 f) opMoT 6 rfl opMoT_inj hT (But.refl _ _)
    (fun i hi => ?_) ?_ (fun a w => ∃ w1 s' x' y' p', a = putted base [(12, .agg #[.bool s1, .int .u64 x1, .int .u64 y1, .pointer p1]), (13, .slice (some ⟨b, off, none⟩) n c), (14, .int .i64 (k : Int)), (15, .pointer (some ⟨b, off + k * 4, none⟩)), (16, .agg #[.bool s2, .int .u64 x2, .int .u64 y2, .pointer p2]), (17, (.agg #[.bool s', .int .u64 x', .int .u64 y', .pointer p']))] ∧ w = put4 w1 gb s' x' y' p' ∧ But [] W0 w1 ∧ FracAt w1 (.agg #[.bool s', .int .u64 x', .int .u64 y', .pointer p']) (f)) ?_ ?_
  · exact dep_of (ops := opMos) (ps := [(6, 0), (6, 1), (6, 2), (6, 3), (6, 4), (6, 5)]) (by kernel_rfl) 6 i (by
      have : i = 0 ∨ i = 1 ∨ i = 2 ∨ i = 3 ∨ i = 4 ∨ i = 5 := by omega
      rcases this with rfl | rfl | rfl | rfl | rfl | rfl <;> simp)
  · intro dn i o a w K hi ho hdi hH he hdep hK
    have hD := fun j hj => (dep_have (ps := [(3, 1), (3, 2), (4, 3), (5, 0), (5, 4)]) (by kernel_rfl) ho (fun j => dn j = true ∧ opMoC b off n c k s1 x1 y1 p1 s2 x2 y2 p2 f j w (a.eval (.tmp (opMoT j)))) hdep j hj).2
    have hk : ∀ v w', But [] w w' → opMoC b off n c k s1 x1 y1 p1 s2 x2 y2 p2 f i w' v → K (a.put (some (opMoT i)) v) w' := fun v w' hb hv => hK v w' (hH.trans' hb) (fun j hj _ u hu => opMoC_but hu hj hb) hv
    have eb' := (he 3 (fun j hj e => absurd e.symm (by revert j; decide))).trans eb
    have e0' := (he 0 (fun j hj e => absurd e.symm (by revert j; decide))).trans e0
    have e4' := (he 4 (fun j hj e => absurd e.symm (by revert j; decide))).trans e4
    have : i = 0 ∨ i = 1 ∨ i = 2 ∨ i = 3 ∨ i = 4 ∨ i = 5 := by omega
    rcases this with rfl | rfl | rfl | rfl | rfl | rfl
    · obtain rfl := Option.some.inj ((show opMos[0]? = some opMo0 from rfl).symm.trans ho)
      exact wp_value (run_loadF a w _ _ _ _ _ _ gb 0 _ _ _ _ eb' (c1.but (hdr hH) (by simp))) (hk _ _ (But.refl _ _) rfl)
    · obtain rfl := Option.some.inj ((show opMos[1]? = some opMo1 from rfl).symm.trans ho)
      exact wp_value (run_mv a w _ _ _ _ _ _ _ e0') (hk _ _ (But.refl _ _) rfl)
    · obtain rfl := Option.some.inj ((show opMos[2]? = some opMo2 from rfl).symm.trans ho)
      exact wp_value (run_mv a w _ _ _ _ _ _ _ e4') (hk _ _ (But.refl _ _) rfl)
    · obtain rfl := Option.some.inj ((show opMos[3]? = some opMo3 from rfl).symm.trans ho)
      exact wp_value (run_indexF a w _ _ _ _ _ _ _ b off n c k hk' hn (hD 1 (by simp)) (hD 2 (by simp))) (hk _ _ (But.refl _ _) rfl)
    · obtain rfl := Option.some.inj ((show opMos[4]? = some opMo4 from rfl).symm.trans ho)
      exact wp_value (run_loadF a w _ _ _ _ _ _ b _ _ _ _ _ (hD 3 (by simp)) (c2.but (hdr hH) (by simp))) (hk _ _ (But.refl _ _) rfl)
    · obtain rfl := Option.some.inj ((show opMos[5]? = some opMo5 from rfl).symm.trans ho)
      exact wp_enter (run_addF a w _ _ _ _ _ _ _ _ _ (hD 0 (by simp)) (hD 4 (by simp))) (R := fun w' v => FracAt w' v (f) ∧ But [] w w') (AD w (hdr hH)) (fun v w' hv => hk v w' hv.2 hv.1)
  · intro dn o a w K ho hall h hK
    obtain rfl := Option.some.inj ((show opMos[6]? = some opMo6 from rfl).symm.trans ho)
    have eb' := (h.eval 3 (fun j hj e => absurd e.symm (by revert j; decide))).trans eb
    have cl : FracAt w (a.eval (.tmp 17)) (f) := h.has 5 (by omega) (hall 5 (by omega))
    have cl' := cl
    obtain ⟨x', y', p', ev, -⟩ := cl.agg
    rw [ev] at cl'
    have ea := h.puts hT (fun i => match i with
      | 0 => .agg #[.bool s1, .int .u64 x1, .int .u64 y1, .pointer p1]
      | 1 => .slice (some ⟨b, off, none⟩) n c
      | 2 => .int .i64 (k : Int)
      | 3 => .pointer (some ⟨b, off + k * 4, none⟩)
      | 4 => .agg #[.bool s2, .int .u64 x2, .int .u64 y2, .pointer p2]
      | _ => .agg #[.bool (decide ((f).num < 0)), .int .u64 x', .int .u64 y', .pointer p']) (fun i hi => by
      have hc := h.has i hi (hall i hi)
      have : i = 0 ∨ i = 1 ∨ i = 2 ∨ i = 3 ∨ i = 4 ∨ i = 5 := by omega
      rcases this with rfl | rfl | rfl | rfl | rfl | rfl
      all_goals first | exact ev | exact hc | rfl)
    exact wp_skipped (run_store4 a w _ _ _ _ _ gb _ x' y' p' eb' ev (cb.but (hdr h.mem) (by simp)) (fun j => ((hdr h.mem).frozen (p := ⟨gb, j, none⟩) lgb (by simp)).trans (fzb j))) (hK _ _ ⟨w, _, x', y', p', ea, rfl, hdr h.mem, cl'⟩)
  · rintro a w ⟨w1, s', x', y', p', rfl, rfl, h1, h2⟩
    exact hQ  w1 s' x' y' p' h1 h2

/-- while fractions are added -/
structure SumI (w wr : World) (g2 g3 : Nat) (ws : List Rat) (k : Nat) : Prop where
  but : But [] w wr
  res : BoxAt wr g2 0
  box : BoxAt wr g3 (tot (ws.take k))
set_option maxHeartbeats 4000000 in
set_option maxRecDepth 100000 in
theorem keepSum_any (b off c n : Nat) (ws : List Rat) (w : World) (hws : FracsAt w (.slice (some ⟨b, off, none⟩) n c) ws) (hn : n = ws.length) (hn2 : n ≤ 100) (hl : ∀ f ∈ ws, Len f 1) :
    Calls Tryz.prog 7 #[.slice (some ⟨b, off, none⟩) n c] w fun e w' => ∃ s x y p, e = .returned (.agg #[.bool s, .int .u64 x, .int .u64 y, .pointer p]) ∧ FracAt w' (.agg #[.bool s, .int .u64 x, .int .u64 y, .pointer p]) (tot ws) ∧ But [] w w' := by
  obtain ⟨sw, xw, FWH, CWH⟩ := whole_is 0 (by omega) (by omega)
  rw [show (((0 : Int) : Int) : Rat) = 0 from rfl] at FWH
  have HWS := hide hws
  have HN := hide hn
  have HL := hide hl
  have CW := hide CWH
  have HF := hide FWH
  obtain ⟨W, hW⟩ : ∃ W, W = w.alloc (.cells #[.bool false, .int .u64 0, .int .u64 0, .pointer none] 33) := ⟨_, rfl⟩
  have hB : But [] w W := by rw [hW]; exact (But.refl _ _).alloc _
  have b2 : BoxAt W w.heap.size 0 := by rw [hW]; exact BoxAt.new _ _ _ _ _ _ _ (zero_at _)
  have HB := hide hB
  have B2 := hide b2
  have HW := hide hW
  clear hws hn hl CWH FWH hB b2 hW
  go_enter Tryz.func7, Tryz.ntmps7
  go_wp2_with fail
  rw [← unhide HW]
  refine (unhide CW W).mono ?_
  rintro e w1 ⟨rfl, hb1⟩
  obtain ⟨V, hV⟩ : ∃ V, V = w1.alloc (.cells #[.bool sw, .int .u64 xw, .int .u64 0, .pointer none] 33) := ⟨_, rfl⟩
  have bV : But [] w1 V := by rw [hV]; exact (But.refl _ _).alloc _
  have b3 : BoxAt V w1.heap.size 0 := by rw [hV]; exact BoxAt.new _ _ _ _ _ _ _ (unhide HF _)
  have o : w.heap.size < w1.heap.size := Nat.lt_of_lt_of_le (unhide B2).lt hb1.size
  have HI0 : Hid (SumI w V w.heap.size w1.heap.size ws 0) := ⟨((unhide HB).trans' hb1).trans' bV, ((unhide B2).but hb1).but bV, by rw [List.take_zero]; exact b3⟩
  have HV := hide hV
  clear hb1 hV bV b3 HB B2 HW CW HF
  go_wp2
  rw [← unhide HV]
  obtain ⟨g2, hg2⟩ : ∃ g2, g2 = w.heap.size := ⟨_, rfl⟩
  obtain ⟨g3, hg3⟩ : ∃ g3, g3 = w1.heap.size := ⟨_, rfl⟩
  rw [← hg3, ← hg2] at HI0
  rw [← hg3, ← hg2]
  have o23 : g2 < g3 := by omega
  have OW : Hid (g2 = w.heap.size) := hg2
  clear hg2 hg3 o HV
  go_loopw [4] (fun i wr => ∃ k : Nat, k ≤ n ∧ i = .int .i64 (k : Int) ∧ Hid (SumI w wr g2 g3 ws k)) (fun i _ => n - (intOf i).toNat)
  case atStart => exact ⟨0, Nat.zero_le _, rfl, unhide HI0⟩
  case round =>
    obtain ⟨k, hk, rfl, HI⟩ := hrel
    rename World => wr
    by_cases hlt : k < n
    · have hkl : k < ws.length := by have := unhide HN; omega
      obtain ⟨s2, x2, y2, p2, c2, f2⟩ := ((unhide HWS).but (unhide HI).but).get k hlt
      obtain ⟨⟨s1, x1, y1, p1, c1, f1⟩, z1⟩ := (unhide HI).box
      have q1 : ∀ f ∈ ws.take k, Len f 1 := fun f hf => unhide HL f (List.mem_of_mem_take hf)
      have lt1 : Len (tot (ws.take k)) (k + 1) := by
        have h := len_tot (ws.take k) q1 (by rw [List.length_take]; omega)
        rw [List.length_take, Nat.min_eq_left (by omega)] at h
        exact h
      have lw : Len (ws[k]?.getD 0) 1 := by rw [List.getElem?_eq_getElem hkl]; exact unhide HL _ (List.getElem_mem hkl)
      have et : tot (ws.take (k + 1)) = tot (ws.take k) + ws[k]?.getD 0 := by
        rw [List.take_add_one, tot_append, List.getElem?_eq_getElem hkl]
        show _ + (_ + 0) = _
        rw [Rat.add_zero]; rfl
      have AD := hide (fun W' (h : But [] wr W') => fracAdd_gen (k + 1) 1 (by omega) _ _ _ _ W' (f1.but h) (f2.but h) lt1 lw)
      rw [← et] at AD
      have C1 := hide c1
      have C2 := hide c2
      have Z1 := hide z1
      clear lt1 lw et q1 f1 f2 c1 c2 z1
      go_wp2
      refine more_region 5 _ _ wr b off n c k s1 x1 y1 p1 s2 x2 y2 p2 (tot (ws.take (k + 1))) g3 (by simp) (by simp [Act.eval]) (unhide C1) (unhide Z1) (by simp [Act.eval]) (by simp [Act.eval]) hlt (by omega) (unhide C1) (unhide C2) (unhide AD) ?_
      intro w2 s x y p hb2 hf2
      have hP := put4_but w2 g3 s x y p
      have hbx : BoxAt w2 g3 (tot (ws.take k)) := (unhide HI).box.but hb2
      have HI2 : Hid (SumI w (put4 w2 g3 s x y p) g2 g3 ws (k + 1)) := ⟨((unhide HI).but.trans' hb2).trans hP (fun x hx => by simp at hx; subst hx; exact .inr (by have := unhide OW; omega)), ((unhide HI).res.but hb2).beside hP (by simp; omega) (fun g hg => by simp at hg; subst hg; exact hbx.bool), hbx.put hf2⟩
      generalize put4 w2 g3 s x y p = V2 at *
      clear hP hbx hb2 hf2 AD C1 C2 Z1 HI
      simp only [putted, List.foldl_cons, List.foldl_nil, Act.put, List.setIfInBounds_toArray, List.set_cons_zero, List.set_cons_succ]
      go_wp2
      exact ⟨⟨k + 1, by omega, by go_num, unhide HI2⟩, by simp [intOf]; omega⟩
    · obtain rfl : k = n := by omega
      have hbx := (unhide HI).box
      rw [List.take_of_length_le (by have := unhide HN; omega)] at hbx
      obtain ⟨⟨s1, x1, y1, p1, c1, f1⟩, z1⟩ := hbx
      obtain ⟨⟨s2, x2, y2, p2, c2, -⟩, z2⟩ := (unhide HI).res
      have hP := put4_but wr g2 s1 x1 y1 p1
      obtain ⟨m0, m1, m2, m3⟩ := put4_p4 wr g2 s1 x1 y1 p1 c2
      have ff := f1.over c2.1 hP
      have hFB : But [] w (put4 wr g2 s1 x1 y1 p1) := (unhide HI).but.trans hP (fun x hx => by simp at hx; subst hx; exact .inr (by have := unhide OW; omega))
      have FF := hide ff
      have FB := hide hFB
      obtain ⟨a0, a1, a2, a3⟩ := c1
      obtain ⟨r0, r1, r2, r3⟩ := c2
      have M := hide (show P4 (put4 wr g2 s1 x1 y1 p1) g2 s1 x1 y1 p1 from ⟨m0, m1, m2, m3⟩)
      clear m0 m1 m2 m3 ff hFB hP f1 HI z1
      go_wp2
      change bodyPost _ _ _ _ _ (put4 wr g2 s1 x1 y1 p1)
      obtain ⟨m0, m1, m2, m3⟩ := unhide M
      clear M r0 r1 r2 r3 a0 a1 a2 a3
      generalize put4 wr g2 s1 x1 y1 p1 = V2 at *
      exact bodyPost_ret (v := .agg #[.bool s1, .int .u64 x1, .int .u64 y1, .pointer p1]) (by simp [results, Tryz.results7, go_sem, m0, m1, m2, m3]) rfl ⟨_, _, _, _, rfl, unhide FF, unhide FB⟩
end Go.Proofs.YtlkpkgajfakdpaaGreat
