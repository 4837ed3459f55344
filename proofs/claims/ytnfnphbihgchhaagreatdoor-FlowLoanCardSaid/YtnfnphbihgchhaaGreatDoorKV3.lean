/- Payments of one unit at the end of each year, none now, as the Go text of package flow makes them. -/
import Derived.Test.YtnfnphbihgchhaaGreatDoorKR0
import Derived.Test.YtnfnphbihgchhaaGreatDoorKU4
import Derived.Test.YtnfnphbihgchhaaGreatDoorKU5
namespace Go.Proofs.YtnfnphbihgchhaaGreatDoor
open Go.RowKit

set_option maxHeartbeats 4000000 in
set_option maxRecDepth 100000 in
theorem yearly_any (n : Nat) (hn : n ≤ 500) (w : World) :
    Calls Tryz.prog 16 #[.int .i64 (n : Int)] w fun e w' => ∃ v, e = .returned v ∧ FracsAt w' v (0 :: List.replicate n 1) ∧ But [] w w' := by
  obtain ⟨ws, wx, FW, CW⟩ := whole_is 1 (by omega) (by omega)
  have CWH := hide CW
  have HFW := hide FW
  clear CW FW
  go_enter Tryz.func16, Tryz.ntmps16
  go_wp2_with fail
  refine (unhide CWH _).mono ?_
  rintro e w1 ⟨rfl, hb1⟩
  have B1 := hide hb1
  clear hb1
  have p1 : P4o (w1.alloc (.cells #[.bool ws, .int .u64 wx, .int .u64 0, .pointer none] 28)) w1.heap.size 0 ws wx 0 none := ⟨by simp, by simp, by simp, by simp⟩
  have RP := hide (repeat_one w1.heap.size 0 1 (n + 1) ws wx 0 none _ p1 (by omega) (by omega))
  have BA : Hid (But [] w (w1.alloc (.cells #[.bool ws, .int .u64 wx, .int .u64 0, .pointer none] 28))) := (unhide B1).alloc _
  rw [show ((n + 1 : Nat) : Int) = (n : Int) + 1 from by omega] at RP
  clear p1
  go_wp2_with fail
  refine (unhide RP).mono ?_
  rintro e w2 ⟨rfl, hf2, hb2⟩
  have HF2 := hide hf2
  have B2 : Hid (But [] w w2) := (unhide BA).trans' hb2
  have hge : Hid (w.heap.size ≤ (w1.alloc (.cells #[.bool ws, .int .u64 wx, .int .u64 0, .pointer none] 28)).heap.size) := (unhide BA).size
  generalize (w1.alloc (.cells #[.bool ws, .int .u64 wx, .int .u64 0, .pointer none] 28)).heap.size = g at *
  obtain ⟨c0, c1, c2, c3⟩ := hf2.full 0 (by omega)
  have fz := hf2.loose
  rw [Nat.zero_mul] at c0 c1 c2 c3
  rw [Nat.zero_add] at c1 c2 c3
  clear hf2 hb2 RP CWH
  go_wp2
  go_ret
  have hP := put4_but w2 g false 0 0 none
  have hf := unhide HF2
  refine ⟨_, rfl, ⟨some ⟨g, 0, none⟩, n + 1, by simp, by simp, fun i f hi => ⟨g, 0, rfl, ?_⟩⟩, (unhide B2).trans hP (fun x hx => by simp at hx; subst hx; exact .inr (unhide hge))⟩
  rw [Nat.zero_add]
  by_cases h0 : i = 0
  · subst h0
    simp only [List.getElem?_cons_zero, Option.some.injEq] at hi
    subst hi
    have h4 := put4_p4 w2 g false 0 0 none (s' := ws) (x' := wx) (y' := 0) (p' := none) ⟨c0, c1, c2, c3⟩
    exact ⟨false, 0, 0, none, by rw [Nat.zero_mul]; exact h4, zero_at _⟩
  · obtain ⟨k, rfl⟩ : ∃ k, i = k + 1 := ⟨i - 1, by omega⟩
    rw [List.getElem?_cons_succ, List.getElem?_replicate] at hi
    split at hi
    · rename_i hk
      obtain rfl := Option.some.inj hi
      have hp := hf.full (k + 1) (by omega)
      have far : ∀ o u, 4 ≤ o → w2.cell? ⟨g, o, none⟩ = some u → (put4 w2 g false 0 0 none).cell? ⟨g, o, none⟩ = some u := fun o u ho hu => by
        obtain ⟨-, h2⟩ := set4_all w2 g (.bool false) (.int .u64 0) (.int .u64 0) (.pointer none) (by rw [c0]; rfl) (by rw [c1]; rfl) (by rw [c2]; rfl) (by rw [c3]; rfl)
        exact (h2 o ho).trans hu
      exact ⟨ws, wx, 0, none, ⟨far _ _ (by omega) hp.1, far _ _ (by omega) hp.2.1, far _ _ (by omega) hp.2.2.1, far _ _ (by omega) hp.2.2.2⟩, unhide HFW _⟩
    · simp at hi
end Go.Proofs.YtnfnphbihgchhaaGreatDoor

namespace Go.Proofs.YtnfnphbihgchhaaGreatDoor
open Go.RowKit

theorem worth_units (vp vr : Value) (c : Rat) (rs : List Rat) (w : World) (hp : FracsAt w vp (0 :: List.replicate rs.length c)) (hr : FracsAt w vr rs) (hn : rs.length ≤ 20) (lc : Len c 22) (lr : ∀ r ∈ rs, Len r 1) (hg : ∀ r ∈ rs, 0 < 1 + r) :
    Calls Tryz.prog 15 #[vp, vr] w fun e w' => ∃ v, e = .returned v ∧ FracAt w' v (c * unitW rs) ∧ But [] w w' := by
  have hlen : (0 :: List.replicate rs.length c).length = rs.length + 1 := by simp
  have h := worth_any vp vr (0 :: List.replicate rs.length c) rs w hp hr (by rw [hlen]; omega) (by rw [hlen]; omega) (by omega) (fun t ht => ?_) (fun t ht => ?_) (fun t ht => ?_) (fun l hl => ?_)
  · rw [show (downs (0 :: List.replicate rs.length c).length 0).map (·.1) = (downs (rs.length + 1) 0).map (·.1) from by rw [hlen], wfold_all] at h
    exact h
  · cases t with
    | zero => exact (len_int 0 (by decide)).mono (by omega)
    | succ t =>
      rw [hlen] at ht
      rw [List.getElem?_cons_succ, List.getElem?_replicate, if_pos (by omega)]
      exact lc
  · rw [List.getElem?_eq_getElem ht]
    exact lr _ (List.getElem_mem ht)
  · rw [List.getElem?_eq_getElem ht, Option.getD_some]
    have := (pos_num (1 + rs[t])).2 (hg _ (List.getElem_mem ht))
    omega
  · have hb : ∀ t ∈ l.map (·.1), t ≤ rs.length := fun t ht => by
      obtain ⟨x, -, rfl⟩ := List.mem_map.1 ht
      have h2 : x.1 < rs.length + 1 := Nat.lt_of_lt_of_le x.2 (Nat.le_of_eq hlen)
      omega
    have hl' : l.length ≤ rs.length + 1 := Nat.le_trans hl (Nat.le_of_eq hlen)
    rw [wfold_scale c rs.length _ _ hb]
    have h1 := wfold_len rs.length rs (l.map (·.1)) (Nat.le_refl _) hb lr hg
    rw [List.length_map] at h1
    exact len_mul lc h1 130 (by omega)
theorem run_len (a : Act) (w : World) (d t : Nat) (u : TypeId) (ps : String) (ed : Array Edge) (q : Option Addr) (n c : Nat) (h : a.eval (.tmp t) = .slice q n c) :
    (execOp a.eval { dst := some d, op := Op.call { callee := Callee.builtin Builtin.len, args := #[Operand.tmp t], argTypes := #[35] }, type := u, pos := ps, after := ed, guard := none }).run Tryz.prog w = .ok (.value (.int .i64 (n : Int))) w := by
  have h' : a.tmps[t]?.getD undef = .slice q n c := by rw [← Array.getD_eq_getD_getElem?]; exact h
  unfold execOp
  go_simp
theorem run_yearly (a : Act) (w : World) (d t1 : Nat) (u : TypeId) (ps : String) (ed : Array Edge) (x1 : Value) (h1 : a.eval (.tmp t1) = x1) :
    (execOp a.eval { dst := some d, op := Op.call { callee := Callee.value (Operand.func 16), args := #[Operand.tmp t1], argTypes := #[3] }, type := u, pos := ps, after := ed, guard := none }).run Tryz.prog w = .ok (.enter 16 #[x1]) w := by
  unfold execOp
  go_simp
  rw [← h1]
  simp [Act.eval]
theorem run_worth (a : Act) (w : World) (d t1 t2 : Nat) (u : TypeId) (ps : String) (ed : Array Edge) (x1 x2 : Value) (h1 : a.eval (.tmp t1) = x1) (h2 : a.eval (.tmp t2) = x2) :
    (execOp a.eval { dst := some d, op := Op.call { callee := Callee.value (Operand.func 15), args := #[Operand.tmp t1, Operand.tmp t2], argTypes := #[35, 35] }, type := u, pos := ps, after := ed, guard := none }).run Tryz.prog w = .ok (.enter 15 #[x1, x2]) w := by
  unfold execOp
  go_simp
  rw [← h1, ← h2]
  simp [Act.eval]
theorem run_alloc4 (a : Act) (w : World) (d : Nat) (u : TypeId) (ps : String) (ed : Array Edge) :
    (execOp a.eval { dst := some d, op := Op.alloc 28, type := u, pos := ps, after := ed, guard := none }).run Tryz.prog w = .ok (.value (.pointer (some ⟨w.heap.size, 0, none⟩))) (w.alloc (.cells #[.bool false, .int .u64 0, .int .u64 0, .pointer none] 28)) := by
  unfold execOp
  go_simp

def opL0 : Oper := { dst := some 26, op := Op.load 28 (Operand.tmp 2), type := 28, pos := "loan.go:21", after := #[], guard := none }
def opL1 : Oper := { dst := some 27, op := Op.move (Operand.tmp 1), type := 35, pos := "loan.go:21", after := #[], guard := none }
def opL2 : Oper := { dst := some 28, op := Op.call { callee := Callee.builtin Builtin.len, args := #[Operand.tmp 27], argTypes := #[35] }, type := 3, pos := "loan.go:21", after := #[{ on := 1, ground := Ground.data }], guard := none }
def opL3 : Oper := { dst := some 29, op := Op.call { callee := Callee.value (Operand.func 16), args := #[Operand.tmp 28], argTypes := #[3] }, type := 35, pos := "loan.go:21", after := #[{ on := 2, ground := Ground.data }], guard := none }
def opL4 : Oper := { dst := some 30, op := Op.move (Operand.tmp 1), type := 35, pos := "loan.go:21", after := #[], guard := none }
def opL5 : Oper := { dst := some 31, op := Op.call { callee := Callee.value (Operand.func 15), args := #[Operand.tmp 29, Operand.tmp 30], argTypes := #[35, 35] }, type := 28, pos := "loan.go:21", after := #[{ on := 3, ground := Ground.data }, { on := 4, ground := Ground.data }, { on := 3, ground := Ground.chain }], guard := none }
def opL6 : Oper := { dst := some 32, op := Op.call { callee := Callee.value (Operand.func 14), args := #[Operand.tmp 26, Operand.tmp 31], argTypes := #[28, 28] }, type := 28, pos := "loan.go:21", after := #[{ on := 0, ground := Ground.data }, { on := 5, ground := Ground.data }, { on := 5, ground := Ground.chain }], guard := none }
def opL7 : Oper := { dst := some 8, op := Op.alloc 28, type := 0, pos := "loan.go:21", after := #[], guard := none }
def opL8 : Oper := { dst := none, op := Op.store 28 (Operand.tmp 8) (Operand.tmp 32), type := 0, pos := "loan.go:21", after := #[{ on := 7, ground := Ground.data }, { on := 6, ground := Ground.data }, { on := 6, ground := Ground.chain }, { on := 0, ground := Ground.phase }, { on := 1, ground := Ground.phase }, { on := 2, ground := Ground.phase }, { on := 3, ground := Ground.phase }, { on := 4, ground := Ground.phase }, { on := 5, ground := Ground.phase }, { on := 6, ground := Ground.phase }, { on := 7, ground := Ground.phase }], guard := none }
def opsL : Array Oper := #[opL0, opL1, opL2, opL3, opL4, opL5, opL6, opL7, opL8]

/-- a place for a fraction, laid since -/
def Laid4 (B : Nat) (w : World) (v : Value) : Prop := ∃ b, v = .pointer (some ⟨b, 0, none⟩) ∧ B ≤ b ∧ P4 w b false 0 0 none ∧ ∀ j, w.frozen? ⟨b, j, none⟩ = false
theorem Laid4.but {B : Nat} {w w' : World} {v : Value} (h : Laid4 B w v) (hb : But [] w w') : Laid4 B w' v := by
  obtain ⟨b, e, h1, h2, h3⟩ := h
  have hl : b < w.heap.size := lt_of_cell h2.1
  exact ⟨b, e, h1, h2.but hb (by simp), fun j => (hb.frozen (p := ⟨b, j, none⟩) hl (by simp)).trans (h3 j)⟩
/-- what each operation's value is -/
def loanC (W0 : World) (vd vr : Value) (n : Nat) (d : Rat) (rs : List Rat) (i : Nat) (w : World) (v : Value) : Prop := match i with
  | 0 => v = vd
  | 1 => v = vr
  | 2 => v = .int .i64 (n : Int)
  | 3 => FracsAt w v (0 :: List.replicate n 1)
  | 4 => v = vr
  | 5 => FracAt w v (unitW rs)
  | 6 => FracAt w v (d / unitW rs)
  | _ => Laid4 W0.heap.size w v
theorem loanC_but {W0 : World} {vd vr : Value} {n : Nat} {d : Rat} {rs : List Rat} {i : Nat} {w w' : World} {v : Value} (h : loanC W0 vd vr n d rs i w v) (hi : i < 8) (hb : But [] w w') : loanC W0 vd vr n d rs i w' v := by
  have : i = 0 ∨ i = 1 ∨ i = 2 ∨ i = 3 ∨ i = 4 ∨ i = 5 ∨ i = 6 ∨ i = 7 := by omega
  rcases this with rfl | rfl | rfl | rfl | rfl | rfl | rfl | rfl
  all_goals first | exact h | exact FracAt.but h hb | exact FracsAt.but h hb | exact Laid4.but h hb
set_option maxRecDepth 100000 in
theorem loan_region (id : Nat) (Q : Exit → Act → World → Prop) (base : Act) (W0 : World) (g2 : Nat) (s : Bool) (x y : Int) (p : Option Addr) (q : Option Addr) (n c : Nat) (d : Rat) (rs : List Rat) (hs : 32 < base.tmps.size)
    (e2 : base.eval (.tmp 2) = .pointer (some ⟨g2, 0, none⟩)) (e1 : base.eval (.tmp 1) = .slice q n c) (c2 : P4 W0 g2 s x y p) (hd : FracAt W0 (.agg #[.bool s, .int .u64 x, .int .u64 y, .pointer p]) d) (hr : FracsAt W0 (.slice q n c) rs) (hnn : n = rs.length) (hn : n ≤ 20) (h0 : 0 < n) (ld : Len d 1) (lr : ∀ r ∈ rs, Len r 1) (hg : ∀ r ∈ rs, 0 < 1 + r)
    (hQ : ∀ w1 b v3 v5 s' x' y' p', But [] W0 w1 → W0.heap.size ≤ b → P4 w1 b false 0 0 none → (∀ j, w1.frozen? ⟨b, j, none⟩ = false) → FracAt w1 (.agg #[.bool s', .int .u64 x', .int .u64 y', .pointer p']) (d / unitW rs) → Q .normal (putted base [(26, .agg #[.bool s, .int .u64 x, .int .u64 y, .pointer p]), (27, .slice q n c), (28, .int .i64 (n : Int)), (29, v3), (30, .slice q n c), (31, v5), (32, .agg #[.bool s', .int .u64 x', .int .u64 y', .pointer p']), (8, .pointer (some ⟨b, 0, none⟩))]) (put4 w1 b s' x' y' p')) :
    (Code.region id opsL true).wp Tryz.prog Q base W0 := by
  have hdr : ∀ {w}, But [] W0.drew w → But [] W0 w := fun h => (But.refl _ _).drew.trans' h
  have hW := unitW_pos rs hg (by omega)
  have hW0 : (unitW rs).num ≠ 0 := by have := (pos_num (unitW rs)).2 hW; omega
  have lW := unitW_len rs hg lr (by omega)
  refine region_flow (by kernel_rfl) (low_of (by kernel_rfl)) (fun i o ho => (calm_of (ops := opsL) (by kernel_rfl) i o ho).1)
    (fun _ w => But [] W0.drew w) (loanC W0 (.agg #[.bool s, .int .u64 x, .int .u64 y, .pointer p]) (.slice q n c) n d rs) (fun i => if i = 7 then 8 else 26 + i) 8 rfl (fun i j hi hj e => by
      split at e <;> split at e <;> omega) (fun i hi => by split <;> omega) (But.refl _ _)
    (fun i hi => ?_) ?_ (fun a w => ∃ w1 b v3 v5 s' x' y' p', a = putted base [(26, .agg #[.bool s, .int .u64 x, .int .u64 y, .pointer p]), (27, .slice q n c), (28, .int .i64 (n : Int)), (29, v3), (30, .slice q n c), (31, v5), (32, .agg #[.bool s', .int .u64 x', .int .u64 y', .pointer p']), (8, .pointer (some ⟨b, 0, none⟩))] ∧ w = put4 w1 b s' x' y' p' ∧ But [] W0 w1 ∧ W0.heap.size ≤ b ∧ P4 w1 b false 0 0 none ∧ (∀ j, w1.frozen? ⟨b, j, none⟩ = false) ∧ FracAt w1 (.agg #[.bool s', .int .u64 x', .int .u64 y', .pointer p']) (d / unitW rs)) ?_ ?_
  · exact dep_of (ops := opsL) (ps := [(8, 0), (8, 1), (8, 2), (8, 3), (8, 4), (8, 5), (8, 6), (8, 7)]) (by kernel_rfl) 8 i (by
      have : i = 0 ∨ i = 1 ∨ i = 2 ∨ i = 3 ∨ i = 4 ∨ i = 5 ∨ i = 6 ∨ i = 7 := by omega
      rcases this with rfl | rfl | rfl | rfl | rfl | rfl | rfl | rfl <;> simp)
  · intro dn i o a w K hi ho hdi hH he hdep hK
    have hD := dep_have (ps := [(2, 1), (3, 2), (5, 3), (5, 4), (6, 0), (6, 5)]) (by kernel_rfl) ho (fun j => dn j = true ∧ loanC W0 (.agg #[.bool s, .int .u64 x, .int .u64 y, .pointer p]) (.slice q n c) n d rs j w (a.eval (.tmp (if j = 7 then 8 else 26 + j)))) hdep
    have e2' := (he 2 (fun j _ => by split <;> omega)).trans e2
    have e1' := (he 1 (fun j _ => by split <;> omega)).trans e1
    have hk : ∀ v w', But [] w w' → loanC W0 (.agg #[.bool s, .int .u64 x, .int .u64 y, .pointer p]) (.slice q n c) n d rs i w' v → K (a.put (some (if i = 7 then 8 else 26 + i)) v) w' := fun v w' hb hv => hK v w' (hH.trans' hb) (fun j hj _ u hu => loanC_but hu hj hb) hv
    have : i = 0 ∨ i = 1 ∨ i = 2 ∨ i = 3 ∨ i = 4 ∨ i = 5 ∨ i = 6 ∨ i = 7 := by omega
    rcases this with rfl | rfl | rfl | rfl | rfl | rfl | rfl | rfl
    · obtain rfl := Option.some.inj ((show opsL[0]? = some opL0 from rfl).symm.trans ho)
      exact wp_value (run_load4 a w _ _ _ _ _ g2 0 _ _ _ _ e2' (c2.but (hdr hH) (by simp))) (hk _ _ (But.refl _ _) rfl)
    · obtain rfl := Option.some.inj ((show opsL[1]? = some opL1 from rfl).symm.trans ho)
      exact wp_value (run_moved a w _ _ _ _ _ _ e1') (hk _ _ (But.refl _ _) rfl)
    · obtain rfl := Option.some.inj ((show opsL[2]? = some opL2 from rfl).symm.trans ho)
      exact wp_value (run_len a w _ _ _ _ _ q n c (hD 1 (by simp)).2) (hk _ _ (But.refl _ _) rfl)
    · obtain rfl := Option.some.inj ((show opsL[3]? = some opL3 from rfl).symm.trans ho)
      exact wp_enter (run_yearly a w _ _ _ _ _ _ (hD 2 (by simp)).2) (R := fun w' v => FracsAt w' v (0 :: List.replicate n 1) ∧ But [] w w') (yearly_any n (by omega) w) (fun v w' hv => hk v w' hv.2 hv.1)
    · obtain rfl := Option.some.inj ((show opsL[4]? = some opL4 from rfl).symm.trans ho)
      exact wp_value (run_moved a w _ _ _ _ _ _ e1') (hk _ _ (But.refl _ _) rfl)
    · obtain rfl := Option.some.inj ((show opsL[5]? = some opL5 from rfl).symm.trans ho)
      have hy : FracsAt w (a.eval (.tmp 29)) (0 :: List.replicate n 1) := (hD 3 (by simp)).2
      rw [hnn] at hy
      have hw := worth_units (a.eval (.tmp 29)) (.slice q n c) 1 rs w hy (hr.but (hdr hH)) (by omega) ((len_int 1 (by decide)).mono (by omega)) lr hg
      rw [Rat.one_mul] at hw
      exact wp_enter (run_worth a w _ _ _ _ _ _ _ _ rfl (hD 4 (by simp)).2) (R := fun w' v => FracAt w' v (unitW rs) ∧ But [] w w') hw (fun v w' hv => hk v w' hv.2 hv.1)
    · obtain rfl := Option.some.inj ((show opsL[6]? = some opL6 from rfl).symm.trans ho)
      exact wp_enter (run_divided a w _ _ _ _ _ _ _ _ (hD 0 (by simp)).2 rfl) (R := fun w' v => FracAt w' v (d / unitW rs) ∧ But [] w w') (divided_any _ _ d (unitW rs) w (hd.but (hdr hH)) (hD 5 (by simp)).2 (ld.mono (by omega)) (lW.mono (by omega)) hW0) (fun v w' hv => hk v w' hv.2 hv.1)
    · obtain rfl := Option.some.inj ((show opsL[7]? = some opL7 from rfl).symm.trans ho)
      exact wp_value (run_alloc4 a w _ _ _ _) (hk _ _ ((But.refl _ _).alloc _) ⟨w.heap.size, rfl, (hdr hH).size, ⟨by simp, by simp, by simp, by simp⟩, fun j => by simp⟩)
  · intro dn o a w K ho hall h hK
    obtain rfl := Option.some.inj ((show opsL[8]? = some opL8 from rfl).symm.trans ho)
    have c0 : a.eval (.tmp 26) = .agg #[.bool s, .int .u64 x, .int .u64 y, .pointer p] := h.has 0 (by omega) (hall 0 (by omega))
    have c1 : a.eval (.tmp 27) = .slice q n c := h.has 1 (by omega) (hall 1 (by omega))
    have c2' : a.eval (.tmp 28) = .int .i64 (n : Int) := h.has 2 (by omega) (hall 2 (by omega))
    have c4 : a.eval (.tmp 30) = .slice q n c := h.has 4 (by omega) (hall 4 (by omega))
    have c6 : FracAt w (a.eval (.tmp 32)) (d / unitW rs) := h.has 6 (by omega) (hall 6 (by omega))
    obtain ⟨b, eb, hb1, hb2, hb3⟩ : Laid4 W0.heap.size w (a.eval (.tmp 8)) := h.has 7 (by omega) (hall 7 (by omega))
    have c6' := c6
    obtain ⟨x', y', p', ev, -⟩ := c6.agg
    rw [ev] at c6'
    have ea := h.puts (fun i hi => by split <;> omega) (fun i => if i = 0 then .agg #[.bool s, .int .u64 x, .int .u64 y, .pointer p] else if i = 1 then .slice q n c else if i = 2 then .int .i64 (n : Int) else if i = 3 then a.eval (.tmp 29) else if i = 4 then .slice q n c else if i = 5 then a.eval (.tmp 31) else if i = 6 then .agg #[.bool (decide ((d / unitW rs).num < 0)), .int .u64 x', .int .u64 y', .pointer p'] else .pointer (some ⟨b, 0, none⟩)) (fun i hi => by
      have : i = 0 ∨ i = 1 ∨ i = 2 ∨ i = 3 ∨ i = 4 ∨ i = 5 ∨ i = 6 ∨ i = 7 := by omega
      rcases this with rfl | rfl | rfl | rfl | rfl | rfl | rfl | rfl
      all_goals first | exact c0 | exact c1 | exact c2' | exact c4 | exact ev | exact eb | rfl)
    refine wp_skipped (run_store4 a w _ _ _ _ _ b _ x' y' p' eb ev hb2 hb3) (hK _ _ ⟨w, b, a.eval (.tmp 29), a.eval (.tmp 31), _, x', y', p', ?_, rfl, hdr h.mem, hb1, hb2, hb3, c6'⟩)
    exact ea
  · rintro a w ⟨w1, b, v3, v5, s', x', y', p', rfl, rfl, h1, h2, h3, h4, h5⟩
    exact hQ w1 b v3 v5 s' x' y' p' h1 h2 h3 h4 h5
end Go.Proofs.YtnfnphbihgchhaaGreatDoor
