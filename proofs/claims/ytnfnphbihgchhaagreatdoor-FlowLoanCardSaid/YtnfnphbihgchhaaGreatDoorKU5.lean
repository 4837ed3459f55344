/- A list of one fraction, so many times, as the library's slices.Repeat makes it. -/
import Derived.Laws.IdiomCopy
import Derived.Test.YtnfnphbihgchhaaGreatDoorKR0
import Derived.Test.YtnfnphbihgchhaaGreatDoorKSB
import Derived.Test.YtnfnphbihgchhaaGreatDoorKT2
import Derived.Test.YtnfnphbihgchhaaGreatDoorKV1
namespace Go.Proofs.YtnfnphbihgchhaaGreatDoor
open Go.RowKit

set_option maxHeartbeats 2000000 in
theorem bitsMul_any (x y : Nat) (hx : x < 18446744073709551616) (hy : y < 18446744073709551616) (w : World) : Calls Tryz.prog 60 #[.int .u64 x, .int .u64 y] w fun e w' => e = .returned (.tuple #[.int .u64 ((x * y / 18446744073709551616 : Nat) : Int), .int .u64 ((x * y % 18446744073709551616 : Nat) : Int)]) ∧ w' = w := by
  have MU := hide (Tryz.bits_Mul64 x y hx hy w)
  generalize x * y / 18446744073709551616 = hi at *
  generalize x * y % 18446744073709551616 = lo at *
  go_enter Tryz.func60, Tryz.ntmps60
  go_wp2_with fail
  refine (unhide MU).mono ?_
  rintro e w1 ⟨rfl, h⟩
  obtain rfl := h.symm
  clear h
  go_wp2
  go_ret2
  exact ⟨rfl, rfl⟩

theorem run_copy4 {P : Program} (w : World) (dT sT ty elem : TypeId) (b o dLen dCap : Nat) (a : Addr) (sLen sCap m : Nat) (cs : List Value)
    (hu : P.underlying dT = some (.slice elem)) (hs : (P.info? elem).map (·.size) = some 4) (hm : m = Nat.min sLen dLen) (hn : cs.length = m * 4)
    (hsrc : ∀ j v, cs[j]? = some v → w.cell? (a.add j) = some v) (hc : ∀ j, j < cs.length → (w.cell? ⟨b, o + j, none⟩).isSome = true) (hf : ∀ j, j < cs.length → w.frozen? ⟨b, o + j, none⟩ = false) (h1 : ∀ v ∈ cs, v.oneCell' = true) :
    (Builtin.copy_ #[dT, sT] ty #[.slice (some ⟨b, o, none⟩) dLen dCap, .slice (some a) sLen sCap]).run P w = .ok (goInt m) (w.setCells b o cs) := by
  have hl := run_loadCells_list (P := P) w a cs hsrc
  have hst := run_storeCells_cells (P := P) b o cs 0 w (by simpa using hc) (by simpa using hf) h1
  cases hq : P.info? elem with
  | none => simp [hq] at hs
  | some i =>
    have hi : i.size = 4 := by simpa [hq] using hs
    rw [hn] at hl
    simp [Builtin.copy_, run_underlying hu, Builtin.lenOf, Builtin.firstCells, sizeOf, typeInfo, hq, hi, ← hm, hl, hst]

/-- a block of k places for fractions, of which the first j hold one and the same -/
structure Fill (w : World) (g k j : Nat) (s : Bool) (x y : Int) (p : Option Addr) : Prop where
  cells : ∀ o, o < k * 4 → (w.cell? ⟨g, o, none⟩).isSome = true
  loose : ∀ o, w.frozen? ⟨g, o, none⟩ = false
  full : ∀ i, i < j → P4o w g (i * 4) s x y p
theorem four_len (m : Nat) (s : Bool) (x y : Int) (p : Option Addr) : (parts4 (List.replicate m (.agg #[.bool s, .int .u64 x, .int .u64 y, .pointer p]))).length = m * 4 := by
  unfold parts4
  induction m with
  | zero => rfl
  | succ m ih =>
    rw [List.replicate_succ, List.flatMap_cons, List.length_append, ih]
    simp [Value.cells]
    omega
theorem four_of {m j : Nat} {s : Bool} {x y : Int} {p : Option Addr} {v : Value} (h : (parts4 (List.replicate m (.agg #[.bool s, .int .u64 x, .int .u64 y, .pointer p])))[j]? = some v) : ∃ i c, j = 4 * i + c ∧ i < m ∧ c < 4 ∧ (#[Value.bool s, .int .u64 x, .int .u64 y, .pointer p] : Array Value)[c]? = some v := by
  have hl := four_len m s x y p
  have hj : j < m * 4 := by rw [← hl]; exact (List.getElem?_eq_some_iff.1 h).1
  refine ⟨j / 4, j % 4, by omega, by omega, by omega, ?_⟩
  have h2 := parts4_get (List.replicate m (.agg #[.bool s, .int .u64 x, .int .u64 y, .pointer p])) (fun v hv => by rw [List.mem_replicate] at hv; rw [hv.2]; rfl) (j / 4) (j % 4) _ (by rw [List.getElem?_replicate, if_pos (by omega)]) (by omega)
  rw [show 4 * (j / 4) + j % 4 = j from by omega, h] at h2
  exact h2.symm
theorem four_at (m i c : Nat) (s : Bool) (x y : Int) (p : Option Addr) (hi : i < m) (hc : c < 4) : (parts4 (List.replicate m (.agg #[.bool s, .int .u64 x, .int .u64 y, .pointer p])))[4 * i + c]? = (#[Value.bool s, .int .u64 x, .int .u64 y, .pointer p] : Array Value)[c]? := by
  have h := parts4_get (List.replicate m (.agg #[.bool s, .int .u64 x, .int .u64 y, .pointer p])) (fun v hv => by rw [List.mem_replicate] at hv; rw [hv.2]; rfl) i c (.agg #[.bool s, .int .u64 x, .int .u64 y, .pointer p]) (by rw [List.getElem?_replicate, if_pos hi]) hc
  exact h
theorem P4o.at {w : World} {b o : Nat} {s : Bool} {x y : Int} {p : Option Addr} (h : P4o w b o s x y p) (c : Nat) (hc : c < 4) : w.cell? ⟨b, o + c, none⟩ = (#[Value.bool s, .int .u64 x, .int .u64 y, .pointer p] : Array Value)[c]? := by
  have : c = 0 ∨ c = 1 ∨ c = 2 ∨ c = 3 := by omega
  rcases this with rfl | rfl | rfl | rfl
  · exact h.1
  · exact h.2.1
  · exact h.2.2.1
  · exact h.2.2.2
/-- m more of them are copied from a place that holds them -/
theorem Fill.copied {w : World} {g k j : Nat} {s : Bool} {x y : Int} {p : Option Addr} (h : Fill w g k j s x y p) (b off m dLen dCap sLen sCap : Nat) (hm : m = Nat.min sLen dLen) (hk : j + m ≤ k) (hsrc : ∀ i, i < m → P4o w b (off + i * 4) s x y p) (ty : TypeId) :
    ∃ w', (Builtin.copy_ #[35, 35] ty #[.slice (some ⟨g, j * 4, none⟩) dLen dCap, .slice (some ⟨b, off, none⟩) sLen sCap]).run Tryz.prog w = .ok (goInt m) w' ∧ Fill w' g k (j + m) s x y p ∧ But [g] w w' := by
  have hsz : (Tryz.prog.info? 28).map (·.size) = some 4 := by
    obtain ⟨i, h1, -, h2, -⟩ := info_frac
    rw [h1, Option.map_some, h2]
  have hl := four_len m s x y p
  refine ⟨_, run_copy4 w _ _ ty 28 g (j * 4) dLen dCap ⟨b, off, none⟩ sLen sCap m (parts4 (List.replicate m (.agg #[.bool s, .int .u64 x, .int .u64 y, .pointer p]))) Tryz.underlying35 hsz hm hl (fun i v hv => ?_) (fun i hi => ?_) (fun i _ => h.loose _) (fun v hv => ?_), ⟨fun o ho => ?_, fun o => ?_, fun i hi => ?_⟩, but_setCells _ _ _ _⟩
  · obtain ⟨i', c, rfl, h1, h2, h3⟩ := four_of hv
    rw [addr_add, show off + (4 * i' + c) = off + i' * 4 + c from by omega, (hsrc i' h1).at c h2]
    exact h3
  · rw [hl] at hi
    exact h.cells _ (by omega)
  · obtain ⟨i, hi, rfl⟩ := List.mem_iff_getElem.1 hv
    obtain ⟨i', c, -, -, h2, h3⟩ := four_of (List.getElem?_eq_getElem hi)
    have : c = 0 ∨ c = 1 ∨ c = 2 ∨ c = 3 := by omega
    rcases this with rfl | rfl | rfl | rfl <;> (simp at h3; rw [← h3]; rfl)
  · by_cases hin : j * 4 ≤ o ∧ o < j * 4 + m * 4
    · have := World.cell?_setCells_in g (parts4 (List.replicate m (.agg #[.bool s, .int .u64 x, .int .u64 y, .pointer p]))) (j * 4) w (fun i hi => h.cells _ (by rw [hl] at hi; omega)) (o - j * 4) (by rw [hl]; omega)
      rw [show j * 4 + (o - j * 4) = o from by omega] at this
      rw [this]
      rfl
    · rw [World.cell?_setCells_out g _ (j * 4) w _ (fun _ _ => by simp [hl]; omega)]
      exact h.cells o ho
  · rw [World.frozen?_setCells]
    exact h.loose o
  · have hcell : ∀ c, c < 4 → (w.setCells g (j * 4) (parts4 (List.replicate m (.agg #[.bool s, .int .u64 x, .int .u64 y, .pointer p])))).cell? ⟨g, i * 4 + c, none⟩ = (#[Value.bool s, .int .u64 x, .int .u64 y, .pointer p] : Array Value)[c]? := fun c hc => by
      by_cases hij : i < j
      · rw [World.cell?_setCells_out g _ (j * 4) w _ (fun _ _ => by simp [hl]; omega)]
        exact (h.full i hij).at c hc
      · have := World.cell?_setCells_in g (parts4 (List.replicate m (.agg #[.bool s, .int .u64 x, .int .u64 y, .pointer p]))) (j * 4) w (fun i hi => h.cells _ (by rw [hl] at hi; omega)) (4 * (i - j) + c) (by rw [hl]; omega)
        rw [show j * 4 + (4 * (i - j) + c) = i * 4 + c from by omega] at this
        rw [this, ← four_at m (i - j) c s x y p (by omega) hc, List.getElem?_eq_getElem]
    exact ⟨hcell 0 (by omega), hcell 1 (by omega), hcell 2 (by omega), hcell 3 (by omega)⟩
end Go.Proofs.YtnfnphbihgchhaaGreatDoor

namespace Go.Proofs.YtnfnphbihgchhaaGreatDoor
open Go.RowKit

theorem run_makeF (wx : World) (n : Nat) (h : n < 1000000) : (Instr.makeSlice 35 (.int .i64 (n : Int)) (.int .i64 (n : Int))).run Tryz.prog wx = .ok (.slice (some ⟨wx.heap.size, 0, none⟩) n n) (wx.alloc (.cells (madeCells #[.bool false, .int .u64 0, .int .u64 0, .pointer none] (n * 4)) 28)) := by
  obtain ⟨ti, hi, hz, hs, hbt⟩ := info_frac
  have hmk := run_make (P := Tryz.prog) wx 35 28 ti _ Tryz.underlying35 hi hz .i64 .i64 (n : Int) (n : Int) (by omega) (by omega) (by rw [hbt]; omega) (by omega)
  rw [hs, Int.toNat_natCast] at hmk
  exact hmk
theorem made_four (n o : Nat) (h : o < n * 4) : (madeCells #[Value.bool false, .int .u64 0, .int .u64 0, .pointer none] (n * 4))[o]? = (#[Value.bool false, .int .u64 0, .int .u64 0, .pointer none] : Array Value)[o % 4]? := by
  unfold madeCells
  rw [Array.getElem?_map, Array.getElem?_eq_getElem (by simpa using h), Array.getElem_range, Option.map_some]
  have : o % 4 = 0 ∨ o % 4 = 1 ∨ o % 4 = 2 ∨ o % 4 = 3 := by omega
  show some ((#[Value.bool false, .int .u64 0, .int .u64 0, .pointer none] : Array Value)[o % 4]!) = _
  rcases this with e | e | e | e <;> (rw [e]; rfl)
theorem Fill.made (w : World) (k : Nat) (s : Bool) (x y : Int) (p : Option Addr) : Fill (w.alloc (.cells (madeCells #[.bool false, .int .u64 0, .int .u64 0, .pointer none] (k * 4)) 28)) w.heap.size k 0 s x y p :=
  ⟨fun o ho => by
    rw [World.cell?_alloc_new, made_four k o ho]
    have : o % 4 = 0 ∨ o % 4 = 1 ∨ o % 4 = 2 ∨ o % 4 = 3 := by omega
    rcases this with e | e | e | e <;> (rw [e]; rfl), fun o => by simp, fun i hi => by omega⟩
theorem P4o.drew {w : World} {b o : Nat} {s : Bool} {x y : Int} {p : Option Addr} (h : P4o w b o s x y p) : P4o w.drew b o s x y p := h.but (l := []) (But.refl _ _).drew (by simp)
theorem Fill.drew {w : World} {g k j : Nat} {s : Bool} {x y : Int} {p : Option Addr} (h : Fill w g k j s x y p) : Fill w.drew g k j s x y p := ⟨fun o ho => by rw [World.cell?_drew]; exact h.cells o ho, fun o => by rw [World.frozen?_drew]; exact h.loose o, fun i hi => (h.full i hi).drew⟩

theorem run_from (a : Act) (w : World) (d t1 t2 : Nat) (u : TypeId) (ps : String) (ed : Array Edge) (g k n : Nat) (hn : n < k) (_hk : k ≤ 1000) (h1 : a.eval (.tmp t1) = .slice (some ⟨g, 0, none⟩) k k) (h2 : a.eval (.tmp t2) = .int .i64 (n : Int)) :
    (execOp a.eval { dst := some d, op := Op.slice 35 (.tmp t1) (some (.tmp t2)) none none, type := u, pos := ps, after := ed, guard := none }).run Tryz.prog w = .ok (.value (.slice (some ⟨g, n * 4, none⟩) (k - n) (k - n))) w := by
  unfold execOp
  simp only [h1, h2, Option.map_some, Option.map_none]
  go_simp
  rw [if_pos (by omega), if_neg (by omega)]
theorem run_upto (a : Act) (w : World) (d t1 t2 : Nat) (u : TypeId) (ps : String) (ed : Array Edge) (g k n : Nat) (hn : n < k) (_hk : k ≤ 1000) (h1 : a.eval (.tmp t1) = .slice (some ⟨g, 0, none⟩) k k) (h2 : a.eval (.tmp t2) = .int .i64 (n : Int)) :
    (execOp a.eval { dst := some d, op := Op.slice 35 (.tmp t1) none (some (.tmp t2)) none, type := u, pos := ps, after := ed, guard := none }).run Tryz.prog w = .ok (.value (.slice (some ⟨g, 0, none⟩) n k)) w := by
  unfold execOp
  simp only [h1, h2, Option.map_some, Option.map_none]
  go_simp
  intro h
  omega
theorem run_plus (a : Act) (w : World) (d t1 t2 : Nat) (u : TypeId) (ps : String) (ed : Array Edge) (m n : Nat) (hm : m ≤ 1000) (hn : n ≤ 1000) (h1 : a.eval (.tmp t1) = .int .i64 (m : Int)) (h2 : a.eval (.tmp t2) = .int .i64 (n : Int)) :
    (execOp a.eval { dst := some d, op := Op.binOp BinOp.add 3 (.tmp t1) (.tmp t2) 3, type := u, pos := ps, after := ed, guard := none }).run Tryz.prog w = .ok (.value (.int .i64 ((m + n : Nat) : Int))) w := by
  unfold execOp
  simp only [h1, h2]
  go_simp
  rw [IntKind.wrap_i64]
  omega
theorem run_assigned (a : Act) (w : World) (d t : Nat) (u : TypeId) (ps : String) (ed : Array Edge) (N : Value) (h : a.eval (.tmp t) = N) :
    (execOp a.eval { dst := some d, op := Op.assign (.tmp t), type := u, pos := ps, after := ed, guard := none }).run Tryz.prog w = .ok (.value N) w := by
  unfold execOp
  simp only [h]
  go_simp
theorem run_copying (a : Act) (w w' : World) (d t1 t2 : Nat) (u : TypeId) (ps : String) (ed : Array Edge) (x1 x2 v : Value) (h1 : a.eval (.tmp t1) = x1) (h2 : a.eval (.tmp t2) = x2) (hr : (Builtin.copy_ #[35, 35] u #[x1, x2]).run Tryz.prog w = .ok v w') :
    (execOp a.eval { dst := some d, op := Op.call { callee := Callee.builtin Builtin.copy, args := #[Operand.tmp t1, Operand.tmp t2], argTypes := #[35, 35] }, type := u, pos := ps, after := ed, guard := none }).run Tryz.prog w = .ok (.value v) w' := by
  simp [execOp, resolve, invoke, builtin, h1, h2, hr, Result.andThen]

def opR0 : Oper := { dst := some 38, op := Op.move (Operand.tmp 8), type := 3, pos := "slices.go:528", after := #[], guard := none }
def opR1 : Oper := { dst := some 39, op := Op.move (Operand.tmp 7), type := 35, pos := "slices.go:528", after := #[], guard := none }
def opR2 : Oper := { dst := some 40, op := Op.move (Operand.tmp 8), type := 3, pos := "slices.go:528", after := #[], guard := none }
def opR3 : Oper := { dst := some 41, op := Op.slice 35 (Operand.tmp 39) (some (Operand.tmp 40)) none none, type := 35, pos := "slices.go:528", after := #[{ on := 1, ground := Ground.data }, { on := 2, ground := Ground.data }], guard := none }
def opR4 : Oper := { dst := some 42, op := Op.move (Operand.tmp 7), type := 35, pos := "slices.go:528", after := #[], guard := none }
def opR5 : Oper := { dst := some 43, op := Op.move (Operand.tmp 8), type := 3, pos := "slices.go:528", after := #[], guard := none }
def opR6 : Oper := { dst := some 44, op := Op.slice 35 (Operand.tmp 42) none (some (Operand.tmp 43)) none, type := 35, pos := "slices.go:528", after := #[{ on := 4, ground := Ground.data }, { on := 5, ground := Ground.data }], guard := none }
def opR7 : Oper := { dst := some 45, op := Op.call { callee := Callee.builtin Builtin.copy, args := #[Operand.tmp 41, Operand.tmp 44], argTypes := #[35, 35] }, type := 3, pos := "slices.go:528", after := #[{ on := 3, ground := Ground.data }, { on := 6, ground := Ground.data }], guard := none }
def opR8 : Oper := { dst := some 46, op := Op.binOp BinOp.add 3 (Operand.tmp 38) (Operand.tmp 45) 3, type := 3, pos := "slices.go:528", after := #[{ on := 0, ground := Ground.data }, { on := 7, ground := Ground.data }], guard := none }
def opR9 : Oper := { dst := some 8, op := Op.assign (Operand.tmp 46), type := 3, pos := "slices.go:528", after := #[{ on := 8, ground := Ground.data }, { on := 7, ground := Ground.chain }, { on := 0, ground := Ground.phase }, { on := 1, ground := Ground.phase }, { on := 2, ground := Ground.phase }, { on := 3, ground := Ground.phase }, { on := 4, ground := Ground.phase }, { on := 5, ground := Ground.phase }, { on := 6, ground := Ground.phase }, { on := 7, ground := Ground.phase }, { on := 8, ground := Ground.phase }], guard := none }
def opsR : Array Oper := #[opR0, opR1, opR2, opR3, opR4, opR5, opR6, opR7, opR8, opR9]

/-- what each operation's value is -/
def repV (g k n m : Nat) (i : Nat) : Value := match i with
  | 0 => .int .i64 (n : Int)
  | 1 => .slice (some ⟨g, 0, none⟩) k k
  | 2 => .int .i64 (n : Int)
  | 3 => .slice (some ⟨g, n * 4, none⟩) (k - n) (k - n)
  | 4 => .slice (some ⟨g, 0, none⟩) k k
  | 5 => .int .i64 (n : Int)
  | 6 => .slice (some ⟨g, 0, none⟩) n k
  | 7 => .int .i64 (m : Int)
  | _ => .int .i64 ((n + m : Nat) : Int)
set_option maxRecDepth 100000 in
theorem repeat_region (id : Nat) (Q : Exit → Act → World → Prop) (base : Act) (W0 : World) (g k n m : Nat) (s : Bool) (x y : Int) (p : Option Addr) (hs : 46 < base.tmps.size) (e8 : base.eval (.tmp 8) = .int .i64 (n : Int)) (e7 : base.eval (.tmp 7) = .slice (some ⟨g, 0, none⟩) k k)
    (hf : Fill W0 g k n s x y p) (hnk : n < k) (hk : k ≤ 1000) (hm : m = Nat.min n (k - n))
    (hQ : ∀ w, Fill w g k (n + m) s x y p → But [g] W0 w → Q .normal (putted base [(38, .int .i64 (n : Int)), (39, .slice (some ⟨g, 0, none⟩) k k), (40, .int .i64 (n : Int)), (41, .slice (some ⟨g, n * 4, none⟩) (k - n) (k - n)), (42, .slice (some ⟨g, 0, none⟩) k k), (43, .int .i64 (n : Int)), (44, .slice (some ⟨g, 0, none⟩) n k), (45, .int .i64 (m : Int)), (46, .int .i64 ((n + m : Nat) : Int)), (8, .int .i64 ((n + m : Nat) : Int))]) w) :
    (Code.region id opsR true).wp Tryz.prog Q base W0 := by
  have hmn : m ≤ n ∧ m ≤ k - n := by rw [hm]; exact ⟨Nat.min_le_left _ _, Nat.min_le_right _ _⟩
  obtain ⟨w', hcp, hf', hb'⟩ := hf.drew.copied g 0 m (k - n) (k - n) n k hm (by omega) (fun i hi => by rw [Nat.zero_add]; exact hf.drew.full i (by omega)) 3
  have hb0 : But [g] W0 w' := (But.of_nil (But.refl [] W0).drew).trans hb' (fun _ h => .inl h)
  refine region_flow (by kernel_rfl) (low_of (by kernel_rfl)) (fun i o ho => (calm_of (ops := opsR) (by kernel_rfl) i o ho).1)
    (fun d w => if d 7 = true then w = w' else w = W0.drew) (fun i w v => v = repV g k n m i) (fun i => 38 + i) 9 rfl (fun i j _ _ e => by omega) (fun i hi => by omega) (by simp)
    (fun i hi => ?_) ?_ (fun a w => a = putted base ((List.range 9).map (fun i => (38 + i, repV g k n m i)) ++ [(8, .int .i64 ((n + m : Nat) : Int))]) ∧ w = w') ?_ ?_
  · exact dep_of (ops := opsR) (ps := [(9, 0), (9, 1), (9, 2), (9, 3), (9, 4), (9, 5), (9, 6), (9, 7), (9, 8)]) (by kernel_rfl) 9 i (by
      have : i = 0 ∨ i = 1 ∨ i = 2 ∨ i = 3 ∨ i = 4 ∨ i = 5 ∨ i = 6 ∨ i = 7 ∨ i = 8 := by omega
      rcases this with rfl | rfl | rfl | rfl | rfl | rfl | rfl | rfl | rfl <;> simp)
  · intro d i o a w K hi ho hdi hH he hdep hK
    have hD := dep_have (ps := [(3, 1), (3, 2), (6, 4), (6, 5), (7, 3), (7, 6), (8, 0), (8, 7)]) (by kernel_rfl) ho (fun j => d j = true ∧ a.eval (.tmp (38 + j)) = repV g k n m j) hdep
    have e8' := (he 8 (fun j _ => by omega)).trans e8
    have e7' := (he 7 (fun j _ => by omega)).trans e7
    have keep : i ≠ 7 → (if came d i 7 = true then w = w' else w = W0.drew) := fun h => by rw [came_ne d (Ne.symm h)]; exact hH
    have : i = 0 ∨ i = 1 ∨ i = 2 ∨ i = 3 ∨ i = 4 ∨ i = 5 ∨ i = 6 ∨ i = 7 ∨ i = 8 := by omega
    rcases this with rfl | rfl | rfl | rfl | rfl | rfl | rfl | rfl | rfl
    · obtain rfl := Option.some.inj ((show opsR[0]? = some opR0 from rfl).symm.trans ho)
      exact wp_value (run_moved a w _ _ _ _ _ _ e8') (hK _ _ (keep (by omega)) (fun _ _ _ _ h => h) rfl)
    · obtain rfl := Option.some.inj ((show opsR[1]? = some opR1 from rfl).symm.trans ho)
      exact wp_value (run_moved a w _ _ _ _ _ _ e7') (hK _ _ (keep (by omega)) (fun _ _ _ _ h => h) rfl)
    · obtain rfl := Option.some.inj ((show opsR[2]? = some opR2 from rfl).symm.trans ho)
      exact wp_value (run_moved a w _ _ _ _ _ _ e8') (hK _ _ (keep (by omega)) (fun _ _ _ _ h => h) rfl)
    · obtain rfl := Option.some.inj ((show opsR[3]? = some opR3 from rfl).symm.trans ho)
      exact wp_value (run_from a w _ _ _ _ _ _ g k n hnk hk (hD 1 (by simp)).2 (hD 2 (by simp)).2) (hK _ _ (keep (by omega)) (fun _ _ _ _ h => h) rfl)
    · obtain rfl := Option.some.inj ((show opsR[4]? = some opR4 from rfl).symm.trans ho)
      exact wp_value (run_moved a w _ _ _ _ _ _ e7') (hK _ _ (keep (by omega)) (fun _ _ _ _ h => h) rfl)
    · obtain rfl := Option.some.inj ((show opsR[5]? = some opR5 from rfl).symm.trans ho)
      exact wp_value (run_moved a w _ _ _ _ _ _ e8') (hK _ _ (keep (by omega)) (fun _ _ _ _ h => h) rfl)
    · obtain rfl := Option.some.inj ((show opsR[6]? = some opR6 from rfl).symm.trans ho)
      exact wp_value (run_upto a w _ _ _ _ _ _ g k n hnk hk (hD 4 (by simp)).2 (hD 5 (by simp)).2) (hK _ _ (keep (by omega)) (fun _ _ _ _ h => h) rfl)
    · obtain rfl := Option.some.inj ((show opsR[7]? = some opR7 from rfl).symm.trans ho)
      rw [hdi] at hH
      simp only [Bool.false_eq_true, if_false] at hH
      subst hH
      exact wp_value (run_copying a _ w' _ _ _ _ _ _ _ _ _ (hD 3 (by simp)).2 (hD 6 (by simp)).2 hcp) (hK _ _ (by rw [came_self]; rfl) (fun _ _ _ _ h => h) rfl)
    · obtain rfl := Option.some.inj ((show opsR[8]? = some opR8 from rfl).symm.trans ho)
      exact wp_value (run_plus a w _ _ _ _ _ _ n m (by omega) (by omega) (hD 0 (by simp)).2 (hD 7 (by simp)).2) (hK _ _ (keep (by omega)) (fun _ _ _ _ h => h) rfl)
  · intro d o a w K ho hall h hK
    obtain rfl := Option.some.inj ((show opsR[9]? = some opR9 from rfl).symm.trans ho)
    have hmem := h.mem
    rw [if_pos (hall 7 (by omega))] at hmem
    have h8 : a.eval (.tmp 46) = .int .i64 ((n + m : Nat) : Int) := h.has 8 (by omega) (hall 8 (by omega))
    have ea := h.puts (fun i hi => by omega) (repV g k n m) (fun i hi => h.has i hi (hall i hi))
    refine wp_value (run_assigned a w _ _ _ _ _ _ h8) (hK _ _ ⟨?_, hmem⟩)
    rw [ea]
    exact putted_snoc _ _ _ _
  · rintro a w ⟨rfl, rfl⟩
    exact hQ _ hf' hb0

set_option maxHeartbeats 4000000 in
set_option maxRecDepth 100000 in
theorem repeat_one (b off c k : Nat) (s : Bool) (x y : Int) (p : Option Addr) (w : World) (hc : P4o w b off s x y p) (h1 : 1 ≤ k) (hk : k ≤ 1000) :
    Calls Tryz.prog 34 #[.slice (some ⟨b, off, none⟩) 1 c, .int .i64 (k : Int)] w fun e w' => e = .returned (.slice (some ⟨w.heap.size, 0, none⟩) k k) ∧ Fill w' w.heap.size k k s x y p ∧ But [] w w' := by
  have BM := hide (bitsMul_any 1 k (by omega) (by omega) w)
  rw [Nat.one_mul, Nat.div_eq_of_lt (by omega), Nat.mod_eq_of_lt (by omega)] at BM
  have hmk := fun wx => run_makeF wx k (by omega)
  have hbm : But [] w (w.alloc (.cells (madeCells #[.bool false, .int .u64 0, .int .u64 0, .pointer none] (k * 4)) 28)) := (But.refl _ _).alloc _
  have hfl := Fill.made w k s x y p
  have hcp := hfl.copied b off 1 k k 1 c (Nat.min_eq_left h1).symm (by omega) (fun i hi => by
    obtain rfl : i = 0 := by omega
    rw [Nat.zero_mul, Nat.add_zero]
    exact hc.but hbm (by simp))
  rw [Nat.zero_mul, Nat.zero_add] at hcp
  obtain ⟨w2, hcp2⟩ : ∃ w2, (∀ ty, (Builtin.copy_ #[35, 35] ty #[.slice (some ⟨w.heap.size, 0, none⟩) k k, .slice (some ⟨b, off, none⟩) 1 c]).run Tryz.prog (w.alloc (.cells (madeCells #[.bool false, .int .u64 0, .int .u64 0, .pointer none] (k * 4)) 28)) = .ok (goInt 1) w2) ∧ Fill w2 w.heap.size k 1 s x y p ∧ But [w.heap.size] (w.alloc (.cells (madeCells #[.bool false, .int .u64 0, .int .u64 0, .pointer none] (k * 4)) 28)) w2 := by
    obtain ⟨w2, h1, h2, h3⟩ := hcp 0
    exact ⟨w2, fun ty => h1, h2, h3⟩
  obtain ⟨hcp3, hf2, hb2⟩ := hcp2
  have HF2 := hide hf2
  have HB2 : Hid (But [] w w2) := hbm.trans hb2 (fun x hx => by simp at hx; subst hx; exact .inr (Nat.le_refl _))
  clear hcp hfl hbm hb2 hf2 hc
  go_enter Tryz.func34, Tryz.ntmps34
  go_wp2_with fail
  refine (unhide BM).mono ?_
  rintro e w1 ⟨rfl, h⟩
  obtain rfl := h.symm
  clear h
  go_wp2
  clear hcp3 hmk
  go_loopw [8] (fun i wr => ∃ j : Nat, 1 ≤ j ∧ j ≤ k ∧ i = .int .i64 (j : Int) ∧ Hid (Fill wr w.heap.size k j s x y p ∧ But [] w wr)) (fun i _ => k - (intOf i).toNat)
  case atStart => exact ⟨1, Nat.le_refl _, h1, rfl, unhide HF2, unhide HB2⟩
  case round =>
    obtain ⟨j, hj1, hj, rfl, HI⟩ := hrel
    rename World => wr
    by_cases hlt : j < k
    · obtain ⟨m, hm⟩ : ∃ m, m = Nat.min j (k - j) := ⟨_, rfl⟩
      have hm1 : 1 ≤ m := by rw [hm]; exact Nat.le_min.2 ⟨hj1, by omega⟩
      have hm2 : j + m ≤ k := by have := Nat.min_le_right j (k - j); rw [← show m = min j (k - j) from hm] at this; omega
      have HM := hide hm
      clear hm
      go_wp2
      refine repeat_region 9 _ _ wr w.heap.size k j m s x y p (by simp) (by simp [Act.eval]) (by simp [Act.eval]) (unhide HI).1 hlt (by omega) (unhide HM) ?_
      intro w3 hf3 hb3
      have HF3 := hide hf3
      have HB3 : Hid (But [] w w3) := (unhide HI).2.trans hb3 (fun x hx => by simp at hx; subst hx; exact .inr (Nat.le_refl _))
      clear hf3 hb3
      simp only [putted, List.foldl_cons, List.foldl_nil, Act.put, List.setIfInBounds_toArray, List.set_cons_zero, List.set_cons_succ]
      go_wp2
      refine ⟨⟨j + m, by omega, hm2, rfl, unhide HF3, unhide HB3⟩, by simp [intOf]; omega⟩
    · obtain rfl : j = k := by omega
      go_wp2
      go_ret
      exact ⟨rfl, (unhide HI).1, (unhide HI).2⟩
end Go.Proofs.YtnfnphbihgchhaaGreatDoor
