/- Regions that draw their order: what single operations do, as the Go text of package tontineref has them on complex numbers; a region whose operations write their own slots. -/
import Derived.Test.YtinhoigcajddpaaDoorKRK
import Derived.Test.YtinhoigcajddpaaDoorKW7
namespace Go.Proofs.YtinhoigcajddpaaDoor
open Go.RowKit

/-- each operation that binds another stands behind it -/
def lowOpsW (ops : Array Oper) : Bool := (List.range ops.size).all fun i => match ops[i]? with
  | some o => o.after.all fun e => !(Region.binds .any e) || decide (e.on < i)
  | none => true
theorem low_ofW {ops : Array Oper} (h : lowOpsW ops = true) : ∀ i o, ops[i]? = some o → ∀ e ∈ o.after, Region.binds .any e = true → e.on < i := fun i o ho e he hb => by
  have hi : i < ops.size := (Array.getElem?_eq_some_iff.1 ho).1
  unfold lowOpsW at h
  rw [List.all_eq_true] at h
  have h1 := h i (List.mem_range.2 hi)
  simp only [ho] at h1
  rw [Array.all_eq_true_iff_forall_mem] at h1
  have h2 := h1 e he
  simpa [hb] using h2
def depOpsW (ops : Array Oper) (ps : List (Nat × Nat)) : Bool := ps.all fun p => match ops[p.1]? with
  | some o => o.after.any fun e => Region.binds .any e && e.on == p.2
  | none => false
theorem dep_ofW {ops : Array Oper} {ps : List (Nat × Nat)} (h : depOpsW ops ps = true) : ∀ i j, (i, j) ∈ ps → ∃ o, ops[i]? = some o ∧ ∃ e ∈ o.after, Region.binds .any e = true ∧ e.on = j := fun i j hij => by
  unfold depOpsW at h
  rw [List.all_eq_true] at h
  have h1 := h (i, j) hij
  cases ho : ops[i]? with
  | none => simp [ho] at h1
  | some o =>
    simp only [ho] at h1
    rw [Array.any_eq_true] at h1
    obtain ⟨k, hk, h2⟩ := h1
    simp only [Bool.and_eq_true, beq_iff_eq] at h2
    exact ⟨o, rfl, o.after[k], Array.getElem_mem hk, h2.1, h2.2⟩
def bareOpsW (ops : Array Oper) : Bool := (List.range ops.size).all fun i => match ops[i]? with
  | some o => o.guard.isNone
  | none => true
theorem bare_ofW {ops : Array Oper} (h : bareOpsW ops = true) : ∀ (i : Nat) (o : Oper), ops[i]? = some o → o.guard = none := fun i o ho => by
  have hi : i < ops.size := (Array.getElem?_eq_some_iff.1 ho).1
  unfold bareOpsW at h
  rw [List.all_eq_true] at h
  have h1 := h i (List.mem_range.2 hi)
  simp only [ho] at h1
  simpa using h1
theorem dep_isW {ops : Array Oper} {ps : List (Nat × Nat)} (h : depOpsW ops ps = true) {i : Nat} {o : Oper} (ho : ops[i]? = some o) (R : Nat → Prop) (hdep : ∀ e ∈ o.after, Region.binds .any e = true → R e.on) (j : Nat) (hij : (i, j) ∈ ps) : R j := by
  obtain ⟨o', ho', e, he, hb, rfl⟩ := dep_ofW h i j hij
  rw [ho] at ho'
  obtain rfl := Option.some.inj ho'
  exact hdep e he hb
theorem does_valueW {P : Program} {Q : Exit → Act → World → Prop} {K : Act → World → Prop} {a : Act} {w w' : World} {o : Oper} {v : Value} (hr : (execOp a.eval o).run P w = .ok (.value v) w') (h : K (a.put o.dst v) w') : o.wp P a w K Q := by
  unfold Oper.wp
  rw [hr]
  exact h
theorem does_skipW {P : Program} {Q : Exit → Act → World → Prop} {K : Act → World → Prop} {a : Act} {w w' : World} {o : Oper} (hr : (execOp a.eval o).run P w = .ok .skip w') (h : K (a.put o.dst undef) w') : o.wp P a w K Q := by
  unfold Oper.wp
  rw [hr]
  exact h
theorem does_enterW {P : Program} {Q : Exit → Act → World → Prop} {K : Act → World → Prop} {a : Act} {w : World} {o : Oper} {f : FuncId} {args : Array Value} (hr : (execOp a.eval o).run P w = .ok (.enter f args) w) {R : World → Value → Prop} (hc : Calls P f args w fun e w' => ∃ v, e = .returned v ∧ R w' v) (h : ∀ v w', R w' v → K (a.put o.dst v) w') : o.wp P a w K Q := by
  unfold Oper.wp
  rw [hr]
  refine hc.mono ?_
  rintro e w' ⟨v, rfl, hv⟩
  exact h v w' hv

section
variable (a : Act) (w : World) (d : Option Nat) (t t1 t2 : Nat) (u : TypeId) (ps : String) (ed : Array Edge)
theorem run_mvW (N : Value) (h : a.eval (.tmp t) = N) : (execOp a.eval { dst := d, op := Op.move (.tmp t), type := u, pos := ps, after := ed, guard := none }).run Tryd.prog w = .ok (.value N) w := by
  unfold execOp
  simp only [h]
  go_simp
theorem run_asW (N : Value) (h : a.eval (.tmp t) = N) : (execOp a.eval { dst := d, op := Op.assign (.tmp t), type := u, pos := ps, after := ed, guard := none }).run Tryd.prog w = .ok (.value N) w := by
  unfold execOp
  simp only [h]
  go_simp
theorem run_ixC (b n c k : Nat) (h1 : a.eval (.tmp t1) = .slice (some ⟨b, 0, none⟩) n c) (h2 : a.eval (.tmp t2) = .int .i64 (k : Int)) (hk : k < n) (_hn : n ≤ 1000) : (execOp a.eval { dst := d, op := Op.indexAddr 35 (.tmp t1) (.tmp t2), type := u, pos := ps, after := ed, guard := none }).run Tryd.prog w = .ok (.value (.pointer (some ⟨b, k, none⟩))) w := by
  unfold execOp
  simp only [h1, h2]
  go_simp
theorem run_ixCo (b off n c k : Nat) (h1 : a.eval (.tmp t1) = .slice (some ⟨b, off, none⟩) n c) (h2 : a.eval (.tmp t2) = .int .i64 (k : Int)) (hk : k < n) (_hn : n ≤ 1000) : (execOp a.eval { dst := d, op := Op.indexAddr 35 (.tmp t1) (.tmp t2), type := u, pos := ps, after := ed, guard := none }).run Tryd.prog w = .ok (.value (.pointer (some ⟨b, off + k, none⟩))) w := by
  unfold execOp
  simp only [h1, h2]
  go_simp
theorem run_ixF (b off n c k : Nat) (h1 : a.eval (.tmp t1) = .slice (some ⟨b, off, none⟩) n c) (h2 : a.eval (.tmp t2) = .int .i64 (k : Int)) (hk : k < n) (_hn : n ≤ 1000) : (execOp a.eval { dst := d, op := Op.indexAddr 22 (.tmp t1) (.tmp t2), type := u, pos := ps, after := ed, guard := none }).run Tryd.prog w = .ok (.value (.pointer (some ⟨b, off + k, none⟩))) w := by
  unfold execOp
  simp only [h1, h2]
  go_simp
theorem run_ldC (b k x y : Nat) (h1 : a.eval (.tmp t) = .pointer (some ⟨b, k, none⟩)) (hc : w.cell? ⟨b, k, none⟩ = some (.complex .f64 x y)) : (execOp a.eval { dst := d, op := Op.load 36 (.tmp t), type := u, pos := ps, after := ed, guard := none }).run Tryd.prog w = .ok (.value (.complex .f64 x y)) w := by
  unfold execOp
  simp only [h1]
  go_simp
theorem run_ldF (b k x : Nat) (h1 : a.eval (.tmp t) = .pointer (some ⟨b, k, none⟩)) (hc : w.cell? ⟨b, k, none⟩ = some (.float .f64 x)) : (execOp a.eval { dst := d, op := Op.load 32 (.tmp t), type := u, pos := ps, after := ed, guard := none }).run Tryd.prog w = .ok (.value (.float .f64 x)) w := by
  unfold execOp
  simp only [h1]
  go_simp
theorem run_reW (x y : Nat) (h1 : a.eval (.tmp t) = .complex .f64 x y) : (execOp a.eval { dst := d, op := Op.call { callee := Callee.builtin Builtin.real, args := #[Operand.tmp t], argTypes := #[36] }, type := u, pos := ps, after := ed, guard := none }).run Tryd.prog w = .ok (.value (.float .f64 x)) w := by
  unfold execOp
  simp only [resolve, invoke, builtin, Sem.run_bind, Sem.run_pure, Result.andThen_ok, List.map_toArray, List.map_cons, List.map_nil, h1, run_real]
theorem run_imW (x y : Nat) (h1 : a.eval (.tmp t) = .complex .f64 x y) : (execOp a.eval { dst := d, op := Op.call { callee := Callee.builtin Builtin.imag, args := #[Operand.tmp t], argTypes := #[36] }, type := u, pos := ps, after := ed, guard := none }).run Tryd.prog w = .ok (.value (.float .f64 y)) w := by
  unfold execOp
  simp only [resolve, invoke, builtin, Sem.run_bind, Sem.run_pure, Result.andThen_ok, List.map_toArray, List.map_cons, List.map_nil, h1, run_imag]
theorem run_cxW (x y : Nat) (h1 : a.eval (.tmp t1) = .float .f64 x) (h2 : a.eval (.tmp t2) = .float .f64 y) : (execOp a.eval { dst := d, op := Op.call { callee := Callee.builtin Builtin.complex, args := #[Operand.tmp t1, Operand.tmp t2], argTypes := #[32, 32] }, type := u, pos := ps, after := ed, guard := none }).run Tryd.prog w = .ok (.value (.complex .f64 x y)) w := by
  unfold execOp
  simp only [resolve, invoke, builtin, Sem.run_bind, Sem.run_pure, Result.andThen_ok, List.map_toArray, List.map_cons, List.map_nil, h1, h2]
  go_simp
theorem run_addW (x y : Nat) (h1 : a.eval (.tmp t1) = .float .f64 x) (h2 : a.eval (.tmp t2) = .float .f64 y) : (execOp a.eval { dst := d, op := Op.binOp BinOp.add 32 (.tmp t1) (.tmp t2) 32, type := u, pos := ps, after := ed, guard := none }).run Tryd.prog w = .ok (.value (.float .f64 (flB .add x y w))) (w.drewN (flN .add x y)) := by
  have hf := run_fl (P := Tryd.prog) w .add (by simp) 32 x y
  unfold execOp
  simp only [h1, h2]
  go_simp
theorem run_subW (x y : Nat) (h1 : a.eval (.tmp t1) = .float .f64 x) (h2 : a.eval (.tmp t2) = .float .f64 y) : (execOp a.eval { dst := d, op := Op.binOp BinOp.sub 32 (.tmp t1) (.tmp t2) 32, type := u, pos := ps, after := ed, guard := none }).run Tryd.prog w = .ok (.value (.float .f64 (flB .sub x y w))) (w.drewN (flN .sub x y)) := by
  have hf := run_fl (P := Tryd.prog) w .sub (by simp) 32 x y
  unfold execOp
  simp only [h1, h2]
  go_simp
theorem run_quoW (x y : Nat) (h1 : a.eval (.tmp t1) = .float .f64 x) (h2 : a.eval (.tmp t2) = .float .f64 y) : (execOp a.eval { dst := d, op := Op.binOp BinOp.quo 32 (.tmp t1) (.tmp t2) 32, type := u, pos := ps, after := ed, guard := none }).run Tryd.prog w = .ok (.value (.float .f64 (flB .quo x y w))) (w.drewN (flN .quo x y)) := by
  have hf := run_fl (P := Tryd.prog) w .quo (by simp) 32 x y
  unfold execOp
  simp only [h1, h2]
  go_simp
theorem run_cvW (n : Nat) (h1 : a.eval (.tmp t) = .int .i64 (n : Int)) : (execOp a.eval { dst := d, op := Op.convert 3 32 (.tmp t), type := u, pos := ps, after := ed, guard := none }).run Tryd.prog w = .ok (.value (.float .f64 (floatOfInt .f64 (n : Int)))) w := by
  have hf := conv_f (n : Int) w
  unfold execOp
  simp only [h1]
  go_simp
theorem run_halfW (n m : Nat) (h1 : a.eval (.tmp t) = .int .i64 (n : Int)) (hm : n = 2 * m) (hn : n ≤ 1000) : (execOp a.eval { dst := d, op := Op.binOp BinOp.quo 3 (.tmp t) (Operand.const (Value.int IntKind.i64 2)) 3, type := u, pos := ps, after := ed, guard := none }).run Tryd.prog w = .ok (.value (.int .i64 (m : Int))) w := by
  have hdiv : (n : Int) / 2 = (m : Int) := by omega
  have hdiv' : (n : Int).tdiv 2 = (m : Int) := by rw [tdiv_nat]; omega
  have hw : IntKind.i64.wrap (m : Int) = (m : Int) := by rw [IntKind.wrap_i64]; omega
  clear hm
  unfold execOp
  simp only [h1]
  go_simp
theorem run_sumW (n m : Nat) (h1 : a.eval (.tmp t1) = .int .i64 (n : Int)) (h2 : a.eval (.tmp t2) = .int .i64 (m : Int)) (hn : n + m ≤ 1000) : (execOp a.eval { dst := d, op := Op.binOp BinOp.add 3 (.tmp t1) (.tmp t2) 3, type := u, pos := ps, after := ed, guard := none }).run Tryd.prog w = .ok (.value (.int .i64 ((n + m : Nat) : Int))) w := by
  have hw : IntKind.i64.wrap ((n : Int) + (m : Int)) = (n : Int) + (m : Int) := by rw [IntKind.wrap_i64]; omega
  unfold execOp
  simp only [h1, h2]
  go_simp
theorem run_sucW (n : Nat) (h1 : a.eval (.tmp t) = .int .i64 (n : Int)) (hn : n ≤ 1000) : (execOp a.eval { dst := d, op := Op.binOp BinOp.add 3 (.tmp t) (Operand.const (Value.int IntKind.i64 1)) 3, type := u, pos := ps, after := ed, guard := none }).run Tryd.prog w = .ok (.value (.int .i64 ((n + 1 : Nat) : Int))) w := by
  have hw : IntKind.i64.wrap ((n : Int) + 1) = (n : Int) + 1 := by rw [IntKind.wrap_i64]; omega
  unfold execOp
  simp only [h1]
  go_simp
theorem run_stC (b k x y x0 y0 : Nat) (h1 : a.eval (.tmp t1) = .pointer (some ⟨b, k, none⟩)) (h2 : a.eval (.tmp t2) = .complex .f64 x y) (hc : w.cell? ⟨b, k, none⟩ = some (.complex .f64 x0 y0)) (hf : w.frozen? ⟨b, k, none⟩ = false) : (execOp a.eval { dst := d, op := Op.store 36 (.tmp t1) (.tmp t2), type := u, pos := ps, after := ed, guard := none }).run Tryd.prog w = .ok .skip (w.setCell ⟨b, k, none⟩ (.complex .f64 x y)) := by
  have hst := store_c
  unfold execOp
  simp only [h1, h2]
  go_simp
theorem run_notW (b : Bool) (h1 : a.eval (.tmp t) = .bool b) : (execOp a.eval { dst := d, op := Op.unOp UnOp.not 4 (.tmp t), type := u, pos := ps, after := ed, guard := none }).run Tryd.prog w = .ok (.value (.bool !b)) w := by
  unfold execOp
  simp only [h1]
  go_simp
theorem run_bsC (x y : Nat) (h1 : a.eval (.tmp t) = .complex .f64 x y) : (execOp a.eval { dst := d, op := Op.buildSlice 35 1 #[(0, Operand.tmp t)], type := u, pos := ps, after := ed, guard := none }).run Tryd.prog w = .ok (.value (.slice (some ⟨w.heap.size, 0, none⟩) 1 1)) (w.alloc (.cells #[.complex .f64 x y] 36)) := by
  have h1' : a.tmps[t]?.getD undef = .complex .f64 x y := by rw [← Array.getD_eq_getD_getElem?]; exact h1
  unfold execOp
  go_simp
theorem run_apC (v v' u' : Value) (w' : World) (h1 : a.eval (.tmp t1) = v) (h2 : a.eval (.tmp t2) = u') (hr : (Builtin.append_ #[35, 35] 35 #[v, u']).run Tryd.prog w = .ok v' w') : (execOp a.eval { dst := d, op := Op.call { callee := Callee.builtin Builtin.append, args := #[Operand.tmp t1, Operand.tmp t2], argTypes := #[35, 35] }, type := 35, pos := ps, after := ed, guard := none }).run Tryd.prog w = .ok (.value v') w' := by
  unfold execOp
  simp only [resolve, invoke, builtin, Sem.run_bind, Sem.run_pure, Result.andThen_ok, List.map_toArray, List.map_cons, List.map_nil, h1, h2, hr]
end
end Go.Proofs.YtinhoigcajddpaaDoor
