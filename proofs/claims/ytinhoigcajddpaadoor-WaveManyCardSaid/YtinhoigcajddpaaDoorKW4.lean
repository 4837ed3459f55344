/- Complex numbers appended; the numbers at even places and those at odd ones, as the Go text of package wave parts them. -/
import Derived.Laws.Append
import Derived.Test.YtinhoigcajddpaaDoorKW3
namespace Go.Proofs.YtinhoigcajddpaaDoor
open Go.RowKit

/-- the built-in append, by its run -/
theorem wpList_appC {P : Program} {w : World} {ops : Array Oper} {rest : List Oper} {o : Oper} {a : Act} {Q : Exit → Act → World → Prop} (hgd : o.guard = none) (s x : Operand) (t u : TypeId)
    (ho : o.op = .call { callee := .builtin .append, args := #[s, x], argTypes := #[t, u] }) (vs vx v' : Value) (w' : World) (hs : a.eval s = vs) (hx : a.eval x = vx)
    (hr : (Builtin.append_ #[t, u] o.type #[vs, vx]).run P w = .ok v' w') (h : wpList P ops Q rest (a.put o.dst v') w') : wpList P ops Q (o :: rest) a w :=
  wpList_plain hgd fun _ hK => by
    unfold Oper.wp execOp
    simp only [ho, resolve, invoke, builtin, Sem.run_bind, Sem.run_pure, Result.andThen_ok, List.map_toArray, List.map_cons, List.map_nil, hs, hx, hr]
    exact hK _ _ h
theorem addr_addC (b off j : Nat) : (⟨b, off, none⟩ : Addr).add j = ⟨b, off + j, none⟩ := by by_cases h : j = 0 <;> simp [Addr.add, h]

/-- v is a row of the call's own, with k numbers -/
def Ev (base : Nat) (w : World) (v : Value) (k : Nat) (f : Nat → CV) : Prop := ∃ xs : List Value, w.ownsRow base 36 1 v k xs ∧ ∀ i, i < k → ∃ x y, xs[i]? = some (.complex .f64 x y) ∧ cx x y = f i
theorem Ev.nil (base : Nat) (w : World) (f : Nat → CV) : Ev base w (.slice none 0 0) 0 f := ⟨[], World.ownsRow_nil _ _ _ _, fun i hi => by omega⟩
theorem Ev.kept {base : Nat} {w w' : World} {v : Value} {k : Nat} {f : Nat → CV} {row : Option Nat} (h : Ev base w v k f) (hg : w.grownBy w' row) (hn : v.ownBlock = none ∨ v.ownBlock ≠ row) : Ev base w' v k f := by
  obtain ⟨xs, h1, h2⟩ := h
  exact ⟨xs, h1.kept hg hn, h2⟩
theorem grown_of_but {w w' : World} (h : But [] w w') : w.grownBy w' none := ⟨h.os, h.tape, h.output, h.size, fun k hk _ => h.block k hk (by simp)⟩
theorem Ev.but {base : Nat} {w w' : World} {v : Value} {k : Nat} {f : Nat → CV} (h : Ev base w v k f) (hb : But [] w w') : Ev base w' v k f := h.kept (grown_of_but hb) (by
  by_cases h0 : v.ownBlock = none
  · exact .inl h0
  · exact .inr h0)
theorem Ev.at {base : Nat} {w : World} {v : Value} {k : Nat} {f : Nat → CV} (h : Ev base w v k f) : CAt w v k f := by
  obtain ⟨xs, h1, h2⟩ := h
  have h3 := h1
  rcases h1.2 with ⟨rfl, rfl⟩ | ⟨g, cap, cur, rfl, -, -, hnc, -⟩
  · exact ⟨none, 0, rfl, Nat.le_refl _, fun i hi => by omega⟩
  · refine ⟨_, cap, rfl, hnc, fun i hi => ?_⟩
    obtain ⟨x, y, e1, e2⟩ := h2 i hi
    have hc := h3.cells (g := g) rfl i _ e1
    rw [addr_addC] at hc
    exact ⟨g, 0, x, y, rfl, hc, e2⟩
theorem Ev.lt {base : Nat} {w : World} {v : Value} {k : Nat} {f : Nat → CV} (h : Ev base w v k f) (b : Nat) (hb : v.ownBlock = some b) : base ≤ b ∧ b < w.heap.size := by
  obtain ⟨xs, h1, -⟩ := h
  exact h1.lt b hb
theorem Ev.form {base : Nat} {w : World} {v : Value} {k : Nat} {f : Nat → CV} (h : Ev base w v k f) : ∃ a c, v = .slice a k c := by
  obtain ⟨xs, h1, -⟩ := h
  rcases h1.2 with ⟨rfl, h0⟩ | ⟨g, cap, cur, rfl, -⟩
  · exact ⟨none, 0, by rw [h0]⟩
  · exact ⟨_, _, rfl⟩

/-- one number more -/
theorem push_at (base : Nat) (W : World) (v : Value) (k : Nat) (f : Nat → CV) (h : Ev base W v k f) (g0 x y : Nat) (hcell : W.cell? ⟨g0, 0, none⟩ = some (.complex .f64 x y)) (hf : cx x y = f k) (hk : k < 1000000) (hb : base ≤ W.heap.size) :
    ∃ v' w', (Builtin.append_ #[35, 35] 35 #[v, .slice (some ⟨g0, 0, none⟩) 1 1]).run Tryd.prog W = .ok v' w' ∧ Ev base w' v' (k + 1) f ∧ W.grownBy w' v.ownBlock ∧ (v'.ownBlock = v.ownBlock ∨ ∃ b, v'.ownBlock = some b ∧ W.heap.size ≤ b) := by
  obtain ⟨i, hi, hz, hs, hbt⟩ := info_c128
  obtain ⟨xs, ho, hx⟩ := h
  have hnews : ∀ (j : Nat) (u : Value), [Value.complex .f64 x y][j]? = some u → W.cell? ((⟨g0, 0, none⟩ : Addr).add j) = some u := fun j u hj => by
    rcases j with _ | j
    · simp at hj; subst hj; rw [addr_addC]; exact hcell
    · simp at hj
  obtain ⟨v', w', hr, ho', hg, -⟩ := run_append_own (P := Tryd.prog) W base 35 35 36 i _ 1 16 Tryd.underlying35 hi hz hs hbt rfl (by decide) v k xs ho ⟨g0, 0, none⟩ 1 1 [.complex .f64 x y] rfl hnews (fun u hu => by
      simp only [List.mem_singleton] at hu
      subst hu; rfl) (by unfold maxLen; omega) (by omega) hb
  have hlen : xs.length = k := by have := ho.1; omega
  refine ⟨v', w', hr, ⟨xs ++ [.complex .f64 x y], ho', fun j hj => ?_⟩, hg, ?_⟩
  · by_cases e : j < k
    · obtain ⟨a, b, e1, e2⟩ := hx j e
      exact ⟨a, b, by rw [List.getElem?_append_left (by omega)]; exact e1, e2⟩
    · obtain rfl : j = k := by omega
      refine ⟨x, y, ?_, hf⟩
      rw [List.getElem?_append_right (by omega), hlen, Nat.sub_self]
      rfl
  · rcases ho.2 with ⟨rfl, rfl⟩ | ⟨g, cap, cur, rfl, hbg, hgg, hnc, hcm, hcs, htake⟩
    · have hr2 := run_append_nil (P := Tryd.prog) W 35 35 36 i _ Tryd.underlying35 hi hz ⟨g0, 0, none⟩ 1 1 [.complex .f64 x y] (by rw [hs]; rfl) hnews (by omega) (by omega) (by omega)
      rw [hr2] at hr
      obtain ⟨rfl, -⟩ := Result.ok.inj hr
      exact .inr ⟨W.heap.size, rfl, Nat.le_refl _⟩
    · by_cases hroom : k + 1 ≤ cap
      · have hr2 := run_append_room (P := Tryd.prog) W 35 35 36 i Tryd.underlying35 hi g k cap cur hgg ⟨g0, 0, none⟩ 1 1 [.complex .f64 x y] (by rw [hs]; rfl) hnews (fun u hu => by
          simp only [List.mem_singleton] at hu
          subst hu; rfl) hroom (by rw [hs, hcs]; simp; omega)
        rw [hr2] at hr
        obtain ⟨rfl, -⟩ := Result.ok.inj hr
        exact .inl rfl
      · have hr2 := run_append_grow (P := Tryd.prog) W 35 35 36 i _ Tryd.underlying35 hi hz ⟨g, 0, none⟩ k cap xs (by rw [hs]; exact ho.1) (ho.cells (g := g) rfl) ⟨g0, 0, none⟩ 1 1 [.complex .f64 x y] (by rw [hs]; rfl) hnews (by omega) (by omega) (growslice_fits (by omega) (by rw [hbt]; omega))
        rw [hr2] at hr
        obtain ⟨rfl, -⟩ := Result.ok.inj hr
        exact .inr ⟨W.heap.size, rfl, Nat.le_refl _⟩
theorem push_any (base : Nat) (w : World) (v : Value) (k : Nat) (f : Nat → CV) (h : Ev base w v k f) (x y : Nat) (hf : cx x y = f k) (hk : k < 1000000) (hb : base ≤ w.heap.size) :
    ∃ v' w', (Builtin.append_ #[35, 35] 35 #[v, .slice (some ⟨w.heap.size, 0, none⟩) 1 1]).run Tryd.prog (w.alloc (.cells #[.complex .f64 x y] 36)) = .ok v' w' ∧ Ev base w' v' (k + 1) f ∧ w.grownBy w' v.ownBlock ∧ (v'.ownBlock = v.ownBlock ∨ ∃ b, v'.ownBlock = some b ∧ w.heap.size ≤ b) := by
  have hal : But [] w (w.alloc (.cells #[.complex .f64 x y] 36)) := (But.refl _ _).alloc _
  obtain ⟨v', w', hr, ho, hg, hn⟩ := push_at base _ v k f (h.but hal) w.heap.size x y (by rw [World.cell?_alloc_new]; rfl) hf hk (Nat.le_trans hb hal.size)
  refine ⟨v', w', hr, ho, ⟨hg.os.trans hal.os, hg.tape.trans hal.tape, hg.output.trans hal.output, Nat.le_trans hal.size hg.size, fun b hb1 hb2 => (hg.block b (Nat.lt_of_lt_of_le hb1 hal.size) hb2).trans (hal.block b hb1 (by simp))⟩, ?_⟩
  rcases hn with h1 | ⟨b, h1, h2⟩
  · exact .inl h1
  · exact .inr ⟨b, h1, Nat.le_trans hal.size h2⟩

/-- two rows of one's own in two blocks -/
def Two2 (v u : Value) : Prop := ∀ b, v.ownBlock = some b → u.ownBlock ≠ some b
theorem Two2.keep {v u : Value} (h : Two2 v u) : u.ownBlock = none ∨ u.ownBlock ≠ v.ownBlock := by
  cases e : v.ownBlock with
  | none =>
    by_cases h0 : u.ownBlock = none
    · exact .inl h0
    · exact .inr h0
  | some b => exact .inr (h b e)
theorem Two2.symm {v u : Value} (h : Two2 v u) : Two2 u v := fun b hb hv => h b hv hb
theorem Two2.push {base : Nat} {w : World} {v v' u : Value} {k : Nat} {f : Nat → CV} (h : Two2 v u) (hu : Ev base w u k f) (hn : v'.ownBlock = v.ownBlock ∨ ∃ b, v'.ownBlock = some b ∧ w.heap.size ≤ b) : Two2 v' u := fun b hb e => by
  rcases hn with h1 | ⟨b', h1, h2⟩
  · rw [h1] at hb
    exact h b hb e
  · rw [h1] at hb
    obtain rfl := Option.some.inj hb
    have := (hu.lt _ e).2
    omega
theorem But.grown_own {w0 w w' : World} {base : Nat} {v : Value} {k : Nat} {f : Nat → CV} (h : But [] w0 w) (ho : Ev base w v k f) (hb : w0.heap.size ≤ base) (hg : w.grownBy w' v.ownBlock) : But [] w0 w' :=
  ⟨hg.os.trans h.os, hg.tape.trans h.tape, hg.output.trans h.output, Nat.le_trans h.size hg.size, fun k hk _ => by
    rw [hg.block k (Nat.lt_of_lt_of_le hk h.size) (fun e => by have := (ho.lt k e.symm).1; omega)]
    exact h.block k hk (by simp)⟩

set_option maxHeartbeats 4000000 in
set_option maxRecDepth 100000 in
theorem parted_any (v : Value) (m : Nat) (f : Nat → CV) (w : World) (hv : CAt w v (2 * m) f) (hm : m ≤ 128) : Calls Tryd.prog 22 #[v] w fun r w' => ∃ v1 v2, r = .returned (.tuple #[v1, v2]) ∧ CAt w' v1 m (fun i => f (2 * i)) ∧ CAt w' v2 m (fun i => f (2 * i + 1)) ∧ But [] w w' := by
  obtain ⟨a, cap, rfl, hcap, hc⟩ := hv
  have HC := hide hc
  clear hc
  obtain ⟨n, hn⟩ : ∃ n, n = 2 * m := ⟨_, rfl⟩
  rw [← hn] at HC hcap ⊢
  have hn1 : n ≤ 2 * m := by omega
  have hn2 : 2 * m ≤ n := by omega
  clear hn
  go_enter Tryd.func22, Tryd.ntmps22
  go_wp2
  go_loopw [2, 3, 4] (fun e o i wq => ∃ k : Nat, k ≤ m ∧ i = .int .i64 ((2 * k : Nat) : Int) ∧ Hid (Ev w.heap.size wq e k (fun i => f (2 * i)) ∧ Ev w.heap.size wq o k (fun i => f (2 * i + 1)) ∧ Two2 e o ∧ But [] w wq)) (fun _ _ i _ => n - (intOf i).toNat)
  case atStart => exact ⟨0, Nat.zero_le _, rfl, Ev.nil _ _ _, Ev.nil _ _ _, fun b hb => by simp [Value.ownBlock] at hb, But.refl _ _⟩
  case round =>
    obtain ⟨k, hk, rfl, HI⟩ := hrel
    rename World => wq
    by_cases hlt : k < m
    · obtain ⟨b, off, x, y, rfl, c0, e0⟩ := unhide HC (2 * k) (by omega)
      obtain ⟨b', off', x1, y1, eq1, c1, e1⟩ := unhide HC (2 * k + 1) (by omega)
      simp only [Option.some.injEq, Addr.mk.injEq, and_true] at eq1
      obtain ⟨rfl, rfl⟩ := eq1
      obtain ⟨hE, hO, hT, hB⟩ := unhide HI
      have c0' := hB.cell_some c0 (by simp)
      have c1' := hB.cell_some c1 (by simp)
      obtain ⟨vE, w1, r1, hE1, g1, n1⟩ := push_any w.heap.size wq u2 k _ hE x y e0 (by omega) hB.size
      have hO1 := hO.kept g1 hT.keep
      have hT1 := hT.push hO n1
      have hB1 := hB.grown_own hE (Nat.le_refl _) g1
      have c1'' := hB1.cell_some c1 (by simp)
      obtain ⟨vO, w2, r2, hO2, g2, n2⟩ := push_any w.heap.size w1 u3 k _ hO1 x1 y1 e1 (by omega) hB1.size
      have hE2 := hE1.kept g2 hT1.symm.keep
      have hT2 := (hT1.symm.push hE1 n2).symm
      have hB2 := hB1.grown_own hO1 (Nat.le_refl _) g2
      have HF := hide (And.intro hE2 (And.intro hO2 (And.intro hT2 hB2)))
      have R1 := hide r1
      have R2 := hide r2
      clear r1 r2 hE2 hO2 hT2 hB2 n2 g2 hO1 hT1 hB1 n1 g1 hE1 c0 c1 e0 e1 hE hO hT hB
      obtain ⟨p, hp⟩ : ∃ p, p = 2 * k := ⟨_, rfl⟩
      rw [← hp] at c0' c1' c1'' ⊢
      have hpn : p + 1 < n := by omega
      have ht1 : ((p : Int) + 1).toNat = p + 1 := by omega
      have HP := hide hp
      clear hp
      go_wp2_with (first | (at_builtin; refine wpList_appC rfl _ _ 35 35 rfl _ _ vE w1 rfl rfl (unhide R1) ?_) | (at_builtin; refine wpList_appC rfl _ _ 35 35 rfl _ _ vO w2 rfl rfl (unhide R2) ?_))
      refine ⟨⟨k + 1, by omega, by have := unhide HP; go_num, unhide HF⟩, by simp [intOf]; omega⟩
    · obtain rfl : k = m := by omega
      obtain ⟨a1, d1, rfl⟩ := (unhide HI).1.form
      obtain ⟨a2, d2, rfl⟩ := (unhide HI).2.1.form
      have hnn : ¬ ((2 * k : Nat) : Int) < (n : Int) := by omega
      go_wp2
      refine bodyPost_ret (v := .tuple #[.slice a1 k d1, .slice a2 k d2]) (by simp [results, Tryd.results22, go_sem]) rfl ?_
      exact ⟨_, _, rfl, (unhide HI).1.at, (unhide HI).2.1.at, (unhide HI).2.2.2⟩
end Go.Proofs.YtinhoigcajddpaaDoor
