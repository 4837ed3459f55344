/- Places are sorted by what was cut off of their shares, as the Go text of package frac does it. -/
import Derived.Shelf.SlSortCmp.QuietGrown
import Derived.Test.YtlkpkgajfakdpaaGreatKF9
import Derived.Test.YtlkpkgajfakdpaaGreatKV1
import Derived.Test.YtlkpkgajfakdpaaGreatKY5
namespace Go.Proofs.YtlkpkgajfakdpaaGreat
open Go.RowKit Go.Sort

theorem sorted_but {α : Type} [Inhabited α] (enc : α → Value) (w : World) (g m : Nat) (dk : Array α) (os : Array Obj) : But [g] w (sortWorld enc w g 0 m dk os) where
  os := rfl
  tape := rfl
  output := rfl
  size := by
    show w.heap.size ≤ ((putRow enc (Sort.ahead w m) g 0 dk).heap ++ os).size
    rw [Array.size_append, Sort.size_putRow]
    exact Nat.le_add_right _ _
  block := fun k hk hn => by
    show ((putRow enc (Sort.ahead w m) g 0 dk).heap ++ os)[k]? = _
    rw [Array.getElem?_append_left (by rw [Sort.size_putRow]; exact hk)]
    unfold putRow mapBlock
    have hne : g ≠ k := fun e => hn (by simp [e])
    simp [Sort.ahead, Array.getElem?_modify, hne]
  drawn := Nat.le_add_right _ _
theorem grow_of_but {W w' : World} (h : But [] W w') : ∃ q os', w' = grow (W.drewN q) os' := by
  refine ⟨w'.drawn - W.drawn, w'.heap.extract W.heap.size w'.heap.size, ?_⟩
  have h1 := h.os
  have h2 := h.tape
  have h3 := h.output
  have h4 := h.drawn
  have h5 : w'.heap = W.heap ++ w'.heap.extract W.heap.size w'.heap.size := by
    refine Array.ext (by have := h.size; simp; omega) (fun i hi1 hi2 => ?_)
    by_cases hi : i < W.heap.size
    · have := h.block i hi (by simp)
      rw [Array.getElem?_eq_getElem hi1, Array.getElem?_eq_getElem hi] at this
      rw [Array.getElem_append_left hi]
      exact Option.some.inj this
    · rw [Array.getElem_append_right (by omega), Array.getElem_extract]
      congr 1
      omega
  cases w' with
  | mk hp tp dr os ou =>
    cases W with
    | mk hp2 tp2 dr2 os2 ou2 =>
      simp only at h1 h2 h3 h4 h5
      subst h1 h2 h3
      unfold grow World.drewN
      simp only [World.mk.injEq, and_true, true_and]
      exact ⟨h5, by omega⟩

theorem extract_all {α : Type} (a : Array α) (m : Nat) (h : a.size = m) : a.extract 0 m = a := by subst h; exact Array.extract_size
theorem FracAt.overI {w W : World} {v : Value} {f : Rat} (h : FracAt w v f) {g : Nat} {z : Int} (c0 : w.cell? ⟨g, 0, none⟩ = some (.int .i64 z)) (hb : But [g] w W) : FracAt W v f := by
  rcases h with h1 | ⟨h1, b, v1, v2, h2, h3, h4, h5, h6⟩
  · exact .inl h1
  · have hbg : b ≠ g := by
      rintro rfl
      obtain ⟨a, cap, rfl, -⟩ := h5
      rw [c0] at h3
      simp at h3
    exact .inr ⟨h1, b, v1, v2, h2, hb.cell_some h3 (by simpa using hbg), hb.cell_some h4 (by simpa using hbg), h5.over hb c0 (by simp), h6.over hb c0 (by simp)⟩
theorem FracsAt.overI {w W : World} {b off n c : Nat} {fs : List Rat} (h : FracsAt w (.slice (some ⟨b, off, none⟩) n c) fs) {g : Nat} {z : Int} (c0 : w.cell? ⟨g, 0, none⟩ = some (.int .i64 z)) (hb : But [g] w W) (hne : b ≠ g) : FracsAt W (.slice (some ⟨b, off, none⟩) n c) fs := by
  obtain ⟨a, cap, e, hc, h⟩ := h
  refine ⟨a, cap, e, hc, fun i f hf => ?_⟩
  obtain ⟨b', off', e1, s, x, y, p, h1, h2⟩ := h i f hf
  simp only [Value.slice.injEq] at e
  obtain ⟨rfl, -, -⟩ := e
  simp only [Option.some.injEq, Addr.mk.injEq] at e1
  obtain ⟨rfl, rfl, -⟩ := e1
  exact ⟨_, _, rfl, s, x, y, p, h1.but hb (by simpa using hne), h2.overI c0 hb⟩

/-- what was cut off -/
def cutR (wf : Nat → Rat) (F : Nat → Nat) (e : Rat) (i : Nat) : Rat := wf i * e - ((F i : Int) : Rat)
theorem cf_ahead (wf : Nat → Rat) (F : Nat → Nat) (e one : Rat) (he : 0 < e) (ho : one * e = 1) (i k : Nat) : cfN wf F one i k < 0 ↔ Ahead (cutR wf F e) i k := by
  unfold cfN Ahead
  have e1 : sg (wf k - wf i - one * (((F k : Int) - (F i : Int) : Int) : Rat)) = sg (cutR wf F e k - cutR wf F e i) := by
    rw [← sg_mul_pos (x := wf k - wf i - one * (((F k : Int) - (F i : Int) : Int) : Rat)) he]
    congr 1
    unfold cutR
    rw [Rat.intCast_sub]
    grind
  rw [e1]
  generalize cutR wf F e k = a
  generalize cutR wf F e i = b
  rcases rat_cases (a - b) with h | h | h
  · rw [sg_neg h, if_neg (by omega)]
    exact ⟨fun _ => .inl (by grind), fun _ => by omega⟩
  · rw [h, sg_zero, if_pos rfl]
    have hab : a = b := by grind
    subst hab
    exact ⟨fun h2 => .inr ⟨rfl, by omega⟩, fun h2 => by
      rcases h2 with h2 | h2
      · exact absurd h2 Rat.lt_irrefl
      · omega⟩
  · rw [sg_pos h, if_neg (by omega)]
    exact ⟨fun h2 => by omega, fun h2 => by
      rcases h2 with h2 | h2
      · exfalso; grind
      · exfalso; grind⟩
theorem ahead_swo (r : Nat → Rat) (x y z : Nat) : ¬ Ahead r x x ∧ (Ahead r x y → Ahead r y z → Ahead r x z) ∧ (¬ Ahead r x y → ¬ Ahead r y z → ¬ Ahead r x z) := by
  unfold Ahead
  generalize r x = a
  generalize r y = b
  generalize r z = c
  refine ⟨?_, ?_, ?_⟩
  · rintro (h | h)
    · exact Rat.lt_irrefl h
    · omega
  · grind
  · grind

set_option maxHeartbeats 4000000 in
theorem sort_places (w : World) (gp b off n c b2 off2 c2 g2 g3 g4 : Nat) (ws : List Rat) (F : Nat → Nat) (e one : Rat) (he : 0 < e) (hoe : one * e = 1) (h0 : 0 < n) {so : Bool} {xo yo : Int} {po : Option Addr}
    (cw : w.cell? ⟨g2, 0, none⟩ = some (.slice (some ⟨b, off, none⟩) n c)) (cs : w.cell? ⟨g3, 0, none⟩ = some (.slice (some ⟨b2, off2, none⟩) n c2)) (co : P4 w g4 so xo yo po) (ho : FracAt w (.agg #[.bool so, .int .u64 xo, .int .u64 yo, .pointer po]) one)
    (hws : FracsAt w (.slice (some ⟨b, off, none⟩) n c) ws) (hn : n = ws.length) (hn2 : n ≤ 100) (hl : ∀ f ∈ ws, Len f 1) (hF : IntsAt w b2 off2 n F) (hFl : ∀ i, i < n → F i < 4611686018427387904) (lo : Len one 150)
    (n1 : b ≠ gp) (n2 : b2 ≠ gp) (n3 : g2 ≠ gp) (n4 : g3 ≠ gp) (n5 : g4 ≠ gp) (hp : IntsAt w gp 0 n (fun i => i)) (hz : ∀ j, w.frozen? ⟨gp, j, none⟩ = false) :
    Calls Tryz.prog 35 #[.slice (some ⟨gp, 0, none⟩) n n, .func (.func 36) #[] #[.pointer (some ⟨g2, 0, none⟩), .pointer (some ⟨g3, 0, none⟩), .pointer (some ⟨g4, 0, none⟩)]] w fun e' w' => e' = .returned (.tuple #[]) ∧ ∃ js : List Nat, Rowed (cutR (fun j => ws[j]?.getD 0) F e) n js ∧ IntsAt w' gp 0 n (fun i => js[i]?.getD 0) ∧ But [gp] w w' := by
  have inh : Inhabited (Fin n) := ⟨⟨0, h0⟩⟩
  obtain ⟨enc, henc⟩ : ∃ enc : Fin n → Value, enc = fun x => .int .i64 ((x.val : Nat) : Int) := ⟨_, rfl⟩
  obtain ⟨cf, hcf⟩ : ∃ cf : Fin n → Fin n → Int, cf = fun x y => cfN (fun j => ws[j]?.getD 0) F one x.val y.val := ⟨_, rfl⟩
  obtain ⟨d, hd⟩ : ∃ d : Array (Fin n), d = Array.ofFn (fun i : Fin n => i) := ⟨_, rfl⟩
  have hds : d.size = n := by rw [hd, Array.size_ofFn]
  have hc0 : w.cell? ⟨gp, 0, none⟩ = some (.int .i64 ((0 : Nat) : Int)) := hp 0 h0
  have hlt : ∀ x y, ltOf cf x y = true ↔ Ahead (cutR (fun j => ws[j]?.getD 0) F e) x.val y.val := fun x y => by
    unfold ltOf
    rw [hcf, decide_eq_true_iff]
    exact cf_ahead _ F e one he hoe x.val y.val
  have hlf : ∀ x y, ltOf cf x y = false ↔ ¬ Ahead (cutR (fun j => ws[j]?.getD 0) F e) x.val y.val := fun x y => by
    rw [← hlt, Bool.not_eq_true]
  have hO : SWO (ltOf cf) := ⟨fun x => (hlf x x).2 (ahead_swo _ x.val x.val x.val).1, fun x y z h1 h2 => (hlt x z).2 ((ahead_swo _ x.val y.val z.val).2.1 ((hlt x y).1 h1) ((hlt y z).1 h2)), fun x y z h1 h2 => (hlf x z).2 ((ahead_swo _ x.val y.val z.val).2.2 ((hlf x y).1 h1) ((hlf y z).1 h2))⟩
  have hcmp : CmpLays1 Tryz.prog 36 #[.pointer (some ⟨g2, 0, none⟩), .pointer (some ⟨g3, 0, none⟩), .pointer (some ⟨g4, 0, none⟩)] enc cf gp 0 d.size w := fun m os dk _ x y => by
    have hB := sorted_but enc w gp m dk os
    have h := closure_any (sortWorld enc w gp 0 m dk os) b off n c b2 off2 c2 g2 g3 g4 ws F one (hB.cell_some cw (by simpa using n3)) (hB.cell_some cs (by simpa using n4)) (co.but hB (by simpa using n5)) (ho.overI hc0 hB) (hws.overI hc0 hB n1) hn hn2 hl (hF.but hB (by simpa using n2)) hFl lo x.val y.val x.2 y.2 (cf x y) (by show _ = _; rw [hcf])
    rw [henc] at h ⊢
    exact h.mono fun e' w' ⟨h1, h2⟩ => ⟨h1, grow_of_but h2⟩
  have hH : Holds enc w gp 0 d := fun j hj => by
    rw [hds] at hj
    refine ⟨?_, hz _⟩
    rw [hp j hj, henc]
    have : d[j]! = ⟨j, hj⟩ := by
      rw [getElem!_pos d j (by rw [hds]; exact hj)]
      subst hd
      rw [Array.getElem_ofFn]
    rw [this]
  have eg : ∀ args w, (callFunc 36 args).run Tryz.prog w = .ok (.enter 36 args) w := enters_of Tryz.func36 (by kernel_rfl) rfl
  have h := Any.slices_SortFunc Tryz.slLaysF6 enc (fun x => by rw [henc]; rfl) cf hO 36 _ gp 0 n d w eg hcmp hH (lt_of_cell hc0) (by omega)
  change Calls Tryz.prog 35 _ _ _ at h
  rw [hds] at h
  refine h.mono fun e' w' ⟨h1, d', m, os, h2, h3, h4⟩ => ⟨h1, d'.toList.map (·.val), ?_, ?_, ?_⟩
  · have hs' : d'.size = n := by rw [h2.1, hds]
    refine ⟨?_, fun p q hpq hq => ?_⟩
    · have hp2 := h2.2.2
      rw [extract_all d' n hs', extract_all d n hds] at hp2
      have hr : d.toList.map (·.val) = List.range n := by
        rw [hd]
        refine List.ext_getElem (by simp) (fun i hi1 hi2 => ?_)
        simp
      rw [← hr]
      exact hp2.map _
    · rw [List.length_map, Array.length_toList, hs'] at hq
      have := h3 p q (Nat.zero_le _) hpq hq
      rw [getElem!_pos d' q (by omega), getElem!_pos d' p (by omega), hlf] at this
      simpa using this
  · intro i hi
    have hs' : d'.size = n := by rw [h2.1, hds]
    rw [h4]
    have hc := cell?_putRow enc (Sort.ahead w m) gp 0 d d' (fun j hj => hH j hj) (by rw [hs', hds]) i (by omega)
    rw [getElem!_pos d' i (by omega)] at hc
    have hb : gp < (putRow enc (Sort.ahead w m) gp 0 d').heap.size := by rw [Sort.size_putRow]; exact lt_of_cell hc0
    have hg := cell_grown hb hc 0 os
    have ee : enc (d'[i]'(by omega)) = .int .i64 (((d'[i]'(by omega)).val : Nat) : Int) := by rw [henc]
    rw [ee] at hg
    have e2 : (d'.toList.map (·.val))[i]?.getD 0 = (d'[i]'(by omega)).val := by
      rw [List.getElem?_map, List.getElem?_eq_getElem (by simp; omega)]
      simp
    show _ = some (Value.int .i64 (((d'.toList.map (·.val))[i]?.getD 0 : Nat) : Int))
    rw [e2]
    exact hg
  · rw [h4]
    exact sorted_but enc w gp m d' os
end Go.Proofs.YtlkpkgajfakdpaaGreat

namespace Go.Proofs.YtlkpkgajfakdpaaGreat
open Go.RowKit Go.Sort

theorem run_makeI (wx : World) (n : Nat) (h : n < 1000000) : (Instr.makeSlice 25 (.int .i64 (n : Int)) (.int .i64 (n : Int))).run Tryz.prog wx = .ok (.slice (some ⟨wx.heap.size, 0, none⟩) n n) (wx.alloc (.cells (madeCells #[.int .i64 0] n) 3)) := by
  have hinfo : ∃ i, Tryz.prog.info? 3 = some i ∧ i.zero = some (.int .i64 0) ∧ i.size = 1 ∧ i.bytes = 8 := by
    have h : (Tryz.prog.info? 3).map (fun i => (i.zero, i.size, i.bytes)) = some (some (.int .i64 0), 1, 8) := by kernel_rfl
    cases e : Tryz.prog.info? 3 with
    | none => rw [e] at h; simp at h
    | some i =>
      rw [e] at h
      simp only [Option.map_some, Option.some.injEq, Prod.mk.injEq] at h
      exact ⟨i, rfl, h.1, h.2.1, h.2.2⟩
  obtain ⟨ti, hi, hz, hs, hbt⟩ := hinfo
  have hmk := run_make (P := Tryz.prog) wx 25 3 ti _ Tryz.underlying25 hi hz .i64 .i64 (n : Int) (n : Int) (by omega) (by omega) (by rw [hbt]; omega) (by omega)
  rw [hs, Int.toNat_natCast, Nat.mul_one] at hmk
  exact hmk
theorem made_ints (w : World) (n : Nat) (t : TypeId) : IntsAt (w.alloc (.cells (madeCells #[.int .i64 0] n) t)) w.heap.size 0 n (fun _ => 0) := fun i hi => by
  rw [Nat.zero_add, World.cell?_alloc_new]
  simp [madeCells, hi, Nat.mod_one]
/-- a number is written -/
theorem IntsAt.set {w : World} {b off n k : Nat} {F : Nat → Nat} (h : IntsAt w b off n F) (hk : k < n) (z : Nat) : IntsAt (w.setCell ⟨b, off + k, none⟩ (.int .i64 (z : Int))) b off n (fun i => if i = k then z else F i) := fun i hi => by
  show _ = some (Value.int .i64 ((if i = k then z else F i : Nat) : Int))
  by_cases e : i = k
  · subst e
    rw [if_pos rfl]
    exact World.cell?_setCell_same' _ _ _ (by rw [h i hi]; rfl)
  · rw [if_neg e]
    exact (World.cell?_setCell_other (w := w) (a := ⟨b, off + k, none⟩) (b := ⟨b, off + i, none⟩) _ (fun h' => e (by simp only [Addr.mk.injEq, true_and, and_true] at h'; omega))).trans (h i hi)
theorem IntsAt.congr {w : World} {b off n : Nat} {F G : Nat → Nat} (h : IntsAt w b off n F) (hg : ∀ i, i < n → F i = G i) : IntsAt w b off n G := fun i hi => by rw [← hg i hi]; exact h i hi

/-- while places are numbered -/
structure PlaceI (w wr : World) (gw gs ge gp n k : Nat) (vw vs : Value) (s : Bool) (x y : Int) (p : Option Addr) : Prop where
  but : But [] w wr
  row : IntsAt wr gp 0 n (fun i => if i < k then i else 0)
  loose : ∀ j, wr.frozen? ⟨gp, j, none⟩ = false
  box : wr.cell? ⟨gw, 0, none⟩ = some vw
  box2 : wr.cell? ⟨gs, 0, none⟩ = some vs
  each : P4 wr ge s x y p
theorem PlaceI.next {w wr : World} {gw gs ge gp n k : Nat} {vw vs : Value} {s : Bool} {x y : Int} {p : Option Addr} (h : PlaceI w wr gw gs ge gp n k vw vs s x y p) (hk : k < n) (o : w.heap.size ≤ gp) (n1 : gw ≠ gp) (n2 : gs ≠ gp) (n3 : ge ≠ gp) : PlaceI w (wr.setCell ⟨gp, k, none⟩ (.int .i64 (k : Int))) gw gs ge gp n (k + 1) vw vs s x y p := by
  have hb : But [gp] wr (wr.setCell ⟨gp, k, none⟩ (.int .i64 (k : Int))) := (But.refl [gp] wr).setCell (.inl (by simp)) _
  have hr := h.row.set hk k
  rw [Nat.zero_add] at hr
  exact ⟨h.but.setCell (.inr o) _, hr.congr (fun i hi => by
    by_cases e : i = k
    · rw [if_pos e, if_pos (by omega), e]
    · rw [if_neg e]
      by_cases e2 : i < k
      · rw [if_pos e2, if_pos (by omega)]
      · rw [if_neg e2, if_neg (by omega)]), fun j => by rw [World.frozen?_setCell]; exact h.loose j, hb.cell_some h.box (by simpa using n1), hb.cell_some h.box2 (by simpa using n2), h.each.but hb (by simpa using n3)⟩
set_option maxHeartbeats 4000000 in
set_option maxRecDepth 100000 in
theorem mostCut_any (w : World) (b off n c b2 off2 c2 : Nat) (ws : List Rat) (F : Nat → Nat) (e : Rat) (he : 0 < e) (h0 : 0 < n) (v : Value) (hv : FracAt w v e) (le : Len e 150)
    (hws : FracsAt w (.slice (some ⟨b, off, none⟩) n c) ws) (hn : n = ws.length) (hn2 : n ≤ 100) (hl : ∀ f ∈ ws, Len f 1) (hF : IntsAt w b2 off2 n F) (hFl : ∀ i, i < n → F i < 4611686018427387904) :
    Calls Tryz.prog 17 #[.slice (some ⟨b, off, none⟩) n c, .slice (some ⟨b2, off2, none⟩) n c2, v] w fun e' w' => ∃ (gp : Nat) (js : List Nat), e' = .returned (.slice (some ⟨gp, 0, none⟩) n n) ∧ w.heap.size ≤ gp ∧ Rowed (cutR (fun j => ws[j]?.getD 0) F e) n js ∧ IntsAt w' gp 0 n (fun i => js[i]?.getD 0) ∧ But [] w w' := by
  have hne : e.num ≠ 0 := fun h => by
    rw [Rat.num_eq_zero.1 h] at he
    exact Rat.lt_irrefl he
  have he0 : e ≠ 0 := fun h => by rw [h] at he; exact Rat.lt_irrefl he
  have hb : b < w.heap.size := by
    obtain ⟨_, _, _, _, h1, _⟩ := hws.get 0 h0
    exact h1.lt
  have hb2 : b2 < w.heap.size := lt_of_cell (hF 0 h0)
  have HV := hide hv
  obtain ⟨x, y, p, rfl, -⟩ := hv.agg
  clear hv
  generalize decide (e.num < 0) = s at *
  obtain ⟨W1, hW1⟩ : ∃ W1, W1 = w.alloc (.cells #[.slice (some ⟨b, off, none⟩) n c] 23) := ⟨_, rfl⟩
  obtain ⟨W2, hW2⟩ : ∃ W2, W2 = W1.alloc (.cells #[.slice (some ⟨b2, off2, none⟩) n c2] 25) := ⟨_, rfl⟩
  obtain ⟨W3, hW3⟩ : ∃ W3, W3 = W2.alloc (.cells #[.bool s, .int .u64 x, .int .u64 y, .pointer p] 33) := ⟨_, rfl⟩
  obtain ⟨W4, hW4⟩ : ∃ W4, W4 = W3.alloc (.cells (madeCells #[.int .i64 0] n) 3) := ⟨_, rfl⟩
  have z1 : W1.heap.size = w.heap.size + 1 := by rw [hW1]; simp
  have z2 : W2.heap.size = w.heap.size + 2 := by rw [hW2]; simp [z1]
  have z3 : W3.heap.size = w.heap.size + 3 := by rw [hW3]; simp [z2]
  have b1 : But [] w W1 := by rw [hW1]; exact (But.refl _ _).alloc _
  have b2' : But [] W1 W2 := by rw [hW2]; exact (But.refl _ _).alloc _
  have b3 : But [] W2 W3 := by rw [hW3]; exact (But.refl _ _).alloc _
  have b4 : But [] W3 W4 := by rw [hW4]; exact (But.refl _ _).alloc _
  have HI0 : Hid (PlaceI w W4 w.heap.size (w.heap.size + 1) (w.heap.size + 2) (w.heap.size + 3) n 0 (.slice (some ⟨b, off, none⟩) n c) (.slice (some ⟨b2, off2, none⟩) n c2) s x y p) := {
    but := ((b1.trans' b2').trans' b3).trans' b4
    row := by
      rw [← z3, hW4]
      exact (made_ints W3 n _).congr (fun i _ => by simp)
    loose := fun j => by rw [← z3, hW4]; simp
    box := ((b2'.trans' b3).trans' b4).cell_some (by rw [hW1]; simp) (by simp)
    box2 := (b3.trans' b4).cell_some (by rw [← z1, hW2]; simp) (by simp)
    each := P4.but (w := W3) (by rw [← z2, hW3]; exact ⟨by simp, by simp, by simp, by simp⟩) b4 (by simp) }
  have hW : W4 = (((w.alloc (.cells #[.slice (some ⟨b, off, none⟩) n c] 23)).alloc (.cells #[.slice (some ⟨b2, off2, none⟩) n c2] 25)).alloc (.cells #[.bool s, .int .u64 x, .int .u64 y, .pointer p] 33)).alloc (.cells (madeCells #[.int .i64 0] n) 3) := by rw [hW4, hW3, hW2, hW1]
  have HW := hide hW
  have hmk := fun wx => run_makeI wx n (by omega)
  have TU := hide (fun W' (h : But [] w W') => in_parts (fracTurned_any _ e W' ((unhide HV).but h) hne))
  have li : Len e⁻¹ 150 := len_inv le hne
  have HN := hide hn
  have HWS := hide hws
  have HL := hide hl
  have HF := hide hF
  have HFL := hide hFl
  have HE := hide he
  have HE0 := hide he0
  have LI := hide li
  clear hW1 hW2 hW3 hW4 z1 z2 z3 b1 b2' b3 b4 hW hn hws hl hF hFl he he0 li le hne HV
  go_enter Tryz.func17, Tryz.ntmps17
  go_wp2
  rw [← unhide HW]
  obtain ⟨gw, hgw⟩ : ∃ gw, gw = w.heap.size := ⟨_, rfl⟩
  obtain ⟨gs, hgs⟩ : ∃ gs, gs = w.heap.size + 1 := ⟨_, rfl⟩
  obtain ⟨ge, hge⟩ : ∃ ge, ge = w.heap.size + 2 := ⟨_, rfl⟩
  obtain ⟨gp, hgp⟩ : ∃ gp, gp = w.heap.size + 3 := ⟨_, rfl⟩
  rw [show w.heap.size + 1 + 1 + 1 = w.heap.size + 3 from rfl, show w.heap.size + 1 + 1 = w.heap.size + 2 from rfl, ← hgp, ← hge, ← hgs, ← hgw]
  rw [← hgp, ← hge, ← hgs, ← hgw] at HI0
  have ob : b < gw := by omega
  have ob2 : b2 < gw := by omega
  have o1 : gw < gs := by omega
  have o2 : gs < ge := by omega
  have o3 : ge < gp := by omega
  have OW : Hid (gw = w.heap.size) := hgw
  clear hgw hgs hge hgp HW hmk hb hb2
  go_loopw [15] (fun i wr => ∃ k : Nat, k ≤ n ∧ i = .int .i64 (k : Int) ∧ Hid (PlaceI w wr gw gs ge gp n k (.slice (some ⟨b, off, none⟩) n c) (.slice (some ⟨b2, off2, none⟩) n c2) s x y p)) (fun i _ => n - (intOf i).toNat)
  case atStart => exact ⟨0, Nat.zero_le _, rfl, unhide HI0⟩
  case round =>
    obtain ⟨k, hk, rfl, HI⟩ := hrel
    rename World => wr
    by_cases hlt : k < n
    · have c0 := (unhide HI).row k hlt
      rw [Nat.zero_add] at c0
      have fz := (unhide HI).loose k
      go_wp2
      exact ⟨⟨k + 1, by omega, by go_num, (unhide HI).next hlt (by have := unhide OW; omega) (by omega) (by omega) (by omega)⟩, by simp [intOf]; omega⟩
    · obtain rfl : k = n := by omega
      obtain ⟨e0, e1, e2, e3⟩ := (unhide HI).each
      have TUr := hide (unhide TU wr (unhide HI).but)
      clear TU
      go_wp2_with fail
      refine (unhide TUr).mono ?_
      rintro e' w1 ⟨s1, x1, y1, p1, rfl, hf1, hb1⟩
      obtain ⟨V, hV⟩ : ∃ V, V = w1.alloc (.cells #[.bool s1, .int .u64 x1, .int .u64 y1, .pointer p1] 33) := ⟨_, rfl⟩
      have bV : But [] w1 V := by rw [hV]; exact (But.refl _ _).alloc _
      have bW : But [] wr V := hb1.trans' bV
      have bw : But [] w V := (unhide HI).but.trans' bW
      have cV : P4 V w1.heap.size s1 x1 y1 p1 := by rw [hV]; exact ⟨by simp, by simp, by simp, by simp⟩
      have hlw : gp < w1.heap.size := Nat.lt_of_lt_of_le (lt_of_cell ((unhide HI).row 0 h0)) hb1.size
      have hrow : IntsAt V gp 0 k (fun i => i) := ((unhide HI).row.but bW (by simp)).congr (fun i hi => by rw [if_pos hi])
      have SO := hide (sort_places V gp b off k c b2 off2 c2 gw gs w1.heap.size ws F e e⁻¹ (unhide HE) (Rat.inv_mul_cancel e (unhide HE0)) h0 (bW.cell_some (unhide HI).box (by simp)) (bW.cell_some (unhide HI).box2 (by simp)) cV (hf1.but bV) ((unhide HWS).but bw) (unhide HN) hn2 (unhide HL) ((unhide HF).but bw (by simp)) (unhide HFL) (unhide LI) (by omega) (by omega) (by omega) (by omega) (by omega) hrow (fun j => (bW.frozen (p := ⟨gp, j, none⟩) (show gp < wr.heap.size from lt_of_cell (a := ⟨gp, 0 + 0, none⟩) ((unhide HI).row 0 h0)) (by simp)).trans ((unhide HI).loose j)))
      have BW := hide bw
      have HV := hide hV
      clear hV bV bW bw cV hrow hf1 hb1 e0 e1 e2 e3 TUr
      go_wp2_with fail
      rw [← unhide HV]
      refine (unhide SO).mono ?_
      rintro e' w2 ⟨rfl, js, h1, h2, h3⟩
      have R := hide h1
      have I := hide h2
      have B := hide h3
      clear h1 h2 h3 SO
      go_wp2
      go_ret
      exact ⟨gp, js, rfl, by have := unhide OW; omega, unhide R, unhide I, (unhide BW).trans (unhide B) (fun x hx => by simp at hx; subst hx; exact .inr (by have := unhide OW; omega))⟩
end Go.Proofs.YtlkpkgajfakdpaaGreat
