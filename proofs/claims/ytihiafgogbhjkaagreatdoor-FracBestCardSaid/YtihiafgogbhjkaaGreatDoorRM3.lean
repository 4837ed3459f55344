/- The neighbours of a fraction among those whose lower numbers are not too great, as the Go text of package frac finds them. -/
import Derived.Deep.LoopGhost
import Derived.Deep.DeepCutAuto
import Derived.Test.YtihiafgogbhjkaaGreatDoorRM1
import Derived.Test.YtihiafgogbhjkaaGreatDoorRR0
namespace Go.Proofs.YtihiafgogbhjkaaGreatDoor
open Go.RowKit

theorem words_at {W : World} {v : Value} {f : Rat} (h : FracAt W v f) (hp : f.num.natAbs < 18446744073709551616) (hq : f.den < 18446744073709551616) : ∃ s x y, v = .agg #[.bool s, .int .u64 x, .int .u64 y, .pointer none] ∧ ∀ W', FracAt W' v f := by
  rcases h with ⟨h1, h2, rfl⟩ | ⟨h, -⟩
  · exact ⟨_, _, _, rfl, fun _ => .inl ⟨h1, h2, rfl⟩⟩
  · omega
theorem nat_at {W : World} {v : Value} {n : Nat} (h : FracAt W v ((n : Int) : Rat)) (hn : n < 18446744073709551616) : v = .agg #[.bool false, .int .u64 (n : Int), .int .u64 0, .pointer none] ∧ ∀ W', FracAt W' v ((n : Int) : Rat) := by
  obtain ⟨i1, i2⟩ := int_num (n : Int)
  rcases h with ⟨h1, h2, rfl⟩ | ⟨h, -⟩
  · refine ⟨?_, fun _ => .inl ⟨h1, h2, rfl⟩⟩
    rw [i1, i2, Int.natAbs_natCast, decide_eq_false (by omega)]
    rfl
  · rw [i1, i2, Int.natAbs_natCast] at h
    omega
theorem three_news (w W : World) (A B C : Array Value) (s t u : TypeId) (hW : W = ((w.alloc (.cells A s)).alloc (.cells B t)).alloc (.cells C u)) :
    (∀ j, W.cell? ⟨w.heap.size, j, none⟩ = A[j]?) ∧ (∀ j, W.cell? ⟨w.heap.size + 1, j, none⟩ = B[j]?) ∧ (∀ j, W.cell? ⟨w.heap.size + 2, j, none⟩ = C[j]?) ∧ (∀ j, W.frozen? ⟨w.heap.size + 1, j, none⟩ = false) ∧ (∀ j, W.frozen? ⟨w.heap.size + 2, j, none⟩ = false) ∧ But [] w W := by
  obtain ⟨W1, hW1⟩ : ∃ W1, W1 = (w.alloc (.cells A s)).alloc (.cells B t) := ⟨_, rfl⟩
  obtain ⟨h1, h2, h3, h4, h5⟩ := two_news w W1 A B s t hW1
  have hz : W1.heap.size = w.heap.size + 2 := by rw [hW1]; simp
  rw [← hW1] at hW
  have hb : But [] W1 W := by rw [hW]; exact (But.refl _ _).alloc _
  refine ⟨fun j => (hb.cell (p := ⟨w.heap.size, j, none⟩) (by rw [hz]; show w.heap.size < _; omega) (by simp)).trans (h1 j), fun j => (hb.cell (p := ⟨w.heap.size + 1, j, none⟩) (by rw [hz]; show w.heap.size + 1 < _; omega) (by simp)).trans (h2 j), fun j => ?_, fun j => (hb.frozen (p := ⟨w.heap.size + 1, j, none⟩) (by rw [hz]; show w.heap.size + 1 < _; omega) (by simp)).trans (h4 j), fun j => ?_, h5.trans' hb⟩
  · rw [hW, ← hz]; simp
  · rw [hW, ← hz]; simp
theorem fl_le_abs (f : Rat) : (fl f).natAbs ≤ f.num.natAbs := by
  by_cases hd : f.den = 1
  · rw [(fl_whole f hd).1]; exact Nat.le_refl _
  · rw [fl_abs f hd, sgn_abs]
    have hd2 : 2 ≤ f.den := by have := den_pos f; omega
    have h1 := Nat.div_le_div_left (a := f.num.natAbs) hd2 (by omega)
    have hn : f.num.natAbs ≠ 0 := fun e => by
      have hr := f.reduced
      rw [e, Nat.coprime_zero_left] at hr
      omega
    split <;> omega
theorem over_len (O : Int) (K u : Nat) (hK : K ≤ 18446744073709551616) (hu : u ≤ 1000000) (h : O.natAbs ≤ K * u) : Len ((O : Int) : Rat) 20 := by
  obtain ⟨i1, i2⟩ := int_num O
  have h1 : K * u ≤ 18446744073709551616 * 1000000 := Nat.mul_le_mul hK hu
  exact len_of (m := 2) (n := 1) (by rw [i1]; omega) (by rw [i2]; decide) 20 (by omega) (by omega)

theorem Sl.overs {k : IntKind} {w w' : World} {v : Value} {xs : List Nat} {l : List Nat} (h : Sl k w v xs) (hb : But l w w') (hc : ∀ g ∈ l, ∃ s, w.cell? ⟨g, 0, none⟩ = some (.bool s)) : Sl k w' v xs := by
  obtain ⟨a, cap, rfl, hcp, h, hi⟩ := h
  rcases Nat.eq_zero_or_pos xs.length with h0 | h0
  · exact ⟨a, cap, rfl, hcp, fun i hi => by omega, fun b off e h1 => by omega⟩
  · refine Sl.but (xs := xs) ⟨a, cap, rfl, hcp, h, hi⟩ hb (fun b off cap' n e hm => ?_)
    simp only [Value.slice.injEq] at e
    obtain ⟨rfl, -, -⟩ := e
    obtain ⟨s, hs⟩ := hc b hm
    exact (hi _ _ rfl h0).ne hs (by simp) rfl
theorem FracAt.overs {w W : World} {v : Value} {f : Rat} {l : List Nat} (h : FracAt w v f) (hb : But l w W) (hc : ∀ g ∈ l, ∃ s, w.cell? ⟨g, 0, none⟩ = some (.bool s)) : FracAt W v f := by
  rcases h with h1 | ⟨h1, b, v1, v2, h2, h3, h4, h5, h6⟩
  · exact .inl h1
  · have hbg : b ∉ l := fun hm => by
      obtain ⟨s, hs⟩ := hc b hm
      obtain ⟨a, cap, rfl, -⟩ := h5
      rw [hs] at h3
      simp at h3
    exact .inr ⟨h1, b, v1, v2, h2, hb.cell_some h3 hbg, hb.cell_some h4 hbg, h5.overs hb hc, h6.overs hb hc⟩
theorem stays_mark (O : Int) (u : Nat) : Stays (fun w v => MarkAt w v O u) := ⟨fun _ _ _ h hb => h.but hb, fun _ _ _ _ _ h hc hb => h.over hc hb⟩
theorem set4_p4 (w : World) (b : Nat) (s : Bool) (x y : Int) (p : Option Addr) {s' : Bool} {x' y' : Int} {p' : Option Addr} (hc : P4 w b s' x' y' p') : P4 ((((w.setCell ⟨b, 0, none⟩ (.bool s)).setCell ⟨b, 1, none⟩ (.int .u64 x)).setCell ⟨b, 2, none⟩ (.int .u64 y)).setCell ⟨b, 3, none⟩ (.pointer p)) b s x y p := by
  obtain ⟨h1, h2⟩ := set4_all w b (.bool s) (.int .u64 x) (.int .u64 y) (.pointer p) (by rw [hc.1]; rfl) (by rw [hc.2.1]; rfl) (by rw [hc.2.2.1]; rfl) (by rw [hc.2.2.2]; rfl)
  exact ⟨h1 0 (by omega), h1 1 (by omega), h1 2 (by omega), h1 3 (by omega)⟩
theorem But.app {l m : List Nat} {a b c : World} (h : But l a b) (k : But m b c) : But (l ++ m) a c := (h.mono (fun x hx => .inl (by simp [hx]))).trans (k.mono (l' := l ++ m) (fun x hx => .inl (by simp [hx]))) (fun _ hx => .inl hx)

/-- what the call leaves -/
def NbPost (w : World) (f : Rat) (most K : Nat) (e : Ending) (w' : World) : Prop := ∃ va vb Oa Ob ua ub, e = .returned (.tuple #[va, vb]) ∧ MarkAt w' va Oa ua ∧ MarkAt w' vb Ob ub ∧ Nearby f most K Oa Ob ua ub ∧ But [] w w'
/-- no cell of a block is shut -/
def Open (w : World) (g : Nat) : Prop := ∀ j, w.frozen? ⟨g, j, none⟩ = false
theorem Open.but {w w' : World} {g : Nat} {l : List Nat} (h : Open w g) (hb : But l w w') (hl : g < w.heap.size) (hn : g ∉ l) : Open w' g := fun j => (hb.frozen (p := ⟨g, j, none⟩) hl hn).trans (h j)
theorem P4.lt {w : World} {g : Nat} {s : Bool} {x y : Int} {p : Option Addr} (h : P4 w g s x y p) : g < w.heap.size := lt_of_cell h.1
theorem P5.lt {w : World} {g : Nat} {s : Bool} {x y u : Int} {p : Option Addr} (h : P5 w g s x y p u) : g < w.heap.size := lt_of_cell h.1
/-- what holds ahead of a round -/
structure NInv (w wr : World) (f : Rat) (most K : Nat) (g4 g5 g6 g7 g8 g9 : Nat) (k : Nat) (O0 O1 : Int) (u0 u1 : Nat) (r : Rat) (s6 : Bool) (x6 y6 : Int) (s7 : Bool) (x7 y7 : Int) (p7 : Option Addr) (s8 : Bool) (x8 y8 : Int) (p8 : Option Addr) (s9 : Bool) (x9 y9 : Int) : Prop where
  nb : Nb f most K O0 O1 u0 u1 r
  den : r.den = k
  c4 : P5 wr g4 false 0 0 none 0
  c5 : P5 wr g5 false 0 0 none 0
  c6 : P4 wr g6 s6 x6 y6 none
  c7 : P5 wr g7 s7 x7 y7 p7 (u0 : Int)
  c8 : P5 wr g8 s8 x8 y8 p8 (u1 : Int)
  c9 : P4 wr g9 s9 x9 y9 none
  o4 : Open wr g4
  o5 : Open wr g5
  o6 : Open wr g6
  o7 : Open wr g7
  o8 : Open wr g8
  o9 : Open wr g9
  f7 : FracAt wr (.agg #[.bool s7, .int .u64 x7, .int .u64 y7, .pointer p7]) ((O0 : Int) : Rat)
  f8 : FracAt wr (.agg #[.bool s8, .int .u64 x8, .int .u64 y8, .pointer p8]) ((O1 : Int) : Rat)
  f9 : ∀ W, FracAt W (.agg #[.bool s9, .int .u64 x9, .int .u64 y9, .pointer none]) r
  but : But [] w wr

set_option maxHeartbeats 16000000 in
set_option maxRecDepth 100000 in
theorem neighbours_any (v : Value) (f : Rat) (most : Nat) (w : World) (hf : ∀ W, FracAt W v f) (hp : f.num.natAbs < 18446744073709551616) (hq : f.den < 18446744073709551616) (hm0 : 0 < most) (hm : most ≤ 1000000) :
    Calls Tryz.prog 110 #[v, .int .i64 (most : Int)] w fun e w' => NbPost w f most ((fl f).natAbs + 1) e w' := by
  have lf : Len f 1 := len_of (m := 1) (n := 1) (by rw [Nat.pow_one]; exact hp) (by rw [Nat.pow_one]; exact hq) 1 (Nat.le_refl _) (Nat.le_refl _)
  obtain ⟨i1, i2⟩ := int_num (fl f)
  have hfl := fl_le_abs f
  have lfl : Len ((fl f : Int) : Rat) 2 := fl_len lf (by omega)
  have hK : (fl f).natAbs + 1 ≤ 18446744073709551616 := by omega
  have NB0 := hide (Nb.start f most hm0)
  obtain ⟨K, hKe⟩ : ∃ K, K = (fl f).natAbs + 1 := ⟨_, rfl⟩
  rw [← hKe] at NB0 hK ⊢
  obtain ⟨q1, q2⟩ := rest_facts f
  have hq0 := den_pos f
  have qn := Int.emod_nonneg f.num (show (f.den : Int) ≠ 0 by omega)
  have ql := Int.emod_lt_of_pos f.num (show (0 : Int) < (f.den : Int) by omega)
  obtain ⟨ob, op, F1, C1⟩ := whole_at 1 (by omega) (by omega) w
  have WH := hide C1
  obtain ⟨fs, fx, fy, rfl, -⟩ := words_at (hf w) hp hq
  have FLR : Hid (∀ W, Calls Tryz.prog 30 #[.agg #[.bool fs, .int .u64 fx, .int .u64 fy, .pointer none]] W fun e w' => ∃ s x y, e = .returned (.agg #[.bool s, .int .u64 x, .int .u64 y, .pointer none]) ∧ (∀ W', FracAt W' (.agg #[.bool s, .int .u64 x, .int .u64 y, .pointer none]) ((fl f : Int) : Rat)) ∧ But [] W w') := fun W => (floor_any _ f W (hf W) (lf.mono (by omega))).mono fun e w' ⟨v', he, hv', hb'⟩ => by
    obtain ⟨s, x, y, rfl, hv⟩ := words_at hv' (by rw [i1]; omega) (by rw [i2]; decide)
    exact ⟨s, x, y, he, hv, hb'⟩
  have SUB : Hid (∀ W (u : Value), FracAt W u ((fl f : Int) : Rat) → Calls Tryz.prog 17 #[.agg #[.bool fs, .int .u64 fx, .int .u64 fy, .pointer none], u] W fun e w' => ∃ s x y, e = .returned (.agg #[.bool s, .int .u64 x, .int .u64 y, .pointer none]) ∧ (∀ W', FracAt W' (.agg #[.bool s, .int .u64 x, .int .u64 y, .pointer none]) (f - ((fl f : Int) : Rat))) ∧ But [] W w') := fun W u hu => (fracSub_any _ u _ _ W (hf W) hu (lf.mono (by omega)) (lfl.mono (by omega))).mono fun e w' ⟨v', he, hv', hb'⟩ => by
    obtain ⟨s, x, y, rfl, hv⟩ := words_at hv' (by rw [q1]; omega) (by rw [q2]; exact hq)
    exact ⟨s, x, y, he, hv, hb'⟩
  have HF1 := hide F1
  have HQ : Hid (f.den < 18446744073709551616 ∧ K ≤ 18446744073709551616 ∧ (f - ((fl f : Int) : Rat)).den = f.den) := ⟨hq, hK, q2⟩
  clear lf i1 i2 hfl lfl hK hKe q1 q2 hq0 qn ql F1 C1 hf hp hq
  obtain ⟨W, hW⟩ : ∃ W, W = (((w.alloc (.cells #[.bool fs, .int .u64 fx, .int .u64 fy, .pointer none] 27)).alloc (.cells #[.bool false, .int .u64 0, .int .u64 0, .pointer none, .int .i64 0] 129)).alloc (.cells #[.bool false, .int .u64 0, .int .u64 0, .pointer none, .int .i64 0] 129)) := ⟨_, rfl⟩
  obtain ⟨tA, tB, tC, fzB, fzC, hB⟩ := three_news w W _ _ _ _ _ _ hW
  have cf0 := tA 0
  have cf1 := tA 1
  have cf2 := tA 2
  have cf3 := tA 3
  simp only [List.getElem?_toArray, List.getElem?_cons_zero, List.getElem?_cons_succ] at cf0 cf1 cf2 cf3
  have C4 : Hid (P5 W (w.heap.size + 1) false 0 0 none 0) := ⟨tB 0, tB 1, tB 2, tB 3, tB 4⟩
  have C5 : Hid (P5 W (w.heap.size + 2) false 0 0 none 0) := ⟨tC 0, tC 1, tC 2, tC 3, tC 4⟩
  have OP4 : Hid (Open W (w.heap.size + 1)) := fzB
  have OP5 : Hid (Open W (w.heap.size + 2)) := fzC
  clear tA tB tC fzB fzC
  have HW := hide hW
  have HB := hide hB
  clear hW hB
  go_enter Tryz.func110, Tryz.ntmps110
  go_wp2_with fail
  rw [← unhide HW]
  have HGS : Hid (w.heap.size + 3 = W.heap.size) := by show _ = _; rw [unhide HW]; simp
  clear HW
  refine (unhide FLR _).mono ?_
  rintro e w1 ⟨s6, x6, y6, rfl, hv6, hb1⟩
  have F6 := hide hv6
  replace cf0 := hb1.cell_some cf0 (by simp)
  replace cf1 := hb1.cell_some cf1 (by simp)
  replace cf2 := hb1.cell_some cf2 (by simp)
  replace cf3 := hb1.cell_some cf3 (by simp)
  replace OP4 : Hid (Open w1 (w.heap.size + 1)) := (unhide OP4).but hb1 (unhide C4).lt (by simp)
  replace OP5 : Hid (Open w1 (w.heap.size + 2)) := (unhide OP5).but hb1 (unhide C5).lt (by simp)
  replace C4 : Hid (P5 w1 (w.heap.size + 1) false 0 0 none 0) := (unhide C4).but hb1 (by simp)
  replace C5 : Hid (P5 w1 (w.heap.size + 2) false 0 0 none 0) := (unhide C5).but hb1 (by simp)
  replace HB : Hid (But [] w w1) := (unhide HB).trans' hb1
  replace HGS : Hid (w.heap.size + 3 ≤ w1.heap.size) := by have := hb1.size; show _ ≤ _; rw [unhide HGS]; exact this
  clear hb1 hv6
  obtain ⟨V1, hV1⟩ : ∃ V1, V1 = w1.alloc (.cells #[.bool s6, .int .u64 x6, .int .u64 y6, .pointer none] 27) := ⟨_, rfl⟩
  have l0 : V1.cell? ⟨w1.heap.size, 0, none⟩ = some (.bool s6) := by rw [hV1]; simp
  have l1 : V1.cell? ⟨w1.heap.size, 1, none⟩ = some (.int .u64 x6) := by rw [hV1]; simp
  have l2 : V1.cell? ⟨w1.heap.size, 2, none⟩ = some (.int .u64 y6) := by rw [hV1]; simp
  have l3 : V1.cell? ⟨w1.heap.size, 3, none⟩ = some (.pointer none) := by rw [hV1]; simp
  have OP6 : Hid (Open V1 w1.heap.size) := fun j => by rw [hV1]; simp
  have bV : But [] w1 V1 := by rw [hV1]; exact (But.refl _ _).alloc _
  have cF0 := bV.cell_some cf0 (by simp)
  have cF1 := bV.cell_some cf1 (by simp)
  have cF2 := bV.cell_some cf2 (by simp)
  have cF3 := bV.cell_some cf3 (by simp)
  replace OP4 : Hid (Open V1 (w.heap.size + 1)) := (unhide OP4).but bV (unhide C4).lt (by simp)
  replace OP5 : Hid (Open V1 (w.heap.size + 2)) := (unhide OP5).but bV (unhide C5).lt (by simp)
  replace C4 : Hid (P5 V1 (w.heap.size + 1) false 0 0 none 0) := (unhide C4).but bV (by simp)
  replace C5 : Hid (P5 V1 (w.heap.size + 2) false 0 0 none 0) := (unhide C5).but bV (by simp)
  replace HB : Hid (But [] w V1) := (unhide HB).trans' bV
  have C6 : Hid (P4 V1 w1.heap.size s6 x6 y6 none) := ⟨l0, l1, l2, l3⟩
  clear bV
  go_wp2_with fail
  rw [← hV1]
  clear hV1 cf0 cf1 cf2 cf3
  obtain ⟨gf, hgf⟩ : ∃ gf, gf = w.heap.size := ⟨_, rfl⟩
  obtain ⟨g4, hg4⟩ : ∃ g4, g4 = w.heap.size + 1 := ⟨_, rfl⟩
  obtain ⟨g5, hg5⟩ : ∃ g5, g5 = w.heap.size + 2 := ⟨_, rfl⟩
  obtain ⟨g6, hg6⟩ : ∃ g6, g6 = w1.heap.size := ⟨_, rfl⟩
  rw [show w.heap.size + 1 + 1 = w.heap.size + 2 from rfl, ← hg4, ← hg5, ← hg6, ← hgf]
  rw [← hgf] at cF0 cF1 cF2 cF3
  rw [← hg4] at OP4 C4
  rw [← hg5] at OP5 C5
  rw [← hg6] at OP6 C6 l0 l1 l2 l3
  have HGG : Hid (w.heap.size ≤ g4 ∧ g4 < g5 ∧ g5 < g6) := by
    have := unhide HGS
    exact ⟨by omega, by omega, by omega⟩
  clear hgf hg4 hg5 hg6 HGS
  go_cut [7, 8] (fun s7 s8 wx => ∃ g7 g8 : Nat, s7 = .pointer (some ⟨g7, 0, none⟩) ∧ s8 = .pointer (some ⟨g8, 0, none⟩) ∧ Hid (But [] V1 wx ∧ V1.heap.size ≤ g7 ∧ V1.heap.size ≤ g8 ∧ g7 ≠ g8 ∧ Open wx g7 ∧ Open wx g8 ∧ P5 wx g7 ob op 0 none 0 ∧ P5 wx g8 s6 x6 y6 none 1))
  case first =>
    refine neigh_region 2 _ V1 _ g6 s6 x6 y6 none ob op 0 none (by simp) (by simp [Act.eval]) (unhide C6) (unhide WH) ?_
    intro w' b7 b8 h1 h2 h3 h4 h5 h6 h7 h8
    have HL : Hid (But [] V1 w' ∧ V1.heap.size ≤ b7 ∧ V1.heap.size ≤ b8 ∧ b7 ≠ b8 ∧ Open w' b7 ∧ Open w' b8 ∧ P5 w' b7 ob op 0 none 0 ∧ P5 w' b8 s6 x6 y6 none 1) := ⟨(But.refl [] V1).drew.trans' h1, h2, h3, h4, h5, h6, h7, h8⟩
    clear h1 h2 h3 h4 h5 h6 h7 h8
    simp only [putted, List.foldl_cons, List.foldl_nil, Act.put, List.setIfInBounds_toArray, List.set_cons_zero, List.set_cons_succ]
    go_wp2_with fail
    go_meet
    exact ⟨b7, b8, rfl, rfl, unhide HL⟩
  case rest =>
    obtain ⟨g7, g8, rfl, rfl, HC⟩ := hcut
    have bC := (unhide HC).1
    replace cF0 := bC.cell_some cF0 (by simp)
    replace cF1 := bC.cell_some cF1 (by simp)
    replace cF2 := bC.cell_some cF2 (by simp)
    replace cF3 := bC.cell_some cF3 (by simp)
    have g6l : Hid (g6 < V1.heap.size) := (unhide C6).lt
    replace l0 := bC.cell_some l0 (by simp)
    replace l1 := bC.cell_some l1 (by simp)
    replace l2 := bC.cell_some l2 (by simp)
    replace l3 := bC.cell_some l3 (by simp)
    replace OP4 : Hid (Open wc g4) := (unhide OP4).but bC (unhide C4).lt (by simp)
    replace OP5 : Hid (Open wc g5) := (unhide OP5).but bC (unhide C5).lt (by simp)
    replace OP6 : Hid (Open wc g6) := (unhide OP6).but bC (unhide C6).lt (by simp)
    replace C4 : Hid (P5 wc g4 false 0 0 none 0) := (unhide C4).but bC (by simp)
    replace C5 : Hid (P5 wc g5 false 0 0 none 0) := (unhide C5).but bC (by simp)
    replace C6 : Hid (P4 wc g6 s6 x6 y6 none) := (unhide C6).but bC (by simp)
    replace HB : Hid (But [] w wc) := (unhide HB).trans' bC
    have HGG2 : Hid (w.heap.size ≤ g4 ∧ g4 < g5 ∧ g5 < g6 ∧ g6 < g7 ∧ g6 < g8 ∧ g7 ≠ g8) := by
      obtain ⟨a1, a2, a3⟩ := unhide HGG
      obtain ⟨-, b1, b2, b3, -⟩ := unhide HC
      have := unhide g6l
      exact ⟨a1, a2, a3, by omega, by omega, b3⟩
    have OP7 : Hid (Open wc g7) := (unhide HC).2.2.2.2.1
    have OP8 : Hid (Open wc g8) := (unhide HC).2.2.2.2.2.1
    have C7 : Hid (P5 wc g7 ob op 0 none 0) := (unhide HC).2.2.2.2.2.2.1
    have C8 : Hid (P5 wc g8 s6 x6 y6 none 1) := (unhide HC).2.2.2.2.2.2.2
    clear HC bC g6l HGG
    go_wp2_with fail
    refine (unhide SUB _ _ (unhide F6 _)).mono ?_
    rintro e w3 ⟨s9, x9, y9, rfl, hv9, hb3⟩
    have F9 := hide hv9
    replace OP4 : Hid (Open w3 g4) := (unhide OP4).but hb3 (unhide C4).lt (by simp)
    replace OP5 : Hid (Open w3 g5) := (unhide OP5).but hb3 (unhide C5).lt (by simp)
    replace OP6 : Hid (Open w3 g6) := (unhide OP6).but hb3 (unhide C6).lt (by simp)
    replace OP7 : Hid (Open w3 g7) := (unhide OP7).but hb3 (unhide C7).lt (by simp)
    replace OP8 : Hid (Open w3 g8) := (unhide OP8).but hb3 (unhide C8).lt (by simp)
    replace C4 : Hid (P5 w3 g4 false 0 0 none 0) := (unhide C4).but hb3 (by simp)
    replace C5 : Hid (P5 w3 g5 false 0 0 none 0) := (unhide C5).but hb3 (by simp)
    replace C6 : Hid (P4 w3 g6 s6 x6 y6 none) := (unhide C6).but hb3 (by simp)
    replace C7 : Hid (P5 w3 g7 ob op 0 none 0) := (unhide C7).but hb3 (by simp)
    replace C8 : Hid (P5 w3 g8 s6 x6 y6 none 1) := (unhide C8).but hb3 (by simp)
    replace HB : Hid (But [] w w3) := (unhide HB).trans' hb3
    clear hb3 hv9 cF0 cF1 cF2 cF3 l0 l1 l2 l3
    obtain ⟨V3, hV3⟩ : ∃ V3, V3 = w3.alloc (.cells #[.bool s9, .int .u64 x9, .int .u64 y9, .pointer none] 27) := ⟨_, rfl⟩
    have bV : But [] w3 V3 := by rw [hV3]; exact (But.refl _ _).alloc _
    have C9 : Hid (P4 V3 w3.heap.size s9 x9 y9 none) := ⟨by rw [hV3]; simp, by rw [hV3]; simp, by rw [hV3]; simp, by rw [hV3]; simp⟩
    have OP9 : Hid (Open V3 w3.heap.size) := fun j => by rw [hV3]; simp
    have HGG : Hid (w.heap.size ≤ g4 ∧ g4 < g5 ∧ g5 < g6 ∧ g6 < g7 ∧ g6 < g8 ∧ g7 ≠ g8 ∧ g7 < w3.heap.size ∧ g8 < w3.heap.size) := by
      obtain ⟨a1, a2, a3, a4, a5, a6⟩ := unhide HGG2
      exact ⟨a1, a2, a3, a4, a5, a6, (unhide C7).lt, (unhide C8).lt⟩
    have I0 : Hid (∃ O0 O1 u0 u1 r s6 x6 y6 s7 x7 y7 p7 s8 x8 y8 p8 s9 x9 y9, NInv w V3 f most K g4 g5 g6 g7 g8 w3.heap.size f.den O0 O1 u0 u1 r s6 x6 y6 s7 x7 y7 p7 s8 x8 y8 p8 s9 x9 y9) :=
      ⟨1, fl f, 0, 1, f - ((fl f : Int) : Rat), s6, x6, y6, ob, op, 0, none, s6, x6, y6, none, s9, x9, y9, unhide NB0, (unhide HQ).2.2, (unhide C4).but bV (by simp), (unhide C5).but bV (by simp), (unhide C6).but bV (by simp), (unhide C7).but bV (by simp), (unhide C8).but bV (by simp), unhide C9,
        (unhide OP4).but bV (unhide C4).lt (by simp), (unhide OP5).but bV (unhide C5).lt (by simp), (unhide OP6).but bV (unhide C6).lt (by simp), (unhide OP7).but bV (unhide C7).lt (by simp), (unhide OP8).but bV (unhide C8).lt (by simp), unhide OP9, unhide HF1 _, unhide F6 _, unhide F9, (unhide HB).trans' bV⟩
    clear OP4 OP5 OP6 OP7 OP8 OP9 C4 C5 C6 C7 C8 C9 HB bV HGG2 F6 F9 HF1 NB0 SUB FLR WH
    go_wp2_with fail
    rw [← hV3]
    clear hV3
    generalize w3.heap.size = g9 at *
    go_loopg [] f.den (fun k wr => Hid (∃ O0 O1 u0 u1 r s6 x6 y6 s7 x7 y7 p7 s8 x8 y8 p8 s9 x9 y9, NInv w wr f most K g4 g5 g6 g7 g8 g9 k O0 O1 u0 u1 r s6 x6 y6 s7 x7 y7 p7 s8 x8 y8 p8 s9 x9 y9))
    case atStart => exact I0
    case round =>
      clear I0
      obtain ⟨O0, O1, u0, u1, r, sl, xl, yl, s7, x7, y7, p7, s8, x8, y8, p8, sr, xr, yr, I⟩ := unhide hrel
      clear hrel
      have HI := hide I
      obtain ⟨k1, k2, k3, k4, k5, k6, k7, k8⟩ := unhide HGG
      have n45 : g4 ≠ g5 := by omega
      have n84 : g8 ≠ g4 := by omega
      have n85 : g8 ≠ g5 := by omega
      clear k1 k2 k3 k4 k5 k6 k7 k8
      have SG := hide (fun W => fracSign_any _ r W (I.f9 W))
      obtain ⟨a0, a1, a2, a3, a4⟩ := I.c4
      obtain ⟨b0, b1, b2, b3, b4⟩ := I.c5
      obtain ⟨e0, e1, e2, e3, e4⟩ := I.c8
      obtain ⟨c0, c1, c2, c3⟩ := I.c9
      have oa := I.o4
      have oB := I.o5
      clear I
      by_cases hr : r.num = 0
      · have FIN := hide ((unhide HI).nb.exact hr)
        rw [hr, Int.sign_zero] at SG
        go_wp2_with fail
        refine (unhide SG _).mono ?_
        rintro e4 w4 ⟨rfl, hb4⟩
        have gl4 : g4 < wr.heap.size := (unhide HI).c4.lt
        have gl5 : g5 < wr.heap.size := (unhide HI).c5.lt
        replace oa : ∀ j, w4.frozen? ⟨g4, j, none⟩ = false := (oa : Open wr g4).but hb4 gl4 (by simp)
        replace oB : ∀ j, w4.frozen? ⟨g5, j, none⟩ = false := (oB : Open wr g5).but hb4 gl5 (by simp)
        replace a0 := hb4.cell_some a0 (by simp)
        replace a1 := hb4.cell_some a1 (by simp)
        replace a2 := hb4.cell_some a2 (by simp)
        replace a3 := hb4.cell_some a3 (by simp)
        replace a4 := hb4.cell_some a4 (by simp)
        replace b0 := hb4.cell_some b0 (by simp)
        replace b1 := hb4.cell_some b1 (by simp)
        replace b2 := hb4.cell_some b2 (by simp)
        replace b3 := hb4.cell_some b3 (by simp)
        replace b4 := hb4.cell_some b4 (by simp)
        replace e0 := hb4.cell_some e0 (by simp)
        replace e1 := hb4.cell_some e1 (by simp)
        replace e2 := hb4.cell_some e2 (by simp)
        replace e3 := hb4.cell_some e3 (by simp)
        replace e4 := hb4.cell_some e4 (by simp)
        have F8 : Hid (FracAt w4 (.agg #[.bool s8, .int .u64 x8, .int .u64 y8, .pointer p8]) ((O1 : Int) : Rat)) := (unhide HI).f8.but hb4
        have HB : Hid (But [] w w4) := (unhide HI).but.trans' hb4
        clear hb4 c0 c1 c2 c3 gl4 gl5 hr HI SG
        go_wp2_with fail
        refine opsC_region 13 _ w4 _ g8 g4 g5 s8 x8 y8 (u1 : Int) p8 (by simp) (by simp [Act.eval]) (by simp [Act.eval]) (by simp [Act.eval]) n84 n45 ⟨e0, e1, e2, e3, e4⟩ ⟨_, _, _, _, _, a0, a1, a2, a3, a4⟩ ⟨_, _, _, _, _, b0, b1, b2, b3, b4⟩ oa oB ?_
        intro wa wb hA cA hB cB
        have F9' : Hid (FracAt wb (.agg #[.bool s8, .int .u64 x8, .int .u64 y8, .pointer p8]) ((O1 : Int) : Rat)) := ((unhide F8).over a0 hA).over (hA.cell_some b0 (by simpa using Ne.symm n45)) hB
        have HBf : Hid (But [] w wb) := ((unhide HB).trans hA (fun x hx => by simp at hx; subst hx; exact .inr (unhide HGG).1)).trans hB (fun x hx => by simp at hx; subst hx; exact .inr (Nat.le_trans (unhide HGG).1 (Nat.le_of_lt (unhide HGG).2.1)))
        obtain ⟨q0, q1, q2, q3, q4⟩ := cA.but hB (by simpa using n45)
        obtain ⟨z0, z1, z2, z3, z4⟩ := cB
        clear cA hA hB F8 HB a0 a1 a2 a3 a4 b0 b1 b2 b3 b4 e0 e1 e2 e3 e4 oa oB
        simp only [putted, List.foldl_cons, List.foldl_nil, Act.put, List.setIfInBounds_toArray, List.set_cons_zero, List.set_cons_succ]
        go_wp2_with fail
        exact bodyPost_ret (v := .tuple #[.agg #[.bool s8, .int .u64 x8, .int .u64 y8, .pointer p8, .int .i64 (u1 : Int)], .agg #[.bool s8, .int .u64 x8, .int .u64 y8, .pointer p8, .int .i64 (u1 : Int)]]) (by simp [results, Tryz.results110, go_sem, q0, q1, q2, q3, q4, z0, z1, z2, z3, z4]) rfl ⟨_, _, O1, O1, u1, u1, rfl, ⟨_, _, _, _, rfl, unhide F9'⟩, ⟨_, _, _, _, rfl, unhide F9'⟩, unhide FIN, unhide HBf⟩
      · obtain ⟨j1, j2, j3⟩ := inv_facts r hr
        have rq := (unhide HQ).1
        have hk := (unhide HQ).2.1
        have b0' := (unhide HI).nb.r0
        have b1' := (unhide HI).nb.r1
        have b2' := (unhide HI).nb.rd
        have u1p := (unhide HI).nb.u1p
        have u1m := (unhide HI).nb.u1m
        have u0m := (unhide HI).nb.u0m
        have li : Len r⁻¹ 1 := len_of (m := 1) (n := 1) (by rw [j1, Nat.pow_one]; omega) (by rw [j2, Nat.pow_one]; omega) 1 (Nat.le_refl _) (Nat.le_refl _)
        have TUR : Hid (∀ W, Calls Tryz.prog 55 #[.agg #[.bool sr, .int .u64 xr, .int .u64 yr, .pointer none]] W fun e w' => ∃ s x y, e = .returned (.agg #[.bool s, .int .u64 x, .int .u64 y, .pointer none]) ∧ (∀ W', FracAt W' (.agg #[.bool s, .int .u64 x, .int .u64 y, .pointer none]) r⁻¹) ∧ But [] W w') := fun W => (fracTurned_any _ r W ((unhide HI).f9 W) hr).mono fun e w' ⟨v', he, hv', hb'⟩ => by
          obtain ⟨s, x, y, rfl, hv⟩ := words_at hv' (by rw [j1]; omega) (by rw [j2]; omega)
          exact ⟨s, x, y, he, hv, hb'⟩
        have hfn : 0 ≤ r⁻¹.num := by
          by_cases hneg : r⁻¹.num < 0
          · rw [decide_eq_true hneg] at j3
            have := of_decide_eq_true j3.symm
            omega
          · omega
        have hfl0 : 0 ≤ fl r⁻¹ := Int.ediv_nonneg hfn (by omega)
        obtain ⟨n, hn⟩ : ∃ n : Nat, fl r⁻¹ = (n : Int) := ⟨(fl r⁻¹).toNat, by omega⟩
        have hnB : n < 18446744073709551616 := by
          have := fl_le_abs r⁻¹
          rw [hn, j1] at this
          omega
        have FLO : Hid (∀ W v, FracAt W v r⁻¹ → Calls Tryz.prog 30 #[v] W fun e w' => e = .returned (.agg #[.bool false, .int .u64 (n : Int), .int .u64 0, .pointer none]) ∧ But [] W w') := fun W v hv => (floor_any v r⁻¹ W hv (li.mono (by omega))).mono fun e w' ⟨v', he, hv', hb'⟩ => by
          rw [hn] at hv'
          obtain ⟨rfl, -⟩ := nat_at hv' hnB
          exact ⟨he, hb'⟩
        have FN : Hid (∀ W', FracAt W' (.agg #[.bool false, .int .u64 (n : Int), .int .u64 0, .pointer none]) ((n : Int) : Rat)) := fun W' => by
          obtain ⟨i1, i2⟩ := int_num (n : Int)
          refine .inl ⟨by rw [i1]; omega, by rw [i2]; decide, ?_⟩
          rw [i1, i2, Int.natAbs_natCast, decide_eq_false (by omega)]
          rfl
        obtain ⟨w1', w2'⟩ := rest_facts r⁻¹
        have hdi := den_pos r⁻¹
        have w3' := Int.emod_nonneg r⁻¹.num (show (r⁻¹.den : Int) ≠ 0 by omega)
        have w4' := Int.emod_lt_of_pos r⁻¹.num (show (0 : Int) < (r⁻¹.den : Int) by omega)
        have SU2 : Hid (∀ W v, FracAt W v r⁻¹ → Calls Tryz.prog 17 #[v, .agg #[.bool false, .int .u64 (n : Int), .int .u64 0, .pointer none]] W fun e w' => ∃ s x y, e = .returned (.agg #[.bool s, .int .u64 x, .int .u64 y, .pointer none]) ∧ (∀ W', FracAt W' (.agg #[.bool s, .int .u64 x, .int .u64 y, .pointer none]) (r⁻¹ - ((fl r⁻¹ : Int) : Rat))) ∧ But [] W w') := fun W v hv => by
          have ln : Len ((n : Int) : Rat) 1 := by
            obtain ⟨i1, i2⟩ := int_num (n : Int)
            exact len_of (m := 1) (n := 1) (by rw [i1, Nat.pow_one]; omega) (by rw [i2]; decide) 1 (Nat.le_refl _) (Nat.le_refl _)
          rw [hn]
          refine (fracSub_any v _ _ _ W hv (unhide FN W) (li.mono (by omega)) (ln.mono (by omega))).mono fun e w' ⟨v', he, hv', hb'⟩ => ?_
          rw [← hn] at hv' ⊢
          obtain ⟨s, x, y, rfl, hv2⟩ := words_at hv' (by rw [w1']; omega) (by rw [w2']; omega)
          exact ⟨s, x, y, he, hv2, hb'⟩
        clear w1' w2' hdi w3' w4'
        obtain ⟨room, hroom⟩ : ∃ room : Nat, room = (most - u0) / u1 := ⟨_, rfl⟩
        have hrm : room ≤ 1000000 := by rw [hroom]; exact Nat.le_trans (Nat.div_le_self _ _) (by omega)
        have er1 : IntKind.i64.wrap ((most : Int) - (u0 : Int)) = ((most - u0 : Nat) : Int) := by rw [IntKind.wrap_i64]; omega
        have er0 : ((u1 : Int) == 0) = false := by simp; omega
        have er2 : wrap64 (((most - u0 : Nat) : Int) / (u1 : Int)) = (room : Int) := by
          rw [← Int.natCast_ediv, ← hroom]
          unfold wrap64
          omega
        have NX := hide hn
        have HR := hide hr
        have HRO := hide hroom
        obtain ⟨sg, hsg⟩ : ∃ sg, sg = r.num.sign := ⟨_, rfl⟩
        have hs0 : ¬ sg = 0 := fun e => hr (Int.sign_eq_zero_iff_zero.1 (hsg ▸ e))
        have hs1 : (sg == 0) = false := beq_eq_false_iff_ne.2 hs0
        rw [← hsg] at SG
        obtain ⟨m0, m1, m2, m3⟩ := (unhide HI).c6
        obtain ⟨i0, i1, i2, i3, i4⟩ := (unhide HI).c7
        have oc := (unhide HI).o6
        have gl6 : g6 < wr.heap.size := (unhide HI).c6.lt
        clear hsg hroom hn hr j1 j2 j3 rq hk b0' b1' b2' li hfn hfl0 u1m u0m a0 a1 a2 a3 a4 b0 b1 b2 b3 b4 oa oB
        go_wp2_with fail
        refine (unhide SG _).mono ?_
        rintro e4 w4 ⟨rfl, hb4⟩
        replace e0 := hb4.cell_some e0 (by simp)
        replace e1 := hb4.cell_some e1 (by simp)
        replace e2 := hb4.cell_some e2 (by simp)
        replace e3 := hb4.cell_some e3 (by simp)
        replace e4 := hb4.cell_some e4 (by simp)
        replace m0 := hb4.cell_some m0 (by simp)
        replace m1 := hb4.cell_some m1 (by simp)
        replace m2 := hb4.cell_some m2 (by simp)
        replace m3 := hb4.cell_some m3 (by simp)
        replace i0 := hb4.cell_some i0 (by simp)
        replace i1 := hb4.cell_some i1 (by simp)
        replace i2 := hb4.cell_some i2 (by simp)
        replace i3 := hb4.cell_some i3 (by simp)
        replace i4 := hb4.cell_some i4 (by simp)
        replace c0 := hb4.cell_some c0 (by simp)
        replace c1 := hb4.cell_some c1 (by simp)
        replace c2 := hb4.cell_some c2 (by simp)
        replace c3 := hb4.cell_some c3 (by simp)
        have K4 : Hid (But [] wr w4) := hb4
        clear hb4 SG
        go_wp2_with fail
        refine (unhide TUR _).mono ?_
        rintro e5 w5 ⟨st, xt, yt, rfl, hv5, hb5⟩
        have FT := hide hv5
        replace e0 := hb5.cell_some e0 (by simp)
        replace e1 := hb5.cell_some e1 (by simp)
        replace e2 := hb5.cell_some e2 (by simp)
        replace e3 := hb5.cell_some e3 (by simp)
        replace e4 := hb5.cell_some e4 (by simp)
        replace m0 := hb5.cell_some m0 (by simp)
        replace m1 := hb5.cell_some m1 (by simp)
        replace m2 := hb5.cell_some m2 (by simp)
        replace m3 := hb5.cell_some m3 (by simp)
        replace i0 := hb5.cell_some i0 (by simp)
        replace i1 := hb5.cell_some i1 (by simp)
        replace i2 := hb5.cell_some i2 (by simp)
        replace i3 := hb5.cell_some i3 (by simp)
        replace i4 := hb5.cell_some i4 (by simp)
        have K5 : Hid (But [] wr w5) := (unhide K4).trans' hb5
        clear hb5 hv5 K4 TUR c0 c1 c2 c3
        obtain ⟨V5, hV5⟩ : ∃ V5, V5 = w5.alloc (.cells #[.bool st, .int .u64 xt, .int .u64 yt, .pointer none] 27) := ⟨_, rfl⟩
        have t0 : V5.cell? ⟨w5.heap.size, 0, none⟩ = some (.bool st) := by rw [hV5]; simp
        have t1 : V5.cell? ⟨w5.heap.size, 1, none⟩ = some (.int .u64 xt) := by rw [hV5]; simp
        have t2 : V5.cell? ⟨w5.heap.size, 2, none⟩ = some (.int .u64 yt) := by rw [hV5]; simp
        have t3 : V5.cell? ⟨w5.heap.size, 3, none⟩ = some (.pointer none) := by rw [hV5]; simp
        have bV5 : But [] w5 V5 := by rw [hV5]; exact (But.refl _ _).alloc _
        have ngt : Hid (g6 < w5.heap.size ∧ g7 < w5.heap.size ∧ g8 < w5.heap.size ∧ g9 < w5.heap.size ∧ g4 < w5.heap.size ∧ g5 < w5.heap.size) := by
          have hz := (unhide K5).size
          exact ⟨Nat.lt_of_lt_of_le (unhide HI).c6.lt hz, Nat.lt_of_lt_of_le (unhide HI).c7.lt hz, Nat.lt_of_lt_of_le (unhide HI).c8.lt hz, Nat.lt_of_lt_of_le (unhide HI).c9.lt hz, Nat.lt_of_lt_of_le (unhide HI).c4.lt hz, Nat.lt_of_lt_of_le (unhide HI).c5.lt hz⟩
        go_wp2_with fail
        rw [← hV5]
        clear hV5
        replace e0 := bV5.cell_some e0 (by simp)
        replace e1 := bV5.cell_some e1 (by simp)
        replace e2 := bV5.cell_some e2 (by simp)
        replace e3 := bV5.cell_some e3 (by simp)
        replace e4 := bV5.cell_some e4 (by simp)
        replace m0 := bV5.cell_some m0 (by simp)
        replace m1 := bV5.cell_some m1 (by simp)
        replace m2 := bV5.cell_some m2 (by simp)
        replace m3 := bV5.cell_some m3 (by simp)
        replace i0 := bV5.cell_some i0 (by simp)
        replace i1 := bV5.cell_some i1 (by simp)
        replace i2 := bV5.cell_some i2 (by simp)
        replace i3 := bV5.cell_some i3 (by simp)
        replace i4 := bV5.cell_some i4 (by simp)
        have K6 : Hid (But [] wr V5) := (unhide K5).trans' bV5
        clear bV5 K5
        generalize w5.heap.size = gt at *
        refine (unhide FLO _ _ (unhide FT _)).mono ?_
        rintro e6 w6 ⟨rfl, hb6⟩
        have K7 : Hid (But [] wr w6) := (unhide K6).trans' hb6
        replace oc : ∀ j, w6.frozen? ⟨g6, j, none⟩ = false := (oc : Open wr g6).but (unhide K7) gl6 (by simp)
        replace e0 := hb6.cell_some e0 (by simp)
        replace e1 := hb6.cell_some e1 (by simp)
        replace e2 := hb6.cell_some e2 (by simp)
        replace e3 := hb6.cell_some e3 (by simp)
        replace e4 := hb6.cell_some e4 (by simp)
        replace m0 := hb6.cell_some m0 (by simp)
        replace m1 := hb6.cell_some m1 (by simp)
        replace m2 := hb6.cell_some m2 (by simp)
        replace m3 := hb6.cell_some m3 (by simp)
        replace i0 := hb6.cell_some i0 (by simp)
        replace i1 := hb6.cell_some i1 (by simp)
        replace i2 := hb6.cell_some i2 (by simp)
        replace i3 := hb6.cell_some i3 (by simp)
        replace i4 := hb6.cell_some i4 (by simp)
        replace t0 := hb6.cell_some t0 (by simp)
        replace t1 := hb6.cell_some t1 (by simp)
        replace t2 := hb6.cell_some t2 (by simp)
        replace t3 := hb6.cell_some t3 (by simp)
        clear hb6 K6 FLO gl6
        obtain ⟨V6, hV6⟩ : ∃ V6, V6 = ((((w6.setCell ⟨g6, 0, none⟩ (.bool false)).setCell ⟨g6, 1, none⟩ (.int .u64 (n : Int))).setCell ⟨g6, 2, none⟩ (.int .u64 0)).setCell ⟨g6, 3, none⟩ (.pointer none)) := ⟨_, rfl⟩
        have bV6 : But [g6] w6 V6 := by rw [hV6]; exact but4 _ _ _ _ _ _
        have p6 : P4 V6 g6 false (n : Int) 0 none := by rw [hV6]; exact set4_p4 w6 g6 _ _ _ _ ⟨m0, m1, m2, m3⟩
        have oV6 : ∀ j, V6.frozen? ⟨g6, j, none⟩ = false := fun j => by rw [hV6]; exact frz4 oc j
        obtain ⟨k1, k2, k3, k4, k5, k6, k7, k8⟩ := unhide HGG
        obtain ⟨k9, k10, k11, k12, k13, k14⟩ := unhide ngt
        have n46 : g4 ≠ g6 := by omega
        have n56 : g5 ≠ g6 := by omega
        have n76 : g7 ≠ g6 := by omega
        have n86 : g8 ≠ g6 := by omega
        have nt6 : gt ≠ g6 := by omega
        have nt7 : gt ≠ g7 := by omega
        have nt8 : gt ≠ g8 := by omega
        have nt9 : gt ≠ g9 := by omega
        have n78 : g7 ≠ g8 := k6
        have n79 : g7 ≠ g9 := by omega
        have n89 : g8 ≠ g9 := by omega
        have n67 : g6 ≠ g7 := by omega
        have n68 : g6 ≠ g8 := by omega
        have n69 : g6 ≠ g9 := by omega
        have n47 : g4 ≠ g7 := by omega
        have n48 : g4 ≠ g8 := by omega
        have n49 : g4 ≠ g9 := by omega
        have n57 : g5 ≠ g7 := by omega
        have n58 : g5 ≠ g8 := by omega
        have n59 : g5 ≠ g9 := by omega
        have HGE : Hid (w.heap.size ≤ g4 ∧ w.heap.size ≤ g5 ∧ w.heap.size ≤ g6 ∧ w.heap.size ≤ g7 ∧ w.heap.size ≤ g8 ∧ w.heap.size ≤ g9) := ⟨k1, by omega, by omega, by omega, by omega, by omega⟩
        clear k1 k2 k3 k4 k5 k6 k7 k8 k9 k10 k11 k12 k13 k14
        go_wp2_with fail
        rw [← hV6]
        clear hV6
        have c60 := p6.1
        replace e0 := bV6.cell_some e0 (by simpa using n86)
        replace e1 := bV6.cell_some e1 (by simpa using n86)
        replace e2 := bV6.cell_some e2 (by simpa using n86)
        replace e3 := bV6.cell_some e3 (by simpa using n86)
        replace e4 := bV6.cell_some e4 (by simpa using n86)
        replace i0 := bV6.cell_some i0 (by simpa using n76)
        replace i1 := bV6.cell_some i1 (by simpa using n76)
        replace i2 := bV6.cell_some i2 (by simpa using n76)
        replace i3 := bV6.cell_some i3 (by simpa using n76)
        replace i4 := bV6.cell_some i4 (by simpa using n76)
        replace t0 := bV6.cell_some t0 (by simpa using nt6)
        replace t1 := bV6.cell_some t1 (by simpa using nt6)
        replace t2 := bV6.cell_some t2 (by simpa using nt6)
        replace t3 := bV6.cell_some t3 (by simpa using nt6)
        obtain ⟨v0, v1, v2, v3⟩ := p6
        have K8 : Hid (But [g6] wr V6) := (unhide K7).of_nil.trans bV6 (fun _ hx => .inl hx)
        replace oc := oV6
        clear oV6 bV6 K7 m0 m1 m2 m3
        have HSO : Hid (Len ((O0 : Int) : Rat) 20 ∧ Len ((O1 : Int) : Rat) 20) := by
          have hk := (unhide HQ).2.1
          refine ⟨?_, over_len O1 K u1 hk (Nat.le_trans (unhide HI).nb.u1m hm) (unhide HI).nb.s1⟩
          rcases (unhide HI).nb.s0 with ⟨-, h0⟩ | ⟨-, -, h0, -⟩
          · exact over_len O0 K u0 hk (Nat.le_trans (unhide HI).nb.u0m hm) h0
          · rw [h0]; exact (int_len 1 (by omega) (by omega)).mono (by omega)
        by_cases hbig : n < 9223372036854775808
        · have INT := hide (fun W => fracInt_small n hbig W)
          have hcmp0 : n ≤ room ∨ room < n := by omega
          rcases hcmp0 with hnr | hnr
          · have hcc : ¬ ((n : Int) > (room : Int)) := by omega
            have hcc' : ¬ room < n := by omega
            have hcd : decide (room < n) = false := decide_eq_false hcc'
            refine (unhide INT _).mono ?_
            rintro e7 w7 ⟨rfl, hb7⟩
            replace e0 := hb7.cell_some e0 (by simp)
            replace e1 := hb7.cell_some e1 (by simp)
            replace e2 := hb7.cell_some e2 (by simp)
            replace e3 := hb7.cell_some e3 (by simp)
            replace e4 := hb7.cell_some e4 (by simp)
            replace i0 := hb7.cell_some i0 (by simp)
            replace i1 := hb7.cell_some i1 (by simp)
            replace i2 := hb7.cell_some i2 (by simp)
            replace i3 := hb7.cell_some i3 (by simp)
            replace i4 := hb7.cell_some i4 (by simp)
            replace t0 := hb7.cell_some t0 (by simp)
            replace t1 := hb7.cell_some t1 (by simp)
            replace t2 := hb7.cell_some t2 (by simp)
            replace t3 := hb7.cell_some t3 (by simp)
            replace v0 := hb7.cell_some v0 (by simp)
            replace v1 := hb7.cell_some v1 (by simp)
            replace v2 := hb7.cell_some v2 (by simp)
            replace v3 := hb7.cell_some v3 (by simp)
            have KA : Hid (But [g6] wr w7) := (unhide K8).trans' hb7
            replace oc : ∀ j, w7.frozen? ⟨g6, j, none⟩ = false := Open.but (w := V6) (g := g6) oc hb7 (lt_of_cell c60) (by simp)
            clear hb7 K8 INT
            have PLU : Hid (∀ m : Nat, m ≤ 1000000 → ∀ W, But [] w7 W → Calls Tryz.prog 167 #[.agg #[.bool s7, .int .u64 x7, .int .u64 y7, .pointer p7, .int .i64 (u0 : Int)], .int .i64 (m : Int), .agg #[.bool s8, .int .u64 x8, .int .u64 y8, .pointer p8, .int .i64 (u1 : Int)]] W fun e w' => ∃ v, e = .returned v ∧ MarkAt w' v (O0 + (m : Int) * O1) (u0 + m * u1) ∧ But [] W w') := fun m hmm W hb => by
              have q6 : ∀ g ∈ [g6], ∃ s, wr.cell? ⟨g, 0, none⟩ = some (.bool s) := by intro g hg; simp at hg; subst hg; exact ⟨_, (unhide HI).c6.1⟩
              exact markPlus_any _ _ O0 O1 u0 u1 m W ⟨_, _, _, _, rfl, ((unhide HI).f7.overs (unhide KA) q6).but hb⟩ ⟨_, _, _, _, rfl, ((unhide HI).f8.overs (unhide KA) q6).but hb⟩ (Nat.le_trans (unhide HI).nb.u0m hm) (Nat.le_trans (unhide HI).nb.u1m hm) hmm (unhide HSO).1 (unhide HSO).2
            go_wp2_with fail
            have NXT := hide ((unhide HI).nb.next (unhide HR) n (unhide NX) (by rw [← unhide HRO]; exact hnr))
            have l7 : g7 < wr.heap.size := (unhide HI).c7.lt
            have l8 : g8 < wr.heap.size := (unhide HI).c8.lt
            refine opsB_region 11 _ w7 _ g7 g8 g7 g8 s7 x7 y7 (u0 : Int) p7 s8 x8 y8 (u1 : Int) p8 (.int .i64 (n : Int)) (fun w v => MarkAt w v (O0 + (n : Int) * O1) (u0 + n * u1)) (stays_mark _ _) (fun w v ⟨s, x, y, p, e, _⟩ => ⟨s, x, y, p, _, e⟩) (by simp) (by simp [Act.eval]) (by simp [Act.eval]) (by simp [Act.eval]) (by simp [Act.eval]) (by simp [Act.eval]) n78 ⟨i0, i1, i2, i3, i4⟩ ⟨e0, e1, e2, e3, e4⟩ ⟨_, _, _, _, _, i0, i1, i2, i3, i4⟩ ⟨_, _, _, _, _, e0, e1, e2, e3, e4⟩ ((unhide HI).o7.but (unhide KA) l7 (by simpa using n76)) ((unhide HI).o8.but (unhide KA) l8 (by simpa using n86)) (unhide PLU n (by omega)) ?_
            intro w1 w2 w8 sp xp yp pp kp f1 f2 f3 f4 f5 hr5 f3o f5o
            obtain ⟨sq, xq, yq, pq, eq, hfq⟩ := hr5
            have e' := congrArg Array.toList (Value.agg.inj eq)
            simp only [List.cons.injEq, Value.int.injEq, Value.bool.injEq, Value.pointer.injEq, true_and, and_true] at e'
            obtain ⟨rfl, rfl, rfl, rfl, rfl⟩ := e'
            clear eq
            have BG : Hid (But ((([g6] ++ []) ++ [g7]) ++ [g8]) wr w8) := (((unhide KA).app f1).app f2).app f4
            have V8 : Hid (P4 w8 g6 false (n : Int) 0 none) := ((P4.but (g := g6) ⟨v0, v1, v2, v3⟩ f1 (by simp)).but f2 (by simpa using n67)).but f4 (by simpa using n68)
            have P7 : Hid (P5 w8 g7 s8 x8 y8 p8 (u1 : Int)) := f3.but f4 (by simpa using n78)
            have P8 : Hid (P5 w8 g8 sp xp yp pp ((u0 + n * u1 : Nat) : Int)) := f5
            have HFQ := hide hfq
            have OG6 : Hid (Open w8 g6) := ((Open.but (w := w7) (g := g6) oc f1 (lt_of_cell v0) (by simp)).but f2 (Nat.lt_of_lt_of_le (lt_of_cell v0) f1.size) (by simpa using n67)).but f4 (Nat.lt_of_lt_of_le (Nat.lt_of_lt_of_le (lt_of_cell v0) f1.size) f2.size) (by simpa using n68)
            have OG7 : Hid (Open w8 g7) := Open.but (w := w2) (g := g7) f3o f4 f3.lt (by simpa using n78)
            have OG8 : Hid (Open w8 g8) := f5o
            have T8 : P4 w8 gt st xt yt none := ((P4.but (g := gt) ⟨t0, t1, t2, t3⟩ f1 (by simp)).but f2 (by simpa using nt7)).but f4 (by simpa using nt8)
            have O8 : Hid (Open w8 g9) := (unhide HI).o9.but (unhide BG) (unhide HI).c9.lt (by simp; exact ⟨Ne.symm n69, Ne.symm n79, Ne.symm n89⟩)
            have C9 : P4 w8 g9 sr xr yr none := (unhide HI).c9.but (unhide BG) (by simp; exact ⟨Ne.symm n69, Ne.symm n79, Ne.symm n89⟩)
            clear f1 f2 f3 f4 f5 f3o f5o hfq t0 t1 t2 t3 v0 v1 v2 v3 e0 e1 e2 e3 e4 i0 i1 i2 i3 i4 PLU KA oc c60
            obtain ⟨t0, t1, t2, t3⟩ := T8
            obtain ⟨v0, v1, v2, v3⟩ := unhide V8
            obtain ⟨y0, y1, y2, y3⟩ := C9
            simp only [putted, List.foldl_cons, List.foldl_nil, Act.put, List.setIfInBounds_toArray, List.set_cons_zero, List.set_cons_succ]
            go_wp2_with fail
            refine (unhide SU2 _ _ (unhide FT _)).mono ?_
            rintro e9 w9 ⟨s9', x9', y9', rfl, hv9, hb9⟩
            have F9' := hide hv9
            have l9 : g9 < w8.heap.size := lt_of_cell y0
            replace O8 : ∀ j, w9.frozen? ⟨g9, j, none⟩ = false := (unhide O8).but hb9 l9 (by simp)
            replace y0 := hb9.cell_some y0 (by simp)
            replace y1 := hb9.cell_some y1 (by simp)
            replace y2 := hb9.cell_some y2 (by simp)
            replace y3 := hb9.cell_some y3 (by simp)
            replace OG6 : Hid (Open w9 g6) := (unhide OG6).but hb9 (unhide V8).lt (by simp)
            replace OG7 : Hid (Open w9 g7) := (unhide OG7).but hb9 (unhide P7).lt (by simp)
            replace OG8 : Hid (Open w9 g8) := (unhide OG8).but hb9 (unhide P8).lt (by simp)
            replace V8 : Hid (P4 w9 g6 false (n : Int) 0 none) := (unhide V8).but hb9 (by simp)
            replace P7 : Hid (P5 w9 g7 s8 x8 y8 p8 (u1 : Int)) := (unhide P7).but hb9 (by simp)
            replace P8 : Hid (P5 w9 g8 sp xp yp pp ((u0 + n * u1 : Nat) : Int)) := (unhide P8).but hb9 (by simp)
            replace HFQ : Hid (FracAt w9 (.agg #[.bool sp, .int .u64 xp, .int .u64 yp, .pointer pp]) ((O0 + (n : Int) * O1 : Int) : Rat)) := (unhide HFQ).but hb9
            replace BG : Hid (But (((([g6] ++ []) ++ [g7]) ++ [g8]) ++ []) wr w9) := (unhide BG).app hb9
            clear hb9 hv9 l9 t0 t1 t2 t3 v0 v1 v2 v3
            obtain ⟨Wf, hWf⟩ : ∃ Wf, Wf = ((((w9.setCell ⟨g9, 0, none⟩ (.bool s9')).setCell ⟨g9, 1, none⟩ (.int .u64 x9')).setCell ⟨g9, 2, none⟩ (.int .u64 y9')).setCell ⟨g9, 3, none⟩ (.pointer none)) := ⟨_, rfl⟩
            have bf : But [g9] w9 Wf := by rw [hWf]; exact but4 _ _ _ _ _ _
            have BF := (unhide BG).app bf
            have q4 : ∀ g ∈ ((([g6] ++ []) ++ [g7]) ++ [g8]) ++ [] ++ [g9], ∃ s, wr.cell? ⟨g, 0, none⟩ = some (.bool s) := by
              intro g hg
              simp at hg
              rcases hg with rfl | rfl | rfl | rfl
              · exact ⟨_, (unhide HI).c6.1⟩
              · exact ⟨_, (unhide HI).c7.1⟩
              · exact ⟨_, (unhide HI).c8.1⟩
              · exact ⟨_, (unhide HI).c9.1⟩
            obtain ⟨kk, hkk⟩ : ∃ kk, kk = (r⁻¹ - ((fl r⁻¹ : Int) : Rat)).den := ⟨_, rfl⟩
            have RR : Hid (∃ O0 O1 u0 u1 r s6 x6 y6 s7 x7 y7 p7 s8 x8 y8 p8 s9 x9 y9, NInv w Wf f most K g4 g5 g6 g7 g8 g9 kk O0 O1 u0 u1 r s6 x6 y6 s7 x7 y7 p7 s8 x8 y8 p8 s9 x9 y9) :=
              ⟨O1, O0 + (n : Int) * O1, u1, u0 + n * u1, r⁻¹ - ((fl r⁻¹ : Int) : Rat), false, (n : Int), 0, s8, x8, y8, p8, sp, xp, yp, pp, s9', x9', y9', (unhide NXT).1, hkk.symm,
                (unhide HI).c4.but BF (by simp; exact ⟨n46, n47, n48, n49⟩), (unhide HI).c5.but BF (by simp; exact ⟨n56, n57, n58, n59⟩), (unhide V8).but bf (by simpa using n69), (unhide P7).but bf (by simpa using n79), (unhide P8).but bf (by simpa using n89), by rw [hWf]; exact set4_p4 w9 g9 _ _ _ _ ⟨y0, y1, y2, y3⟩,
                (unhide HI).o4.but BF (unhide HI).c4.lt (by simp; exact ⟨n46, n47, n48, n49⟩), (unhide HI).o5.but BF (unhide HI).c5.lt (by simp; exact ⟨n56, n57, n58, n59⟩), (unhide OG6).but bf (unhide V8).lt (by simpa using n69), (unhide OG7).but bf (unhide P7).lt (by simpa using n79), (unhide OG8).but bf (unhide P8).lt (by simpa using n89), fun j => by rw [hWf]; exact frz4 O8 j,
                (unhide HI).f8.overs BF q4, (unhide HFQ).over y0 bf, unhide F9', (unhide HI).but.trans BF (fun x hx => by
                  simp at hx
                  obtain ⟨-, -, h6, h7, h8, h9⟩ := unhide HGE
                  rcases hx with rfl | rfl | rfl | rfl
                  · exact .inr h6
                  · exact .inr h7
                  · exact .inr h8
                  · exact .inr h9)⟩
            have MSR : Hid (kk < gk) := by show _ < _; rw [← (unhide HI).den, hkk]; exact (unhide NXT).2.1
            clear BF q4 bf V8 P7 P8 HFQ BG HI NXT
            go_wp2
            clear hkk
            go_roundg kk
            case measure => exact unhide MSR
            case rel => rw [← hWf]; exact RR
          · have hcc : ((n : Int) > (room : Int)) := by omega
            refine (unhide INT _).mono ?_
            rintro e7 w7 ⟨rfl, hb7⟩
            replace e0 := hb7.cell_some e0 (by simp)
            replace e1 := hb7.cell_some e1 (by simp)
            replace e2 := hb7.cell_some e2 (by simp)
            replace e3 := hb7.cell_some e3 (by simp)
            replace e4 := hb7.cell_some e4 (by simp)
            replace i0 := hb7.cell_some i0 (by simp)
            replace i1 := hb7.cell_some i1 (by simp)
            replace i2 := hb7.cell_some i2 (by simp)
            replace i3 := hb7.cell_some i3 (by simp)
            replace i4 := hb7.cell_some i4 (by simp)
            replace t0 := hb7.cell_some t0 (by simp)
            replace t1 := hb7.cell_some t1 (by simp)
            replace t2 := hb7.cell_some t2 (by simp)
            replace t3 := hb7.cell_some t3 (by simp)
            replace v0 := hb7.cell_some v0 (by simp)
            replace v1 := hb7.cell_some v1 (by simp)
            replace v2 := hb7.cell_some v2 (by simp)
            replace v3 := hb7.cell_some v3 (by simp)
            have KA : Hid (But [g6] wr w7) := (unhide K8).trans' hb7
            replace oc : ∀ j, w7.frozen? ⟨g6, j, none⟩ = false := Open.but (w := V6) (g := g6) oc hb7 (lt_of_cell c60) (by simp)
            clear hb7 K8 INT
            have PLU : Hid (∀ m : Nat, m ≤ 1000000 → ∀ W, But [] w7 W → Calls Tryz.prog 167 #[.agg #[.bool s7, .int .u64 x7, .int .u64 y7, .pointer p7, .int .i64 (u0 : Int)], .int .i64 (m : Int), .agg #[.bool s8, .int .u64 x8, .int .u64 y8, .pointer p8, .int .i64 (u1 : Int)]] W fun e w' => ∃ v, e = .returned v ∧ MarkAt w' v (O0 + (m : Int) * O1) (u0 + m * u1) ∧ But [] W w') := fun m hmm W hb => by
              have q6 : ∀ g ∈ [g6], ∃ s, wr.cell? ⟨g, 0, none⟩ = some (.bool s) := by intro g hg; simp at hg; subst hg; exact ⟨_, (unhide HI).c6.1⟩
              exact markPlus_any _ _ O0 O1 u0 u1 m W ⟨_, _, _, _, rfl, ((unhide HI).f7.overs (unhide KA) q6).but hb⟩ ⟨_, _, _, _, rfl, ((unhide HI).f8.overs (unhide KA) q6).but hb⟩ (Nat.le_trans (unhide HI).nb.u0m hm) (Nat.le_trans (unhide HI).nb.u1m hm) hmm (unhide HSO).1 (unhide HSO).2
            go_wp2_with fail
            refine opsA_region 10 _ w7 _ g7 g8 g4 g5 s7 x7 y7 (u0 : Int) p7 s8 x8 y8 (u1 : Int) p8 (.int .i64 (room : Int)) (fun w v => MarkAt w v (O0 + (room : Int) * O1) (u0 + room * u1)) (stays_mark _ _) (fun w v ⟨s, x, y, p, e, _⟩ => ⟨s, x, y, p, _, e⟩) (by simp) (by simp [Act.eval]) (by simp [Act.eval]) (by simp [Act.eval]) (by simp [Act.eval]) (by simp [Act.eval]) n45 ⟨i0, i1, i2, i3, i4⟩ ⟨e0, e1, e2, e3, e4⟩ ⟨_, _, _, _, _, (unhide HI).c4.but (unhide KA) (by simpa using n46)⟩ ⟨_, _, _, _, _, (unhide HI).c5.but (unhide KA) (by simpa using n56)⟩ ((unhide HI).o4.but (unhide KA) (unhide HI).c4.lt (by simpa using n46)) ((unhide HI).o5.but (unhide KA) (unhide HI).c5.lt (by simpa using n56)) (unhide PLU room hrm) ?_
            intro w1 w2 wf sp xp yp pp kp f1 f2 f3 f4 f5 hr5 f3o f5o
            obtain ⟨sq, xq, yq, pq, eq, hfq⟩ := id hr5
            have c4w1 : ∃ s, w1.cell? ⟨g4, 0, none⟩ = some (.bool s) := ⟨_, f1.cell_some (((unhide HI).c4.but (unhide KA) (by simpa using n46)).1) (by simp)⟩
            have c5w2 : ∃ s, w2.cell? ⟨g5, 0, none⟩ = some (.bool s) := ⟨_, f2.cell_some (f1.cell_some (((unhide HI).c5.but (unhide KA) (by simpa using n56)).1) (by simp)) (by simpa using Ne.symm n45)⟩
            have F8f : Hid (FracAt wf (.agg #[.bool s8, .int .u64 x8, .int .u64 y8, .pointer p8]) ((O1 : Int) : Rat)) := by
              obtain ⟨_, h1⟩ := c4w1
              obtain ⟨_, h2⟩ := c5w2
              exact ((((unhide HI).f8.overs (unhide KA) (by intro g hg; simp at hg; subst hg; exact ⟨_, (unhide HI).c6.1⟩)).but f1).over h1 f2).over h2 f4
            have HBf : Hid (But [] w wf) := (((((unhide HI).but).trans (unhide KA) (fun x hx => by simp at hx; subst hx; exact .inr (unhide HGE).2.2.1)).trans' f1).trans f2 (fun x hx => by simp at hx; subst hx; exact .inr (unhide HGE).1)).trans f4 (fun x hx => by simp at hx; subst hx; exact .inr (unhide HGE).2.1)
            have R5 : Hid (MarkAt wf (.agg #[.bool sp, .int .u64 xp, .int .u64 yp, .pointer pp, .int .i64 kp]) (O0 + (room : Int) * O1) (u0 + room * u1)) := hr5
            have FIN := hide ((unhide HI).nb.sides (unhide HR) room (unhide HRO) (by rw [unhide NX]; omega) hm0)
            obtain ⟨q0, q1, q2, q3, q4⟩ := f3.but f4 (by simpa using n45)
            obtain ⟨z0, z1, z2, z3, z4⟩ := f5
            clear eq hfq hr5 f1 f2 f3 f4 f3o f5o c4w1 c5w2 e0 e1 e2 e3 e4 i0 i1 i2 i3 i4 HI
            simp only [putted, List.foldl_cons, List.foldl_nil, Act.put, List.setIfInBounds_toArray, List.set_cons_zero, List.set_cons_succ]
            go_wp2_with fail
            exact bodyPost_ret (v := .tuple #[.agg #[.bool s8, .int .u64 x8, .int .u64 y8, .pointer p8, .int .i64 (u1 : Int)], .agg #[.bool sp, .int .u64 xp, .int .u64 yp, .pointer pp, .int .i64 kp]]) (by simp [results, Tryz.results110, go_sem, q0, q1, q2, q3, q4, z0, z1, z2, z3, z4]) rfl ⟨_, _, O1, _, u1, _, rfl, ⟨_, _, _, _, rfl, unhide F8f⟩, unhide R5, unhide FIN, unhide HBf⟩
        · have INT := hide (fun W => fracInt_big n (by omega) W)
          have hnr : room < n := by omega
          · skip
            refine (unhide INT _).mono ?_
            rintro e7 w7 ⟨rfl, hb7⟩
            replace e0 := hb7.cell_some e0 (by simp)
            replace e1 := hb7.cell_some e1 (by simp)
            replace e2 := hb7.cell_some e2 (by simp)
            replace e3 := hb7.cell_some e3 (by simp)
            replace e4 := hb7.cell_some e4 (by simp)
            replace i0 := hb7.cell_some i0 (by simp)
            replace i1 := hb7.cell_some i1 (by simp)
            replace i2 := hb7.cell_some i2 (by simp)
            replace i3 := hb7.cell_some i3 (by simp)
            replace i4 := hb7.cell_some i4 (by simp)
            replace t0 := hb7.cell_some t0 (by simp)
            replace t1 := hb7.cell_some t1 (by simp)
            replace t2 := hb7.cell_some t2 (by simp)
            replace t3 := hb7.cell_some t3 (by simp)
            replace v0 := hb7.cell_some v0 (by simp)
            replace v1 := hb7.cell_some v1 (by simp)
            replace v2 := hb7.cell_some v2 (by simp)
            replace v3 := hb7.cell_some v3 (by simp)
            have KA : Hid (But [g6] wr w7) := (unhide K8).trans' hb7
            replace oc : ∀ j, w7.frozen? ⟨g6, j, none⟩ = false := Open.but (w := V6) (g := g6) oc hb7 (lt_of_cell c60) (by simp)
            clear hb7 K8 INT
            have PLU : Hid (∀ m : Nat, m ≤ 1000000 → ∀ W, But [] w7 W → Calls Tryz.prog 167 #[.agg #[.bool s7, .int .u64 x7, .int .u64 y7, .pointer p7, .int .i64 (u0 : Int)], .int .i64 (m : Int), .agg #[.bool s8, .int .u64 x8, .int .u64 y8, .pointer p8, .int .i64 (u1 : Int)]] W fun e w' => ∃ v, e = .returned v ∧ MarkAt w' v (O0 + (m : Int) * O1) (u0 + m * u1) ∧ But [] W w') := fun m hmm W hb => by
              have q6 : ∀ g ∈ [g6], ∃ s, wr.cell? ⟨g, 0, none⟩ = some (.bool s) := by intro g hg; simp at hg; subst hg; exact ⟨_, (unhide HI).c6.1⟩
              exact markPlus_any _ _ O0 O1 u0 u1 m W ⟨_, _, _, _, rfl, ((unhide HI).f7.overs (unhide KA) q6).but hb⟩ ⟨_, _, _, _, rfl, ((unhide HI).f8.overs (unhide KA) q6).but hb⟩ (Nat.le_trans (unhide HI).nb.u0m hm) (Nat.le_trans (unhide HI).nb.u1m hm) hmm (unhide HSO).1 (unhide HSO).2
            go_wp2_with fail
            refine opsA_region 10 _ w7 _ g7 g8 g4 g5 s7 x7 y7 (u0 : Int) p7 s8 x8 y8 (u1 : Int) p8 (.int .i64 (room : Int)) (fun w v => MarkAt w v (O0 + (room : Int) * O1) (u0 + room * u1)) (stays_mark _ _) (fun w v ⟨s, x, y, p, e, _⟩ => ⟨s, x, y, p, _, e⟩) (by simp) (by simp [Act.eval]) (by simp [Act.eval]) (by simp [Act.eval]) (by simp [Act.eval]) (by simp [Act.eval]) n45 ⟨i0, i1, i2, i3, i4⟩ ⟨e0, e1, e2, e3, e4⟩ ⟨_, _, _, _, _, (unhide HI).c4.but (unhide KA) (by simpa using n46)⟩ ⟨_, _, _, _, _, (unhide HI).c5.but (unhide KA) (by simpa using n56)⟩ ((unhide HI).o4.but (unhide KA) (unhide HI).c4.lt (by simpa using n46)) ((unhide HI).o5.but (unhide KA) (unhide HI).c5.lt (by simpa using n56)) (unhide PLU room hrm) ?_
            intro w1 w2 wf sp xp yp pp kp f1 f2 f3 f4 f5 hr5 f3o f5o
            obtain ⟨sq, xq, yq, pq, eq, hfq⟩ := id hr5
            have c4w1 : ∃ s, w1.cell? ⟨g4, 0, none⟩ = some (.bool s) := ⟨_, f1.cell_some (((unhide HI).c4.but (unhide KA) (by simpa using n46)).1) (by simp)⟩
            have c5w2 : ∃ s, w2.cell? ⟨g5, 0, none⟩ = some (.bool s) := ⟨_, f2.cell_some (f1.cell_some (((unhide HI).c5.but (unhide KA) (by simpa using n56)).1) (by simp)) (by simpa using Ne.symm n45)⟩
            have F8f : Hid (FracAt wf (.agg #[.bool s8, .int .u64 x8, .int .u64 y8, .pointer p8]) ((O1 : Int) : Rat)) := by
              obtain ⟨_, h1⟩ := c4w1
              obtain ⟨_, h2⟩ := c5w2
              exact ((((unhide HI).f8.overs (unhide KA) (by intro g hg; simp at hg; subst hg; exact ⟨_, (unhide HI).c6.1⟩)).but f1).over h1 f2).over h2 f4
            have HBf : Hid (But [] w wf) := (((((unhide HI).but).trans (unhide KA) (fun x hx => by simp at hx; subst hx; exact .inr (unhide HGE).2.2.1)).trans' f1).trans f2 (fun x hx => by simp at hx; subst hx; exact .inr (unhide HGE).1)).trans f4 (fun x hx => by simp at hx; subst hx; exact .inr (unhide HGE).2.1)
            have R5 : Hid (MarkAt wf (.agg #[.bool sp, .int .u64 xp, .int .u64 yp, .pointer pp, .int .i64 kp]) (O0 + (room : Int) * O1) (u0 + room * u1)) := hr5
            have FIN := hide ((unhide HI).nb.sides (unhide HR) room (unhide HRO) (by rw [unhide NX]; omega) hm0)
            obtain ⟨q0, q1, q2, q3, q4⟩ := f3.but f4 (by simpa using n45)
            obtain ⟨z0, z1, z2, z3, z4⟩ := f5
            clear eq hfq hr5 f1 f2 f3 f4 f3o f5o c4w1 c5w2 e0 e1 e2 e3 e4 i0 i1 i2 i3 i4 HI
            simp only [putted, List.foldl_cons, List.foldl_nil, Act.put, List.setIfInBounds_toArray, List.set_cons_zero, List.set_cons_succ]
            go_wp2_with fail
            exact bodyPost_ret (v := .tuple #[.agg #[.bool s8, .int .u64 x8, .int .u64 y8, .pointer p8, .int .i64 (u1 : Int)], .agg #[.bool sp, .int .u64 xp, .int .u64 yp, .pointer pp, .int .i64 kp]]) (by simp [results, Tryz.results110, go_sem, q0, q1, q2, q3, q4, z0, z1, z2, z3, z4]) rfl ⟨_, _, O1, _, u1, _, rfl, ⟨_, _, _, _, rfl, unhide F8f⟩, unhide R5, unhide FIN, unhide HBf⟩

end Go.Proofs.YtihiafgogbhjkaaGreatDoor
