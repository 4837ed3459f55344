/- A triangle's text, as the Go text of package triangle reads it: of a text that the program would write. -/
import Derived.Test.YtjbboicccddhbaaGreatDoorKBTT
namespace Go.Proofs.YtjbboicccddhbaaGreatDoor
open Go.RowKit Go.Shelf
set_option linter.unusedVariables false
attribute [local go_sem] Oper.semAt_some

/-- the line of a row -/
def lineOf (r : List Int) : List UInt8 := jn 32 (r.map Lib.itoa)
theorem jn_not (d b : UInt8) (hb : b ≠ d) : ∀ ws : List (List UInt8), (∀ x ∈ ws, b ∉ x) → b ∉ jn d ws
  | [], _ => by simp [jn]
  | x :: l, h => by
    rw [jn_cons]
    intro hm
    rcases List.mem_append.1 hm with e | e
    · exact h x (by simp) e
    · cases l with
      | nil => simp [tlw] at e
      | cons y l =>
        simp only [tlw, List.mem_cons] at e
        rcases e with e | e
        · exact hb e
        · exact jn_not d b hb (y :: l) (fun z hz => h z (by simp [hz])) e
/-- the rows that say something -/
def rowsL (xss : List (List Int)) {n : Nat} (pre : List (Fin n)) : List (List Int) := (pre.map fun i => xss[i.1]?.getD []).filter (fun r => !r.isEmpty)
theorem rowsL_all (xss : List (List Int)) (n : Nat) (h : n = xss.length) : rowsL xss (List.finRange n) = xss.filter (fun r => !r.isEmpty) := by
  subst h
  unfold rowsL
  congr 1
  refine List.ext_getElem? fun i => ?_
  by_cases hi : i < xss.length
  · rw [List.getElem?_map, List.getElem?_eq_getElem (by simpa using hi), List.getElem?_eq_getElem hi]
    simp
  · rw [List.getElem?_eq_none (by simp; omega), List.getElem?_eq_none (by omega)]
theorem rowsL_len (xss : List (List Int)) {n : Nat} (pre : List (Fin n)) : (rowsL xss pre).length ≤ pre.length := by
  unfold rowsL
  exact Nat.le_trans (List.length_filter_le _ _) (by simp)
/-- what holds between two lines -/
def ParI (w W0 : World) (B2 B3 B4 : Nat) (ys : List (List Int)) (W : World) : Prop := (∃ v, Box1 W B4 74 v ∧ TriG W W0.heap.size v ys) ∧ Box1 W B2 74 (.slice none 0 0) ∧ Box1 W B3 30 .nilIface ∧ W0.heap.size ≤ W.heap.size ∧ But [] w W
/-- the state at a line -/
def actP (t : ByteArray) (B2 B3 B4 gB : Nat) (ps : Int) (line : ByteArray) : Act := { tmps := (Value.string t :: undef :: .pointer (some ⟨B2, 0, none⟩) :: .pointer (some ⟨B3, 0, none⟩) :: .pointer (some ⟨B4, 0, none⟩) :: .int .i64 ps :: .string line :: undef :: undef :: undef :: .string t :: .int .i64 (t.size : Int) :: .bool false :: undef :: .string t :: .func (.func 130) #[] #[.pointer (some ⟨gB, 0, none⟩)] :: .int .i64 ps :: .string line :: undef :: undef :: undef :: undef :: undef :: undef :: undef :: undef :: undef :: undef :: undef :: undef :: undef :: undef :: undef :: undef :: undef :: undef :: undef :: undef :: undef :: undef :: []).toArray, defers := [] }
set_option maxRecDepth 100000 in
set_option maxHeartbeats 16000000 in
theorem parse_any (xss : List (List Int)) (hx : ∀ r ∈ xss, ∀ x ∈ r, 0 ≤ x ∧ x ≤ 1000000000000000) (hxl : ∀ r ∈ xss, r.length ≤ 1000) (hxs : xss.length ≤ 1000) (h1 : 0 < xss.length) (t : ByteArray) (ht : t.data.toList = jn 10 (xss.map lineOf)) (hts : t.size ≤ 50000) (mx : Int) (w : World)
    (htab : Lib.TabIs Tryz.prog w "internal/strconv.uint64pow10" .u64 Lib.pow10Tab) (hm : w.cell? ⟨5, 0, none⟩ = some (.int .i64 mx)) (rs : List (List Int)) (hrs : rs = xss.filter (fun r => !r.isEmpty)) (hok : TriOk rs) :
    Calls Tryz.prog 40 #[.string t] w fun e w' => ∃ v, e = .returned (.tuple #[v, .nilIface]) ∧ TriG w' w.heap.size v rs ∧ But [] w w' := by
  obtain ⟨ls, hls⟩ : ∃ ls, ls = xss.map lineOf := ⟨_, rfl⟩
  rw [← hls] at ht
  have hll : ls.length = xss.length := by rw [hls]; simp
  have hl : ∀ y ∈ ls, (10 : UInt8) ∉ y := fun y hy => by
    rw [hls] at hy
    obtain ⟨r, hr, rfl⟩ := List.mem_map.1 hy
    exact jn_not 32 10 (by decide) _ (fun z hz => (words_are r (fun x h => (hx r hr x h).1) z hz).2.2)
  have h1l : 0 < ls.length := by omega
  have htl : t.size = (jn 10 ls).length := by rw [← ht]; simp
  have RD : Hid (∀ (i : Nat) (hi : i < ls.length) (pl : Int) W, But [] w W → Calls Tryz.prog 88 #[.string ⟨(ls[i]).toArray⟩, .int .i64 pl] W fun e w' => ∃ v, e = .returned (.tuple #[v, .nilIface]) ∧ OwnI w' W.heap.size v (xss[i]?.getD []) ∧ But [] W w') := fun i hi pl W hW => by
    have hi' : i < xss.length := by omega
    have e : xss[i]?.getD [] = xss[i] := by rw [List.getElem?_eq_getElem hi']; rfl
    rw [e]
    have hlen := (len_drop 10 ls i hi).2
    refine read_any xss[i] (hx _ (List.getElem_mem hi')) (hxl _ (List.getElem_mem hi')) _ ?_ ?_ pl mx W (TabIs.but htab hW) (hW.cell_some hm (by simp))
    · have : ls[i] = lineOf xss[i] := by simp [hls]
      rw [this]
      rfl
    · show (ls[i]).toArray.size ≤ 50000
      simp
      omega
  have HLL := hide hll
  have hll1 : ls.length ≤ 1000 := by omega
  have gm := lt_of_cell hm
  have HRS := hide hrs
  have HOK := hide hok
  clear hls hll htl hrs hok
  have hnot : ¬ (50000 : Int) < (t.size : Int) := by omega
  refine (callsIn_wide (n := 4)).1 ?_
  refine callsIn_of_wp_marks Tryz.func40 rfl trivial ?_ rfl
  simp only [Tryz.ntmps40, List.size_toArray, List.length_cons, List.length_nil, Nat.reduceAdd, Nat.reduceSub, Array.replicate_succ, Array.replicate_zero, List.push_toArray, List.append_toArray, List.nil_append, List.cons_append]
  gi_wp2_with (refine ⟨trivial, ?_⟩; gi_at_call 77; refine (lines_in _ _ _).mono ?_; rintro e w' ⟨rfl, rfl⟩)
  obtain ⟨X1, hX1⟩ : ∃ X, X = w.alloc (.cells #[.slice none 0 0] 74) := ⟨_, rfl⟩
  obtain ⟨X2, hX2⟩ : ∃ X, X = X1.alloc (.cells #[.nilIface] 30) := ⟨_, rfl⟩
  obtain ⟨X3, hX3⟩ : ∃ X, X = X2.alloc (.cells #[.slice none 0 0] 74) := ⟨_, rfl⟩
  obtain ⟨W0, hW0⟩ : ∃ X, X = X3.alloc (.cells #[.string t] 9) := ⟨_, rfl⟩
  have s1 : X1.heap.size = w.heap.size + 1 := by rw [hX1]; simp
  have s2 : X2.heap.size = w.heap.size + 2 := by rw [hX2]; simp [s1]
  have s3 : X3.heap.size = w.heap.size + 3 := by rw [hX3]; simp [s2]
  have s4 : W0.heap.size = w.heap.size + 4 := by rw [hW0]; simp [s3]
  have b1 : But [] w X1 := by rw [hX1]; exact (But.refl _ _).alloc _
  have b2 : But [] X1 X2 := by rw [hX2]; exact (But.refl _ _).alloc _
  have b3 : But [] X2 X3 := by rw [hX3]; exact (But.refl _ _).alloc _
  have b4 : But [] X3 W0 := by rw [hW0]; exact (But.refl _ _).alloc _
  have k2 : Box1 W0 w.heap.size 74 (.slice none 0 0) := (((by rw [hX1]; exact Box1.new w _ _ : Box1 X1 w.heap.size 74 (.slice none 0 0)).but b2).but b3).but b4
  have k3 : Box1 W0 X1.heap.size 30 .nilIface := ((by rw [hX2]; exact Box1.new X1 _ _ : Box1 X2 X1.heap.size 30 .nilIface).but b3).but b4
  have k4 : Box1 W0 X2.heap.size 74 (.slice none 0 0) := (by rw [hX3]; exact Box1.new X2 _ _ : Box1 X3 X2.heap.size 74 (.slice none 0 0)).but b4
  have kB : Box1 W0 X3.heap.size 9 (.string t) := by rw [hW0]; exact Box1.new X3 _ _
  have hBW : But [] w W0 := ((b1.trans' b2).trans' b3).trans' b4
  rw [← hX1, ← hX2, ← hX3, ← hW0]
  obtain ⟨gB, hgB⟩ : ∃ g, g = w.heap.size + 1 + 1 + 1 := ⟨_, rfl⟩
  obtain ⟨B4, hB4⟩ : ∃ g, g = w.heap.size + 1 + 1 := ⟨_, rfl⟩
  obtain ⟨B3, hB3⟩ : ∃ g, g = w.heap.size + 1 := ⟨_, rfl⟩
  obtain ⟨B2, hB2⟩ : ∃ g, g = w.heap.size := ⟨_, rfl⟩
  rw [← hB2] at k2
  rw [show X1.heap.size = B3 from by omega] at k3
  rw [show X2.heap.size = B4 from by omega] at k4
  rw [show X3.heap.size = gB from by omega] at kB
  rw [← hgB, ← hB4, ← hB3, ← hB2]
  have o2 : w.heap.size ≤ B2 := by omega
  have o3 : B2 < B3 := by omega
  have o4 : B3 < B4 := by omega
  have oB : B4 < gB := by omega
  have oW : gB < W0.heap.size := by omega
  have hm0 := hBW.cell_some hm (by simp)
  have gm0 : 5 < B2 := by show _ < _; rw [hB2]; exact gm
  clear s1 s2 s3 s4 b1 b2 b3 b4 hX1 hX2 hX3 hW0 hgB hB4 hB3 hB2
  have cB := kB.cell
  refine wpIn_rangeFunc_ownH rfl (by omega) (gf := 130) (lb := #[.pointer (some ⟨gB, 0, none⟩)]) rfl trivial (enters_of Tryz.func130 (by kernel_rfl) rfl)
    (lines_stops _ (by omega) gB W0.heap.size [B4] ls t ht h1l hl hts mx W0 (Nat.le_refl _) cB (by omega) (by simp; omega) hm0 (by omega) (by simp; omega))
    (fun h k => KeptT.trans h k) (fun W l o o' hl _ _ _ => KeptT.put W l o' hl) (Below.refl _ _) (fun _ => rfl)
    (fun pre W => ParI w W0 B2 B3 B4 (rowsL xss pre) W)
    (fun _ _ _ => False)
    (fun pre A B row ⟨⟨v, i1, i2⟩, i3, i4, i5, i6⟩ hg hr => by
      have hc := calm_all hg (fun r e => (hr r e).2)
      exact ⟨⟨v, i1.calm hc, i2.calm hc⟩, i3.calm hc, i4.calm hc, Nat.le_trans i5 hg.size, i6.grown hg (fun r e => by have := (hr r e).1; omega)⟩)
    (fun _ _ _ _ _ h _ _ => h)
    ⟨⟨_, k4, TriG.nil _ _⟩, k2, k3, Nat.le_refl _, hBW⟩
    (fun x a' _ => a' = actP t B2 B3 B4 gB ((posW 10 ls x.1 : Nat) : Int) ⟨(ls[x.1]).toArray⟩)
    (fun x a' _ A B row e hg hr => e) ?assign ?body ?done ?stop
  case assign =>
    rintro l pre x W K hi hK
    gi_wp2
    exact hK _ _ ((KeepsOthers.refl _).from _) (KeptT.refl _ _ _) hi rfl
  case body =>
    rintro l pre ⟨i, hi⟩ a' W hl' ⟨rec, hrec⟩ hI rfl hlt
    obtain ⟨⟨v, i1, i2⟩, i3, i4, i5, i6⟩ := id hI
    obtain ⟨ps, hps⟩ : ∃ ps : Int, ps = ((posW 10 ls i : Nat) : Int) := ⟨_, rfl⟩
    have RDi := hide (unhide RD i hi ps W i6)
    have hsn : Hid (rowsL xss (pre ++ [(⟨i, hi⟩ : Fin ls.length)]) = rowsL xss pre ++ (if (xss[i]?.getD []).isEmpty then [] else [xss[i]?.getD []])) := by
      show _ = _
      unfold rowsL
      rw [List.map_append, List.filter_append]
      congr 1
      cases e : (xss[i]?.getD []).isEmpty with
      | true => simp [e]
      | false => simp [e]
    have hpl : (rowsL xss pre).length < 1000000 := by have := rowsL_len xss pre; omega
    obtain ⟨r, hr⟩ : ∃ r, r = xss[i]?.getD [] := ⟨_, rfl⟩
    rw [← hr] at RDi hsn
    obtain ⟨line, hline⟩ : ∃ line : ByteArray, line = ⟨(ls[i]).toArray⟩ := ⟨_, rfl⟩
    rw [← hline] at RDi ⊢
    rw [← hps]
    unfold actP
    obtain ⟨ys, hys⟩ : ∃ ys, ys = rowsL xss pre := ⟨_, rfl⟩
    rw [← hys] at i2 hpl hsn hI
    have HI := hide hI
    have I1 := hide i1
    have I2 := hide i2
    have HB := hide i6
    clear hr hline hps hys hI i2 i3 i4 hlt RD hrec ht hl hx cB kB k4 k3 k2 i6 hxl hnot
    gi_wp2_with fail
    refine ⟨trivial, ?_⟩
    refine (CallsIn.inRound l (callsIn_wide.2 (unhide RDi))).mono ?_
    rintro e w1 ⟨u, rfl, hu, hb1⟩
    obtain ⟨ua, uc, rfl⟩ := ownsRow_form hu
    have HU := hide (hu.mono i5)
    have B1 := hide hb1
    have j1 := (unhide I1).but hb1
    have jc := j1.cell
    by_cases hr0 : r = []
    · have HSN : Hid (rowsL xss (pre ++ [(⟨i, hi⟩ : Fin ls.length)]) = ys) := by
        show _ = _
        rw [unhide hsn, hr0]
        simp
      have hrl : r.length = 0 := by rw [hr0]; rfl
      rw [hrl]
      have FIN : Hid (KeepsFrom W0.heap.size W w1 ∧ KeptT W0.heap.size [B4] W w1 ∧ ParI w W0 B2 B3 B4 ys w1) := by
        obtain ⟨⟨v, q1, q2⟩, q3, q4, q5, q6⟩ := unhide HI
        obtain ⟨h1, h2⟩ := keeps_of_butL (l := []) hb1 (fun g hg => by simp at hg) W0.heap.size W0.heap.size B4 i5 (fun g hg => by simp at hg)
        exact ⟨h1, h2, ⟨v, q1.but hb1, q2.but hb1⟩, q3.but hb1, q4.but hb1, Nat.le_trans q5 hb1.size, q6.trans' hb1⟩
      clear hu hb1 j1 jc hrl hr0 hsn I2 I1
      gi_wp2
      obtain ⟨f1, f2, f3⟩ := unhide FIN
      show KeepsFrom _ _ _ ∧ KeptT _ _ _ _ ∧ ParI w W0 B2 B3 B4 _ _
      rw [unhide HSN]
      exact ⟨f1, f2, f3⟩
    · have HSN : Hid (rowsL xss (pre ++ [(⟨i, hi⟩ : Fin ls.length)]) = ys ++ [r]) := by
        show _ = _
        rw [unhide hsn]
        cases r with
        | nil => exact absurd rfl hr0
        | cons x l => rfl
      have hrl : 0 < r.length := List.length_pos_iff.2 hr0
      obtain ⟨rl, hrlE⟩ : ∃ rl, rl = r.length := ⟨_, rfl⟩
      rw [← hrlE] at hu hrl HU ⊢
      have hrl2 : (0 : Int) < (rl : Int) := by omega
      obtain ⟨V, hV⟩ : ∃ V, V = w1.alloc (.cells #[.slice ua rl uc] 53) := ⟨_, rfl⟩
      have bV : But [] w1 V := by rw [hV]; exact (But.refl _ _).alloc _
      have cV : V.cell? ⟨w1.heap.size, 0, none⟩ = some (.slice ua rl uc) := by rw [hV]; simp
      have oV : TriG V W0.heap.size v ys := ((unhide I2).but hb1).but bV
      have uV : OwnI V W0.heap.size (.slice ua rl uc) r := (unhide HU).but bV
      have sV : W0.heap.size ≤ V.heap.size := Nat.le_trans i5 (Nat.le_trans hb1.size bV.size)
      obtain ⟨v', w', hr, ho, hg, hty⟩ := append_row V W0.heap.size v ys oV w1.heap.size (.slice ua rl uc) r uV cV hpl sV
      have bG := but_of_grownO hg
      have hown : ∀ g ∈ v.ownBlock.toList, W0.heap.size ≤ g := fun g hgm => by
        obtain ⟨us, -, h2, -⟩ := oV
        rcases h2.2 with ⟨rfl, -⟩ | ⟨g', cap, cur, rfl, q1, q2, -⟩
        · simp [Value.ownBlock] at hgm
        · simp only [Value.ownBlock, Option.toList_some, List.mem_cons, List.not_mem_nil, or_false] at hgm
          subst hgm
          exact q1
      have jV := j1.but bV
      have j6 : Box1 w' B4 74 v := jV.beside bG (fun hm => by have := hown _ hm; omega)
      have cl6 := j6.cell
      have fz6 := j6.loose
      have FIN : Hid (KeepsFrom W0.heap.size W (w'.setCell ⟨B4, 0, none⟩ v') ∧ KeptT W0.heap.size [B4] W (w'.setCell ⟨B4, 0, none⟩ v') ∧ ParI w W0 B2 B3 B4 (ys ++ [r]) (w'.setCell ⟨B4, 0, none⟩ v')) := by
        have hS := setCell_but w' B4 v'
        have b13 : But [] W V := hb1.trans' bV
        have hBB : But (v.ownBlock.toList ++ [B4]) W (w'.setCell ⟨B4, 0, none⟩ v') := ((But.of_nil b13 : But (v.ownBlock.toList ++ [B4]) W V).trans bG (fun x hx => .inl (List.mem_append_left _ hx))).trans hS (fun x hx => .inl (List.mem_append_right _ hx))
        have hcl : ∀ g ∈ v.ownBlock.toList ++ [B4], (g = B4 ∨ W0.heap.size ≤ g) ∧ ∃ cur T, W.heap[g]? = some (.cells cur T (0, 0)) := fun g hgm => by
          rcases List.mem_append.1 hgm with h | h
          · obtain ⟨us, -, h2, -⟩ := unhide I2
            rcases h2.2 with ⟨rfl, -⟩ | ⟨g', cap, cur, rfl, q1, q2, -⟩
            · simp [Value.ownBlock] at h
            · simp only [Value.ownBlock, Option.toList_some, List.mem_cons, List.not_mem_nil, or_false] at h
              subst h
              exact ⟨.inr q1, cur, _, q2⟩
          · simp only [List.mem_cons, List.not_mem_nil, or_false] at h
            subst h
            exact ⟨.inl rfl, _, _, unhide I1⟩
        obtain ⟨h1, h2⟩ := keeps_of_butL hBB (fun g hgm => (hcl g hgm).2) W0.heap.size W0.heap.size B4 i5 (fun g hgm => (hcl g hgm).1)
        obtain ⟨-, i3, i4, -, -⟩ := unhide HI
        have hno : ∀ b, b < W0.heap.size → b ∉ v.ownBlock.toList := fun b hb hm => by have := hown b hm; omega
        refine ⟨h1, h2, ⟨v', j6.set v', ho.apart j6 (by decide) (by decide) hS⟩, ((i3.but b13).beside bG (hno _ (by omega))).beside hS (by simp; omega), ((i4.but b13).beside bG (hno _ (by omega))).beside hS (by simp; omega), Nat.le_trans i5 hBB.size, (unhide HB).trans hBB (fun x hx => .inr ?_)⟩
        rcases (hcl x hx).1 with e | e
        · omega
        · omega
      have HR : Hid ((Builtin.append_ #[74, 74] 74 #[v, .slice (some ⟨w1.heap.size, 0, none⟩) 1 1]).run Tryz.prog (w1.alloc (.cells #[.slice ua rl uc] 53)) = .ok v' w') := by rw [← hV]; exact hr
      obtain ⟨a', m', c', hv'⟩ : ∃ a' m' c', v' = .slice a' m' c' := by
        obtain ⟨us, -, h2, -⟩ := ho
        obtain ⟨a', c', e⟩ := ownsRow_form h2
        exact ⟨a', _, c', e⟩
      subst hv'
      clear hr ho hg bG hown jV j6 hV bV cV oV uV sV j1 hb1 hu hty hrlE hr0 hsn I2 I1
      gi_wp2_with (gi_at_builtin; refine wpListIn_app rfl _ _ 74 74 rfl _ _ (.slice a' m' c') w' rfl rfl (unhide HR) ?_)
      obtain ⟨f1, f2, f3⟩ := unhide FIN
      show KeepsFrom _ _ _ ∧ KeptT _ _ _ _ ∧ ParI w W0 B2 B3 B4 _ _
      rw [unhide HSN]
      exact ⟨f1, f2, f3⟩
  case done =>
    rintro D zs W hD rfl hI hK
    obtain ⟨⟨v, i1, i2⟩, i3, i4, i5, i6⟩ := hI
    rw [rowsL_all xss ls.length (unhide HLL), ← unhide HRS] at i2
    have TC := hide (triCheck_any v rs W i2.tri)
    obtain ⟨a', m', c', hv'⟩ : ∃ a' m' c', v = .slice a' m' c' := by
      obtain ⟨us, -, h2, -⟩ := i2
      obtain ⟨a', c', e⟩ := ownsRow_form h2
      exact ⟨a', _, c', e⟩
    subst hv'
    have I2 := hide i2
    have HB := hide i6
    have I1 := hide i1
    have I3 := hide i3
    have I4 := hide i4
    have c6 := i1.cell
    have HK := hide hK
    clear i1 i2 i3 i4 i6 RD ht hl hx cB kB k4 k3 k2 hK
    gi_wp2_with fail
    refine ⟨trivial, ?_⟩
    refine (callsIn_wide.2 (unhide TC)).mono ?_
    rintro e w3 ⟨r, rfl, hb3, ⟨-, rfl⟩ | ⟨hno, -⟩⟩
    · have x2 := (unhide I3).but hb3
      have x3 := (unhide I4).but hb3
      have x4 := (unhide I1).but hb3
      have c2 := x2.cell
      have c3 := x3.cell
      have c4 := x4.cell
      have z2 := x2.loose
      have z3 := x3.loose
      have l4 := x4.lt
      have l2 := x2.lt
      have l3 := x3.lt
      have X2 := hide x2
      have X3 := hide x3
      have B3' := hide hb3
      clear x2 x3 x4 hb3 c6
      gi_wp2
      have y4 : Box1 (w3.setCell ⟨B2, 0, none⟩ (.slice a' m' c')) B2 74 (.slice a' m' c') := (unhide X2).set _
      have hS4 := setCell_but w3 B2 (.slice a' m' c')
      have y5 : Box1 (w3.setCell ⟨B2, 0, none⟩ (.slice a' m' c')) B3 30 .nilIface := (unhide X3).beside hS4 (by simp; omega)
      have hS5 := setCell_but (w3.setCell ⟨B2, 0, none⟩ (.slice a' m' c')) B3 .nilIface
      obtain ⟨Z, hZ⟩ : ∃ Z, Z = (w3.setCell ⟨B2, 0, none⟩ (.slice a' m' c')).setCell ⟨B3, 0, none⟩ .nilIface := ⟨_, rfl⟩
      rw [← hZ]
      rw [← hZ] at hS5
      have x4 : Box1 Z B2 74 (.slice a' m' c') := y4.beside hS5 (by simp; omega)
      have x5 : Box1 Z B3 30 .nilIface := by rw [hZ]; exact y5.set _
      have hBZ : But [B2, B3] w3 Z := (But.trans (l := [B2, B3]) ((But.refl _ _).trans hS4 (fun x hx => .inl (by simp at hx; simp [hx]))) hS5 (fun x hx => .inl (by simp at hx; simp [hx])))
      have oZ : TriG Z W0.heap.size (.slice a' m' c') rs := (((unhide I2).but (unhide B3')).apart (unhide X2) (by decide) (by decide) hS4).apart y5 (by decide) (by decide) hS5
      have kD : Z.heap[D]? = some (.deferred (some [])) := (hBZ.block D (Nat.lt_of_lt_of_le (Array.getElem?_eq_some_iff.1 (unhide HK)).1 (unhide B3').size) (by simp; omega)).trans (((unhide B3').block D (Array.getElem?_eq_some_iff.1 (unhide HK)).1 (by simp)).trans (unhide HK))
      have bZ : But [] w Z := ((unhide HB).trans' (unhide B3')).trans hBZ (fun x hx => .inr (by simp at hx; omega))
      have bD : But [D] Z (Z.putObj D (.deferred none)) := ⟨rfl, rfl, rfl, by simp, fun k _ hk => World.putObj_heap_other (by simpa using hk)⟩
      have q4 : (Z.putObj D (.deferred none)).cell? ⟨B2, 0, none⟩ = some (.slice a' m' c') := (x4.beside bD (by simp; omega)).cell
      have q5 : (Z.putObj D (.deferred none)).cell? ⟨B3, 0, none⟩ = some .nilIface := (x5.beside bD (by simp; omega)).cell
      have oD : TriG (Z.putObj D (.deferred none)) W0.heap.size (.slice a' m' c') rs := oZ.calm (fun k o hk ho => by
        refine (World.putObj_heap_other (fun e => ?_)).trans hk
        rw [e, kD] at hk
        obtain rfl := Option.some.inj hk
        simp [Obj.isCells] at ho)
      have bF : But [] w (Z.putObj D (.deferred none)) := bZ.trans bD (fun x hx => by simp at hx; subst hx; exact .inr (by omega))
      clear hZ y4 y5 hS4 hS5 x4 x5 hBZ oZ bZ bD
      refine ⟨by simp, .inl ⟨_, _, rfl, run_takeDeferred kD, ?_⟩⟩
      exact ⟨.tuple #[.slice a' m' c', .nilIface], (by simp [results, Tryz.results40, go_sem, q4, q5]), _, rfl, oD.mono (by omega), bF⟩
    · exact absurd (unhide HOK) hno
  case stop =>
    rintro D c pre W _ _ h
    exact h.elim
end Go.Proofs.YtjbboicccddhbaaGreatDoor
