/- A text that is built piece by piece, off the shelf. -/
import Derived.Shelf.Strings.Builder1
import Derived.Test.YtjbboicccddhbaaGreatDoorKBTW
namespace Go.Proofs
open Go.Shelf Go.RowKit
def Tryz.lays167_ren : Go.Shelf.Ren := ⟨fun | 167 => 75 | 240 => 126 | 276 => 169 | n => n, fun | 0 => 0 | 4 => 4 | 5 => 5 | 9 => 9 | 20 => 20 | 37 => 123 | 70 => 122 | 72 => 125 | 80 => 33 | 75 => 30 | 164 => 215 | n => n, fun | n => n⟩
theorem Tryz.lays167 : Go.Proofs.Lays.n167 Tryz.prog Tryz.lays167_ren := {
  mixed := by kernel_rfl
  f167 := Tryz.func75.trans (congrArg some (by kernel_rfl))
  f240 := Tryz.func126.trans (congrArg some (by kernel_rfl))
  f276 := Tryz.func169.trans (congrArg some (by kernel_rfl))
  t0 := Tryz.underlying0
  a0 := Tryz.isAgg0
  z0 := Tryz.sizeOf0
  v0 := Tryz.zeroValue0
  t4 := Tryz.underlying4
  a4 := Tryz.isAgg4
  z4 := Tryz.sizeOf4
  v4 := Tryz.zeroValue4
  t5 := Tryz.underlying5
  a5 := Tryz.isAgg5
  z5 := Tryz.sizeOf5
  v5 := Tryz.zeroValue5
  t9 := Tryz.underlying9
  a9 := Tryz.isAgg9
  z9 := Tryz.sizeOf9
  v9 := Tryz.zeroValue9
  t20 := Tryz.underlying20
  a20 := Tryz.isAgg20
  z20 := Tryz.sizeOf20
  v20 := Tryz.zeroValue20
  t37 := Tryz.underlying123
  a37 := Tryz.isAgg123
  z37 := Tryz.sizeOf123
  v37 := Tryz.zeroValue123
  t70 := Tryz.underlying122
  a70 := Tryz.isAgg122
  z70 := Tryz.sizeOf122
  v70 := Tryz.zeroValue122
  t72 := Tryz.underlying125
  a72 := Tryz.isAgg125
  z72 := Tryz.sizeOf125
  v72 := Tryz.zeroValue125
  t75 := Tryz.underlying30
  a75 := Tryz.isAgg30
  z75 := Tryz.sizeOf30
  v75 := Tryz.zeroValue30
  t164 := Tryz.underlying215
  a164 := Tryz.isAgg215
  z164 := Tryz.sizeOf215
  v164 := Tryz.zeroValue215 }
def Tryz.lays166_ren : Go.Shelf.Ren := ⟨fun | 166 => 73 | 240 => 126 | 276 => 169 | n => n, fun | 0 => 0 | 3 => 3 | 4 => 4 | 5 => 5 | 9 => 9 | 20 => 20 | 37 => 123 | 70 => 122 | 72 => 125 | 80 => 33 | 75 => 30 | 164 => 215 | n => n, fun | n => n⟩
theorem Tryz.lays166 : Go.Proofs.Lays.n166 Tryz.prog Tryz.lays166_ren := {
  mixed := by kernel_rfl
  f166 := Tryz.func73.trans (congrArg some (by kernel_rfl))
  f240 := Tryz.func126.trans (congrArg some (by kernel_rfl))
  f276 := Tryz.func169.trans (congrArg some (by kernel_rfl))
  t0 := Tryz.underlying0
  a0 := Tryz.isAgg0
  z0 := Tryz.sizeOf0
  v0 := Tryz.zeroValue0
  t3 := Tryz.underlying3
  a3 := Tryz.isAgg3
  z3 := Tryz.sizeOf3
  v3 := Tryz.zeroValue3
  t4 := Tryz.underlying4
  a4 := Tryz.isAgg4
  z4 := Tryz.sizeOf4
  v4 := Tryz.zeroValue4
  t9 := Tryz.underlying9
  a9 := Tryz.isAgg9
  z9 := Tryz.sizeOf9
  v9 := Tryz.zeroValue9
  t20 := Tryz.underlying20
  a20 := Tryz.isAgg20
  z20 := Tryz.sizeOf20
  v20 := Tryz.zeroValue20
  t37 := Tryz.underlying123
  a37 := Tryz.isAgg123
  z37 := Tryz.sizeOf123
  v37 := Tryz.zeroValue123
  t70 := Tryz.underlying122
  a70 := Tryz.isAgg122
  z70 := Tryz.sizeOf122
  v70 := Tryz.zeroValue122
  t72 := Tryz.underlying125
  a72 := Tryz.isAgg125
  z72 := Tryz.sizeOf125
  v72 := Tryz.zeroValue125
  t75 := Tryz.underlying30
  a75 := Tryz.isAgg30
  z75 := Tryz.sizeOf30
  v75 := Tryz.zeroValue30
  t164 := Tryz.underlying215
  a164 := Tryz.isAgg215
  z164 := Tryz.sizeOf215
  v164 := Tryz.zeroValue215 }
def Tryz.lays169_ren : Go.Shelf.Ren := ⟨fun | 169 => 76 | n => n, fun | 0 => 0 | 3 => 3 | 5 => 5 | 9 => 9 | 37 => 123 | 70 => 122 | 72 => 125 | 127 => 185 | n => n, fun | n => n⟩
theorem Tryz.lays169 : Go.Proofs.Lays.n169 Tryz.prog Tryz.lays169_ren := {
  mixed := by kernel_rfl
  f169 := Tryz.func76.trans (congrArg some (by kernel_rfl))
  t0 := Tryz.underlying0
  a0 := Tryz.isAgg0
  z0 := Tryz.sizeOf0
  v0 := Tryz.zeroValue0
  t3 := Tryz.underlying3
  a3 := Tryz.isAgg3
  z3 := Tryz.sizeOf3
  v3 := Tryz.zeroValue3
  t9 := Tryz.underlying9
  a9 := Tryz.isAgg9
  z9 := Tryz.sizeOf9
  v9 := Tryz.zeroValue9
  t37 := Tryz.underlying123
  a37 := Tryz.isAgg123
  z37 := Tryz.sizeOf123
  v37 := Tryz.zeroValue123
  t70 := Tryz.underlying122
  a70 := Tryz.isAgg122
  z70 := Tryz.sizeOf122
  v70 := Tryz.zeroValue122
  t72 := Tryz.underlying125
  a72 := Tryz.isAgg125
  z72 := Tryz.sizeOf125
  v72 := Tryz.zeroValue125
  t127 := Tryz.underlying185
  a127 := Tryz.isAgg185
  z127 := Tryz.sizeOf185
  v127 := Tryz.zeroValue185 }
theorem Tryz.builderExtra167 : Builder.Extra Tryz.prog Tryz.lays167_ren where
  sizeBuilder := by kernel_rfl
  liesBuilder := by kernel_rfl
  t5 := Tryz.underlying5
  a5 := Tryz.isAgg5
  z5 := Tryz.sizeOf5
  v5 := Tryz.zeroValue5
  infoByte := by kernel_rfl
  cellsByte := by kernel_rfl
  sizeByte := by kernel_rfl
  neB5 := by decide
theorem Tryz.builderExtra166 : Builder.Extra Tryz.prog Tryz.lays166_ren where
  sizeBuilder := by kernel_rfl
  liesBuilder := by kernel_rfl
  t5 := Tryz.underlying5
  a5 := Tryz.isAgg5
  z5 := Tryz.sizeOf5
  v5 := Tryz.zeroValue5
  infoByte := by kernel_rfl
  cellsByte := by kernel_rfl
  sizeByte := by kernel_rfl
  neB5 := by decide
theorem Tryz.builderExtra169 : Builder.Extra Tryz.prog Tryz.lays169_ren where
  sizeBuilder := by kernel_rfl
  liesBuilder := by kernel_rfl
  t5 := Tryz.underlying5
  a5 := Tryz.isAgg5
  z5 := Tryz.sizeOf5
  v5 := Tryz.zeroValue5
  infoByte := by kernel_rfl
  cellsByte := by kernel_rfl
  sizeByte := by kernel_rfl
  neB5 := by decide
end Go.Proofs
namespace Go.Proofs.YtjbboicccddhbaaGreatDoor
open Go.RowKit Go.Shelf
set_option linter.unusedVariables false

/-- a builder that holds a text -/
def BldAt (w : World) (b : Nat) (l : List UInt8) : Prop := Lib.IsBuilder 125 5 b b (Lib.byteCells l) w
theorem BldAt.but {w w' : World} {b : Nat} {l : List UInt8} (h : BldAt w b l) (hb : But [] w w') : BldAt w' b l := by
  have one : ∀ p, Lib.BuilderAt 125 5 b b p (Lib.byteCells l) w → Lib.BuilderAt 125 5 b b p (Lib.byteCells l) w' := fun p ⟨h1, v, h2, h3, h4⟩ => by
    refine ⟨h1, v, (hb.block b (Array.getElem?_eq_some_iff.1 h2).1 (by simp)).trans h2, h3.kept (row := none) ⟨hb.os, hb.tape, hb.output, hb.size, fun k hk _ => hb.block k hk (by simp)⟩ ?_, h4⟩
    cases h5 : v.ownBlock with
    | none => exact .inl rfl
    | some x => exact .inr (by simp)
  rcases h with h | h
  · exact .inl (one _ h)
  · exact .inr (one _ h)
theorem BldAt.new (w : World) : BldAt (w.alloc (.cells #[.pointer none, .slice none 0 0] 125)) w.heap.size [] :=
  .inl ⟨Nat.le_refl _, .slice none 0 0, World.alloc_heap_new w _, World.ownsRow_nil _ _ _ _, by simp [Value.ownBlock]⟩
theorem bytes_snoc (l : List UInt8) (c : UInt8) : Lib.byteCells l ++ [.int .u8 (c.toNat : Int)] = Lib.byteCells (l ++ [c]) := by
  unfold Lib.byteCells
  rw [List.map_append]
  try rfl
theorem bytes_text (l : List UInt8) (s : ByteArray) : Lib.byteCells l ++ Lib.strCells s = Lib.byteCells (l ++ s.data.toList) := by
  unfold Lib.byteCells Lib.strCells
  rw [List.map_append]
  try rfl
theorem writeByte_any (b : Nat) (l : List UInt8) (c : UInt8) (w : World) (h : BldAt w b l) (hl : l.length < 1000000) (hb : b < w.heap.size) :
    Calls Tryz.prog 75 #[.pointer (some ⟨b, 0, none⟩), .int .u8 (c.toNat : Int)] w fun e w' => e = .returned .nilIface ∧ BldAt w' b (l ++ [c]) ∧ Below b w w' := by
  have hx := Any.Builder_WriteByte Tryz.lays167 Tryz.builderExtra167 b b (Lib.byteCells l) (c.toNat : Int) w h (by unfold Lib.byteCells; rw [List.length_map]; omega) (by omega)
  refine hx.mono ?_
  rintro e w' ⟨rfl, h1, h2⟩
  refine ⟨rfl, .inr ?_, h2⟩
  rw [bytes_snoc] at h1
  exact h1
theorem writeString_any (b : Nat) (l : List UInt8) (s : ByteArray) (w : World) (h : BldAt w b l) (hl : l.length < 1000000) (hs : s.size < 1000000) (hb : b < w.heap.size) :
    Calls Tryz.prog 73 #[.pointer (some ⟨b, 0, none⟩), .string s] w fun e w' => e = .returned (.tuple #[.int .i64 (s.size : Int), .nilIface]) ∧ BldAt w' b (l ++ s.data.toList) ∧ Below b w w' := by
  have hx := Any.Builder_WriteString Tryz.lays166 Tryz.builderExtra166 b b (Lib.byteCells l) s w h (by unfold Lib.byteCells; rw [List.length_map]; omega) (by omega)
  refine hx.mono ?_
  rintro e w' ⟨rfl, h1, h2⟩
  refine ⟨rfl, .inr ?_, h2⟩
  rw [bytes_text] at h1
  exact h1
theorem builderString_any (b : Nat) (l : List UInt8) (w : World) (h : BldAt w b l) (hb : b < w.heap.size) :
    Calls Tryz.prog 76 #[.pointer (some ⟨b, 0, none⟩)] w fun e w' => e = .returned (.string ⟨l.toArray⟩) ∧ Below b w w' :=
  Any.Builder_String_any Tryz.lays169 Tryz.builderExtra169 b b l w h (by omega)
end Go.Proofs.YtjbboicccddhbaaGreatDoor

namespace Go.Proofs.YtjbboicccddhbaaGreatDoor
open Go.RowKit Go.Shelf
set_option linter.unusedVariables false

theorem jn_snoc (d : UInt8) (x : List UInt8) : ∀ l : List (List UInt8), jn d (l ++ [x]) = if l = [] then x else jn d l ++ d :: x
  | [] => by simp [jn]
  | [y] => by simp [jn]
  | y :: z :: l => by
    have ih := jn_snoc d x (z :: l)
    rw [if_neg (by simp)] at ih ⊢
    show jn d (y :: (z :: l ++ [x])) = jn d (y :: z :: l) ++ d :: x
    rw [jn_cons]
    show y ++ d :: jn d (z :: l ++ [x]) = (y ++ d :: jn d (z :: l)) ++ d :: x
    rw [ih]
    simp
/-- the first numbers of a row, written -/
def lnP (r : List Int) (j : Nat) : List UInt8 := jn 32 ((r.take j).map Lib.itoa)
theorem lnP_next (r : List Int) (j : Nat) (z : Int) (h : r[j]? = some z) : lnP r (j + 1) = lnP r j ++ (if 0 < j then [32] else []) ++ Lib.itoa z := by
  unfold lnP
  rw [List.take_add_one, h]
  simp only [Option.toList_some, List.map_append, List.map_cons, List.map_nil]
  rw [jn_snoc]
  have hj : j < r.length := (List.getElem?_eq_some_iff.1 h).1
  by_cases h0 : j = 0
  · subst h0
    simp [jn]
  · rw [if_neg (by
      intro e
      have : ((r.take j).map Lib.itoa).length = 0 := by rw [e]; rfl
      rw [List.length_map, List.length_take] at this
      omega), if_pos (by omega)]
    simp
/-- the first rows, written -/
def txtP (t : List (List Int)) (i : Nat) : List UInt8 := (t.take i).flatMap fun r => lineOf r ++ [10]
theorem txtP_next (t : List (List Int)) (i : Nat) (r : List Int) (h : t[i]? = some r) : txtP t (i + 1) = txtP t i ++ lineOf r ++ [10] := by
  unfold txtP
  rw [List.take_add_one, h]
  simp
theorem itoa_len (z : Int) (h0 : 0 ≤ z) (h1 : z ≤ 1000000000000000) : (Lib.itoa z).length ≤ 16 := by
  rw [itoa_of z h0]
  exact digits_len 15 z.toNat (by omega)
theorem lnP_len (r : List Int) (hr : ∀ x ∈ r, 0 ≤ x ∧ x ≤ 1000000000000000) : ∀ j, (lnP r j).length ≤ 17 * j
  | 0 => by simp [lnP, jn]
  | j + 1 => by
    have ih := lnP_len r hr j
    by_cases h : j < r.length
    · have hz := hr r[j] (List.getElem_mem h)
      rw [lnP_next r j r[j] (List.getElem?_eq_getElem h), List.length_append, List.length_append]
      have := itoa_len r[j] hz.1 hz.2
      split <;> simp <;> omega
    · have : lnP r (j + 1) = lnP r j := by
        unfold lnP
        rw [List.take_of_length_le (by omega), List.take_of_length_le (by omega)]
      rw [this]
      omega
theorem lnP_all (r : List Int) (j : Nat) (h : r.length ≤ j) : lnP r j = lineOf r := by
  unfold lnP lineOf
  rw [List.take_of_length_le h]
theorem txtP_len {t : List (List Int)} (h : TriOk t) : ∀ i, (txtP t i).length ≤ 400 * i
  | 0 => by simp [txtP]
  | i + 1 => by
    have ih := txtP_len h i
    by_cases hi : i < t.length
    · have he : t[i]? = some t[i] := List.getElem?_eq_getElem hi
      have hr := (h.2.2 i _ he)
      have hl := lnP_len t[i] hr.2 t[i].length
      rw [lnP_all _ _ (Nat.le_refl _)] at hl
      have := hr.1
      have := h.2.1
      rw [txtP_next t i _ he, List.length_append, List.length_append]
      simp
      omega
    · have : txtP t (i + 1) = txtP t i := by
        unfold txtP
        rw [List.take_of_length_le (by omega), List.take_of_length_le (by omega)]
      rw [this]
      omega
/-- the whole text is the lines with a line feed between, the last one empty -/
theorem jn_lines : ∀ ls : List (List UInt8), jn 10 (ls ++ [[]]) = ls.flatMap fun x => x ++ [10]
  | [] => rfl
  | x :: l => by
    rw [List.cons_append, jn_cons, List.flatMap_cons, ← jn_lines l]
    cases l with
    | nil => simp [tlw, jn]
    | cons y l => simp [tlw]
theorem txt_is (t : List (List Int)) : txtP t t.length = jn 10 ((t ++ [[]]).map lineOf) := by
  rw [List.map_append]
  show _ = jn 10 (t.map lineOf ++ [lineOf []])
  have e : lineOf [] = [] := rfl
  rw [e, jn_lines]
  unfold txtP
  rw [List.take_of_length_le (Nat.le_refl _), List.flatMap_map]
theorem but_below {a w w' : World} (h : But [] a w) (hb : Below a.heap.size w w') : But [] a w' := But.of_below (h.below.trans hb)
def TxtPost (t : List (List Int)) (w : World) (e : Ending) (w' : World) : Prop := But [] w w' ∧
  ((TriOk t ∧ e = .returned (.tuple #[.string ⟨(txtP t t.length).toArray⟩, .nilIface])) ∨ (¬ TriOk t ∧ ∃ c, e = .returned (.tuple #[.string ⟨#[]⟩, .iface 92 (.int .i64 c)])))
set_option maxHeartbeats 8000000 in
set_option maxRecDepth 100000 in
theorem text_any (v : Value) (t : List (List Int)) (w : World) (hv : TriAt w v t) (htab : Lib.TabIs Tryz.prog w "internal/strconv.uint64pow10" .u64 Lib.pow10Tab) :
    Calls Tryz.prog 39 #[v] w fun e w' => TxtPost t w e w' := by
  have CH := hide (triCheck_any v t w hv)
  obtain ⟨a, cap, rfl, hcap, hc⟩ := id hv
  obtain ⟨n, hn⟩ : ∃ n, n = t.length := ⟨_, rfl⟩
  have HC := hide hc
  rw [← hn] at CH ⊢
  have HN := hide hn
  have HT := hide htab
  clear hv hc hcap hn htab
  go_enter Tryz.func39, Tryz.ntmps39
  go_wp2_with fail
  refine (unhide CH).mono ?_
  rintro e w1 ⟨r, rfl, hb1, ⟨hok, rfl⟩ | ⟨hno, c, rfl⟩⟩
  · have n20 : n ≤ 20 := by rw [unhide HN]; exact hok.2.1
    have HOK := hide hok
    have HB1 := hide hb1
    obtain ⟨U, hU⟩ : ∃ U, U = w1.alloc (.cells #[.pointer none, .slice none 0 0] 125) := ⟨_, rfl⟩
    have bU : But [] w1 U := by rw [hU]; exact (But.refl _ _).alloc _
    have lU : w1.heap.size < U.heap.size := by rw [hU]; simp
    have dU : BldAt U w1.heap.size [] := by rw [hU]; exact BldAt.new w1
    obtain ⟨b, hb⟩ : ∃ b, b = w1.heap.size := ⟨_, rfl⟩
    rw [← hb] at dU lU
    have I0 : Hid (BldAt U b (txtP t 0) ∧ But [] w1 U ∧ b < U.heap.size) := ⟨dU, bU, lU⟩
    have HBB := hide hb
    have BB : Hid (∀ X Y, But [] w1 X → Below b X Y → But [] w1 Y) := fun X Y h1 h2 => but_below h1 (by rw [← hb]; exact h2)
    clear hok hb1 CH dU bU lU
    dsimp only
    go_wp2
    rw [← hU, ← hb]
    clear hU hb
    go_loopw [17] (fun iv wr => ∃ i : Nat, i ≤ n ∧ iv = .int .i64 (i : Int) ∧ Hid (BldAt wr b (txtP t i) ∧ But [] w1 wr ∧ b < wr.heap.size)) (fun iv _ => n - (intOf iv).toNat)
    case atStart => exact ⟨0, Nat.zero_le _, rfl, unhide I0⟩
    case round =>
      obtain ⟨i, hi, rfl, HI⟩ := hrel
      rename World => wr
      clear I0
      by_cases hlt : i < n
      · have hil : i < t.length := by have := unhide HN; omega
        have hge : t[i]? = some t[i] := List.getElem?_eq_getElem hil
        obtain ⟨r, hr⟩ : ∃ r, r = t[i] := ⟨_, rfl⟩
        rw [← hr] at hge
        obtain ⟨tb, tof, rv', rfl, c0, c1⟩ := unhide HC i r hge
        have BWR : Hid (But [] w wr) := (unhide HB1).trans' (unhide HI).2.1
        have d0 := (unhide BWR).cell_some c0 (by simp)
        obtain ⟨ra, rcap, rfl, hrc, hri⟩ := c1.but (unhide BWR)
        have hok := (unhide HOK).2.2 i r hge
        have hrl : r.length = n - i := by rw [hok.1, unhide HN]
        obtain ⟨rn, hrn⟩ : ∃ rn, rn = r.length := ⟨_, rfl⟩
        rw [← hrn] at d0
        have hrn1 : rn ≤ 20 := by omega
        have HRN := hide hrn
        have HGE := hide hge
        have HRO := hide hok.2
        have HRI := hide hri
        have D0 := hide d0
        have len0 := txtP_len (unhide HOK) i
        have len1 : (txtP t i).length ≤ 8000 := by omega
        clear c0 c1 hge hr hri hrn hrl hok hrc hil len0
        go_wp2
        go_loopw [23] (fun jv wj => ∃ j : Nat, j ≤ rn ∧ jv = .int .i64 (j : Int) ∧ Hid (BldAt wj b (txtP t i ++ lnP r j) ∧ But [] w1 wj ∧ b < wj.heap.size ∧ But [] w wj)) (fun jv _ => rn - (intOf jv).toNat)
        case atStart => exact ⟨0, Nat.zero_le _, rfl, by
          have h := (unhide HI).1
          have e : lnP r 0 = [] := rfl
          refine ⟨?_, (unhide HI).2.1, (unhide HI).2.2, unhide BWR⟩
          rw [e, List.append_nil]
          exact h⟩
        case round =>
          obtain ⟨j, hj, rfl, HJ⟩ := hrel
          rename World => wj
          by_cases hjl : j < rn
          · obtain ⟨z, hz⟩ : ∃ z, r[j]? = some z := ⟨_, List.getElem?_eq_getElem (by have := unhide HRN; omega)⟩
            have zb := unhide HRO z (List.mem_of_getElem? hz)
            obtain ⟨rb, ro, era, cz0⟩ := unhide HRI j z hz
            subst era
            have cz := cz0
            have hbk : Hid (wj.cell? ⟨rb, ro + j, none⟩ = some (.int .i64 z)) := by
              obtain ⟨b2, o2, rv2, e2, x0, x1⟩ := unhide HC i r (unhide HGE)
              have y0 := (unhide BWR).cell_some x0 (by simp)
              simp only [Option.some.injEq, Addr.mk.injEq] at e2
              obtain ⟨rfl, rfl, -⟩ := e2
              rw [unhide D0] at y0
              obtain rfl := Option.some.inj y0
              obtain ⟨a3, c3, e3, -, h3⟩ := x1.but (unhide HJ).2.2.2
              obtain ⟨b4, o4, e4, h4⟩ := h3 j z hz
              simp only [Value.slice.injEq] at e3
              rw [← e3.1] at e4
              simp only [Option.some.injEq, Addr.mk.injEq] at e4
              obtain ⟨rfl, rfl, -⟩ := e4
              exact h4
            have dz := unhide hbk
            have NXL : Hid (txtP t i ++ lnP r (j + 1) = txtP t i ++ lnP r j ++ (if 0 < j then [32] else []) ++ Lib.itoa z) := by
              show _ = _
              rw [lnP_next r j z hz]
              simp
            have ll := lnP_len r (unhide HRO) j
            have hle : (txtP t i ++ lnP r j).length ≤ 9000 := by rw [List.length_append]; omega
            obtain ⟨L, hL⟩ : ∃ L, L = txtP t i ++ lnP r j := ⟨_, rfl⟩
            rw [← hL] at hle NXL
            have HJ0 : Hid (BldAt wj b L) := by rw [hL]; exact (unhide HJ).1
            obtain ⟨s, hs⟩ : ∃ s : ByteArray, s = ⟨(Lib.itoa z).toArray⟩ := ⟨_, rfl⟩
            have hsz : s.size ≤ 16 := by rw [hs]; exact itoa_len z zb.1 zb.2
            have hsl : s.data.toList = Lib.itoa z := by rw [hs]
            have ITO : Hid (∀ W, But [] w W → Calls Tryz.prog 87 #[.int .i64 z] W fun e w' => e = .returned (.string s) ∧ But [] W w') := fun W hW => by
              have h := Any.strconv_Itoa Tryz.laysM171 z (by omega) (by omega) W (TabIs.but (unhide HT) hW)
              rw [← hs] at h
              exact h.mono (by rintro e w' ⟨rfl, k, os, rfl⟩; exact ⟨rfl, but_growT _ _ _⟩)
            have HSL := hide hsl
            have wbB : Hid (∀ X Y, But [] w X → Below b X Y → But [] w Y) := fun X Y h1 h2 => by
              refine but_below h1 ?_
              refine h2.mono ?_
              rw [unhide HBB]
              exact (unhide HB1).size
            clear cz0 cz hbk hL hs hsl hz ll
            rcases Nat.eq_zero_or_pos j with hj0 | hj0
            · have HNXL : Hid (txtP t i ++ lnP r (j + 1) = L ++ Lib.itoa z) := by
                show _ = _
                have h := unhide NXL
                rw [if_neg (by omega), List.append_nil] at h
                exact h
              have hnp : ¬ (0 : Int) < (j : Int) := by omega
              clear NXL hj0
              go_wp2_with fail
              refine (unhide ITO _ (unhide HJ).2.2.2).mono ?_
              rintro e w4 ⟨rfl, hb4⟩
              have WS := hide (writeString_any b L s w4 ((unhide HJ0).but hb4) (by omega) (by omega) (Nat.lt_of_lt_of_le (unhide HJ).2.2.1 hb4.size))
              have B4 := hide hb4
              clear hb4
              dsimp only
              go_wp2_with fail
              refine (unhide WS).mono ?_
              rintro e w5 ⟨rfl, h5, hb5⟩
              have NX : Hid (BldAt w5 b (txtP t i ++ lnP r (j + 1)) ∧ But [] w1 w5 ∧ b < w5.heap.size ∧ But [] w w5) := by
                refine ⟨?_, unhide BB _ _ ((unhide HJ).2.1.trans' (unhide B4)) hb5, Nat.lt_of_lt_of_le (unhide HJ).2.2.1 (Nat.le_trans (unhide B4).size hb5.size), unhide wbB _ _ ((unhide HJ).2.2.2.trans' (unhide B4)) hb5⟩
                rw [unhide HNXL, ← unhide HSL]
                exact h5
              clear h5 hb5 WS
              dsimp only
              go_wp2
              exact ⟨⟨j + 1, by omega, by go_num, unhide NX⟩, by simp [intOf]; omega⟩
            · have HNXL : Hid (txtP t i ++ lnP r (j + 1) = L ++ [32] ++ Lib.itoa z) := by
                have h := unhide NXL
                rw [if_pos hj0] at h
                exact h
              clear NXL
              have hjp : (0 : Int) < (j : Int) := by omega
              have WB := writeByte_any b L 32 wj (unhide HJ0) (by omega) (unhide HJ).2.2.1
              rw [show ((32 : UInt8).toNat : Int) = 32 from rfl] at WB
              have HWB := hide WB
              clear WB
              go_wp2_with fail
              refine (unhide HWB).mono ?_
              rintro e w3 ⟨rfl, h3, hb3⟩
              have H3 := hide h3
              have BW3 : Hid (But [] w w3) := unhide wbB _ _ (unhide HJ).2.2.2 hb3
              have B13 : Hid (But [] w1 w3) := unhide BB _ _ (unhide HJ).2.1 hb3
              have l3 : b < w3.heap.size := Nat.lt_of_lt_of_le (unhide HJ).2.2.1 hb3.size
              clear h3 hb3 HWB
              dsimp only
              go_wp2_with fail
              refine (unhide ITO _ (unhide BW3)).mono ?_
              rintro e w4 ⟨rfl, hb4⟩
              have WS := hide (writeString_any b (L ++ [32]) s w4 ((unhide H3).but hb4) (by rw [List.length_append]; simp; omega) (by omega) (Nat.lt_of_lt_of_le l3 hb4.size))
              have B4 := hide hb4
              clear hb4
              dsimp only
              go_wp2_with fail
              refine (unhide WS).mono ?_
              rintro e w5 ⟨rfl, h5, hb5⟩
              have NX : Hid (BldAt w5 b (txtP t i ++ lnP r (j + 1)) ∧ But [] w1 w5 ∧ b < w5.heap.size ∧ But [] w w5) := by
                refine ⟨?_, unhide BB _ _ ((unhide B13).trans' (unhide B4)) hb5, Nat.lt_of_lt_of_le l3 (Nat.le_trans (unhide B4).size hb5.size), unhide wbB _ _ ((unhide BW3).trans' (unhide B4)) hb5⟩
                rw [unhide HNXL, ← unhide HSL]
                exact h5
              clear h5 hb5 WS
              dsimp only
              go_wp2
              exact ⟨⟨j + 1, by omega, by go_num, unhide NX⟩, by simp [intOf]; omega⟩
          · obtain rfl : j = rn := by omega
            have hall : lnP r j = lineOf r := lnP_all r j (by have := unhide HRN; omega)
            have ll := lnP_len r (unhide HRO) j
            have hle : (txtP t i ++ lnP r j).length ≤ 9000 := by rw [List.length_append]; omega
            have WB := writeByte_any b (txtP t i ++ lnP r j) 10 wj (unhide HJ).1 (by omega) (unhide HJ).2.2.1
            rw [show ((10 : UInt8).toNat : Int) = 10 from rfl] at WB
            have HWB := hide WB
            have HALL := hide hall
            clear WB hall ll
            go_wp2_with fail
            refine (unhide HWB).mono ?_
            rintro e w3 ⟨rfl, h3, hb3⟩
            have NX : Hid (BldAt w3 b (txtP t (i + 1)) ∧ But [] w1 w3 ∧ b < w3.heap.size) := by
              refine ⟨?_, unhide BB _ _ (unhide HJ).2.1 hb3, Nat.lt_of_lt_of_le (unhide HJ).2.2.1 hb3.size⟩
              rw [txtP_next t i r (unhide HGE), ← unhide HALL]
              exact h3
            clear h3 hb3 HWB
            dsimp only
            go_wp2
            exact ⟨⟨i + 1, by omega, by go_num, unhide NX⟩, by simp [intOf]; omega⟩
      · obtain rfl : i = n := by omega
        have BS := hide (builderString_any b (txtP t i) wr (unhide HI).1 (unhide HI).2.2)
        go_wp2_with fail
        refine (unhide BS).mono ?_
        rintro e w3 ⟨rfl, hb3⟩
        have BF := hide ((unhide HB1).trans' (unhide BB _ _ (unhide HI).2.1 hb3))
        clear hb3 BS
        dsimp only
        obtain ⟨S, hS⟩ : ∃ S : ByteArray, S = ⟨(txtP t i).toArray⟩ := ⟨_, rfl⟩
        rw [← hS]
        go_wp2
        refine bodyPost_ret (v := .tuple #[.string S, .nilIface]) (by simp [results, Tryz.results39, go_sem]) rfl ⟨unhide BF, .inl ⟨unhide HOK, ?_⟩⟩
        rw [hS, unhide HN]
  · have HB1 := hide hb1
    have HNO := hide hno
    clear hno hb1 CH
    dsimp only
    go_wp2
    exact bodyPost_ret (v := .tuple #[.string ⟨#[]⟩, .iface 92 (.int .i64 c)]) (by simp [results, Tryz.results39, go_sem]) rfl ⟨unhide HB1, .inr ⟨unhide HNO, _, rfl⟩⟩
end Go.Proofs.YtjbboicccddhbaaGreatDoor

namespace Go.Proofs.YtjbboicccddhbaaGreatDoor
open Go.RowKit
set_option linter.unusedVariables false

theorem run_loadL2 (a : Act) (w : World) (d t : Nat) (u : TypeId) (ps : String) (ed : Array Edge) (gd : Option (Nat × Bool)) (b o : Nat) (q : Option Addr) (n c : Nat) (h1 : a.eval (.tmp t) = .pointer (some ⟨b, o, none⟩)) (hc : w.cell? ⟨b, o, none⟩ = some (.slice q n c)) :
    (execOp a.eval { dst := some d, op := Op.load 53 (.tmp t), type := u, pos := ps, after := ed, guard := gd }).run Tryz.prog w = .ok (.value (.slice q n c)) w := run_loadL a w d t u ps ed gd b o q n c h1 hc
theorem run_neqE (a : Act) (w : World) (d t1 t2 : Nat) (u : TypeId) (ps : String) (ed : Array Edge) (gd : Option (Nat × Bool)) (z : Int) (h1 : a.eval (.tmp t1) = .int .i64 z) (h2 : a.eval (.tmp t2) = .int .i64 z) :
    (execOp a.eval { dst := some d, op := Op.binOp BinOp.neq 3 (.tmp t1) (.tmp t2) 3, type := u, pos := ps, after := ed, guard := gd }).run Tryz.prog w = .ok (.value (.bool false)) w := by
  unfold execOp
  simp only [h1, h2]
  go_simp
def opTj0 : Oper := { dst := some 63, op := Op.move (Operand.tmp 7), type := 74, pos := "house.go:175", after := #[], guard := none }
def opTj1 : Oper := { dst := some 64, op := Op.move (Operand.tmp 8), type := 3, pos := "house.go:175", after := #[], guard := none }
def opTj2 : Oper := { dst := some 65, op := Op.indexAddr 74 (Operand.tmp 63) (Operand.tmp 64), type := 0, pos := "house.go:175", after := #[{ on := 0, ground := Ground.data }, { on := 1, ground := Ground.data }], guard := none }
def opTj3 : Oper := { dst := some 66, op := Op.load 53 (Operand.tmp 65), type := 53, pos := "house.go:175", after := #[{ on := 2, ground := Ground.data }], guard := none }
def opTj4 : Oper := { dst := some 67, op := Op.call { callee := Callee.builtin Builtin.len, args := #[Operand.tmp 66], argTypes := #[53] }, type := 3, pos := "house.go:175", after := #[{ on := 3, ground := Ground.data }], guard := none }
def opTj5 : Oper := { dst := some 68, op := Op.move (Operand.tmp 0), type := 73, pos := "house.go:175", after := #[], guard := none }
def opTj6 : Oper := { dst := some 69, op := Op.move (Operand.tmp 8), type := 3, pos := "house.go:175", after := #[], guard := none }
def opTj7 : Oper := { dst := some 70, op := Op.indexAddr 73 (Operand.tmp 68) (Operand.tmp 69), type := 0, pos := "house.go:175", after := #[{ on := 5, ground := Ground.data }, { on := 6, ground := Ground.data }], guard := none }
def opTj8 : Oper := { dst := some 71, op := Op.load 53 (Operand.tmp 70), type := 53, pos := "house.go:175", after := #[{ on := 7, ground := Ground.data }], guard := none }
def opTj9 : Oper := { dst := some 72, op := Op.call { callee := Callee.builtin Builtin.len, args := #[Operand.tmp 71], argTypes := #[53] }, type := 3, pos := "house.go:175", after := #[{ on := 8, ground := Ground.data }], guard := none }
def opTj10 : Oper := { dst := some 73, op := Op.binOp BinOp.neq 3 (Operand.tmp 67) (Operand.tmp 72) 3, type := 4, pos := "house.go:175", after := #[{ on := 4, ground := Ground.data }, { on := 9, ground := Ground.data }], guard := none }
def opTjs : Array Oper := #[opTj0, opTj1, opTj2, opTj3, opTj4, opTj5, opTj6, opTj7, opTj8, opTj9, opTj10]
def opTjT (i : Nat) : Nat := match i with
  | 0 => 63
  | 1 => 64
  | 2 => 65
  | 3 => 66
  | 4 => 67
  | 5 => 68
  | 6 => 69
  | 7 => 70
  | 8 => 71
  | 9 => 72
  | _ => 73
/-- what each operation's value is -/
def opTjC (xb : Nat) (xo : Nat) (xc : Nat) (tb : Nat) (to : Nat) (tcap : Nat) (n : Nat) (ia : Nat) (pb : Nat) (po : Nat) (pc : Nat) (rb : Nat) (ro : Nat) (rc : Nat) (rn : Nat) (i : Nat) (_w : World) (v : Value) : Prop := match i with
  | 0 => v = .slice (some ⟨xb, xo, none⟩) n xc
  | 1 => v = .int .i64 (ia : Int)
  | 2 => v = .pointer (some ⟨xb, xo + ia, none⟩)
  | 3 => v = .slice (some ⟨pb, po, none⟩) rn pc
  | 4 => v = .int .i64 (rn : Int)
  | 5 => v = .slice (some ⟨tb, to, none⟩) n tcap
  | 6 => v = .int .i64 (ia : Int)
  | 7 => v = .pointer (some ⟨tb, to + ia, none⟩)
  | 8 => v = .slice (some ⟨rb, ro, none⟩) rn rc
  | 9 => v = .int .i64 (rn : Int)
  | _ => v = .bool false
theorem opTjC_but {xb : Nat} {xo : Nat} {xc : Nat} {tb : Nat} {to : Nat} {tcap : Nat} {n : Nat} {ia : Nat} {pb : Nat} {po : Nat} {pc : Nat} {rb : Nat} {ro : Nat} {rc : Nat} {rn : Nat} {i : Nat} {w w' : World} {v : Value} (h : opTjC xb xo xc tb to tcap n ia pb po pc rb ro rc rn i w v) (hi : i < 11) (hb : But [] w w') : opTjC xb xo xc tb to tcap n ia pb po pc rb ro rc rn i w' v := by
  have : i = 0 ∨ i = 1 ∨ i = 2 ∨ i = 3 ∨ i = 4 ∨ i = 5 ∨ i = 6 ∨ i = 7 ∨ i = 8 ∨ i = 9 ∨ i = 10 := by omega
  rcases this with rfl | rfl | rfl | rfl | rfl | rfl | rfl | rfl | rfl | rfl | rfl
  all_goals first | exact h | exact FracAt.but h hb | exact FracsAt.but h hb
theorem opTjT_inj : ∀ i j, i < 11 → j < 11 → opTjT i = opTjT j → i = j := fun i j hi hj => (by decide : ∀ i, i < 11 → ∀ j, j < 11 → opTjT i = opTjT j → i = j) i hi j hj
set_option maxHeartbeats 8000000 in
set_option maxRecDepth 100000 in
theorem back_region17 (id : Nat) (Q : Exit → Act → World → Prop) (base : Act) (W0 : World) (xb : Nat) (xo : Nat) (xc : Nat) (tb : Nat) (to : Nat) (tcap : Nat) (n : Nat) (ia : Nat) (pb : Nat) (po : Nat) (pc : Nat) (rb : Nat) (ro : Nat) (rc : Nat) (rn : Nat) (hs : 73 < base.tmps.size) (e7 : base.eval (.tmp 7) = .slice (some ⟨xb, xo, none⟩) n xc) (e8 : base.eval (.tmp 8) = .int .i64 (ia : Int)) (e0 : base.eval (.tmp 0) = .slice (some ⟨tb, to, none⟩) n tcap)
    (hia : ia < n) (hn2 : n < 1000000) (cx : W0.cell? ⟨xb, xo + ia, none⟩ = some (.slice (some ⟨pb, po, none⟩) rn pc)) (ct : W0.cell? ⟨tb, to + ia, none⟩ = some (.slice (some ⟨rb, ro, none⟩) rn rc))
    (hQ : ∀ w, But [] W0 w → Q .normal (putted base [(63, .slice (some ⟨xb, xo, none⟩) n xc), (64, .int .i64 (ia : Int)), (65, .pointer (some ⟨xb, xo + ia, none⟩)), (66, .slice (some ⟨pb, po, none⟩) rn pc), (67, .int .i64 (rn : Int)), (68, .slice (some ⟨tb, to, none⟩) n tcap), (69, .int .i64 (ia : Int)), (70, .pointer (some ⟨tb, to + ia, none⟩)), (71, .slice (some ⟨rb, ro, none⟩) rn rc), (72, .int .i64 (rn : Int)), (73, .bool false)]) w) :
    (Code.region id opTjs true).wp Tryz.prog Q base W0 := by
  have hdr : ∀ {w}, But [] W0.drew w → But [] W0 w := fun h => (But.refl _ _).drew.trans' h
  have hT : ∀ i, i < 11 → opTjT i < base.tmps.size := fun i hi => by
    have h : opTjT i ≤ 73 := by revert i; decide
    omega
  refine region_go (by kernel_rfl) (low_of (by kernel_rfl)) (opTjC xb xo xc tb to tcap n ia pb po pc rb ro rc rn) opTjT (by kernel_rfl) ?_ opTjT_inj hT (fun i w w' v hi h hb => opTjC_but h hi hb) ?_ ?_
  · intro i o j want ho hg w v hv
    have hi : i < 11 := (Array.getElem?_eq_some_iff.1 ho).1
    have : i = 0 ∨ i = 1 ∨ i = 2 ∨ i = 3 ∨ i = 4 ∨ i = 5 ∨ i = 6 ∨ i = 7 ∨ i = 8 ∨ i = 9 ∨ i = 10 := by omega
    rcases this with rfl | rfl | rfl | rfl | rfl | rfl | rfl | rfl | rfl | rfl | rfl
    · obtain rfl := Option.some.inj ((show opTjs[0]? = some opTj0 from rfl).symm.trans ho)
      exact absurd (show (none : Option (Nat × Bool)) = some (j, want) from hg) (by simp)
    · obtain rfl := Option.some.inj ((show opTjs[1]? = some opTj1 from rfl).symm.trans ho)
      exact absurd (show (none : Option (Nat × Bool)) = some (j, want) from hg) (by simp)
    · obtain rfl := Option.some.inj ((show opTjs[2]? = some opTj2 from rfl).symm.trans ho)
      exact absurd (show (none : Option (Nat × Bool)) = some (j, want) from hg) (by simp)
    · obtain rfl := Option.some.inj ((show opTjs[3]? = some opTj3 from rfl).symm.trans ho)
      exact absurd (show (none : Option (Nat × Bool)) = some (j, want) from hg) (by simp)
    · obtain rfl := Option.some.inj ((show opTjs[4]? = some opTj4 from rfl).symm.trans ho)
      exact absurd (show (none : Option (Nat × Bool)) = some (j, want) from hg) (by simp)
    · obtain rfl := Option.some.inj ((show opTjs[5]? = some opTj5 from rfl).symm.trans ho)
      exact absurd (show (none : Option (Nat × Bool)) = some (j, want) from hg) (by simp)
    · obtain rfl := Option.some.inj ((show opTjs[6]? = some opTj6 from rfl).symm.trans ho)
      exact absurd (show (none : Option (Nat × Bool)) = some (j, want) from hg) (by simp)
    · obtain rfl := Option.some.inj ((show opTjs[7]? = some opTj7 from rfl).symm.trans ho)
      exact absurd (show (none : Option (Nat × Bool)) = some (j, want) from hg) (by simp)
    · obtain rfl := Option.some.inj ((show opTjs[8]? = some opTj8 from rfl).symm.trans ho)
      exact absurd (show (none : Option (Nat × Bool)) = some (j, want) from hg) (by simp)
    · obtain rfl := Option.some.inj ((show opTjs[9]? = some opTj9 from rfl).symm.trans ho)
      exact absurd (show (none : Option (Nat × Bool)) = some (j, want) from hg) (by simp)
    · obtain rfl := Option.some.inj ((show opTjs[10]? = some opTj10 from rfl).symm.trans ho)
      exact absurd (show (none : Option (Nat × Bool)) = some (j, want) from hg) (by simp)
  · intro i o a w K ho hH he hdep hk
    have hi : i < 11 := (Array.getElem?_eq_some_iff.1 ho).1
    have hD := dep_have (ps := [(2, 0), (2, 1), (3, 2), (4, 3), (7, 5), (7, 6), (8, 7), (9, 8), (10, 4), (10, 9)]) (by kernel_rfl) ho (fun j => opTjC xb xo xc tb to tcap n ia pb po pc rb ro rc rn j w (a.eval (.tmp (opTjT j)))) hdep
    have e7' := (he 7 (fun j hj e => absurd e.symm (by revert j; decide))).trans e7
    have e8' := (he 8 (fun j hj e => absurd e.symm (by revert j; decide))).trans e8
    have e0' := (he 0 (fun j hj e => absurd e.symm (by revert j; decide))).trans e0
    have : i = 0 ∨ i = 1 ∨ i = 2 ∨ i = 3 ∨ i = 4 ∨ i = 5 ∨ i = 6 ∨ i = 7 ∨ i = 8 ∨ i = 9 ∨ i = 10 := by omega
    rcases this with rfl | rfl | rfl | rfl | rfl | rfl | rfl | rfl | rfl | rfl | rfl
    · obtain rfl := Option.some.inj ((show opTjs[0]? = some opTj0 from rfl).symm.trans ho)
      exact wp_value (run_mvK a w _ _ _ _ _ _ _ e7') (hk _ _ (But.refl _ _) rfl)
    · obtain rfl := Option.some.inj ((show opTjs[1]? = some opTj1 from rfl).symm.trans ho)
      exact wp_value (run_mvK a w _ _ _ _ _ _ _ e8') (hk _ _ (But.refl _ _) rfl)
    · obtain rfl := Option.some.inj ((show opTjs[2]? = some opTj2 from rfl).symm.trans ho)
      exact wp_value (run_indexN a w _ _ _ _ _ _ _ xb xo n xc ia hia hn2 (hD 0 (by simp)) (hD 1 (by simp))) (hk _ _ (But.refl _ _) rfl)
    · obtain rfl := Option.some.inj ((show opTjs[3]? = some opTj3 from rfl).symm.trans ho)
      exact wp_value (run_loadL a w _ _ _ _ _ _ xb (xo + ia) _ _ _ (hD 2 (by simp)) ((hdr hH).cell_some cx (by simp))) (hk _ _ (But.refl _ _) rfl)
    · obtain rfl := Option.some.inj ((show opTjs[4]? = some opTj4 from rfl).symm.trans ho)
      exact wp_value (run_lenI a w _ _ _ _ _ _ _ _ _ (hD 3 (by simp))) (hk _ _ (But.refl _ _) rfl)
    · obtain rfl := Option.some.inj ((show opTjs[5]? = some opTj5 from rfl).symm.trans ho)
      exact wp_value (run_mvK a w _ _ _ _ _ _ _ e0') (hk _ _ (But.refl _ _) rfl)
    · obtain rfl := Option.some.inj ((show opTjs[6]? = some opTj6 from rfl).symm.trans ho)
      exact wp_value (run_mvK a w _ _ _ _ _ _ _ e8') (hk _ _ (But.refl _ _) rfl)
    · obtain rfl := Option.some.inj ((show opTjs[7]? = some opTj7 from rfl).symm.trans ho)
      exact wp_value (run_indexJ a w _ _ _ _ _ _ _ tb to n tcap ia hia hn2 (hD 5 (by simp)) (hD 6 (by simp))) (hk _ _ (But.refl _ _) rfl)
    · obtain rfl := Option.some.inj ((show opTjs[8]? = some opTj8 from rfl).symm.trans ho)
      exact wp_value (run_loadL a w _ _ _ _ _ _ tb (to + ia) _ _ _ (hD 7 (by simp)) ((hdr hH).cell_some ct (by simp))) (hk _ _ (But.refl _ _) rfl)
    · obtain rfl := Option.some.inj ((show opTjs[9]? = some opTj9 from rfl).symm.trans ho)
      exact wp_value (run_lenI a w _ _ _ _ _ _ _ _ _ (hD 8 (by simp))) (hk _ _ (But.refl _ _) rfl)
    · obtain rfl := Option.some.inj ((show opTjs[10]? = some opTj10 from rfl).symm.trans ho)
      exact wp_value (run_neqE a w _ _ _ _ _ _ _ _ (hD 4 (by simp)) (hD 9 (by simp))) (hk _ _ (But.refl _ _) rfl)
  · intro a w h
    have ea := h.puts hT (fun i => match i with
      | 0 => .slice (some ⟨xb, xo, none⟩) n xc
      | 1 => .int .i64 (ia : Int)
      | 2 => .pointer (some ⟨xb, xo + ia, none⟩)
      | 3 => .slice (some ⟨pb, po, none⟩) rn pc
      | 4 => .int .i64 (rn : Int)
      | 5 => .slice (some ⟨tb, to, none⟩) n tcap
      | 6 => .int .i64 (ia : Int)
      | 7 => .pointer (some ⟨tb, to + ia, none⟩)
      | 8 => .slice (some ⟨rb, ro, none⟩) rn rc
      | 9 => .int .i64 (rn : Int)
      | _ => .bool false) (fun i hi => by
      have hi' : i < 11 := hi
      have hc := h.has i hi rfl
      have : i = 0 ∨ i = 1 ∨ i = 2 ∨ i = 3 ∨ i = 4 ∨ i = 5 ∨ i = 6 ∨ i = 7 ∨ i = 8 ∨ i = 9 ∨ i = 10 := by omega
      rcases this with rfl | rfl | rfl | rfl | rfl | rfl | rfl | rfl | rfl | rfl | rfl
      all_goals first | exact hc | rfl)
    rw [ea]
    exact hQ w (hdr h.but)
def opTk0 : Oper := { dst := some 83, op := Op.move (Operand.tmp 7), type := 74, pos := "house.go:179", after := #[], guard := none }
def opTk1 : Oper := { dst := some 84, op := Op.move (Operand.tmp 8), type := 3, pos := "house.go:179", after := #[], guard := none }
def opTk2 : Oper := { dst := some 85, op := Op.indexAddr 74 (Operand.tmp 83) (Operand.tmp 84), type := 0, pos := "house.go:179", after := #[{ on := 0, ground := Ground.data }, { on := 1, ground := Ground.data }], guard := none }
def opTk3 : Oper := { dst := some 86, op := Op.load 53 (Operand.tmp 85), type := 53, pos := "house.go:179", after := #[{ on := 2, ground := Ground.data }], guard := none }
def opTk4 : Oper := { dst := some 87, op := Op.move (Operand.tmp 9), type := 3, pos := "house.go:179", after := #[], guard := none }
def opTk5 : Oper := { dst := some 88, op := Op.indexAddr 53 (Operand.tmp 86) (Operand.tmp 87), type := 0, pos := "house.go:179", after := #[{ on := 3, ground := Ground.data }, { on := 4, ground := Ground.data }], guard := none }
def opTk6 : Oper := { dst := some 89, op := Op.load 3 (Operand.tmp 88), type := 3, pos := "house.go:179", after := #[{ on := 5, ground := Ground.data }], guard := none }
def opTk7 : Oper := { dst := some 90, op := Op.move (Operand.tmp 0), type := 73, pos := "house.go:179", after := #[], guard := none }
def opTk8 : Oper := { dst := some 91, op := Op.move (Operand.tmp 8), type := 3, pos := "house.go:179", after := #[], guard := none }
def opTk9 : Oper := { dst := some 92, op := Op.indexAddr 73 (Operand.tmp 90) (Operand.tmp 91), type := 0, pos := "house.go:179", after := #[{ on := 7, ground := Ground.data }, { on := 8, ground := Ground.data }], guard := none }
def opTk10 : Oper := { dst := some 93, op := Op.load 53 (Operand.tmp 92), type := 53, pos := "house.go:179", after := #[{ on := 9, ground := Ground.data }], guard := none }
def opTk11 : Oper := { dst := some 94, op := Op.move (Operand.tmp 9), type := 3, pos := "house.go:179", after := #[], guard := none }
def opTk12 : Oper := { dst := some 95, op := Op.indexAddr 53 (Operand.tmp 93) (Operand.tmp 94), type := 0, pos := "house.go:179", after := #[{ on := 10, ground := Ground.data }, { on := 11, ground := Ground.data }], guard := none }
def opTk13 : Oper := { dst := some 96, op := Op.load 3 (Operand.tmp 95), type := 3, pos := "house.go:179", after := #[{ on := 12, ground := Ground.data }], guard := none }
def opTk14 : Oper := { dst := some 97, op := Op.binOp BinOp.neq 3 (Operand.tmp 89) (Operand.tmp 96) 3, type := 4, pos := "house.go:179", after := #[{ on := 6, ground := Ground.data }, { on := 13, ground := Ground.data }], guard := none }
def opTks : Array Oper := #[opTk0, opTk1, opTk2, opTk3, opTk4, opTk5, opTk6, opTk7, opTk8, opTk9, opTk10, opTk11, opTk12, opTk13, opTk14]
def opTkT (i : Nat) : Nat := match i with
  | 0 => 83
  | 1 => 84
  | 2 => 85
  | 3 => 86
  | 4 => 87
  | 5 => 88
  | 6 => 89
  | 7 => 90
  | 8 => 91
  | 9 => 92
  | 10 => 93
  | 11 => 94
  | 12 => 95
  | 13 => 96
  | _ => 97
/-- what each operation's value is -/
def opTkC (xb : Nat) (xo : Nat) (xc : Nat) (tb : Nat) (to : Nat) (tcap : Nat) (n : Nat) (ia : Nat) (pb : Nat) (po : Nat) (pc : Nat) (rb : Nat) (ro : Nat) (rc : Nat) (rn : Nat) (ja : Nat) (z : Int) (i : Nat) (_w : World) (v : Value) : Prop := match i with
  | 0 => v = .slice (some ⟨xb, xo, none⟩) n xc
  | 1 => v = .int .i64 (ia : Int)
  | 2 => v = .pointer (some ⟨xb, xo + ia, none⟩)
  | 3 => v = .slice (some ⟨pb, po, none⟩) rn pc
  | 4 => v = .int .i64 (ja : Int)
  | 5 => v = .pointer (some ⟨pb, po + ja, none⟩)
  | 6 => v = .int .i64 z
  | 7 => v = .slice (some ⟨tb, to, none⟩) n tcap
  | 8 => v = .int .i64 (ia : Int)
  | 9 => v = .pointer (some ⟨tb, to + ia, none⟩)
  | 10 => v = .slice (some ⟨rb, ro, none⟩) rn rc
  | 11 => v = .int .i64 (ja : Int)
  | 12 => v = .pointer (some ⟨rb, ro + ja, none⟩)
  | 13 => v = .int .i64 z
  | _ => v = .bool false
theorem opTkC_but {xb : Nat} {xo : Nat} {xc : Nat} {tb : Nat} {to : Nat} {tcap : Nat} {n : Nat} {ia : Nat} {pb : Nat} {po : Nat} {pc : Nat} {rb : Nat} {ro : Nat} {rc : Nat} {rn : Nat} {ja : Nat} {z : Int} {i : Nat} {w w' : World} {v : Value} (h : opTkC xb xo xc tb to tcap n ia pb po pc rb ro rc rn ja z i w v) (hi : i < 15) (hb : But [] w w') : opTkC xb xo xc tb to tcap n ia pb po pc rb ro rc rn ja z i w' v := by
  have : i = 0 ∨ i = 1 ∨ i = 2 ∨ i = 3 ∨ i = 4 ∨ i = 5 ∨ i = 6 ∨ i = 7 ∨ i = 8 ∨ i = 9 ∨ i = 10 ∨ i = 11 ∨ i = 12 ∨ i = 13 ∨ i = 14 := by omega
  rcases this with rfl | rfl | rfl | rfl | rfl | rfl | rfl | rfl | rfl | rfl | rfl | rfl | rfl | rfl | rfl
  all_goals first | exact h | exact FracAt.but h hb | exact FracsAt.but h hb
theorem opTkT_inj : ∀ i j, i < 15 → j < 15 → opTkT i = opTkT j → i = j := fun i j hi hj => (by decide : ∀ i, i < 15 → ∀ j, j < 15 → opTkT i = opTkT j → i = j) i hi j hj
set_option maxHeartbeats 8000000 in
set_option maxRecDepth 100000 in
theorem back_region22 (id : Nat) (Q : Exit → Act → World → Prop) (base : Act) (W0 : World) (xb : Nat) (xo : Nat) (xc : Nat) (tb : Nat) (to : Nat) (tcap : Nat) (n : Nat) (ia : Nat) (pb : Nat) (po : Nat) (pc : Nat) (rb : Nat) (ro : Nat) (rc : Nat) (rn : Nat) (ja : Nat) (z : Int) (hs : 97 < base.tmps.size) (e7 : base.eval (.tmp 7) = .slice (some ⟨xb, xo, none⟩) n xc) (e8 : base.eval (.tmp 8) = .int .i64 (ia : Int)) (e0 : base.eval (.tmp 0) = .slice (some ⟨tb, to, none⟩) n tcap) (e9 : base.eval (.tmp 9) = .int .i64 (ja : Int))
    (hia : ia < n) (hn2 : n < 1000000) (cx : W0.cell? ⟨xb, xo + ia, none⟩ = some (.slice (some ⟨pb, po, none⟩) rn pc)) (ct : W0.cell? ⟨tb, to + ia, none⟩ = some (.slice (some ⟨rb, ro, none⟩) rn rc)) (hja : ja < rn) (hrn : rn < 1000000) (zx : W0.cell? ⟨pb, po + ja, none⟩ = some (.int .i64 z)) (zt : W0.cell? ⟨rb, ro + ja, none⟩ = some (.int .i64 z))
    (hQ : ∀ w, But [] W0 w → Q .normal (putted base [(83, .slice (some ⟨xb, xo, none⟩) n xc), (84, .int .i64 (ia : Int)), (85, .pointer (some ⟨xb, xo + ia, none⟩)), (86, .slice (some ⟨pb, po, none⟩) rn pc), (87, .int .i64 (ja : Int)), (88, .pointer (some ⟨pb, po + ja, none⟩)), (89, .int .i64 z), (90, .slice (some ⟨tb, to, none⟩) n tcap), (91, .int .i64 (ia : Int)), (92, .pointer (some ⟨tb, to + ia, none⟩)), (93, .slice (some ⟨rb, ro, none⟩) rn rc), (94, .int .i64 (ja : Int)), (95, .pointer (some ⟨rb, ro + ja, none⟩)), (96, .int .i64 z), (97, .bool false)]) w) :
    (Code.region id opTks true).wp Tryz.prog Q base W0 := by
  have hdr : ∀ {w}, But [] W0.drew w → But [] W0 w := fun h => (But.refl _ _).drew.trans' h
  have hT : ∀ i, i < 15 → opTkT i < base.tmps.size := fun i hi => by
    have h : opTkT i ≤ 97 := by revert i; decide
    omega
  refine region_go (by kernel_rfl) (low_of (by kernel_rfl)) (opTkC xb xo xc tb to tcap n ia pb po pc rb ro rc rn ja z) opTkT (by kernel_rfl) ?_ opTkT_inj hT (fun i w w' v hi h hb => opTkC_but h hi hb) ?_ ?_
  · intro i o j want ho hg w v hv
    have hi : i < 15 := (Array.getElem?_eq_some_iff.1 ho).1
    have : i = 0 ∨ i = 1 ∨ i = 2 ∨ i = 3 ∨ i = 4 ∨ i = 5 ∨ i = 6 ∨ i = 7 ∨ i = 8 ∨ i = 9 ∨ i = 10 ∨ i = 11 ∨ i = 12 ∨ i = 13 ∨ i = 14 := by omega
    rcases this with rfl | rfl | rfl | rfl | rfl | rfl | rfl | rfl | rfl | rfl | rfl | rfl | rfl | rfl | rfl
    · obtain rfl := Option.some.inj ((show opTks[0]? = some opTk0 from rfl).symm.trans ho)
      exact absurd (show (none : Option (Nat × Bool)) = some (j, want) from hg) (by simp)
    · obtain rfl := Option.some.inj ((show opTks[1]? = some opTk1 from rfl).symm.trans ho)
      exact absurd (show (none : Option (Nat × Bool)) = some (j, want) from hg) (by simp)
    · obtain rfl := Option.some.inj ((show opTks[2]? = some opTk2 from rfl).symm.trans ho)
      exact absurd (show (none : Option (Nat × Bool)) = some (j, want) from hg) (by simp)
    · obtain rfl := Option.some.inj ((show opTks[3]? = some opTk3 from rfl).symm.trans ho)
      exact absurd (show (none : Option (Nat × Bool)) = some (j, want) from hg) (by simp)
    · obtain rfl := Option.some.inj ((show opTks[4]? = some opTk4 from rfl).symm.trans ho)
      exact absurd (show (none : Option (Nat × Bool)) = some (j, want) from hg) (by simp)
    · obtain rfl := Option.some.inj ((show opTks[5]? = some opTk5 from rfl).symm.trans ho)
      exact absurd (show (none : Option (Nat × Bool)) = some (j, want) from hg) (by simp)
    · obtain rfl := Option.some.inj ((show opTks[6]? = some opTk6 from rfl).symm.trans ho)
      exact absurd (show (none : Option (Nat × Bool)) = some (j, want) from hg) (by simp)
    · obtain rfl := Option.some.inj ((show opTks[7]? = some opTk7 from rfl).symm.trans ho)
      exact absurd (show (none : Option (Nat × Bool)) = some (j, want) from hg) (by simp)
    · obtain rfl := Option.some.inj ((show opTks[8]? = some opTk8 from rfl).symm.trans ho)
      exact absurd (show (none : Option (Nat × Bool)) = some (j, want) from hg) (by simp)
    · obtain rfl := Option.some.inj ((show opTks[9]? = some opTk9 from rfl).symm.trans ho)
      exact absurd (show (none : Option (Nat × Bool)) = some (j, want) from hg) (by simp)
    · obtain rfl := Option.some.inj ((show opTks[10]? = some opTk10 from rfl).symm.trans ho)
      exact absurd (show (none : Option (Nat × Bool)) = some (j, want) from hg) (by simp)
    · obtain rfl := Option.some.inj ((show opTks[11]? = some opTk11 from rfl).symm.trans ho)
      exact absurd (show (none : Option (Nat × Bool)) = some (j, want) from hg) (by simp)
    · obtain rfl := Option.some.inj ((show opTks[12]? = some opTk12 from rfl).symm.trans ho)
      exact absurd (show (none : Option (Nat × Bool)) = some (j, want) from hg) (by simp)
    · obtain rfl := Option.some.inj ((show opTks[13]? = some opTk13 from rfl).symm.trans ho)
      exact absurd (show (none : Option (Nat × Bool)) = some (j, want) from hg) (by simp)
    · obtain rfl := Option.some.inj ((show opTks[14]? = some opTk14 from rfl).symm.trans ho)
      exact absurd (show (none : Option (Nat × Bool)) = some (j, want) from hg) (by simp)
  · intro i o a w K ho hH he hdep hk
    have hi : i < 15 := (Array.getElem?_eq_some_iff.1 ho).1
    have hD := dep_have (ps := [(2, 0), (2, 1), (3, 2), (5, 3), (5, 4), (6, 5), (9, 7), (9, 8), (10, 9), (12, 10), (12, 11), (13, 12), (14, 6), (14, 13)]) (by kernel_rfl) ho (fun j => opTkC xb xo xc tb to tcap n ia pb po pc rb ro rc rn ja z j w (a.eval (.tmp (opTkT j)))) hdep
    have e7' := (he 7 (fun j hj e => absurd e.symm (by revert j; decide))).trans e7
    have e8' := (he 8 (fun j hj e => absurd e.symm (by revert j; decide))).trans e8
    have e0' := (he 0 (fun j hj e => absurd e.symm (by revert j; decide))).trans e0
    have e9' := (he 9 (fun j hj e => absurd e.symm (by revert j; decide))).trans e9
    have : i = 0 ∨ i = 1 ∨ i = 2 ∨ i = 3 ∨ i = 4 ∨ i = 5 ∨ i = 6 ∨ i = 7 ∨ i = 8 ∨ i = 9 ∨ i = 10 ∨ i = 11 ∨ i = 12 ∨ i = 13 ∨ i = 14 := by omega
    rcases this with rfl | rfl | rfl | rfl | rfl | rfl | rfl | rfl | rfl | rfl | rfl | rfl | rfl | rfl | rfl
    · obtain rfl := Option.some.inj ((show opTks[0]? = some opTk0 from rfl).symm.trans ho)
      exact wp_value (run_mvK a w _ _ _ _ _ _ _ e7') (hk _ _ (But.refl _ _) rfl)
    · obtain rfl := Option.some.inj ((show opTks[1]? = some opTk1 from rfl).symm.trans ho)
      exact wp_value (run_mvK a w _ _ _ _ _ _ _ e8') (hk _ _ (But.refl _ _) rfl)
    · obtain rfl := Option.some.inj ((show opTks[2]? = some opTk2 from rfl).symm.trans ho)
      exact wp_value (run_indexN a w _ _ _ _ _ _ _ xb xo n xc ia hia hn2 (hD 0 (by simp)) (hD 1 (by simp))) (hk _ _ (But.refl _ _) rfl)
    · obtain rfl := Option.some.inj ((show opTks[3]? = some opTk3 from rfl).symm.trans ho)
      exact wp_value (run_loadL a w _ _ _ _ _ _ xb (xo + ia) _ _ _ (hD 2 (by simp)) ((hdr hH).cell_some cx (by simp))) (hk _ _ (But.refl _ _) rfl)
    · obtain rfl := Option.some.inj ((show opTks[4]? = some opTk4 from rfl).symm.trans ho)
      exact wp_value (run_mvK a w _ _ _ _ _ _ _ e9') (hk _ _ (But.refl _ _) rfl)
    · obtain rfl := Option.some.inj ((show opTks[5]? = some opTk5 from rfl).symm.trans ho)
      exact wp_value (run_indexI a w _ _ _ _ _ _ _ pb po rn pc ja hja hrn (hD 3 (by simp)) (hD 4 (by simp))) (hk _ _ (But.refl _ _) rfl)
    · obtain rfl := Option.some.inj ((show opTks[6]? = some opTk6 from rfl).symm.trans ho)
      exact wp_value (run_loadI a w _ _ _ _ _ _ pb (po + ja) z (hD 5 (by simp)) ((hdr hH).cell_some zx (by simp))) (hk _ _ (But.refl _ _) rfl)
    · obtain rfl := Option.some.inj ((show opTks[7]? = some opTk7 from rfl).symm.trans ho)
      exact wp_value (run_mvK a w _ _ _ _ _ _ _ e0') (hk _ _ (But.refl _ _) rfl)
    · obtain rfl := Option.some.inj ((show opTks[8]? = some opTk8 from rfl).symm.trans ho)
      exact wp_value (run_mvK a w _ _ _ _ _ _ _ e8') (hk _ _ (But.refl _ _) rfl)
    · obtain rfl := Option.some.inj ((show opTks[9]? = some opTk9 from rfl).symm.trans ho)
      exact wp_value (run_indexJ a w _ _ _ _ _ _ _ tb to n tcap ia hia hn2 (hD 7 (by simp)) (hD 8 (by simp))) (hk _ _ (But.refl _ _) rfl)
    · obtain rfl := Option.some.inj ((show opTks[10]? = some opTk10 from rfl).symm.trans ho)
      exact wp_value (run_loadL a w _ _ _ _ _ _ tb (to + ia) _ _ _ (hD 9 (by simp)) ((hdr hH).cell_some ct (by simp))) (hk _ _ (But.refl _ _) rfl)
    · obtain rfl := Option.some.inj ((show opTks[11]? = some opTk11 from rfl).symm.trans ho)
      exact wp_value (run_mvK a w _ _ _ _ _ _ _ e9') (hk _ _ (But.refl _ _) rfl)
    · obtain rfl := Option.some.inj ((show opTks[12]? = some opTk12 from rfl).symm.trans ho)
      exact wp_value (run_indexI a w _ _ _ _ _ _ _ rb ro rn rc ja hja hrn (hD 10 (by simp)) (hD 11 (by simp))) (hk _ _ (But.refl _ _) rfl)
    · obtain rfl := Option.some.inj ((show opTks[13]? = some opTk13 from rfl).symm.trans ho)
      exact wp_value (run_loadI a w _ _ _ _ _ _ rb (ro + ja) z (hD 12 (by simp)) ((hdr hH).cell_some zt (by simp))) (hk _ _ (But.refl _ _) rfl)
    · obtain rfl := Option.some.inj ((show opTks[14]? = some opTk14 from rfl).symm.trans ho)
      exact wp_value (run_neqE a w _ _ _ _ _ _ _ _ (hD 6 (by simp)) (hD 13 (by simp))) (hk _ _ (But.refl _ _) rfl)
  · intro a w h
    have ea := h.puts hT (fun i => match i with
      | 0 => .slice (some ⟨xb, xo, none⟩) n xc
      | 1 => .int .i64 (ia : Int)
      | 2 => .pointer (some ⟨xb, xo + ia, none⟩)
      | 3 => .slice (some ⟨pb, po, none⟩) rn pc
      | 4 => .int .i64 (ja : Int)
      | 5 => .pointer (some ⟨pb, po + ja, none⟩)
      | 6 => .int .i64 z
      | 7 => .slice (some ⟨tb, to, none⟩) n tcap
      | 8 => .int .i64 (ia : Int)
      | 9 => .pointer (some ⟨tb, to + ia, none⟩)
      | 10 => .slice (some ⟨rb, ro, none⟩) rn rc
      | 11 => .int .i64 (ja : Int)
      | 12 => .pointer (some ⟨rb, ro + ja, none⟩)
      | 13 => .int .i64 z
      | _ => .bool false) (fun i hi => by
      have hi' : i < 15 := hi
      have hc := h.has i hi rfl
      have : i = 0 ∨ i = 1 ∨ i = 2 ∨ i = 3 ∨ i = 4 ∨ i = 5 ∨ i = 6 ∨ i = 7 ∨ i = 8 ∨ i = 9 ∨ i = 10 ∨ i = 11 ∨ i = 12 ∨ i = 13 ∨ i = 14 := by omega
      rcases this with rfl | rfl | rfl | rfl | rfl | rfl | rfl | rfl | rfl | rfl | rfl | rfl | rfl | rfl | rfl
      all_goals first | exact hc | rfl)
    rw [ea]
    exact hQ w (hdr h.but)
end Go.Proofs.YtjbboicccddhbaaGreatDoor

namespace Go.Proofs.YtjbboicccddhbaaGreatDoor
open Go.RowKit
set_option linter.unusedVariables false

theorem tri_rowAt {w : World} {b off n cap : Nat} {t : List (List Int)} (h : TriAt w (.slice (some ⟨b, off, none⟩) n cap) t) (hok : TriOk t) (hn : n = t.length) (i : Nat) (hi : i < n) :
    ∃ rb ro rc, w.cell? ⟨b, off + i, none⟩ = some (.slice (some ⟨rb, ro, none⟩) (n - i) rc) ∧ ∀ k, k < n - i → w.cell? ⟨rb, ro + k, none⟩ = some (.int .i64 (tc t i k)) := by
  obtain ⟨a, c, e, -, h⟩ := h
  have hge : t[i]? = some (t[i]'(by omega)) := List.getElem?_eq_getElem (by omega)
  obtain ⟨r, hr⟩ : ∃ r, r = t[i]'(by omega) := ⟨_, rfl⟩
  rw [← hr] at hge
  obtain ⟨b', off', rv', ea, c0, ra, rcap, rfl, -, hri⟩ := h i r hge
  simp only [Value.slice.injEq] at e
  obtain ⟨rfl, -, rfl⟩ := e
  obtain ⟨rfl, rfl⟩ : b = b' ∧ off = off' := by simpa using ea
  have hrl : r.length = n - i := by rw [hok.len hge, hn]
  obtain ⟨x0, hx0⟩ : ∃ x, r[0]? = some x := ⟨_, List.getElem?_eq_getElem (by omega)⟩
  obtain ⟨rb, ro, rfl, -⟩ := hri 0 x0 hx0
  rw [hrl] at c0
  refine ⟨rb, ro, rcap, c0, fun k hk => ?_⟩
  obtain ⟨x, hx⟩ : ∃ x, r[k]? = some x := ⟨_, List.getElem?_eq_getElem (by omega)⟩
  obtain ⟨b2, o2, e2, c2⟩ := hri k x hx
  obtain ⟨rfl, rfl⟩ : rb = b2 ∧ ro = o2 := by simpa using e2
  rw [tc_of hge hx]
  exact c2
theorem rows_kept {t : List (List Int)} (h : TriOk t) : t = (t ++ [[]]).filter (fun r => !r.isEmpty) := by
  rw [List.filter_append]
  have e : ([[]] : List (List Int)).filter (fun r => !r.isEmpty) = [] := rfl
  rw [e, List.append_nil]
  refine (List.filter_eq_self.2 fun r hr => ?_).symm
  obtain ⟨i, hi, rfl⟩ := List.getElem_of_mem hr
  have hl := h.len (List.getElem?_eq_getElem hi)
  cases e : t[i] with
  | nil => rw [e] at hl; simp at hl; omega
  | cons _ _ => rfl
set_option maxHeartbeats 32000000 in
set_option maxRecDepth 100000 in
theorem triBack_any (v : Value) (t : List (List Int)) (mx : Int) (w : World) (hv : TriAt w v t) (hnb : t.length ≤ 9223372036854775807) (htab : Lib.TabIs Tryz.prog w "internal/strconv.uint64pow10" .u64 Lib.pow10Tab) (hm : w.cell? ⟨5, 0, none⟩ = some (.int .i64 mx)) :
    Calls Tryz.prog 8 #[v] w fun e w' => e = .returned (.bool true) ∧ But [] w w' := by
  obtain ⟨a, cap, rfl, hcap, hc⟩ := id hv
  obtain ⟨n, hn⟩ : ∃ n, n = t.length := ⟨_, rfl⟩
  rw [← hn] at hnb
  have HV : Hid (TriAt w (.slice a n cap) t) := by rw [hn]; exact hv
  rw [← hn]
  have HN := hide hn
  have HC := hide hc
  have TX : Hid (Calls Tryz.prog 39 #[.slice a n cap] w fun e w' => TxtPost t w e w') := text_any _ t w (unhide HV) htab
  have GW : Hid (∀ W, But [] w W → Calls Tryz.prog 34 #[] W fun e w' => e = .returned (.bool true) ∧ But [] W w') := fun W hW => grown_any mx W (TabIs.but htab hW) (hW.cell_some hm (by simp))
  have PA : Hid (TriOk t → ∀ W, But [] w W → Calls Tryz.prog 40 #[.string ⟨(txtP t t.length).toArray⟩] W fun e w' => ∃ v, e = .returned (.tuple #[v, .nilIface]) ∧ TriG w' W.heap.size v t ∧ But [] W w') := fun hok W hW => by
    have hl := txtP_len hok t.length
    have h20 := hok.2.1
    refine parse_any (t ++ [[]]) (fun r hr x hx => ?_) (fun r hr => ?_) (by simp; omega) (by simp) _ ?_ ?_ mx W (TabIs.but htab hW) (hW.cell_some hm (by simp)) t (rows_kept hok) hok
    · rcases List.mem_append.1 hr with h | h
      · obtain ⟨i, hi, rfl⟩ := List.getElem_of_mem h
        exact (hok.2.2 i _ (List.getElem?_eq_getElem hi)).2 x hx
      · simp only [List.mem_cons, List.not_mem_nil, or_false] at h
        subst h
        simp at hx
    · rcases List.mem_append.1 hr with h | h
      · obtain ⟨i, hi, rfl⟩ := List.getElem_of_mem h
        have := (hok.2.2 i _ (List.getElem?_eq_getElem hi)).1
        omega
      · simp only [List.mem_cons, List.not_mem_nil, or_false] at h
        subst h
        simp
    · show txtP t t.length = _
      exact txt_is t
    · show (txtP t t.length).toArray.size ≤ 50000
      simp
      omega
  clear hv hc hn htab hm hcap
  go_enter Tryz.func8, Tryz.ntmps8
  go_wp2
  go_loopw [3, 4] (fun s iv wr => ∃ i : Nat, i ≤ n ∧ iv = .int .i64 (i : Int) ∧ (∃ z : Int, s = .int .i64 z) ∧ wr = w) (fun _ iv _ => n - (intOf iv).toNat)
  case atStart => exact ⟨0, Nat.zero_le _, rfl, ⟨_, rfl⟩, rfl⟩
  case round =>
    obtain ⟨i, hi, rfl, ⟨z, rfl⟩, hw⟩ := hrel
    rename World => wr
    subst hw
    by_cases hlt : i < n
    · obtain ⟨r, hr⟩ : ∃ r, t[i]? = some r := ⟨_, List.getElem?_eq_getElem (by have := unhide HN; omega)⟩
      obtain ⟨b, off, rv', rfl, c0, ra, rcap, rfl, -⟩ := unhide HC i r hr
      obtain ⟨rl, hrl⟩ : ∃ rl, rl = r.length := ⟨_, rfl⟩
      rw [← hrl] at c0
      clear hr hrl
      go_wp2
      exact ⟨⟨i + 1, by omega, by go_num, by first | exact ⟨_, rfl⟩ | trivial, by first | rfl | trivial⟩, by simp [intOf]; omega⟩
    · obtain rfl : i = n := by omega
      by_cases hz : 300 < z
      · go_wp2
        go_ret
        exact ⟨rfl, But.refl _ _⟩
      · go_wp2_with fail
        refine (unhide TX).mono ?_
        rintro e w1 ⟨hb1, ⟨hok, rfl⟩ | ⟨hno, ce, rfl⟩⟩
        · obtain ⟨S, hS⟩ : ∃ S : ByteArray, S = ⟨(txtP t t.length).toArray⟩ := ⟨_, rfl⟩
          have PS := hide (unhide PA hok)
          rw [← hS] at PS ⊢
          have HOK := hide hok
          have HB1 := hide hb1
          have n20 : i ≤ 20 := by rw [unhide HN]; exact hok.2.1
          have n2 : 2 ≤ i := by rw [unhide HN]; exact hok.1
          clear hS hok hb1 PA TX
          dsimp only
          go_wp2_with fail
          refine (unhide GW _ (unhide HB1)).mono ?_
          rintro e w2 ⟨rfl, hb2⟩
          have HB2 := hide ((unhide HB1).trans' hb2)
          clear hb2
          dsimp only
          go_wp2_with fail
          refine (unhide PS _ (unhide HB2)).mono ?_
          rintro e w3 ⟨xv, rfl, htri, hb3⟩
          have HB3 := hide ((unhide HB2).trans' hb3)
          have hxa := htri.tri
          obtain ⟨xa, xl, xc, hxv⟩ : ∃ a l c, xv = .slice a l c := by
            obtain ⟨us, -, h2, -⟩ := htri
            obtain ⟨a, c, e⟩ := ownsRow_form h2
            exact ⟨a, _, c, e⟩
          subst hxv
          have hxl : xl = i := by
            obtain ⟨a', c', e, -⟩ := id hxa
            simp only [Value.slice.injEq] at e
            rw [e.2.1]
            exact (unhide HN).symm
          subst hxl
          have hta := (unhide HV).but (unhide HB3)
          obtain ⟨tb, tof, rfl⟩ : ∃ b off, a = some ⟨b, off, none⟩ := by
            obtain ⟨a', c', e, -, h⟩ := hta
            have h0 : 0 < t.length := by have := unhide HN; omega
            obtain ⟨b, off, rv', ea, -⟩ := h 0 t[0] (List.getElem?_eq_getElem h0)
            simp only [Value.slice.injEq] at e
            exact ⟨b, off, e.1.trans ea⟩
          obtain ⟨xb, xo, rfl⟩ : ∃ b off, xa = some ⟨b, off, none⟩ := by
            obtain ⟨a', c', e, -, h⟩ := hxa
            have h0 : 0 < t.length := by have := unhide HN; omega
            obtain ⟨b, off, rv', ea, -⟩ := h 0 t[0] (List.getElem?_eq_getElem h0)
            simp only [Value.slice.injEq] at e
            exact ⟨b, off, e.1.trans ea⟩
          have HXA := hide hxa
          have HTA := hide hta
          clear htri hb3 hxa hta PS GW
          dsimp only
          go_wp2
          go_loopw [8] (fun iv wr => ∃ k : Nat, k ≤ xl ∧ iv = .int .i64 (k : Int) ∧ Hid (But [] w3 wr)) (fun iv _ => xl - (intOf iv).toNat)
          case atStart => exact ⟨0, Nat.zero_le _, rfl, But.refl _ _⟩
          case round =>
            obtain ⟨k, hk, rfl, HI⟩ := hrel
            rename World => wk
            by_cases hkl : k < xl
            · obtain ⟨pb, po, pc, cx, zx⟩ := tri_rowAt ((unhide HXA).but (unhide HI)) (unhide HOK) (unhide HN) k hkl
              obtain ⟨rb, ro, rc, ct, zt⟩ := tri_rowAt ((unhide HTA).but (unhide HI)) (unhide HOK) (unhide HN) k hkl
              obtain ⟨rn, hrn⟩ : ∃ rn, rn = xl - k := ⟨_, rfl⟩
              rw [← hrn] at cx ct zx zt
              have hrn1 : rn ≤ 20 := by omega
              have CX := hide cx
              have CT := hide ct
              have ZX := hide zx
              have ZT := hide zt
              clear cx ct zx zt hrn
              go_wp2
              refine back_region17 17 _ _ wk xb xo xc tb tof cap xl k pb po pc rb ro rc rn (by simp) (by simp [Act.eval]) (by simp [Act.eval]) (by simp [Act.eval]) hkl (by omega) (unhide CX) (unhide CT) ?_
              intro w5 hb5
              simp only [putted, List.foldl_cons, List.foldl_nil, Act.put, List.setIfInBounds_toArray, List.set_cons_zero, List.set_cons_succ]
              have HB5 := hide hb5
              have ct5 := hb5.cell_some (unhide CT) (by simp)
              clear hb5
              go_wp2
              go_loopw [9] (fun jv wj => ∃ j : Nat, j ≤ rn ∧ jv = .int .i64 (j : Int) ∧ Hid (But [] wk wj)) (fun jv _ => rn - (intOf jv).toNat)
              case atStart => exact ⟨0, Nat.zero_le _, rfl, unhide HB5⟩
              case round =>
                obtain ⟨j, hj, rfl, HJ⟩ := hrel
                rename World => wj
                have ctj := (unhide HJ).cell_some (unhide CT) (by simp)
                by_cases hjl : j < rn
                · have cxj := hide ((unhide HJ).cell_some (unhide CX) (by simp))
                  have zxj := hide ((unhide HJ).cell_some (unhide ZX j hjl) (by simp))
                  have ztj := hide ((unhide HJ).cell_some (unhide ZT j hjl) (by simp))
                  have CTJ := hide ctj
                  go_wp2
                  refine back_region22 22 _ _ wj xb xo xc tb tof cap xl k pb po pc rb ro rc rn j (tc t k j) (by simp) (by simp [Act.eval]) (by simp [Act.eval]) (by simp [Act.eval]) (by simp [Act.eval]) hkl (by omega) (unhide cxj) (unhide CTJ) hjl (by omega) (unhide zxj) (unhide ztj) ?_
                  intro w6 hb6
                  simp only [putted, List.foldl_cons, List.foldl_nil, Act.put, List.setIfInBounds_toArray, List.set_cons_zero, List.set_cons_succ]
                  have NX := hide ((unhide HJ).trans' hb6)
                  clear hb6 ctj cxj zxj ztj
                  go_wp2
                  exact ⟨⟨j + 1, by omega, by go_num, unhide NX⟩, by simp [intOf]; omega⟩
                · obtain rfl : j = rn := by omega
                  have NX := hide ((unhide HI).trans' (unhide HJ))
                  go_wp2
                  exact ⟨⟨k + 1, by omega, by go_num, unhide NX⟩, by simp [intOf]; omega⟩
            · obtain rfl : k = xl := by omega
              go_wp2
              go_ret
              exact ⟨rfl, (unhide HB3).trans' (unhide HI)⟩
        · have HB1 := hide hb1
          clear hno hb1 TX PA
          dsimp only
          go_wp2_with fail
          refine (unhide GW _ (unhide HB1)).mono ?_
          rintro e w2 ⟨rfl, hb2⟩
          have HB2 := hide ((unhide HB1).trans' hb2)
          clear hb2
          dsimp only
          go_wp2_with fail
          refine (unhide GW _ (unhide HB2)).mono ?_
          rintro e w3 ⟨rfl, hb3⟩
          have HB3 := hide ((unhide HB2).trans' hb3)
          clear hb3
          dsimp only
          go_wp2
          go_ret
          exact ⟨rfl, unhide HB3⟩
end Go.Proofs.YtjbboicccddhbaaGreatDoor
