/- How much years are beside a factor, as the Go text of the statement TriangleBest finds it. -/
import Derived.Test.YtjbboicccddhbaaGreatDoorKBL1
import Derived.Test.YtjbboicccddhbaaGreatDoorKBTC
import Derived.Test.YtjbboicccddhbaaGreatDoorKBTH
namespace Go.Proofs.YtjbboicccddhbaaGreatDoor
open Go.RowKit
set_option linter.unusedVariables false

theorem len_zeroT (n : Nat) (h : 1 ≤ n) : Len 0 n := ⟨Nat.le_trans (wd_length_le (by omega) _ 1 (by decide)) h, Nat.le_trans (wd_length_le (by omega) _ 1 (by decide)) h⟩
/-- how much one year is beside a factor -/
def offT (t : List (List Int)) (j : Nat) (g : Rat) (i : Nat) : Rat := if tc t i j = 0 then 0 else ((tc t i j : Int) : Rat) * (((tc t i (j + 1) : Int) : Rat) / ((tc t i j : Int) : Rat) - g) * (((tc t i (j + 1) : Int) : Rat) / ((tc t i j : Int) : Rat) - g)
/-- the first years together -/
def offS (t : List (List Int)) (j : Nat) (g : Rat) : Nat → Rat
  | 0 => 0
  | i + 1 => offS t j g i + offT t j g i
theorem num_ne {z : Int} (h : z ≠ 0) : ((z : Int) : Rat).num ≠ 0 := by rw [(int_parts z).1]; exact h
theorem len_gap {t : List (List Int)} (hok : TriOk t) (j i : Nat) (g : Rat) (lg : Len g 1) (h : tc t i j ≠ 0) : Len (((tc t i (j + 1) : Int) : Rat) / ((tc t i j : Int) : Rat) - g) 4 :=
  len_sub (len_div (len_tc hok i (j + 1)) (len_tc hok i j) (num_ne h) 2 (by omega)) lg 4 (by omega)
theorem len_offT {t : List (List Int)} (hok : TriOk t) (j : Nat) (g : Rat) (lg : Len g 1) (i : Nat) : Len (offT t j g i) 9 := by
  unfold offT
  split
  · exact len_zeroT _ (by omega)
  · rename_i h
    exact len_mul (len_mul (len_tc hok i j) (len_gap hok j i g lg h) 5 (by omega)) (len_gap hok j i g lg h) 9 (by omega)
theorem len_offS {t : List (List Int)} (hok : TriOk t) (j : Nat) (g : Rat) (lg : Len g 1) : ∀ i, Len (offS t j g i) (10 * i + 1)
  | 0 => len_zeroT _ (by omega)
  | i + 1 => len_add (len_offS hok j g lg i) (len_offT hok j g lg i) _ (by omega)
set_option maxHeartbeats 16000000 in
set_option maxRecDepth 100000 in
theorem off_any (gt tb to n tcap j : Nat) (vg : Value) (g : Rat) (t : List (List Int)) (w : World) (hct : w.cell? ⟨gt, 0, none⟩ = some (.slice (some ⟨tb, to, none⟩) n tcap)) (hv : TriAt w (.slice (some ⟨tb, to, none⟩) n tcap) t) (hok : TriOk t) (hn : n = t.length) (hj : j + 1 < n) (hg : FracAt w vg g) (lg : Len g 1) (S : Rat) (hS : S = offS t j g (n - 1 - j)) :
    Calls Tryz.prog 35 #[vg, .int .i64 (j : Int), .pointer (some ⟨gt, 0, none⟩)] w fun e w' => ∃ v, e = .returned v ∧ FracAt w' v S ∧ But [] w w' := by
  obtain ⟨xg, yg, pg, rfl, -⟩ := id hg.agg
  generalize hsf : decide (g.num < 0) = sg at *
  clear hsf
  have n20 : n ≤ 20 := by rw [hn]; exact hok.2.1
  have HV := hide hv
  have HOK := hide hok
  have HN := hide hn
  have HCT := hide hct
  have HG := hide hg
  have HLG := hide lg
  have HS := hide hS
  obtain ⟨ws0, wx0, F0, WH0⟩ := whole_is 0 (by omega) (by omega)
  have HW0 := hide WH0
  have HF0 := hide F0
  clear hv hok hn hct hg lg hS WH0 F0
  go_enter Tryz.func35, Tryz.ntmps35
  go_wp2_with fail
  refine (unhide HW0 _).mono ?_
  rintro e w1 ⟨rfl, hb1⟩
  have b3 : BoxAt w1 w.heap.size g := ((BoxAt.new w sg xg yg pg g 27 (unhide HG)).but ((But.refl _ _).alloc _)).but hb1
  have b5 : BoxAt w1 (w.heap.size + 1) 0 := by
    have h := (BoxAt.new (w.alloc (.cells #[.bool sg, .int .u64 xg, .int .u64 yg, .pointer pg] 27)) false 0 0 none 0 27 (zero_at _)).but hb1
    rw [World.size_alloc] at h
    exact h
  have bw1 : But [] w w1 := (((But.refl _ _).alloc _).alloc _).trans' hb1
  have b6 : BoxAt (w1.alloc (.cells #[.bool ws0, .int .u64 wx0, .int .u64 0, .pointer none] 27)) w1.heap.size 0 := by
    have h := BoxAt.new w1 ws0 wx0 0 none (((0 : Int) : Int) : Rat) 27 (unhide HF0 w1)
    exact h
  obtain ⟨U, hU⟩ : ∃ U, U = w1.alloc (.cells #[.bool ws0, .int .u64 wx0, .int .u64 0, .pointer none] 27) := ⟨_, rfl⟩
  have bU : But [] w1 U := by rw [hU]; exact (But.refl _ _).alloc _
  rw [← hU] at b6
  obtain ⟨B5, hB5⟩ : ∃ B, B = w.heap.size + 1 := ⟨_, rfl⟩
  obtain ⟨B3, hB3⟩ : ∃ B, B = w.heap.size := ⟨_, rfl⟩
  obtain ⟨B6, hB6⟩ : ∃ B, B = w1.heap.size := ⟨_, rfl⟩
  have I0 : Hid (BoxAt U B6 (offS t j g 0) ∧ BoxAt U B5 0 ∧ BoxAt U B3 g ∧ But [] w U) := ⟨by rw [hB6]; exact b6, by rw [hB5]; exact b5.but bU, by rw [hB3]; exact b3.but bU, bw1.trans' bU⟩
  have h56 : B5 < B6 := by have := b5.lt; omega
  have h35 : B3 < B5 := by omega
  have HWB : Hid (w.heap.size ≤ B3) := by show w.heap.size ≤ B3; omega
  clear hb1 b3 b5 b6 bw1 bU HF0 HW0
  go_wp2
  rw [← hU, ← hB6, ← hB5, ← hB3]
  clear hU hB6 hB5 hB3
  go_loopw [7] (fun iv wr => ∃ i : Nat, i + 1 + j ≤ n ∧ iv = .int .i64 (i : Int) ∧ Hid (BoxAt wr B6 (offS t j g i) ∧ BoxAt wr B5 0 ∧ BoxAt wr B3 g ∧ But [] w wr)) (fun iv _ => n - (intOf iv).toNat)
  case atStart => exact ⟨0, by omega, rfl, unhide I0⟩
  case round =>
    obtain ⟨i, hi, rfl, HI⟩ := hrel
    rename World => wr
    clear I0
    have ct : wr.cell? ⟨gt, 0, none⟩ = some (.slice (some ⟨tb, to, none⟩) n tcap) := (unhide HI).2.2.2.cell_some (unhide HCT) (by simp)
    by_cases hlt : i + 1 + j < n
    · have hil : i < t.length := by have := unhide HN; omega
      have hge : t[i]? = some t[i] := List.getElem?_eq_getElem hil
      obtain ⟨r, hr⟩ : ∃ r, r = t[i] := ⟨_, rfl⟩
      rw [← hr] at hge
      obtain ⟨a', cap', ea, -, hc⟩ := (unhide HV).but (unhide HI).2.2.2
      simp only [Value.slice.injEq] at ea
      obtain ⟨rfl, -, rfl⟩ := ea
      obtain ⟨b', off', rv', eb, c0, c1⟩ := hc i r hge
      obtain ⟨rfl, rfl⟩ : tb = b' ∧ to = off' := by simpa using eb
      obtain ⟨ra, rcap, rfl, hrc, hri⟩ := c1
      have hrl : r.length = n - i := by rw [(unhide HOK).len hge, unhide HN]
      obtain ⟨z0, hz0⟩ : ∃ x, r[j]? = some x := ⟨_, List.getElem?_eq_getElem (by omega)⟩
      obtain ⟨z1, hz1⟩ : ∃ x, r[j + 1]? = some x := ⟨_, List.getElem?_eq_getElem (by omega)⟩
      obtain ⟨rb, ro, rfl, cz0⟩ := hri j z0 hz0
      obtain ⟨rb', ro', er, cz1⟩ := hri (j + 1) z1 hz1
      obtain ⟨rfl, rfl⟩ : rb = rb' ∧ ro = ro' := by simpa using er
      have t0 := tc_of hge hz0
      have t1 := tc_of hge hz1
      have zb0 := (unhide HOK).cell i j
      have zb1 := (unhide HOK).cell i (j + 1)
      rw [t0] at zb0
      rw [t1] at zb1
      obtain ⟨rn, hrn⟩ : ∃ rn, rn = r.length := ⟨_, rfl⟩
      rw [← hrn] at c0 hrl
      have hrn1 : j + 1 < rn := by omega
      have hrn2 : rn ≤ 20 := by omega
      have T0 := hide t0
      have T1 := hide t1
      clear hge hr hc eb hrc hri hz0 hz1 er hrn hrl hil t0 t1
      by_cases hz : z0 = 0
      · have HNX : Hid (BoxAt wr B6 (offS t j g (i + 1))) := by
          show BoxAt wr B6 (offS t j g i + offT t j g i)
          rw [show offT t j g i = 0 from by unfold offT; rw [if_pos (by rw [unhide T0]; exact hz)], Rat.add_zero]
          exact (unhide HI).1
        subst hz
        go_wp2
        exact ⟨⟨i + 1, by omega, by go_num, unhide HNX, (unhide HI).2⟩, by simp [intOf]; omega⟩
      · have lgap := len_gap (unhide HOK) j i g (unhide HLG) (by rw [unhide T0]; exact hz)
        have hgap : offT t j g i = ((z0 : Int) : Rat) * (((z1 : Int) : Rat) / ((z0 : Int) : Rat) - g) * (((z1 : Int) : Rat) / ((z0 : Int) : Rat) - g) := by
          unfold offT
          rw [if_neg (by rw [unhide T0]; exact hz), unhide T0, unhide T1]
        have lo := (len_offS (unhide HOK) j g (unhide HLG) i).mono (show 10 * i + 1 ≤ 400 by omega)
        have lt' := len_offT (unhide HOK) j g (unhide HLG) i
        rw [unhide T0, unhide T1] at lgap
        rw [hgap] at lt'
        have NXT : Hid (offS t j g (i + 1) = offS t j g i + ((z0 : Int) : Rat) * (((z1 : Int) : Rat) / ((z0 : Int) : Rat) - g) * (((z1 : Int) : Rat) / ((z0 : Int) : Rat) - g)) := by
          show offS t j g i + offT t j g i = _
          rw [hgap]
        obtain ⟨h, hh⟩ : ∃ h, h = ((z1 : Int) : Rat) / ((z0 : Int) : Rat) := ⟨_, rfl⟩
        rw [← hh] at lgap lt' NXT
        obtain ⟨dd, hd⟩ : ∃ dd, dd = h - g := ⟨_, rfl⟩
        rw [← hd] at lgap lt' NXT
        obtain ⟨ws1, wx1, F1, WH1⟩ := whole_is z1 (by omega) (by omega)
        obtain ⟨ws2, wx2, F2, WH2⟩ := whole_is z0 (by omega) (by omega)
        have lz0 := len_int z0 (by omega)
        have lz1 := len_int z1 (by omega)
        have DI : Hid (∀ W, But [] wr W → Calls Tryz.prog 36 #[.agg #[.bool ws1, .int .u64 wx1, .int .u64 0, .pointer none], .agg #[.bool ws2, .int .u64 wx2, .int .u64 0, .pointer none]] W fun e w' => ∃ v, e = .returned (.tuple #[v, .nilIface]) ∧ FracAt w' v h ∧ But [] W w') := fun W _ => by
          rw [hh]
          exact fracDiv_any _ _ _ _ W (F1 W) (F2 W) (lz1.mono (by omega)) (lz0.mono (by omega)) (num_ne hz)
        have lh : Len h 2 := by rw [hh]; exact len_div lz1 lz0 (num_ne hz) 2 (by omega)
        obtain ⟨⟨⟨s6, x6, y6, p6, c6, f6⟩, l6⟩, -, ⟨⟨s3, x3, y3, p3, c3, f3⟩, -⟩, hbw⟩ := unhide HI
        have HW1 := hide WH1
        have HW2 := hide WH2
        have HF2 := hide F2
        have CT := hide ct
        have C0 := hide c0
        have CZ0 := hide cz0
        have CZ1 := hide cz1
        have C6 := hide c6
        have F6 := hide f6
        have C3 := hide c3
        have F3 := hide f3
        have L6 := hide l6
        have LG := hide lgap
        have LT := hide lt'
        have LO := hide lo
        have LH := hide lh
        have HD := hide hd
        have LZ := hide lz0
        clear WH1 WH2 F2 F1 c6 f6 c3 f3 l6 lgap lt' lo lh hd hgap lz0 lz1 hh hbw
        have hz' : ¬ z0 = 0 := hz
        go_wp2
        refine off_region6 6 _ _ wr wr.heap.size tb to n tcap i j rb ro rn rcap z1 z0 ws1 wx1 ws2 wx2 h (by simp) gt rfl (by simp [Act.eval]) (by simp [Act.eval]) (by simp [Act.eval]) (by omega) (by omega) (by omega) hrn1 (unhide CT) (unhide C0) (unhide CZ1) (unhide CZ0) (unhide HW1) (unhide HW2) (unhide DI) ?_
        intro w4 bn v17 v18 v19 v22 s4 x4 y4 p4 hb4 hbn c4 f4
        simp only [putted, List.foldl_cons, List.foldl_nil, Act.put, List.setIfInBounds_toArray, List.set_cons_zero, List.set_cons_succ]
        have F4 := hide f4
        have HB4 := hide hb4
        have SU := hide (in_parts (fracSub_gen 2 1 (by omega) _ _ _ _ w4 f4 ((unhide F3).but hb4) (unhide LH) (unhide HLG)))
        rw [← unhide HD] at SU
        obtain ⟨q0, q1, q2, q3⟩ := c4
        obtain ⟨m0, m1, m2, m3⟩ := (unhide C3).but hb4 (by simp)
        clear f4 hb4 ct c0 cz0 cz1 DI CZ1 hbn
        go_wp2_with fail
        refine (unhide SU).mono ?_
        rintro e w5 ⟨s5, x5, y5, p5, rfl, hf5, hb5⟩
        obtain ⟨X, hX⟩ : ∃ X, X = w5.alloc (.cells #[.bool s5, .int .u64 x5, .int .u64 y5, .pointer p5] 27) := ⟨_, rfl⟩
        have bX : But [] w5 X := by rw [hX]; exact (But.refl _ _).alloc _
        have B4X : Hid (But [] wr X) := ((unhide HB4).trans' hb5).trans' bX
        have b10 : BoxAt X w5.heap.size dd := by rw [hX]; exact BoxAt.new w5 s5 x5 y5 p5 dd 27 hf5
        have c10 : P4 X w5.heap.size s5 x5 y5 p5 := by rw [hX]; exact ⟨by simp, by simp, by simp, by simp⟩
        obtain ⟨g10, hg10⟩ : ∃ g10, g10 = w5.heap.size := ⟨_, rfl⟩
        rw [← hg10] at b10 c10
        have F5X := hide (hf5.but bX)
        have C10 := hide c10
        have HX := hide hX
        have HG10 := hide hg10
        clear bX b10 c10 hf5 hb5 SU q0 q1 q2 q3 m0 m1 m2 m3
        go_wp2
        rw [← unhide HX, ← unhide HG10]
        clear hX hg10 HX HG10
        have MU : Hid (∀ W, But [] X W → Calls Tryz.prog 37 #[.agg #[.bool ws2, .int .u64 wx2, .int .u64 0, .pointer none], .agg #[.bool s5, .int .u64 x5, .int .u64 y5, .pointer p5]] W fun e w' => ∃ v, e = .returned v ∧ FracAt w' v (((z0 : Int) : Rat) * dd) ∧ But [] W w') := fun W hW => fracMul_any _ _ _ _ W (unhide HF2 W) ((unhide F5X).but hW) ((unhide LZ).mono (by omega)) ((unhide LG).mono (by omega))
        have MV : Hid (∀ W, But [] X W → ∀ v, FracAt W v (((z0 : Int) : Rat) * dd) → Calls Tryz.prog 37 #[v, .agg #[.bool s5, .int .u64 x5, .int .u64 y5, .pointer p5]] W fun e w' => ∃ v, e = .returned v ∧ FracAt w' v (((z0 : Int) : Rat) * dd * dd) ∧ But [] W w') := fun W hW v hv => fracMul_any _ _ _ _ W hv ((unhide F5X).but hW) ((len_mul (unhide LZ) (unhide LG) 5 (by omega)).mono (by omega)) ((unhide LG).mono (by omega))
        have AD : Hid (∀ W, But [] X W → ∀ v, FracAt W v (((z0 : Int) : Rat) * dd * dd) → Calls Tryz.prog 21 #[.agg #[.bool s6, .int .u64 x6, .int .u64 y6, .pointer p6], v] W fun e w' => ∃ v, e = .returned v ∧ FracAt w' v (offS t j g i + ((z0 : Int) : Rat) * dd * dd) ∧ But [] W w') := fun W hW v hv => fracAdd_gen 400 9 (by omega) _ _ _ _ W (((unhide F6).but (unhide B4X)).but hW) hv (unhide LO) (unhide LT)
        refine off_region8 8 _ _ X tb to n tcap i j rb ro rn rcap z0 ws2 wx2 s6 x6 y6 p6 s5 x5 y5 p5 (offS t j g i) dd B6 (by simp) gt g10 (by simp [Act.eval]) ((unhide C6).but (unhide B4X) (by simp)) (fun o => ((unhide B4X).frozen (p := ⟨B6, o, none⟩) (unhide HI).1.lt (by simp)).trans (unhide L6 o)) (by simp [Act.eval]) (by simp [Act.eval]) (by simp [Act.eval]) (by simp [Act.eval]) (by omega) (by omega) (by omega) (by omega) ((unhide B4X).cell_some (unhide CT) (by simp)) ((unhide B4X).cell_some (unhide C0) (by simp)) ((unhide B4X).cell_some (unhide CZ0) (by simp)) ((unhide C6).but (unhide B4X) (by simp)) (unhide C10) (unhide HW2) (unhide MU) (unhide MV) (unhide AD) ?_
        intro w8 v10 v12 s8 x8 y8 p8 hb8 hf8
        simp only [putted, List.foldl_cons, List.foldl_nil, Act.put, List.setIfInBounds_toArray, List.set_cons_zero, List.set_cons_succ]
        have hB := (unhide B4X).trans' hb8
        have hP := put4_but w8 B6 s8 x8 y8 p8
        obtain ⟨j6, j5, j3, jw⟩ := unhide HI
        obtain ⟨sb, hsb⟩ := (j6.but hB).bool
        have hcb : ∀ g ∈ [B6], ∃ s, w8.cell? ⟨g, 0, none⟩ = some (.bool s) := fun g hg => by simp at hg; subst hg; exact ⟨_, hsb⟩
        have NX : Hid (BoxAt (put4 w8 B6 s8 x8 y8 p8) B6 (offS t j g (i + 1)) ∧ BoxAt (put4 w8 B6 s8 x8 y8 p8) B5 0 ∧ BoxAt (put4 w8 B6 s8 x8 y8 p8) B3 g ∧ But [] w (put4 w8 B6 s8 x8 y8 p8)) := by
          refine ⟨?_, (j5.but hB).beside hP (by simp; omega) hcb, (j3.but hB).beside hP (by simp; omega) hcb, (jw.trans' hB).trans hP (fun x hx => by simp at hx; subst hx; exact .inr (by have := unhide HWB; omega))⟩
          rw [unhide NXT]
          exact (j6.but hB).put hf8
        clear hP hcb hsb j6 j5 j3 jw hf8 hb8 hB
        generalize put4 w8 B6 s8 x8 y8 p8 = V8 at *
        clear MU MV AD
        go_wp2
        exact ⟨⟨i + 1, by omega, by go_num, unhide NX⟩, by simp [intOf]; omega⟩
    · have HR : Hid (S = offS t j g i) := by
        show S = _
        rw [unhide HS, show n - 1 - j = i from by omega]
      obtain ⟨⟨⟨s6, x6, y6, p6, ⟨d0, d1, d2, d3⟩, f6⟩, l6⟩, ⟨⟨s5, x5, y5, p5, c5, f5⟩, l5⟩, -, hbw⟩ := unhide HI
      have C5 := hide c5
      obtain ⟨e0, e1, e2, e3⟩ := c5
      have F6 := hide f6
      have HBW := hide hbw
      clear f6 f5 hbw l6
      go_wp2
      have hP := put4_but wr B5 s6 x6 y6 p6
      obtain ⟨k0, k1, k2, k3⟩ := put4_p4 wr B5 s6 x6 y6 p6 (unhide C5)
      change bodyPost _ _ _ _ _ (put4 wr B5 s6 x6 y6 p6)
      have hB : But [] w (put4 wr B5 s6 x6 y6 p6) := (unhide HBW).trans hP (fun x hx => by simp at hx; subst hx; exact .inr (by have := unhide HWB; omega))
      have hF : FracAt (put4 wr B5 s6 x6 y6 p6) (.agg #[.bool s6, .int .u64 x6, .int .u64 y6, .pointer p6]) S := by
        rw [unhide HR]
        exact (unhide F6).over e0 hP
      generalize put4 wr B5 s6 x6 y6 p6 = V at *
      exact bodyPost_ret (v := .agg #[.bool s6, .int .u64 x6, .int .u64 y6, .pointer p6]) (by simp [results, Tryz.results35, go_sem, k0, k1, k2, k3]) rfl ⟨_, rfl, hF, hB⟩
end Go.Proofs.YtjbboicccddhbaaGreatDoor

namespace Go.Proofs.YtjbboicccddhbaaGreatDoor
open Go.RowKit
set_option linter.unusedVariables false

/-- squares, each by what was there -/
def sqA (t : List (List Int)) (j : Nat) : Nat → Rat
  | 0 => 0
  | i + 1 => sqA t j i + ((tc t i (j + 1) : Int) : Rat) * ((tc t i (j + 1) : Int) : Rat) / ((tc t i j : Int) : Rat)
theorem offS_form (t : List (List Int)) (j : Nat) (g : Rat) : ∀ i, (∀ k, k < i → tc t k j ≠ 0) → offS t j g i = sqA t j i - 2 * g * ((cs t (j + 1) i : Int) : Rat) + g * g * ((cs t j i : Int) : Rat)
  | 0, _ => by
    show (0 : Rat) = 0 - 2 * g * ((0 : Int) : Rat) + g * g * ((0 : Int) : Rat)
    grind
  | i + 1, h => by
    have ih := offS_form t j g i (fun k hk => h k (by omega))
    have hne : ((tc t i j : Int) : Rat) ≠ 0 := by exact_mod_cast h i (by omega)
    show offS t j g i + offT t j g i = (sqA t j i + _) - 2 * g * (((cs t (j + 1) i + tc t i (j + 1) : Int)) : Rat) + g * g * (((cs t j i + tc t i j : Int)) : Rat)
    rw [ih]
    unfold offT
    rw [if_neg (h i (by omega)), Rat.intCast_add, Rat.intCast_add]
    generalize ((tc t i (j + 1) : Int) : Rat) = a at *
    generalize ((tc t i j : Int) : Rat) = c at *
    generalize sqA t j i = s at *
    generalize ((cs t (j + 1) i : Int) : Rat) = d at *
    generalize ((cs t j i : Int) : Rat) = e at *
    have hc : a / c * c = a := by grind
    have h2 : a * a / c = a / c * a := by grind
    rw [h2]
    generalize a / c = q at *
    subst hc
    grind
theorem cs_pos (t : List (List Int)) (j : Nat) : ∀ i, (∀ k, k < i → 0 < tc t k j) → 0 < i → 0 < cs t j i
  | 0, _, h => by omega
  | i + 1, h, _ => by
    show 0 < cs t j i + tc t i j
    have h1 := h i (by omega)
    rcases Nat.eq_zero_or_pos i with e | e
    · subst e
      show 0 < 0 + tc t 0 j
      omega
    · have := cs_pos t j i (fun k hk => h k (by omega)) e
      omega
/-- no other factor has less beside it -/
theorem off_least (t : List (List Int)) (j : Nat) (g : Rat) (hj : j + 1 < t.length) (h : ∀ k, k < t.length - 1 - j → 0 < tc t k j) : offS t j (fc t j) (t.length - 1 - j) ≤ offS t j g (t.length - 1 - j) := by
  rw [offS_form t j g _ (fun k hk => by have := h k hk; omega), offS_form t j (fc t j) _ (fun k hk => by have := h k hk; omega)]
  unfold fc
  have hp := cs_pos t j (t.length - 1 - j) h (by omega)
  have hc : (0 : Rat) < ((cs t j (t.length - 1 - j) : Int) : Rat) := by exact_mod_cast hp
  generalize ((cs t j (t.length - 1 - j) : Int) : Rat) = c at *
  generalize ((cs t (j + 1) (t.length - 1 - j) : Int) : Rat) = d at *
  generalize sqA t j (t.length - 1 - j) = s at *
  have hd : d / c * c = d := by grind
  generalize d / c = f at *
  subst hd
  have hsq : 0 ≤ (g - f) * (g - f) := by
    rcases (Rat.le_total : (0 : Rat) ≤ g - f ∨ g - f ≤ 0) with h | h
    · exact Rat.mul_nonneg h h
    · have h2 : 0 ≤ -(g - f) := by grind
      have := Rat.mul_nonneg h2 h2
      grind
  have := Rat.mul_nonneg (Rat.le_of_lt hc) hsq
  grind
/-- a triangle of which all is k times as much -/
def scl (k : Int) (t : List (List Int)) : List (List Int) := t.map fun r => r.map fun x => k * x
theorem scl_len (k : Int) (t : List (List Int)) : (scl k t).length = t.length := by unfold scl; simp
theorem tc_scl (k : Int) (t : List (List Int)) (i j : Nat) : tc (scl k t) i j = k * tc t i j := by
  unfold tc scl
  rw [List.getElem?_map]
  cases e : t[i]? with
  | none => simp
  | some r =>
    show (r.map fun x => k * x)[j]?.getD 0 = k * r[j]?.getD 0
    rw [List.getElem?_map]
    cases e2 : r[j]? with
    | none => simp
    | some x => rfl
theorem cs_scl (k : Int) (t : List (List Int)) (j : Nat) : ∀ i, cs (scl k t) j i = k * cs t j i
  | 0 => by simp [cs]
  | i + 1 => by
    show cs (scl k t) j i + tc (scl k t) i j = k * (cs t j i + tc t i j)
    rw [cs_scl k t j i, tc_scl, Int.mul_add]
theorem fc_scl (k : Int) (t : List (List Int)) (hk : k ≠ 0) (j : Nat) (h0 : cs t j (t.length - 1 - j) ≠ 0) : fc (scl k t) j = fc t j := by
  unfold fc
  rw [scl_len, cs_scl, cs_scl, Rat.intCast_mul, Rat.intCast_mul]
  have h1 : ((k : Int) : Rat) ≠ 0 := by exact_mod_cast hk
  have h2 : ((cs t j (t.length - 1 - j) : Int) : Rat) ≠ 0 := by exact_mod_cast h0
  generalize ((cs t j (t.length - 1 - j) : Int) : Rat) = c at *
  generalize ((cs t (j + 1) (t.length - 1 - j) : Int) : Rat) = d at *
  generalize ((k : Int) : Rat) = q at *
  have h3 : q * c ≠ 0 := by
    intro e
    rcases Rat.mul_eq_zero.1 e with e | e
    · exact h1 e
    · exact h2 e
  grind
theorem sq_scl (k : Int) (t : List (List Int)) (hk : k ≠ 0) (h0 : ∀ j, j + 1 < t.length → cs t j (t.length - 1 - j) ≠ 0) (i : Nat) : ∀ j, j < t.length → sq (scl k t) i j = sq t i j * ((k : Int) : Rat)
  | 0, _ => by
    show ((tc (scl k t) i 0 : Int) : Rat) = ((tc t i 0 : Int) : Rat) * _
    rw [tc_scl, Rat.intCast_mul, Rat.mul_comm]
  | j + 1, hj => by
    show (if j + 1 < (scl k t).length - i then ((tc (scl k t) i (j + 1) : Int) : Rat) else sq (scl k t) i j * fc (scl k t) j) = (if j + 1 < t.length - i then ((tc t i (j + 1) : Int) : Rat) else sq t i j * fc t j) * _
    rw [scl_len]
    split
    · rw [tc_scl, Rat.intCast_mul, Rat.mul_comm]
    · rw [sq_scl k t hk h0 i j (by omega), fc_scl k t hk j (h0 j hj)]
      grind
theorem rv_scl (k : Int) (t : List (List Int)) (hk : k ≠ 0) (h0 : ∀ j, j + 1 < t.length → cs t j (t.length - 1 - j) ≠ 0) (h1 : 0 < t.length) (i : Nat) : rv (scl k t) i = rv t i * ((k : Int) : Rat) := by
  unfold rv
  rw [scl_len, sq_scl k t hk h0 i _ (by omega), tc_scl, Rat.intCast_mul]
  grind
theorem scl_good (k : Int) (t : List (List Int)) (hk : 1 ≤ k) (hk9 : k ≤ 9) (h : TriGood t) (hs : ∀ r ∈ t, ∀ x ∈ r, x ≤ 100000000000000) : TriGood (scl k t) := by
  obtain ⟨⟨h1, h2, h3⟩, h4⟩ := h
  refine ⟨⟨by rw [scl_len]; exact h1, by rw [scl_len]; exact h2, fun i r hr => ?_⟩, fun j hj => ?_⟩
  · unfold scl at hr
    rw [List.getElem?_map] at hr
    cases e : t[i]? with
    | none => rw [e] at hr; simp at hr
    | some q =>
      rw [e] at hr
      simp only [Option.map_some, Option.some.injEq] at hr
      subst hr
      refine ⟨by rw [List.length_map, scl_len]; exact (h3 i q e).1, fun x hx => ?_⟩
      obtain ⟨y, hy, rfl⟩ := List.mem_map.1 hx
      have a1 := ((h3 i q e).2 y hy).1
      have a2 := hs q (List.mem_of_getElem? e) y hy
      constructor
      · exact Int.mul_nonneg (by omega) a1
      · have := Int.mul_le_mul hk9 a2 a1 (by omega)
        omega
  · rw [scl_len] at hj ⊢
    rw [cs_scl]
    intro e
    rcases Int.mul_eq_zero.1 e with e | e
    · omega
    · exact h4 j hj e
end Go.Proofs.YtjbboicccddhbaaGreatDoor
