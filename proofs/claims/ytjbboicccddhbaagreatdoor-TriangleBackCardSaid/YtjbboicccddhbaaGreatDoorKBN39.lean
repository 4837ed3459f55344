/- A number's text, of any length, as the Go text of package nat writes it. -/
import Derived.Shelf.Strings.Cut
import Derived.Test.YtjbboicccddhbaaGreatDoorProg
import Derived.Shelf.Strings.Trim
import Derived.Shelf.Strconv.Atoi
import Derived.Shelf.Strconv.Itoa3
import Derived.Test.YtjbboicccddhbaaGreatDoorKBF4
import Derived.Test.YtjbboicccddhbaaGreatDoorKBN37
namespace Go.Proofs.YtjbboicccddhbaaGreatDoor
open Go.RowKit

/-- the powers that a text is parted by -/
structure Powers (w : World) (vp : Value) (us : List Value) : Prop where
  form : ∃ a c, vp = .slice a us.length c ∧ us.length ≤ c ∧ ∀ j u, us[j]? = some u → ∃ g o, a = some ⟨g, o, none⟩ ∧ g < w.heap.size ∧ w.cell? ⟨g, o + j, none⟩ = some u
  all : ∀ j u, us[j]? = some u → Sl .u64 w u (wd 18446744073709551616 (tenP j))
theorem powers_of {w : World} {base : Nat} {vp : Value} {us : List Value} (h : w.ownsRow base 96 1 vp us.length us) (ha : ∀ j u, us[j]? = some u → Sl .u64 w u (wd 18446744073709551616 (tenP j))) : Powers w vp us := by
  refine ⟨?_, ha⟩
  rcases h.2 with ⟨rfl, h0⟩ | ⟨g, cap, cur, rfl, h2, h3, h4, -⟩
  · exact ⟨none, 0, by rw [h0], by omega, fun j u hj => by have := (List.getElem?_eq_some_iff.1 hj).1; omega⟩
  · refine ⟨_, cap, rfl, h4, fun j u hj => ⟨g, 0, rfl, (h.lt g rfl).2, ?_⟩⟩
    have := h.cells (g := g) rfl j u hj
    rw [addr_add] at this
    exact this
/-- what is asked of writing a number by so many powers -/
def LongOK (L : Nat) : Prop := ∀ (base : Nat) (w0 : World) (vp : Value) (us : List Value) (vo : Value) (ods : List UInt8) (v : Value) (X Wd : Nat) (w : World), base = w0.heap.size → Powers w0 vp us → us.length = L → Below base w0 w →
  Sl .u64 w v (wd 18446744073709551616 X) → X < tenP L → (Wd = 0 ∧ 0 < X ∨ Wd = 608 * 2 ^ L) → (wd 18446744073709551616 X).length ≤ 1000000 → ods.length + (rdig X).length + 2 * (608 * 2 ^ L) < 1073741000 → w.ownsRow base 5 1 vo ods.length (ods.map u8v) → (vo = .slice none 0 0 ∨ 0 < ods.length) → (∀ j u, us[j]? = some u → Sl .u64 w u (wd 18446744073709551616 (tenP j))) →
  Calls Tryz.prog 96 #[vo, v, .int .i64 (Wd : Int), vp] w fun e w' => ∃ v', e = .returned v' ∧ w'.ownsRow base 5 1 v' (ods ++ (wdig Wd X).reverse).length ((ods ++ (wdig Wd X).reverse).map u8v) ∧ Below base w w' ∧ Keep64 w w'

set_option maxHeartbeats 4000000 in
set_option maxRecDepth 100000 in
theorem appendLong_zero : LongOK 0 := by
  intro base w0 vp us vo ods v X Wd w hbase hP hL hB hv hX hW hl hd ho hn _
  have hbs : base ≤ w.heap.size := by rw [hbase]; exact hB.size
  have h608 : 608 * 2 ^ 0 = 608 := by decide
  rw [h608] at hW hd
  have AS := hide (appendShort_any base vo ods v X Wd w hv (by rcases hW with h | h <;> omega) (by omega) (by rcases hW with h | h <;> omega) ho hn hbs)
  obtain ⟨a, c, e, -, -⟩ := hP.form
  rw [hL] at e
  subst e
  obtain ⟨xa, xc, rfl, -, -⟩ := hv
  obtain ⟨oa, oc, rfl⟩ := owns_shape ho
  clear hX hW hP hL ho hn hB
  generalize (wd 18446744073709551616 X).length = n at *
  generalize ods.length = no at *
  go_enter Tryz.func96, Tryz.ntmps96
  go_wp2_with fail
  refine (unhide AS).mono ?_
  rintro e w1 ⟨v1, rfl, ho, hb, hk⟩
  have HO := hide (And.intro ho (And.intro hb hk))
  clear ho hb hk
  go_wp2
  go_ret
  exact ⟨v1, rfl, (unhide HO).1, (unhide HO).2.1, (unhide HO).2.2⟩

theorem tenP_len (L : Nat) : (wd 18446744073709551616 (tenP L)).length ≤ 38 * 2 ^ L := by
  refine wd_length_le (by omega) _ _ ?_
  have e : (18446744073709551616 : Nat) ^ (38 * 2 ^ L) = 16 ^ (608 * 2 ^ L) := by
    rw [show (18446744073709551616 : Nat) = 16 ^ 16 from by decide, ← Nat.pow_mul, ← Nat.mul_assoc]
  rw [e]
  exact Nat.pow_lt_pow_left (by omega) (by have : 0 < 2 ^ L := Nat.pow_pos (by omega); omega)
theorem below_cell {n : Nat} {w w' : World} (h : Below n w w') {g i : Nat} {u : Value} (hg : g < n) (hc : w.cell? ⟨g, i, none⟩ = some u) : w'.cell? ⟨g, i, none⟩ = some u := (World.cell?_of_block (w := w) (h.block g hg)).trans hc
theorem Powers.take {w : World} {g o c L : Nat} {us : List Value} (h : Powers w (.slice (some ⟨g, o, none⟩) us.length c) us) (hL : L ≤ us.length) : Powers w (.slice (some ⟨g, o, none⟩) L c) (us.take L) := by
  have hl : (us.take L).length = L := by rw [List.length_take]; omega
  have hsub : ∀ j u, (us.take L)[j]? = some u → us[j]? = some u := fun j u hj => by
    have hlt : j < L := by have := (List.getElem?_eq_some_iff.1 hj).1; omega
    rw [List.getElem?_take_of_lt hlt] at hj
    exact hj
  obtain ⟨a, c', e, h1, h2⟩ := h.form
  simp only [Value.slice.injEq] at e
  obtain ⟨rfl, -, rfl⟩ := e
  exact ⟨⟨_, c, by rw [hl], by omega, fun j u hj => h2 j u (hsub j u hj)⟩, fun j u hj => h.all j u (hsub j u hj)⟩
/-- both halves' digits -/
theorem wdig_halves (L X Wd : Nat) (hX : X < tenP (L + 1)) (hW : (Wd = 0 ∧ 0 < X) ∨ Wd = 608 * 2 ^ (L + 1)) (hne : ¬ (X / tenP L = 0 ∧ Wd = 0)) :
    (wdig Wd X).reverse = (wdig (Wd - 608 * 2 ^ L) (X / tenP L)).reverse ++ (wdig (608 * 2 ^ L) (X % tenP L)).reverse ∧ ((Wd - 608 * 2 ^ L = 0 ∧ 0 < X / tenP L) ∨ Wd - 608 * 2 ^ L = 608 * 2 ^ L) := by
  have hp := tenP_pos L
  have e2 : 608 * 2 ^ (L + 1) = 608 * 2 ^ L + 608 * 2 ^ L := by rw [Nat.pow_succ]; omega
  rcases hW with ⟨rfl, h0⟩ | h
  · have h1 : 0 < X / tenP L := by
      rcases Nat.eq_zero_or_pos (X / tenP L) with h | h
      · exact absurd ⟨h, rfl⟩ hne
      · exact h
    have h2 : tenP L ≤ X := by
      rcases Nat.lt_or_ge X (tenP L) with h | h
      · rw [Nat.div_eq_of_lt h] at h1; omega
      · exact h
    rw [Nat.zero_sub]
    refine ⟨?_, .inl ⟨rfl, h1⟩⟩
    rw [wdig_long (608 * 2 ^ L) X h2, List.reverse_append]; rfl
  · rw [h, e2, Nat.add_sub_cancel]
    refine ⟨?_, .inr rfl⟩
    rw [wdig_wide (608 * 2 ^ L) X (by rw [← e2]; exact hX), List.reverse_append]; rfl

set_option maxHeartbeats 8000000 in
set_option maxRecDepth 100000 in
theorem appendLong_succ (L : Nat) (IH : LongOK L) (hL20 : L < 20) : LongOK (L + 1) := by
  intro base w0 vp us vo ods v X Wd w hbase hP hL hB hv hX hW hl hd ho hn hall
  have hp := tenP_pos L
  have e2 : 608 * 2 ^ (L + 1) = 608 * 2 ^ L + 608 * 2 ^ L := by rw [Nat.pow_succ]; omega
  have hh : X / tenP L < tenP L := by rw [Nat.div_lt_iff_lt_mul hp, ← tenP_succ]; exact hX
  have hlo : X % tenP L < tenP L := Nat.mod_lt _ hp
  obtain ⟨u, hu⟩ : ∃ u, us[L]? = some u := ⟨us[L], List.getElem?_eq_getElem (by omega)⟩
  obtain ⟨a, c, rfl, hc1, hcell⟩ := hP.form
  obtain ⟨g, o, rfl, hg, hcu⟩ := hcell L u hu
  rw [hbase.symm] at hg
  have cu := below_cell hB hg hcu
  have hPT : Powers w0 (.slice (some ⟨g, o, none⟩) L c) (us.take L) := hP.take (by omega)
  have hTL : (us.take L).length = L := by rw [List.length_take]; omega
  have hsub : ∀ j u, (us.take L)[j]? = some u → us[j]? = some u := fun j u hj => by
    have hlt : j < L := by have := (List.getElem?_eq_some_iff.1 hj).1; omega
    rw [List.getElem?_take_of_lt hlt] at hj
    exact hj
  obtain ⟨D, hD⟩ : ∃ D, D = 608 * 2 ^ L := ⟨_, rfl⟩
  have rh : (rdig (X / tenP L)).length ≤ D := rdig_length _ _ (by rw [hD]; exact hh)
  have rl : (rdig (X % tenP L)).length ≤ D := rdig_length _ _ (by rw [hD]; exact hlo)
  have lh : (wd 18446744073709551616 (X / tenP L)).length ≤ 1000000 := Nat.le_trans (wd_len_mono (Nat.div_le_self _ _)) hl
  have ll : (wd 18446744073709551616 (X % tenP L)).length ≤ 1000000 := Nat.le_trans (wd_len_mono (Nat.mod_le _ _)) hl
  have lu := hall L u hu
  have QR := hide (natQuoRem_any v u X (tenP L) w hv lu hp (by omega) (by
    have := tenP_len L
    have h19 : 2 ^ L ≤ 2 ^ 19 := Nat.pow_le_pow_right (by omega) (by omega)
    omega) (Short.of _ _ hl))
  have hDB : D < 1073741000 := by rw [hD]; omega
  have hbs : base ≤ w.heap.size := by rw [hbase]; exact hB.size
  have HDW : Hid (wrap64 (608 * 2 ^ L) = (D : Int)) := by
    have e : (608 : Int) * 2 ^ L = (D : Int) := by rw [hD]; simp
    show _ = _
    rw [e]; unfold wrap64; omega
  have hLc : L < c := by omega
  have i1 : (0 : Int) ≤ (L : Int) := by omega
  have i2 : (L : Int) ≤ (c : Int) := by omega
  have i3 : (L : Int) ≤ (L : Int) + 1 := by omega
  have HALL := hide hall
  have HO := hide (And.intro ho hn)
  have HB := hide hB
  have IHA := hide (fun ods' vo' v' X' W' W (h1 : Below base w0 W) (h2 : Sl .u64 W v' (wd 18446744073709551616 X')) (h3 : X' < tenP L) (h4 : W' = 0 ∧ 0 < X' ∨ W' = 608 * 2 ^ L) (h5 : (wd 18446744073709551616 X').length ≤ 1000000) h6 h7 h8 (h9 : ∀ j u, us[j]? = some u → Sl .u64 W u (wd 18446744073709551616 (tenP j))) => IH base w0 _ _ vo' ods' v' X' W' W hbase hPT hTL h1 h2 h3 h4 h5 h6 h7 h8 (fun j u hj => h9 j u (hsub j u hj)))
  have HX := hide hX
  have HW := hide hW
  have HD2 := hide (And.intro hD (And.intro rh (And.intro rl (And.intro lh (And.intro ll (And.intro hh hlo))))))
  clear hDB
  have HDD : Hid (ods.length + 4 * D < 1073741000) := by show _ < _; rw [hD]; omega
  obtain ⟨xa, xc, rfl, -, -⟩ := hv
  obtain ⟨oa, oc, rfl⟩ := owns_shape ho
  rw [hL]
  clear hX hW hP hL ho hn hB IH hPT hTL hsub hall hcell hcu hu hp hc1 hbase hd rh rl lh ll hh hlo e2 hD
  generalize (wd 18446744073709551616 X).length = n at *
  generalize hno : ods.length = no at *
  go_enter Tryz.func96, Tryz.ntmps96
  go_wp2_with fail
  refine (unhide QR).mono ?_
  rw [unhide HDW]
  rintro e1 w1 ⟨v1, v2, rfl, hv1, hv2, hb1, -⟩
  have HV1 := hide hv1
  have HV2 := hide hv2
  have B1 := hide hb1
  have HB1 := hide (below_trans (unhide HB) (hb1.below_of hbs))
  obtain ⟨ha, hc, rfl, -, -⟩ := hv1
  clear hv2 hb1 QR
  by_cases h0 : X / tenP L = 0 ∧ Wd = 0
  · obtain ⟨hq0, hw0⟩ := h0
    have hXL : X % tenP L = X := by
      have := Nat.div_add_mod X (tenP L)
      rw [hq0, Nat.mul_zero, Nat.zero_add] at this
      exact this
    have hX0 : 0 < X := by
      have hDp : 0 < 608 * 2 ^ (L + 1) := Nat.mul_pos (by omega) (Nat.pow_pos (by omega))
      rcases unhide HW with h | h
      · exact h.2
      · omega
    have HXL := hide hXL
    have A := hide (unhide IHA ods (.slice oa no oc) v2 (X % tenP L) 0 w1 (unhide HB1) (unhide HV2) (unhide HD2).2.2.2.2.2.2 (.inl ⟨rfl, by rw [hXL]; exact hX0⟩) (unhide HD2).2.2.2.2.1 (by have h1 := (unhide HD2).2.2.1; have h2 := (unhide HD2).1; have h3 := unhide HDD; omega) (by rw [hno]; exact owns_but (unhide HO).1 (unhide B1)) (by rw [hno]; exact (unhide HO).2) (fun j u hj => (unhide HALL j u hj).but_nil (unhide B1)))
    rw [hq0, wd_zero, List.length_nil]
    subst hw0
    clear hq0 hXL hX0 IHA HV1 HD2 HX HW HALL HO
    go_wp2_with fail
    refine (unhide A).mono ?_
    rintro e2 w2 ⟨v3, rfl, ho2, hb2, hk2⟩
    have FIN := hide (And.intro ho2 (And.intro (below_trans ((unhide B1).below_of hbs) hb2) ((Keep64.of_but (unhide B1)).trans hk2)))
    rw [unhide HXL] at FIN
    clear ho2 hb2 hk2 A
    go_wp2
    go_ret
    exact ⟨v3, rfl, (unhide FIN).1, (unhide FIN).2.1, (unhide FIN).2.2⟩
  · obtain ⟨f1, f2⟩ := wdig_halves L X Wd (unhide HX) (unhide HW) h0
    rw [← (unhide HD2).1] at f1 f2
    obtain ⟨W', hW'⟩ : ∃ W', W' = Wd - D := ⟨_, rfl⟩
    rw [← hW'] at f1 f2
    have hmax : max ((Wd : Int) - (D : Int)) 0 = (W' : Int) := by omega
    have hWl : W' ≤ D := by omega
    have hWdl : Wd ≤ 2 * D := by
      have e2 : 608 * 2 ^ (L + 1) = 608 * 2 ^ L + 608 * 2 ^ L := by rw [Nat.pow_succ]; omega
      have := (unhide HD2).1
      rcases unhide HW with h | h <;> omega
    have A := hide (unhide IHA ods (.slice oa no oc) (.slice ha (wd 18446744073709551616 (X / tenP L)).length hc) (X / tenP L) W' w1 (unhide HB1) (unhide HV1) (unhide HD2).2.2.2.2.2.1 (by rw [← (unhide HD2).1]; exact f2) (unhide HD2).2.2.2.1 (by have h1 := (unhide HD2).2.1; have h2 := (unhide HD2).1; have h3 := unhide HDD; omega) (by rw [hno]; exact owns_but (unhide HO).1 (unhide B1)) (by rw [hno]; exact (unhide HO).2) (fun j u hj => (unhide HALL j u hj).but_nil (unhide B1)))
    have F1 := hide f1
    have WL : Hid (0 < (wdig W' (X / tenP L)).length ∧ (wdig W' (X / tenP L)).length ≤ D) := by
      refine ⟨wdig_pos _ _ (by have hDp : 0 < 608 * 2 ^ L := Nat.mul_pos (by omega) (Nat.pow_pos (by omega)); have := (unhide HD2).1; rcases f2 with h | h <;> omega), ?_⟩
      rw [wdig_length]
      have := (unhide HD2).2.1
      omega
    have hh0 : ((((wd 18446744073709551616 (X / tenP L)).length : Int) == 0) = true → ((Wd : Int) == 0) = false) := fun h => by
      have h1 : (wd 18446744073709551616 (X / tenP L)).length = 0 := by have := beq_iff_eq.1 h; omega
      rw [wd_len_zero (by omega)] at h1
      rw [beq_eq_false_iff_ne]
      intro h2
      exact h0 ⟨h1, by omega⟩
    clear f1 f2 h0 hW'
    generalize (wd 18446744073709551616 (X / tenP L)).length = nh at *
    have hsub64 : wrap64 ((Wd : Int) - (D : Int)) = (Wd : Int) - (D : Int) := by have := unhide HDD; unfold wrap64; omega
    by_cases hn0 : nh = 0
    · have hne : ((Wd : Int) == 0) = false := hh0 (by simp [hn0])
      subst hn0
      clear hh0
      go_wp2_with fail
      refine (unhide A).mono ?_
      rintro e2 w2 ⟨v3, rfl, ho2, hb2, hk2⟩
      have HB2 := hide (below_trans (unhide HB1) hb2)
      have HV22 := hide (hk2 _ _ (unhide HV2))
      obtain ⟨oa2, oc2, rfl⟩ := owns_shape ho2
      have hol : (ods ++ (wdig W' (X / tenP L)).reverse).length = no + (wdig W' (X / tenP L)).length := by rw [List.length_append, List.length_reverse, hno]
      have A2 := hide (unhide IHA (ods ++ (wdig W' (X / tenP L)).reverse) (.slice oa2 (ods ++ (wdig W' (X / tenP L)).reverse).length oc2) v2 (X % tenP L) D w2 (unhide HB2) (unhide HV22) (unhide HD2).2.2.2.2.2.2 (.inr (unhide HD2).1) (unhide HD2).2.2.2.2.1 (by have h1 := (unhide HD2).2.2.1; have h2 := (unhide HD2).1; have h3 := unhide HDD; have h4 := (unhide WL).2; omega) ho2 (.inr (by have h4 := (unhide WL).1; omega)) (fun j u hj => hk2 _ _ ((unhide HALL j u hj).but_nil (unhide B1))))
      have K2 := hide (And.intro hb2 hk2)
      clear ho2 hb2 hk2 A hol IHA HALL HV22 HB2
      generalize (ods ++ (wdig W' (X / tenP L)).reverse).length = no2 at *
      go_wp2_with fail
      refine (unhide A2).mono ?_
      rintro e3 w3 ⟨v4, rfl, ho3, hb3, hk3⟩
      have FIN := hide (And.intro ho3 (And.intro (below_trans ((unhide B1).below_of hbs) (below_trans (unhide K2).1 hb3)) (((Keep64.of_but (unhide B1)).trans (unhide K2).2).trans hk3)))
      rw [List.append_assoc, ← unhide F1] at FIN
      clear ho3 hb3 hk3 A2
      go_wp2
      go_ret
      exact ⟨v4, rfl, (unhide FIN).1, (unhide FIN).2.1, (unhide FIN).2.2⟩
    · have hne : ((nh : Int) == 0) = false := beq_eq_false_iff_ne.2 (by omega)
      clear hh0
      go_wp2_with fail
      refine (unhide A).mono ?_
      rintro e2 w2 ⟨v3, rfl, ho2, hb2, hk2⟩
      have HB2 := hide (below_trans (unhide HB1) hb2)
      have HV22 := hide (hk2 _ _ (unhide HV2))
      obtain ⟨oa2, oc2, rfl⟩ := owns_shape ho2
      have hol : (ods ++ (wdig W' (X / tenP L)).reverse).length = no + (wdig W' (X / tenP L)).length := by rw [List.length_append, List.length_reverse, hno]
      have A2 := hide (unhide IHA (ods ++ (wdig W' (X / tenP L)).reverse) (.slice oa2 (ods ++ (wdig W' (X / tenP L)).reverse).length oc2) v2 (X % tenP L) D w2 (unhide HB2) (unhide HV22) (unhide HD2).2.2.2.2.2.2 (.inr (unhide HD2).1) (unhide HD2).2.2.2.2.1 (by have h1 := (unhide HD2).2.2.1; have h2 := (unhide HD2).1; have h3 := unhide HDD; have h4 := (unhide WL).2; omega) ho2 (.inr (by have h4 := (unhide WL).1; omega)) (fun j u hj => hk2 _ _ ((unhide HALL j u hj).but_nil (unhide B1))))
      have K2 := hide (And.intro hb2 hk2)
      clear ho2 hb2 hk2 A hol IHA HALL HV22 HB2
      generalize (ods ++ (wdig W' (X / tenP L)).reverse).length = no2 at *
      go_wp2_with fail
      refine (unhide A2).mono ?_
      rintro e3 w3 ⟨v4, rfl, ho3, hb3, hk3⟩
      have FIN := hide (And.intro ho3 (And.intro (below_trans ((unhide B1).below_of hbs) (below_trans (unhide K2).1 hb3)) (((Keep64.of_but (unhide B1)).trans (unhide K2).2).trans hk3)))
      rw [List.append_assoc, ← unhide F1] at FIN
      clear ho3 hb3 hk3 A2
      go_wp2
      go_ret
      exact ⟨v4, rfl, (unhide FIN).1, (unhide FIN).2.1, (unhide FIN).2.2⟩
theorem appendLong_all (L : Nat) (h : L ≤ 20) : LongOK L := by
  induction L with
  | zero => exact appendLong_zero
  | succ L ih => exact appendLong_succ L (ih (by omega)) (by omega)

theorem dig_len (X n : Nat) (h : (wd 18446744073709551616 X).length ≤ n) : (rdig X).length ≤ 20 * n := by
  refine rdig_length X _ (Nat.lt_of_lt_of_le (lt_of_wd_length (B := 18446744073709551616) (by omega) X n h) ?_)
  rw [Nat.pow_mul]
  exact Nat.pow_le_pow_left (by decide) _

set_option maxHeartbeats 4000000 in
set_option maxRecDepth 100000 in
theorem natText_all (v : Value) (X : Nat) (w : World) (hv : Sl .u64 w v (wd 18446744073709551616 X)) (hl : (wd 18446744073709551616 X).length ≤ 1000000) (htab : Lib.TabIs Tryz.prog w "internal/strconv.uint64pow10" .u64 Lib.pow10Tab) (t : ByteArray) (ht : Hid (t = ⟨(Lib.decDigits X).toArray⟩)) :
    Calls Tryz.prog 47 #[v] w fun e w' => e = .returned (.string t) ∧ But [] w w' := by
  by_cases hu : X < 18446744073709551616
  · have H := hide htab
    have HW := hide (natWord_any v X hu w hv)
    obtain ⟨xa, xc, rfl, -, -⟩ := hv
    clear htab
    generalize (wd 18446744073709551616 X).length = n at *
    go_enter Tryz.func47, Tryz.ntmps47
    go_wp2_with fail
    refine (unhide HW).mono ?_
    rintro e w1 ⟨rfl, hw⟩
    obtain rfl := hw.symm
    clear hw
    go_wp2_with fail
    refine (strconvFormatUint_any X hu _ (unhide H) t ht).mono ?_
    rintro e w1 ⟨rfl, hb⟩
    go_wp2
    go_ret
    exact ⟨rfl, hb⟩
  · have hp : 0 < X := by omega
    have HW := hide (natWord_long v X (by omega) w hv (by omega))
    have PF := hide (powersFor_any v X w hv hl)
    have HV := hide hv
    have hdl := dig_len X _ (Nat.le_refl _)
    have AL : Hid (∀ vo us W, W.ownsRow w.heap.size 96 1 vo us.length us → (∀ j u, us[j]? = some u → Sl .u64 W u (wd 18446744073709551616 (tenP j))) → But [] w W → (∀ j, j < us.length → tenP j ≤ X) → X < tenP us.length →
      Calls Tryz.prog 96 #[.slice none 0 0, v, .int .i64 0, vo] W fun e w' => ∃ v', e = .returned v' ∧ w'.ownsRow W.heap.size 5 1 v' (rdig X).reverse.length ((rdig X).reverse.map u8v) ∧ But [] W w') := fun vo us W h1 h2 h3 h4 h5 => by
      have hL : 1824 * 2 ^ us.length < 128 * 1000000 + 3648 := by
        rcases Nat.eq_zero_or_pos us.length with h0 | h0
        · rw [h0]; omega
        · obtain ⟨j, hj⟩ : ∃ j, us.length = j + 1 := ⟨us.length - 1, by omega⟩
          have := tenP_below X j 1000000 hl (h4 j (by omega))
          rw [hj, Nat.pow_succ]
          omega
      have hL20 : us.length ≤ 20 := by
        rcases Nat.lt_or_ge 20 us.length with h | h
        · have : 2 ^ 21 ≤ 2 ^ us.length := Nat.pow_le_pow_right (by omega) h
          omega
        · exact h
      have := appendLong_all us.length hL20 W.heap.size W vo us (.slice none 0 0) [] v X 0 W rfl (powers_of h1 h2) rfl (But.refl [] W).below (hv.but_nil h3) h5 (.inl ⟨rfl, hp⟩) hl (by simp only [List.length_nil]; omega) (World.ownsRow_nil _ _ _ _) (.inl rfl) h2
      rw [wdig_zero] at this
      refine this.mono fun e w' ⟨v', e1, e2, e3, _⟩ => ⟨v', e1, by simpa using e2, But.of_below e3⟩
    have hrl : 0 < (rdig X).reverse.length := by rw [List.length_reverse, rdig_pos hp]; simp
    have HRR := hide (rdig_rev X hp)
    have hrb : (rdig X).reverse.length ≤ 20000000 := by rw [List.length_reverse]; omega
    obtain ⟨xa, xc, rfl, -, -⟩ := hv
    clear htab hu hl hdl
    generalize (wd 18446744073709551616 X).length = n at *
    go_enter Tryz.func47, Tryz.ntmps47
    go_wp2_with fail
    refine (unhide HW).mono ?_
    rintro e w1 ⟨rfl, hw⟩
    obtain rfl := hw.symm
    clear hw
    go_wp2_with fail
    refine (unhide PF).mono ?_
    rintro e w1 ⟨vo, us, rfl, h1, h2, h3, h4, h5⟩
    have B1 := hide h3
    have A1 := hide (unhide AL vo us w1 h1 h2 h3 h4 h5)
    clear h1 h2 h3 h4 h5 AL PF
    go_wp2_with fail
    refine (unhide A1).mono ?_
    rintro e w2 ⟨v2, rfl, ho2, hb2⟩
    have hB2 : But [] w w2 := (unhide B1).trans' hb2
    obtain ⟨g, cg, rfl, hg, hcg, hrow⟩ := owns_row ho2 hrl
    have hcv := run_convert_bytes_back (P := Tryz.prog) w2 123 9 5 ⟨g, 0, none⟩ cg (rdig X).reverse Tryz.underlying123 Tryz.underlying5 Tryz.underlying9 (fun j hj => row_news hrow j _ (by rw [List.getElem?_map, List.getElem?_eq_getElem hj]; rfl))
    rw [unhide HRR, ← unhide ht] at hcv
    rw [unhide HRR]
    have HB2 := hide hB2
    clear ho2 hb2 hrow hB2 hrl
    generalize (Lib.decDigits X).length = m at *
    go_wp2
    go_ret
    exact ⟨rfl, unhide HB2⟩
end Go.Proofs.YtjbboicccddhbaaGreatDoor

namespace Go.Proofs.YtjbboicccddhbaaGreatDoor
open Go.RowKit

/-- a fraction's text -/
def fracTxt (s : Bool) (p q : Nat) : ByteArray := (if s then ⟨#[45]⟩ ++ ⟨(Lib.decDigits p).toArray⟩ else ⟨(Lib.decDigits p).toArray⟩) ++ (if q = 1 then ⟨#[]⟩ else ⟨#[47]⟩ ++ ⟨(Lib.decDigits q).toArray⟩)
theorem dec_short (u : Nat) (h : (wd 18446744073709551616 u).length ≤ 1000000) : (Lib.decDigits u).length ≤ 20000000 := by
  rcases Nat.eq_zero_or_pos u with rfl | h0
  · rw [Lib.decDigits_length, Lib.nDigits_small (by omega)]; omega
  · rw [← rdig_rev u h0, List.length_reverse]; exact dig_len u 1000000 h
theorem ba_nil (t : ByteArray) : t ++ ⟨#[]⟩ = t := by
  cases t; simp [ByteArray.ext_iff]

set_option maxHeartbeats 4000000 in
set_option maxRecDepth 100000 in
theorem fracText_len (v : Value) (f : Rat) (w : World) (hf : FracAt w v f) (hL : Len f 1000000) (htab : Lib.TabIs Tryz.prog w "internal/strconv.uint64pow10" .u64 Lib.pow10Tab) (t : ByteArray) (ht : Hid (t = fracTxt (decide (f.num < 0)) f.num.natAbs f.den)) :
    Calls Tryz.prog 11 #[v] w fun e w' => e = .returned (.string t) ∧ But [] w w' := by
  have hq0 := den_pos f
  obtain ⟨hN, hD⟩ := hL
  obtain ⟨tp, htp⟩ : ∃ tp : ByteArray, tp = ⟨(Lib.decDigits f.num.natAbs).toArray⟩ := ⟨_, rfl⟩
  obtain ⟨tq, htq⟩ : ∃ tq : ByteArray, tq = ⟨(Lib.decDigits f.den).toArray⟩ := ⟨_, rfl⟩
  have sp : tp.size ≤ 20000000 := by rw [htp]; exact dec_short _ hN
  have sq : tq.size ≤ 20000000 := by rw [htq]; exact dec_short _ hD
  have HNU : Hid (∀ W, But [] w W → Calls Tryz.prog 46 #[v] W fun e w' => ∃ v1 v2, e = .returned (.tuple #[v1, v2]) ∧ Sl .u64 w' v1 (wd 18446744073709551616 f.num.natAbs) ∧ Sl .u64 w' v2 (wd 18446744073709551616 f.den) ∧ But [] W w') := fun W hb => numbers_any v f W (hf.but hb)
  have T1 : Hid (∀ W v1, But [] w W → Sl .u64 W v1 (wd 18446744073709551616 f.num.natAbs) → Calls Tryz.prog 47 #[v1] W fun e w' => e = .returned (.string tp) ∧ But [] W w') := fun W v1 hb h => natText_all v1 _ W h hN (TabIs.but htab hb) tp htp
  have T2 : Hid (∀ W v1, But [] w W → Sl .u64 W v1 (wd 18446744073709551616 f.den) → Calls Tryz.prog 47 #[v1] W fun e w' => e = .returned (.string tq) ∧ But [] W w') := fun W v1 hb h => natText_all v1 _ W h hD (TabIs.but htab hb) tq htq
  have HT : Hid (t = (if decide (f.num < 0) then ⟨#[45]⟩ ++ tp else tp) ++ (if f.den = 1 then ⟨#[]⟩ else ⟨#[47]⟩ ++ tq)) := by show _ = _; rw [unhide ht, fracTxt, htp, htq]
  have ONE : Hid (∀ W v1 (r : Bool), Hid (r = decide (f.den = 1)) → Sl .u64 W v1 (wd 18446744073709551616 f.den) → Calls Tryz.prog 48 #[v1] W fun e w' => e = .returned (.bool r) ∧ w' = W) := fun W v1 r hr h => natOne_any v1 _ W h (by omega) r hr
  obtain ⟨x, y, p, rfl, -⟩ := hf.agg
  have hbw : But [] w (w.alloc (.cells #[.bool (decide (f.num < 0)), .int .u64 x, .int .u64 y, .pointer p] 27)) := (But.refl _ _).alloc _
  clear htp htq ht htab hN hD hf
  generalize hs : decide (f.num < 0) = s at *
  clear hs
  go_enter Tryz.func11, Tryz.ntmps11
  go_wp2_with fail
  refine (unhide HNU _ hbw).mono ?_
  rintro e w1 ⟨v1, v2, rfl, hv1, hv2, hb1⟩
  have B1 := hide (hbw.trans' hb1)
  have HV1 := hide hv1
  have HV2 := hide hv2
  have c0 := hb1.cell_some (show (w.alloc (.cells #[.bool s, .int .u64 x, .int .u64 y, .pointer p] 27)).cell? ⟨w.heap.size, 0, none⟩ = some (.bool s) by simp) (by simp)
  clear hv1 hv2 hb1
  go_wp2_with fail
  refine (unhide T1 _ v1 (unhide B1) (unhide HV1)).mono ?_
  rintro e w2 ⟨rfl, hb2⟩
  have d0 := hb2.cell_some c0 (by simp)
  have B2 : Hid (But [] w w2) := (unhide B1).trans' hb2
  have HV3 := hide ((unhide HV2).but_nil hb2)
  clear hb2 c0 HV2 hbw
  cases s
  all_goals
    go_wp2_with fail
    by_cases hq1 : f.den = 1
    · refine (unhide ONE _ v2 true (by show true = _; simp [hq1]) (unhide HV3)).mono ?_
      rintro e w3 ⟨rfl, hw⟩
      obtain rfl := hw.symm
      clear hw
      go_wp2
      go_ret
      exact ⟨by rw [unhide HT, if_pos hq1, ba_nil]; rfl, unhide B2⟩
    · refine (unhide ONE _ v2 false (by show false = _; simp [hq1]) (unhide HV3)).mono ?_
      rintro e w3 ⟨rfl, hw⟩
      obtain rfl := hw.symm
      clear hw
      go_wp2_with fail
      refine (unhide T2 _ v2 (unhide B2) (unhide HV3)).mono ?_
      rintro e w3 ⟨rfl, hb3⟩
      go_wp2
      go_ret
      exact ⟨by rw [unhide HT, if_neg hq1]; rfl, (unhide B2).trans' hb3⟩
theorem fracText_at (v : Value) (f : Rat) (w : World) (hf : FracAt w v f) (hN : f.num.natAbs < 10 ^ 608) (hD : f.den < 10 ^ 608) (htab : Lib.TabIs Tryz.prog w "internal/strconv.uint64pow10" .u64 Lib.pow10Tab) (t : ByteArray) (ht : Hid (t = fracTxt (decide (f.num < 0)) f.num.natAbs f.den)) :
    Calls Tryz.prog 11 #[v] w fun e w' => e = .returned (.string t) ∧ But [] w w' :=
  fracText_len v f w hf ⟨Nat.le_trans (short_len hN) (by omega), Nat.le_trans (short_len hD) (by omega)⟩ htab t ht
end Go.Proofs.YtjbboicccddhbaaGreatDoor

namespace Go.Proofs
open Go.Shelf Go.RowKit
def Tryz.lays145_ren : Go.Shelf.Ren := ⟨fun | 145 => 131 | 217 => 215 | 219 => 197 | 220 => 170 | 224 => 217 | 225 => 216 | 266 => 228 | 267 => 218 | 314 => 229 | n => n, fun | 3 => 3 | 4 => 4 | 5 => 5 | 9 => 9 | 46 => 100 | 51 => 198 | 59 => 187 | 146 => 199 | n => n, fun | 1 => 5 | n => n⟩
theorem Tryz.lays145 : Go.Proofs.Lays.n145 Tryz.prog Tryz.lays145_ren := {
  mixed := by kernel_rfl
  f145 := Tryz.func131.trans (congrArg some (by kernel_rfl))
  f217 := Tryz.func215.trans (congrArg some (by kernel_rfl))
  f219 := Tryz.func197.trans (congrArg some (by kernel_rfl))
  f220 := Tryz.func170.trans (congrArg some (by kernel_rfl))
  f224 := Tryz.func217.trans (congrArg some (by kernel_rfl))
  f225 := Tryz.func216.trans (congrArg some (by kernel_rfl))
  f266 := Tryz.func228.trans (congrArg some (by kernel_rfl))
  f267 := Tryz.func218.trans (congrArg some (by kernel_rfl))
  f314 := Tryz.func229.trans (congrArg some (by kernel_rfl))
  t3 := Tryz.underlying3
  a3 := Tryz.isAgg3
  z3 := Tryz.sizeOf3
  v3 := Tryz.zeroValue3
  t4 := Tryz.underlying4
  a4 := Tryz.isAgg4
  z4 := Tryz.sizeOf4
  v4 := Tryz.zeroValue4
  t5 := Tryz.underlying5
  a5 := Tryz.isAgg5
  z5 := Tryz.sizeOf5
  v5 := Tryz.zeroValue5
  t9 := Tryz.underlying9
  a9 := Tryz.isAgg9
  z9 := Tryz.sizeOf9
  v9 := Tryz.zeroValue9
  t46 := Tryz.underlying100
  a46 := Tryz.isAgg100
  z46 := Tryz.sizeOf100
  v46 := Tryz.zeroValue100
  t51 := Tryz.underlying198
  a51 := Tryz.isAgg198
  z51 := Tryz.sizeOf198
  v51 := Tryz.zeroValue198
  t59 := Tryz.underlying187
  a59 := Tryz.isAgg187
  z59 := Tryz.sizeOf187
  v59 := Tryz.zeroValue187
  t146 := Tryz.underlying199
  a146 := Tryz.isAgg199
  z146 := Tryz.sizeOf199
  v146 := Tryz.zeroValue199
  g1 := by kernel_rfl }
/-- the text behind the first sign of that kind -/
theorem index_behind (d : UInt8) : ∀ (pre post : List UInt8), d ∉ pre → Lib.index (pre ++ d :: post) [d] = (pre.length : Int)
  | [], post, _ => by simp [Lib.index, List.isPrefixOf]
  | b :: l, post, h => by
    have hb : ¬ d = b := fun e => h (by simp [e])
    have ih := index_behind d l post (fun e => h (by simp [e]))
    rw [List.cons_append, Lib.index, ih]
    have h1 : ([d].isPrefixOf (b :: (l ++ d :: post))) = false := by simp [List.isPrefixOf, hb]
    rw [h1]
    have h2 : (((l.length : Nat) : Int) == -1) = false := by rw [beq_eq_false_iff_ne]; omega
    simp [h2]
theorem index_none (d : UInt8) : ∀ (l : List UInt8), d ∉ l → Lib.index l [d] = -1
  | [], _ => by simp [Lib.index]
  | b :: l, h => by
    have hb : ¬ d = b := fun e => h (by simp [e])
    have ih := index_none d l (fun e => h (by simp [e]))
    rw [Lib.index, ih]
    have h1 : ([d].isPrefixOf (b :: l)) = false := by simp [List.isPrefixOf, hb]
    rw [h1]
    simp
theorem cut_none (d : UInt8) (l : List UInt8) (h : d ∉ l) : Lib.cut l [d] = (l, [], false) := by
  unfold Lib.cut
  rw [index_none d l h]
  simp
theorem cut_behind (d : UInt8) (pre post : List UInt8) (h : d ∉ pre) : Lib.cut (pre ++ d :: post) [d] = (pre, post, true) := by
  unfold Lib.cut
  rw [index_behind d pre post h, if_pos (by omega), Int.toNat_natCast]
  simp
theorem Tryz.strings_Cut (t : ByteArray) (d : UInt8) (pre post : List UInt8) (m : Int) (w : World) (ht : t.data.toList = pre ++ d :: post) (hd : d ∉ pre) (hs : t.size < 4294967281) (hm : w.cell? ⟨5, 0, none⟩ = some (.int .i64 m)) :
    Calls Tryz.prog 131 #[.string t, .string ⟨#[d]⟩] w fun e w' => e = .returned (.tuple #[.string ⟨pre.toArray⟩, .string ⟨post.toArray⟩, .bool true]) ∧ ∃ n, w' = w.drewN n := by
  have h := Any.strings_Cut Tryz.lays145 t ⟨#[d]⟩ m w hs hm
  rw [ht, show (⟨#[d]⟩ : ByteArray).data.toList = [d] from rfl, cut_behind d pre post hd] at h
  exact h
end Go.Proofs

namespace Go.Proofs
open Go.Shelf Go.RowKit
set_option linter.unusedVariables false
def Tryz.lays161_ren : Go.Shelf.Ren := ⟨fun | 119 => 231 | 137 => 230 | 151 => 200 | 152 => 220 | 161 => 133 | 197 => 199 | 217 => 215 | 224 => 217 | 225 => 216 | 227 => 172 | 228 => 198 | 231 => 171 | 233 => 173 | 235 => 174 | 260 => 219 | 266 => 228 | n => n, fun | 0 => 0 | 3 => 3 | 4 => 4 | 5 => 5 | 9 => 9 | 21 => 21 | 46 => 100 | 105 => 250 | 116 => 219 | 117 => 220 | 119 => 281 | 124 => 223 | 138 => 283 | 139 => 284 | n => n, fun | 3 => 6 | 4 => 7 | n => n⟩
theorem Tryz.lays161 : Go.Proofs.Lays.n161 Tryz.prog Tryz.lays161_ren := {
  mixed := by kernel_rfl
  f119 := Tryz.func231.trans (congrArg some (by kernel_rfl))
  f137 := Tryz.func230.trans (congrArg some (by kernel_rfl))
  f151 := Tryz.func200.trans (congrArg some (by kernel_rfl))
  f152 := Tryz.func220.trans (congrArg some (by kernel_rfl))
  f161 := Tryz.func133.trans (congrArg some (by kernel_rfl))
  f197 := Tryz.func199.trans (congrArg some (by kernel_rfl))
  f217 := Tryz.func215.trans (congrArg some (by kernel_rfl))
  f224 := Tryz.func217.trans (congrArg some (by kernel_rfl))
  f225 := Tryz.func216.trans (congrArg some (by kernel_rfl))
  f227 := Tryz.func172.trans (congrArg some (by kernel_rfl))
  f228 := Tryz.func198.trans (congrArg some (by kernel_rfl))
  f231 := Tryz.func171.trans (congrArg some (by kernel_rfl))
  f233 := Tryz.func173.trans (congrArg some (by kernel_rfl))
  f235 := Tryz.func174.trans (congrArg some (by kernel_rfl))
  f260 := Tryz.func219.trans (congrArg some (by kernel_rfl))
  f266 := Tryz.func228.trans (congrArg some (by kernel_rfl))
  t0 := Tryz.underlying0
  a0 := Tryz.isAgg0
  z0 := Tryz.sizeOf0
  v0 := Tryz.zeroValue0
  t3 := Tryz.underlying3
  a3 := Tryz.isAgg3
  z3 := Tryz.sizeOf3
  v3 := Tryz.zeroValue3
  t4 := Tryz.underlying4
  a4 := Tryz.isAgg4
  z4 := Tryz.sizeOf4
  v4 := Tryz.zeroValue4
  t5 := Tryz.underlying5
  a5 := Tryz.isAgg5
  z5 := Tryz.sizeOf5
  v5 := Tryz.zeroValue5
  t9 := Tryz.underlying9
  a9 := Tryz.isAgg9
  z9 := Tryz.sizeOf9
  v9 := Tryz.zeroValue9
  t21 := Tryz.underlying21
  a21 := Tryz.isAgg21
  z21 := Tryz.sizeOf21
  v21 := Tryz.zeroValue21
  t46 := Tryz.underlying100
  a46 := Tryz.isAgg100
  z46 := Tryz.sizeOf100
  v46 := Tryz.zeroValue100
  t105 := Tryz.underlying250
  a105 := Tryz.isAgg250
  z105 := Tryz.sizeOf250
  v105 := Tryz.zeroValue250
  t116 := Tryz.underlying219
  a116 := Tryz.isAgg219
  z116 := Tryz.sizeOf219
  t117 := Tryz.underlying220
  a117 := Tryz.isAgg220
  z117 := Tryz.sizeOf220
  v117 := Tryz.zeroValue220
  t119 := Tryz.underlying281
  a119 := Tryz.isAgg281
  z119 := Tryz.sizeOf281
  t124 := Tryz.underlying223
  a124 := Tryz.isAgg223
  z124 := Tryz.sizeOf223
  v124 := Tryz.zeroValue223
  t138 := Tryz.underlying283
  a138 := Tryz.isAgg283
  z138 := Tryz.sizeOf283
  v138 := Tryz.zeroValue283
  t139 := Tryz.underlying284
  a139 := Tryz.isAgg284
  z139 := Tryz.sizeOf284
  v139 := Tryz.zeroValue284
  g3 := by kernel_rfl
  g4 := by kernel_rfl }
def Tryz.lays172_ren : Go.Shelf.Ren := ⟨fun | 129 => 147 | 171 => 87 | 172 => 184 | 205 => 233 | 243 => 136 | 244 => 205 | 245 => 206 | 246 => 182 | 247 => 221 | 279 => 222 | 280 => 223 | 281 => 224 | 282 => 225 | 283 => 185 | 284 => 186 | 285 => 187 | 286 => 188 | 287 => 232 | 316 => 201 | 317 => 207 | 318 => 208 | 319 => 209 | 320 => 210 | 321 => 234 | 322 => 235 | 337 => 226 | 338 => 227 | n => n, fun | 0 => 0 | 2 => 2 | 3 => 3 | 4 => 4 | 5 => 5 | 9 => 9 | 20 => 20 | 21 => 21 | 37 => 123 | 46 => 100 | 51 => 198 | 53 => 24 | 80 => 33 | 75 => 30 | 76 => 126 | 85 => 275 | 127 => 185 | 143 => 293 | 145 => 295 | 167 => 274 | 168 => 277 | 171 => 240 | 173 => 242 | 175 => 286 | 210 => 289 | 212 => 268 | 213 => 269 | 232 => 290 | 233 => 291 | n => n, fun | 15 => 8 | 16 => 9 | 17 => 4 | 18 => 10 | 19 => 11 | n => n⟩
theorem Tryz.lays172 : Go.Proofs.Lays.n172 Tryz.prog Tryz.lays172_ren := {
  mixed := by kernel_rfl
  f129 := Tryz.func147.trans (congrArg some (by kernel_rfl))
  f171 := Tryz.func87.trans (congrArg some (by kernel_rfl))
  f172 := Tryz.func184.trans (congrArg some (by kernel_rfl))
  f205 := Tryz.func233.trans (congrArg some (by kernel_rfl))
  f243 := Tryz.func136.trans (congrArg some (by kernel_rfl))
  f244 := Tryz.func205.trans (congrArg some (by kernel_rfl))
  f245 := Tryz.func206.trans (congrArg some (by kernel_rfl))
  f246 := Tryz.func182.trans (congrArg some (by kernel_rfl))
  f247 := Tryz.func221.trans (congrArg some (by kernel_rfl))
  f279 := Tryz.func222.trans (congrArg some (by kernel_rfl))
  f280 := Tryz.func223.trans (congrArg some (by kernel_rfl))
  f281 := Tryz.func224.trans (congrArg some (by kernel_rfl))
  f282 := Tryz.func225.trans (congrArg some (by kernel_rfl))
  f283 := Tryz.func185.trans (congrArg some (by kernel_rfl))
  f284 := Tryz.func186.trans (congrArg some (by kernel_rfl))
  f285 := Tryz.func187.trans (congrArg some (by kernel_rfl))
  f286 := Tryz.func188.trans (congrArg some (by kernel_rfl))
  f287 := Tryz.func232.trans (congrArg some (by kernel_rfl))
  f316 := Tryz.func201.trans (congrArg some (by kernel_rfl))
  f317 := Tryz.func207.trans (congrArg some (by kernel_rfl))
  f318 := Tryz.func208.trans (congrArg some (by kernel_rfl))
  f319 := Tryz.func209.trans (congrArg some (by kernel_rfl))
  f320 := Tryz.func210.trans (congrArg some (by kernel_rfl))
  f321 := Tryz.func234.trans (congrArg some (by kernel_rfl))
  f322 := Tryz.func235.trans (congrArg some (by kernel_rfl))
  f337 := Tryz.func226.trans (congrArg some (by kernel_rfl))
  f338 := Tryz.func227.trans (congrArg some (by kernel_rfl))
  t0 := Tryz.underlying0
  a0 := Tryz.isAgg0
  z0 := Tryz.sizeOf0
  v0 := Tryz.zeroValue0
  t2 := Tryz.underlying2
  a2 := Tryz.isAgg2
  z2 := Tryz.sizeOf2
  v2 := Tryz.zeroValue2
  t3 := Tryz.underlying3
  a3 := Tryz.isAgg3
  z3 := Tryz.sizeOf3
  v3 := Tryz.zeroValue3
  t4 := Tryz.underlying4
  a4 := Tryz.isAgg4
  z4 := Tryz.sizeOf4
  v4 := Tryz.zeroValue4
  t5 := Tryz.underlying5
  a5 := Tryz.isAgg5
  z5 := Tryz.sizeOf5
  v5 := Tryz.zeroValue5
  t9 := Tryz.underlying9
  a9 := Tryz.isAgg9
  z9 := Tryz.sizeOf9
  v9 := Tryz.zeroValue9
  t20 := Tryz.underlying20
  a20 := Tryz.isAgg20
  z20 := Tryz.sizeOf20
  v20 := Tryz.zeroValue20
  t21 := Tryz.underlying21
  a21 := Tryz.isAgg21
  z21 := Tryz.sizeOf21
  v21 := Tryz.zeroValue21
  t37 := Tryz.underlying123
  a37 := Tryz.isAgg123
  z37 := Tryz.sizeOf123
  v37 := Tryz.zeroValue123
  t46 := Tryz.underlying100
  a46 := Tryz.isAgg100
  z46 := Tryz.sizeOf100
  v46 := Tryz.zeroValue100
  t51 := Tryz.underlying198
  a51 := Tryz.isAgg198
  z51 := Tryz.sizeOf198
  v51 := Tryz.zeroValue198
  t53 := Tryz.underlying24
  a53 := Tryz.isAgg24
  z53 := Tryz.sizeOf24
  v53 := Tryz.zeroValue24
  t75 := Tryz.underlying30
  a75 := Tryz.isAgg30
  z75 := Tryz.sizeOf30
  v75 := Tryz.zeroValue30
  t76 := Tryz.underlying126
  a76 := Tryz.isAgg126
  z76 := Tryz.sizeOf126
  v76 := Tryz.zeroValue126
  t85 := Tryz.underlying275
  a85 := Tryz.isAgg275
  z85 := Tryz.sizeOf275
  v85 := Tryz.zeroValue275
  t127 := Tryz.underlying185
  a127 := Tryz.isAgg185
  z127 := Tryz.sizeOf185
  v127 := Tryz.zeroValue185
  t143 := Tryz.underlying293
  a143 := Tryz.isAgg293
  z143 := Tryz.sizeOf293
  v143 := Tryz.zeroValue293
  t145 := Tryz.underlying295
  a145 := Tryz.isAgg295
  z145 := Tryz.sizeOf295
  v145 := Tryz.zeroValue295
  t167 := Tryz.underlying274
  a167 := Tryz.isAgg274
  z167 := Tryz.sizeOf274
  v167 := Tryz.zeroValue274
  t168 := Tryz.underlying277
  a168 := Tryz.isAgg277
  z168 := Tryz.sizeOf277
  v168 := Tryz.zeroValue277
  t171 := Tryz.underlying240
  a171 := Tryz.isAgg240
  z171 := Tryz.sizeOf240
  v171 := Tryz.zeroValue240
  t173 := Tryz.underlying242
  a173 := Tryz.isAgg242
  z173 := Tryz.sizeOf242
  v173 := Tryz.zeroValue242
  t175 := Tryz.underlying286
  a175 := Tryz.isAgg286
  z175 := Tryz.sizeOf286
  v175 := Tryz.zeroValue286
  t210 := Tryz.underlying289
  a210 := Tryz.isAgg289
  z210 := Tryz.sizeOf289
  v210 := Tryz.zeroValue289
  t212 := Tryz.underlying268
  a212 := Tryz.isAgg268
  z212 := Tryz.sizeOf268
  v212 := Tryz.zeroValue268
  t213 := Tryz.underlying269
  a213 := Tryz.isAgg269
  z213 := Tryz.sizeOf269
  t232 := Tryz.underlying290
  a232 := Tryz.isAgg290
  z232 := Tryz.sizeOf290
  v232 := Tryz.zeroValue290
  t233 := Tryz.underlying291
  a233 := Tryz.isAgg291
  z233 := Tryz.sizeOf291
  v233 := Tryz.zeroValue291
  g15 := by kernel_rfl
  g16 := by kernel_rfl
  g17 := by kernel_rfl
  g18 := by kernel_rfl
  g19 := by kernel_rfl }
def Tryz.laysM171_ren : Go.Shelf.Ren := ⟨fun | 129 => 147 | 171 => 87 | 243 => 136 | 246 => 182 | 283 => 185 | 284 => 186 | 285 => 187 | 286 => 188 | 317 => 207 | 318 => 208 | 319 => 209 | 320 => 210 | 337 => 226 | 338 => 227 | n => n, fun | 0 => 0 | 2 => 2 | 3 => 3 | 4 => 4 | 5 => 5 | 9 => 9 | 20 => 20 | 37 => 123 | 46 => 100 | 51 => 198 | 53 => 24 | 171 => 240 | 173 => 242 | 212 => 268 | 213 => 269 | 232 => 290 | 233 => 291 | n => n, fun | 17 => 4 | 18 => 10 | 19 => 11 | n => n⟩
theorem Tryz.laysM171 : Go.Proofs.LaysM.n171 Tryz.prog Tryz.laysM171_ren := {
  mixed := by kernel_rfl
  f129 := Tryz.func147.trans (congrArg some (by kernel_rfl))
  f171 := Tryz.func87.trans (congrArg some (by kernel_rfl))
  f243 := Tryz.func136.trans (congrArg some (by kernel_rfl))
  f246 := Tryz.func182.trans (congrArg some (by kernel_rfl))
  f283 := Tryz.func185.trans (congrArg some (by kernel_rfl))
  f284 := Tryz.func186.trans (congrArg some (by kernel_rfl))
  f285 := Tryz.func187.trans (congrArg some (by kernel_rfl))
  f286 := Tryz.func188.trans (congrArg some (by kernel_rfl))
  f317 := Tryz.func207.trans (congrArg some (by kernel_rfl))
  f318 := Tryz.func208.trans (congrArg some (by kernel_rfl))
  f319 := Tryz.func209.trans (congrArg some (by kernel_rfl))
  f320 := Tryz.func210.trans (congrArg some (by kernel_rfl))
  f337 := Tryz.func226.trans (congrArg some (by kernel_rfl))
  f338 := Tryz.func227.trans (congrArg some (by kernel_rfl))
  t0 := Tryz.underlying0
  a0 := Tryz.isAgg0
  z0 := Tryz.sizeOf0
  v0 := Tryz.zeroValue0
  t2 := Tryz.underlying2
  a2 := Tryz.isAgg2
  z2 := Tryz.sizeOf2
  v2 := Tryz.zeroValue2
  t3 := Tryz.underlying3
  a3 := Tryz.isAgg3
  z3 := Tryz.sizeOf3
  v3 := Tryz.zeroValue3
  t4 := Tryz.underlying4
  a4 := Tryz.isAgg4
  z4 := Tryz.sizeOf4
  v4 := Tryz.zeroValue4
  t5 := Tryz.underlying5
  a5 := Tryz.isAgg5
  z5 := Tryz.sizeOf5
  v5 := Tryz.zeroValue5
  t9 := Tryz.underlying9
  a9 := Tryz.isAgg9
  z9 := Tryz.sizeOf9
  v9 := Tryz.zeroValue9
  t20 := Tryz.underlying20
  a20 := Tryz.isAgg20
  z20 := Tryz.sizeOf20
  v20 := Tryz.zeroValue20
  t37 := Tryz.underlying123
  a37 := Tryz.isAgg123
  z37 := Tryz.sizeOf123
  v37 := Tryz.zeroValue123
  t46 := Tryz.underlying100
  a46 := Tryz.isAgg100
  z46 := Tryz.sizeOf100
  v46 := Tryz.zeroValue100
  t51 := Tryz.underlying198
  a51 := Tryz.isAgg198
  z51 := Tryz.sizeOf198
  v51 := Tryz.zeroValue198
  t53 := Tryz.underlying24
  a53 := Tryz.isAgg24
  z53 := Tryz.sizeOf24
  v53 := Tryz.zeroValue24
  t171 := Tryz.underlying240
  a171 := Tryz.isAgg240
  z171 := Tryz.sizeOf240
  v171 := Tryz.zeroValue240
  t173 := Tryz.underlying242
  a173 := Tryz.isAgg242
  z173 := Tryz.sizeOf242
  v173 := Tryz.zeroValue242
  t212 := Tryz.underlying268
  a212 := Tryz.isAgg268
  z212 := Tryz.sizeOf268
  v212 := Tryz.zeroValue268
  t213 := Tryz.underlying269
  a213 := Tryz.isAgg269
  z213 := Tryz.sizeOf269
  t232 := Tryz.underlying290
  a232 := Tryz.isAgg290
  z232 := Tryz.sizeOf290
  v232 := Tryz.zeroValue290
  t233 := Tryz.underlying291
  a233 := Tryz.isAgg291
  z233 := Tryz.sizeOf291
  v233 := Tryz.zeroValue291
  g17 := by kernel_rfl
  m17 := by kernel_rfl
  g18 := by kernel_rfl
  m18 := by kernel_rfl
  g19 := by kernel_rfl
  m19 := by kernel_rfl
  i0 := by kernel_rfl
  i2 := by kernel_rfl
  i3 := by kernel_rfl
  i4 := by kernel_rfl
  i5 := by kernel_rfl
  i9 := by kernel_rfl
  i20 := by kernel_rfl
  i37 := by kernel_rfl
  i46 := by kernel_rfl
  i51 := by kernel_rfl
  i53 := by kernel_rfl
  i171 := by kernel_rfl
  i173 := by kernel_rfl
  i212 := by kernel_rfl
  i232 := by kernel_rfl
  i233 := by kernel_rfl }
end Go.Proofs
