/- A whole number is divided by another one, as the Go text of package nat does it. -/
import Derived.Test.YtlkpkgajfakdpaaGreatKN14
import Derived.Test.YtlkpkgajfakdpaaGreatKNA
namespace Go.Proofs.YtlkpkgajfakdpaaGreat
open Go.RowKit

theorem cmpN_cases (m n : Nat) : (m < n ∧ cmpN m n = -1) ∨ (m = n ∧ cmpN m n = 0) ∨ (n < m ∧ cmpN m n = 1) := by
  rcases Nat.lt_trichotomy m n with h | h | h
  · exact .inl ⟨h, by simp [cmpN, h]⟩
  · exact .inr (.inl ⟨h, by simp [cmpN, h]⟩)
  · exact .inr (.inr ⟨h, by simp only [cmpN]; rw [if_neg (by omega), if_neg (by omega)]⟩)
theorem cmpN_lt {m n : Nat} (h : m < n) : cmpN m n = -1 := by simp [cmpN, h]
theorem cmpN_ge {m n : Nat} (h : n ≤ m) : 0 ≤ cmpN m n := by
  rcases cmpN_cases m n with ⟨h1, -⟩ | ⟨-, h1⟩ | ⟨-, h1⟩ <;> omega

def DivideOK (X Y : Nat) : Prop := ∀ (vx vy : Value) (w : World), Sl .u64 w vx (wd 18446744073709551616 X) → Sl .u64 w vy (wd 18446744073709551616 Y) →
  Calls Tryz.prog 70 #[vx, vy] w fun e w' => ∃ v1 v2, e = .returned (.tuple #[v1, v2]) ∧ Sl .u64 w' v1 (wd 18446744073709551616 (X / Y)) ∧ Sl .u64 w' v2 (wd 18446744073709551616 (X % Y)) ∧ But [] w w' ∧ (Y ≤ X → Own w.heap.size w' v2)

set_option maxHeartbeats 2000000 in
set_option maxRecDepth 100000 in
theorem divide_short (X Y : Nat) (h2 : 2 ≤ (wd 18446744073709551616 Y).length) (hle : Y ≤ X) (hl : (wd 18446744073709551616 X).length < 268435456) (hs : (wd 18446744073709551616 X).length < (wd 18446744073709551616 Y).length + 80 ∨ (wd 18446744073709551616 Y).length < 80) : DivideOK X Y := by
  intro vx vy w hx hy
  have hlen := wd_len_mono hle
  have hcmp := natCmp_any vx vy X Y w hx hy (by omega) (by omega)
  have hc0 := cmpN_ge hle
  generalize cmpN X Y = r at *
  have HC := hide hcmp
  have LD := hide (fun (W : World) (h1 : Sl .u64 W vx (wd 18446744073709551616 X)) (h3 : Sl .u64 W vy (wd 18446744073709551616 Y)) => longDivision_any vx vy X Y W h1 h3 h2 hlen hl)
  have HX := hide hx
  have HY := hide hy
  obtain ⟨a1, c1, rfl, -, -⟩ := hx
  obtain ⟨a2, c2, rfl, -, -⟩ := hy
  clear hcmp
  generalize (wd 18446744073709551616 X).length = nx at *
  generalize (wd 18446744073709551616 Y).length = ny at *
  have hr : decide (r < 0) = false := by simp; omega
  by_cases hm : nx < ny + 80
  · go_enter Tryz.func70, Tryz.ntmps70
    go_wp2_with fail
    refine (unhide HC).mono ?_
    rintro e w1 ⟨rfl, q, rfl⟩
    go_wp2_with fail
    refine (unhide LD _ (by exact unhide HX) (by exact unhide HY)).mono ?_
    rintro e w2 ⟨v1, v2, rfl, h1, h3, h4, h5, h6⟩
    have ALL := hide (And.intro h1 (And.intro h3 (And.intro (((But.refl [] _).drewN q).trans' h4) h5)))
    clear h1 h3 h4 h5 h6 LD HC
    go_wp2
    go_ret2
    exact ⟨v1, v2, rfl, (unhide ALL).1, (unhide ALL).2.1, (unhide ALL).2.2.1, fun _ => (unhide ALL).2.2.2⟩
  · have hs2 : ny < 80 := by omega
    clear hs
    go_enter Tryz.func70, Tryz.ntmps70
    go_wp2_with fail
    refine (unhide HC).mono ?_
    rintro e w1 ⟨rfl, q, rfl⟩
    go_wp2_with fail
    refine (unhide LD _ (by exact unhide HX) (by exact unhide HY)).mono ?_
    rintro e w2 ⟨v1, v2, rfl, h1, h3, h4, h5, h6⟩
    have ALL := hide (And.intro h1 (And.intro h3 (And.intro (((But.refl [] _).drewN q).trans' h4) h5)))
    clear h1 h3 h4 h5 h6 LD HC
    go_wp2
    go_ret2
    exact ⟨v1, v2, rfl, (unhide ALL).1, (unhide ALL).2.1, (unhide ALL).2.2.1, fun _ => (unhide ALL).2.2.2⟩

/-- the highest word -/
def topW (Y : Nat) : Nat := (wd 18446744073709551616 Y)[(wd 18446744073709551616 Y).length - 1]?.getD 0
theorem top_pos (Y : Nat) (h : 0 < Y) : 0 < topW Y ∧ topW Y < 18446744073709551616 ∧ Y < (topW Y + 1) * 18446744073709551616 ^ ((wd 18446744073709551616 Y).length - 1) ∧ topW Y * 18446744073709551616 ^ ((wd 18446744073709551616 Y).length - 1) ≤ Y := by
  have hl : 0 < (wd 18446744073709551616 Y).length := by rw [Nat.pos_iff_ne_zero]; intro e; rw [wd_len_zero (by omega)] at e; omega
  obtain ⟨m, hm⟩ : ∃ m, (wd 18446744073709551616 Y).length = m + 1 := ⟨(wd 18446744073709551616 Y).length - 1, by omega⟩
  have e1 := vl_drop_div (wd 18446744073709551616 Y) m (by omega)
  rw [drop_one _ m hm, vl_one, vl_wd (by omega)] at e1
  have e2 := vl_take_lt (wd 18446744073709551616 Y) m (by omega) (wd_mem (by omega) Y)
  have e3 := mem_getD (wd_mem (B := 18446744073709551616) (by omega) Y) (by omega : 0 < 18446744073709551616) m
  unfold topW
  rw [hm, Nat.add_sub_cancel]
  generalize (wd 18446744073709551616 Y)[m]?.getD 0 = t at *
  have ht : 0 < t := by
    rcases Nat.eq_zero_or_pos t with h0 | h0
    · subst h0
      have := wd_length_le (B := 18446744073709551616) (by omega) Y m (by omega)
      omega
    · exact h0
  rw [Nat.mul_comm] at e1
  refine ⟨ht, e3, ?_, by omega⟩
  rw [Nat.add_mul, Nat.one_mul]; omega
theorem norm_len (Y : Nat) (h : 0 < Y) : (wd 18446744073709551616 (Y * 2 ^ lz (topW Y))).length = (wd 18446744073709551616 Y).length := by
  obtain ⟨h1, h2, h3, h4⟩ := top_pos Y h
  obtain ⟨l1, l2, l3, -⟩ := lz_facts (topW Y) h1 h2
  have hl : 0 < (wd 18446744073709551616 Y).length := by rw [Nat.pos_iff_ne_zero]; intro e; rw [wd_len_zero (by omega)] at e; omega
  have hp : 18446744073709551616 = 2 ^ (64 - lz (topW Y)) * 2 ^ lz (topW Y) := by rw [← Nat.pow_add, show (64 - lz (topW Y)) + lz (topW Y) = 64 from by omega]
  have h5 : (topW Y + 1) * 2 ^ lz (topW Y) ≤ 18446744073709551616 := by
    rw [hp] at l2 ⊢
    exact Nat.mul_le_mul_right _ (Nat.lt_of_mul_lt_mul_right l2)
  refine Nat.le_antisymm (wd_length_le (by omega) _ _ ?_) (wd_len_mono (Nat.le_mul_of_pos_right _ (Nat.pow_pos (by omega))))
  have h6 : Y * 2 ^ lz (topW Y) < (topW Y + 1) * 18446744073709551616 ^ ((wd 18446744073709551616 Y).length - 1) * 2 ^ lz (topW Y) := Nat.mul_lt_mul_of_pos_right h3 (Nat.pow_pos (by omega))
  have h7 : (topW Y + 1) * 18446744073709551616 ^ ((wd 18446744073709551616 Y).length - 1) * 2 ^ lz (topW Y) ≤ 18446744073709551616 * 18446744073709551616 ^ ((wd 18446744073709551616 Y).length - 1) := by
    rw [Nat.mul_right_comm]; exact Nat.mul_le_mul_right _ h5
  have h8 : 18446744073709551616 * 18446744073709551616 ^ ((wd 18446744073709551616 Y).length - 1) = 18446744073709551616 ^ (wd 18446744073709551616 Y).length := by rw [Nat.mul_comm, ← Nat.pow_succ]; congr 1; omega
  omega
theorem shl_len (X s : Nat) (hs : s ≤ 63) : (wd 18446744073709551616 (X * 2 ^ s)).length ≤ (wd 18446744073709551616 X).length + 1 := by
  refine wd_length_le (by omega) _ _ ?_
  rw [Nat.pow_succ]
  have h1 := lt_wd X
  have h2 : 2 ^ s ≤ 18446744073709551616 := by
    have : 2 ^ s ≤ 2 ^ 64 := Nat.pow_le_pow_right (by omega) (by omega)
    omega
  exact Nat.lt_of_lt_of_le (Nat.mul_lt_mul_of_pos_right h1 (Nat.pow_pos (by omega))) (Nat.mul_le_mul_left _ h2)

set_option maxHeartbeats 4000000 in
set_option maxRecDepth 100000 in
theorem natQuoRem_of (vx vy : Value) (X Y : Nat) (w : World) (hx : Sl .u64 w vx (wd 18446744073709551616 X)) (hy : Sl .u64 w vy (wd 18446744073709551616 Y)) (hY : 0 < Y) (hl : (wd 18446744073709551616 X).length < 134217728) (hly : (wd 18446744073709551616 Y).length < 134217728)
    (hD : 2 ≤ (wd 18446744073709551616 Y).length → Y ≤ X → DivideOK (X * 2 ^ lz (topW Y)) (Y * 2 ^ lz (topW Y))) :
    Calls Tryz.prog 50 #[vx, vy] w fun e w' => ∃ v1 v2, e = .returned (.tuple #[v1, v2]) ∧ Sl .u64 w' v1 (wd 18446744073709551616 (X / Y)) ∧ Sl .u64 w' v2 (wd 18446744073709551616 (X % Y)) ∧ But [] w w' ∧ (Y ≤ X → Own w.heap.size w' v2) := by
  have hcmp := natCmp_any vx vy X Y w hx hy (by omega) (by omega)
  rcases Nat.lt_or_ge X Y with hlt | hge
  · rw [cmpN_lt hlt] at hcmp
    rw [Nat.div_eq_of_lt hlt, Nat.mod_eq_of_lt hlt, wd_zero]
    have HC := hide hcmp
    have HX := hide hx
    obtain ⟨a1, c1, rfl, -, -⟩ := hx
    obtain ⟨a2, c2, rfl, -, -⟩ := hy
    clear hcmp hD
    generalize (wd 18446744073709551616 X).length = nx at *
    generalize (wd 18446744073709551616 Y).length = ny at *
    go_enter Tryz.func50, Tryz.ntmps50
    go_wp2_with fail
    refine (unhide HC).mono ?_
    rintro e w1 ⟨rfl, q, rfl⟩
    go_wp2
    go_ret2
    exact ⟨_, _, rfl, Sl.nil _ _, unhide HX, (But.refl _ _).drewN q, fun h => by omega⟩
  · have hc0 := cmpN_ge hge
    generalize cmpN X Y = r at *
    have hr : decide (r < 0) = false := by simp; omega
    have HC := hide hcmp
    have HX := hide hx
    have HY := hide hy
    rcases hy.open with ⟨e, -⟩ | ⟨hp, b2, o2, c2, rfl, hc2, -, hcell⟩
    · rw [wd_nil_iff (by omega)] at e; omega
    obtain ⟨a1, c1, rfl, -, -⟩ := hx
    by_cases h1 : (wd 18446744073709551616 Y).length = 1
    · have hYB : Y < 18446744073709551616 := by
        have := lt_of_wd_length (B := 18446744073709551616) (by omega) Y 1 (by omega)
        rw [Nat.pow_one] at this
        exact this
      have hc := hcell 0 (by omega)
      rw [Nat.add_zero, wd_word Y hY hYB] at hc
      simp only [List.getElem?_cons_zero, Option.getD_some] at hc
      have HB := hide (fun (W : World) (h : Sl .u64 W (.slice a1 (wd 18446744073709551616 X).length c1) (wd 18446744073709551616 X)) => byWord_any _ X Y W h (by omega) hY hYB)
      have hmod : X % Y < 18446744073709551616 := Nat.lt_trans (Nat.mod_lt _ hY) hYB
      clear hcmp hD hcell hy
      generalize hnx : (wd 18446744073709551616 X).length = nx at *
      generalize hny : (wd 18446744073709551616 Y).length = ny at *
      clear hnx hny
      have e1 : ((ny : Int) == 1) = true := beq_iff_eq.2 (by omega)
      have hp1 : (0 : Int) < (ny : Int) := by omega
      have HE := hide h1
      clear h1
      go_enter Tryz.func50, Tryz.ntmps50
      go_wp2_with fail
      refine (unhide HC).mono ?_
      rintro e w1 ⟨rfl, q, rfl⟩
      go_wp2_with fail
      refine (unhide HB _ (by exact unhide HX)).mono ?_
      rintro e w2 ⟨v1, rfl, hv1, hb2⟩
      have B2 : Hid (But [] w w2) := ((But.refl [] _).drewN q).trans' hb2
      have HV1 := hide hv1
      clear hb2 hv1
      go_wp2_with fail
      refine (natOf_any (X % Y) hmod _).mono ?_
      rintro e w3 ⟨v2, rfl, hv2, hb3, ho3⟩
      have ALL := hide (And.intro ((unhide HV1).but_nil hb3) (And.intro hv2 (And.intro ((unhide B2).trans' hb3) (ho3.mono (unhide B2).size))))
      clear hv2 hb3 ho3
      go_wp2
      go_ret2
      exact ⟨v1, v2, rfl, (unhide ALL).1, (unhide ALL).2.1, (unhide ALL).2.2.1, fun _ => (unhide ALL).2.2.2⟩
    · obtain ⟨t1, t2, -, -⟩ := top_pos Y hY
      have hs := (lz_facts (topW Y) t1 t2).1
      have hDO := hD (by omega) hge
      have hct := hcell ((wd 18446744073709551616 Y).length - 1) (by omega)
      have LZ := hide (fun W => lead_any (topW Y) t1 t2 W)
      have hnl := norm_len Y hY
      have hsl := shl_len X (lz (topW Y)) hs
      rw [show (wd 18446744073709551616 Y)[(wd 18446744073709551616 Y).length - 1]?.getD 0 = topW Y from rfl] at hct
      have HL1 := hide (fun (W : World) (h : Sl .u64 W (.slice a1 (wd 18446744073709551616 X).length c1) (wd 18446744073709551616 X)) => natLeft_any _ X (lz (topW Y)) W h (by omega) hs)
      have HL2 := hide (fun (W : World) (h : Sl .u64 W (.slice (some ⟨b2, o2, none⟩) (wd 18446744073709551616 Y).length c2) (wd 18446744073709551616 Y)) => natLeft_any _ Y (lz (topW Y)) W h (by omega) hs)
      have hz : 0 < 2 ^ lz (topW Y) := Nat.pow_pos (by omega)
      have hle2 : Y * 2 ^ lz (topW Y) ≤ X * 2 ^ lz (topW Y) := Nat.mul_le_mul_right _ hge
      have HDO := hide hDO
      unfold DivideOK at HDO
      rw [Nat.mul_div_mul_right _ _ hz, Nat.mul_mod_mul_right] at HDO
      have hrl : (wd 18446744073709551616 (X % Y * 2 ^ lz (topW Y))).length < 1073741824 := by
        have := shl_len (X % Y) (lz (topW Y)) hs
        have h3 := wd_len_mono (Nat.mod_le X Y)
        omega
      have HRR := hide (fun (v : Value) (lo : Nat) (W : World) (h : Sl .u64 W v (wd 18446744073709551616 (X % Y * 2 ^ lz (topW Y)))) => natRight_any v (X % Y * 2 ^ lz (topW Y)) (lz (topW Y)) lo W h hrl hs)
      rw [Nat.mul_div_cancel _ hz] at HRR
      have HLE := hide hle2
      clear hcmp hD hDO hcell hy hnl hsl hz hle2
      generalize lz (topW Y) = s at *
      generalize topW Y = t at *
      generalize hnx : (wd 18446744073709551616 X).length = nx at *
      generalize hny : (wd 18446744073709551616 Y).length = ny at *
      clear hnx hny
      have e1 : ((ny : Int) == 1) = false := beq_eq_false_iff_ne.2 (by omega)
      go_enter Tryz.func50, Tryz.ntmps50
      go_wp2_with fail
      refine (unhide HC).mono ?_
      rintro e w1 ⟨rfl, q, rfl⟩
      go_wp2_with fail
      refine (unhide LZ _).mono ?_
      rintro e w1 ⟨rfl, hw⟩
      obtain rfl := hw.symm
      clear hw
      go_wp2_with fail
      refine (unhide HL1 _ (by exact unhide HX)).mono ?_
      rintro e w2 ⟨v1, rfl, hv1, hb2⟩
      have B2 : Hid (But [] w w2) := ((But.refl [] _).drewN q).trans' hb2
      have HV1 := hide hv1
      clear hb2 hv1
      go_wp2_with fail
      refine (unhide HL2 _ ((unhide HY).but_nil (unhide B2))).mono ?_
      rintro e w3 ⟨v2, rfl, hv2, hb3⟩
      have B3 : Hid (But [] w w3) := (unhide B2).trans' hb3
      have HV2 := hide hv2
      have HV1' := hide ((unhide HV1).but_nil hb3)
      clear hv2 hb3 HV1
      go_wp2_with fail
      refine (unhide HDO v1 v2 _ (unhide HV1') (unhide HV2)).mono ?_
      rintro e w4 ⟨v3, v4, rfl, hv3, hv4, hb4, ho4⟩
      have B4 : Hid (But [] w w4) := (unhide B3).trans' hb4
      have H3 := hide hv3
      have H4 := hide hv4
      have O4 := hide (ho4 (unhide HLE))
      have S34 : w3.heap.size ≤ w4.heap.size := hb4.size
      clear hv3 hv4 hb4 ho4
      go_wp2_with fail
      refine (unhide HRR v4 w3.heap.size _ (unhide H4) (unhide O4) S34).mono ?_
      rintro e w5 ⟨v5, rfl, hv5, hb5, ho5⟩
      have ALL := hide (And.intro ((unhide H3).but_nil hb5) (And.intro hv5 (And.intro ((unhide B4).trans' hb5) (ho5.mono (unhide B3).size))))
      clear hv5 hb5 ho5
      go_wp2
      go_ret2
      exact ⟨v3, v5, rfl, (unhide ALL).1, (unhide ALL).2.1, (unhide ALL).2.2.1, fun _ => (unhide ALL).2.2.2⟩

/-- the bound under which numbers are divided word by word -/
def Short (X Y : Nat) : Prop := (wd 18446744073709551616 X).length + 1 < (wd 18446744073709551616 Y).length + 80 ∨ (wd 18446744073709551616 Y).length < 80
theorem natQuoRem_any (vx vy : Value) (X Y : Nat) (w : World) (hx : Sl .u64 w vx (wd 18446744073709551616 X)) (hy : Sl .u64 w vy (wd 18446744073709551616 Y)) (hY : 0 < Y) (hl : (wd 18446744073709551616 X).length < 134217728) (hly : (wd 18446744073709551616 Y).length < 134217728) (hs : Short X Y) :
    Calls Tryz.prog 50 #[vx, vy] w fun e w' => ∃ v1 v2, e = .returned (.tuple #[v1, v2]) ∧ Sl .u64 w' v1 (wd 18446744073709551616 (X / Y)) ∧ Sl .u64 w' v2 (wd 18446744073709551616 (X % Y)) ∧ But [] w w' ∧ (Y ≤ X → Own w.heap.size w' v2) :=
  natQuoRem_of vx vy X Y w hx hy hY hl hly (fun h2 hle => by
    obtain ⟨t1, t2, -, -⟩ := top_pos Y hY
    have hz := (lz_facts (topW Y) t1 t2).1
    have h3 := norm_len Y hY
    have h4 := shl_len X (lz (topW Y)) hz
    refine divide_short _ _ (by omega) (Nat.mul_le_mul_right _ hle) (by omega) ?_
    rcases hs with h | h
    · left; omega
    · right; omega)

set_option maxHeartbeats 1000000 in
set_option maxRecDepth 100000 in
theorem natQuo_any (vx vy : Value) (X Y : Nat) (w : World) (hx : Sl .u64 w vx (wd 18446744073709551616 X)) (hy : Sl .u64 w vy (wd 18446744073709551616 Y)) (hY : 0 < Y) (hl : (wd 18446744073709551616 X).length < 134217728) (hly : (wd 18446744073709551616 Y).length < 134217728) (hs : Short X Y) :
    Calls Tryz.prog 24 #[vx, vy] w fun e w' => ∃ v1, e = .returned v1 ∧ Sl .u64 w' v1 (wd 18446744073709551616 (X / Y)) ∧ But [] w w' := by
  have HX := hide hx
  have HQ := hide (natQuoRem_any vx vy X Y w hx hy hY hl hly hs)
  have HO := hide (fun r hr => natOne_any vy Y w hy (by omega) r hr)
  obtain ⟨a1, c1, rfl, -, -⟩ := hx
  obtain ⟨a2, c2, rfl, -, -⟩ := hy
  clear hs
  generalize (wd 18446744073709551616 X).length = nx at *
  generalize (wd 18446744073709551616 Y).length = ny at *
  by_cases h1 : Y = 1
  · subst h1
    rw [Nat.div_one]
    go_enter Tryz.func24, Tryz.ntmps24
    go_wp2_with fail
    refine (unhide HO true (by show true = _; simp)).mono ?_
    rintro e w1 ⟨rfl, hw⟩
    obtain rfl := hw.symm
    clear hw
    go_wp2
    go_ret
    exact ⟨_, rfl, unhide HX, But.refl _ _⟩
  · go_enter Tryz.func24, Tryz.ntmps24
    go_wp2_with fail
    refine (unhide HO false (by show false = _; simp [h1])).mono ?_
    rintro e w1 ⟨rfl, hw⟩
    obtain rfl := hw.symm
    clear hw
    go_wp2_with fail
    refine (unhide HQ).mono ?_
    rintro e w2 ⟨v1, v2, rfl, hv1, -, hb2, -⟩
    have ALL := hide (And.intro hv1 hb2)
    clear hv1 hb2
    go_wp2
    go_ret
    exact ⟨v1, rfl, (unhide ALL).1, (unhide ALL).2⟩
end Go.Proofs.YtlkpkgajfakdpaaGreat
