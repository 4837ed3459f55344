/- The greatest common divisor of two whole numbers, as the Go text of package nat finds it. -/
import Derived.Deep.LoopGhost
import Derived.Test.YtihiafgogbhjkaaGreatDoorPG0
namespace Go.Proofs.YtihiafgogbhjkaaGreatDoor
open Go.RowKit

/-- what holds of the two numbers ahead of a round -/
def GcdInv (w : World) (X Y : Nat) (Y' : Nat) (vx vy : Value) (wr : World) : Prop := ∃ X', Sl .u64 wr vx (wd 18446744073709551616 X') ∧ Sl .u64 wr vy (wd 18446744073709551616 Y') ∧ Y' ≤ X' ∧ X' ≤ X ∧ Nat.gcd X' Y' = Nat.gcd X Y ∧ But [] w wr ∧ (2 ≤ (wd 18446744073709551616 Y').length → Pair w.heap.size wr vx vy X' Y')

set_option maxHeartbeats 8000000 in
set_option maxRecDepth 100000 in
theorem natGcd_long (vx vy : Value) (X Y : Nat) (w : World) (hx : Sl .u64 w vx (wd 18446744073709551616 X)) (hy : Sl .u64 w vy (wd 18446744073709551616 Y)) (hle : Y < X) (h1 : 1 < Y) (hl : (wd 18446744073709551616 X).length ≤ 1000000) (u v : Value) (r : Int) (hcmp : Hid (Calls Tryz.prog 121 #[u, v] w fun e w' => e = .returned (.int .i64 r) ∧ ∃ q, w' = w.drewN q)) (huv : (u = vx ∧ v = vy ∧ r = 1) ∨ (u = vy ∧ v = vx ∧ r = -1)) :
    Calls Tryz.prog 62 #[u, v] w fun e w' => ∃ v', e = .returned v' ∧ Sl .u64 w' v' (wd 18446744073709551616 (Nat.gcd X Y)) ∧ But [] w w' := by
  have hlen := wd_len_mono (Nat.le_of_lt hle)
  have hYl : 0 < (wd 18446744073709551616 Y).length := by rw [Nat.pos_iff_ne_zero]; intro e; rw [wd_len_zero (by omega)] at e; omega
  have HO := hide (fun W (h : Sl .u64 W vy (wd 18446744073709551616 Y)) => natOne_any vy Y W h (by omega) false (by show false = _; simp; omega))
  rcases hx.open with ⟨e, -⟩ | ⟨-, b1, o1, c1, rfl, hc1, -, -⟩
  · rw [e, List.length_nil] at hlen; omega
  rcases hy.open with ⟨e, -⟩ | ⟨-, b2, o2, c2, rfl, hc2, -, -⟩
  · rw [e] at hYl; simp at hYl
  have HC1 := hide (fun W (h : Sl .u64 W (.slice (some ⟨b1, o1, none⟩) (wd 18446744073709551616 X).length c1) (wd 18446744073709551616 X)) => clone_any b1 o1 c1 (wd 18446744073709551616 X) W h (by omega) (by omega))
  have HC2 := hide (fun W (h : Sl .u64 W (.slice (some ⟨b2, o2, none⟩) (wd 18446744073709551616 Y).length c2) (wd 18446744073709551616 Y)) => clone_any b2 o2 c2 (wd 18446744073709551616 Y) W h (by omega) (by omega))
  have HX := hide hx
  have HY := hide hy
  clear hx hy
  generalize hnx : (wd 18446744073709551616 X).length = nx at *
  generalize hny : (wd 18446744073709551616 Y).length = ny at *
  have NX := hide hnx
  have NY := hide hny
  clear hnx hny
  have n0 : ((ny : Int) == 0) = false := beq_eq_false_iff_ne.2 (by omega)
  by_cases h2 : 2 ≤ ny
  · rcases huv with ⟨rfl, rfl, rfl⟩ | ⟨rfl, rfl, rfl⟩
    all_goals
      go_enter Tryz.func62, Tryz.ntmps62
      go_wp2_with fail
      refine (unhide hcmp).mono ?_
      rintro e w1 ⟨rfl, q, rfl⟩
      go_wp2_with fail
      refine (unhide HO _ (by exact unhide HY)).mono ?_
      rintro e w1 ⟨rfl, hw⟩
      obtain rfl := hw.symm
      clear hw
      go_wp2_with fail
      refine (unhide HC1 _ (by exact unhide HX)).mono ?_
      rintro e w2 ⟨v1, rfl, hv1, hb1, ho1, g1, d1, rfl⟩
      have B1 : Hid (But [] w w2) := ((But.refl [] _).drewN q).trans' hb1
      have P1 := hide (And.intro hv1 ho1)
      clear hv1 hb1 ho1
      go_wp2_with fail
      refine (unhide HC2 _ ((unhide HY).but_nil (unhide B1))).mono ?_
      rintro e w3 ⟨v2, rfl, hv2, hb2, ho2, g2, d2, rfl⟩
      have hap : g1 < w2.heap.size := (unhide P1).1.lt (by rw [unhide NX]; omega) g1 0 _ _ rfl
      have hap2 : w2.heap.size ≤ g2 := (ho2 _ _ _ _ rfl).1
      have A0 : Hid (GcdInv w X Y Y (.slice (some ⟨g1, 0, none⟩) nx d1) (.slice (some ⟨g2, 0, none⟩) ny d2) w3) :=
        ⟨X, (unhide P1).1.but_nil hb2, hv2, Nat.le_of_lt hle, Nat.le_refl _, rfl, (unhide B1).trans' hb2, fun _ => ⟨(unhide P1).1.but_nil hb2, hv2, (unhide P1).2.but (unhide P1).1 hb2, ho2.mono (unhide B1).size, fun b off n c b' off' n' c' e1 e2 => by
          simp only [Value.slice.injEq, Option.some.injEq, Addr.mk.injEq] at e1 e2
          obtain ⟨⟨rfl, -⟩, -⟩ := e1
          obtain ⟨⟨rfl, -⟩, -⟩ := e2
          omega⟩⟩
      clear hv2 hb2 ho2 P1 B1 HC1 HC2 hap hap2
      go_wp2_with fail
      go_loopg [0, 1] Y (fun k p1 p2 wr => Hid (GcdInv w X Y k p1 p2 wr))
      case atStart => exact A0
      case round =>
        clear A0
        obtain ⟨X', hs1, hs2, hYX, hXX, hg, hB, hP⟩ := unhide hrel
        have hl1 := wd_len_mono hXX
        have hl2 := wd_len_mono hYX
        have HI := hide (And.intro hs1 (And.intro hs2 (And.intro hYX (And.intro hXX (And.intro hg (And.intro hB hP))))))
        rw [unhide NX] at hl1
        by_cases hk2 : 2 ≤ (wd 18446744073709551616 gk).length
        · have HL := hide (lessened_any w.heap.size _ _ X' gk wr (hP hk2) hk2 hYX (by omega) hB.size)
          obtain ⟨a1, d1, rfl, -, -⟩ := hs1
          obtain ⟨a2, d2, rfl, -, -⟩ := hs2
          clear hrel hg hB hP
          generalize (wd 18446744073709551616 X').length = m1 at *
          generalize (wd 18446744073709551616 gk).length = m2 at *
          go_wp2_with fail
          refine (unhide HL).mono ?_
          rintro e w5 ⟨v1, v2, X2, Y2, rfl, hp2, hle2, hlt2, hX2, hg2, l, hlo, hbl⟩
          have R : Hid (GcdInv w X Y Y2 v1 v2 w5) := ⟨X2, hp2.s1, hp2.s2, hle2, by omega, by rw [hg2]; exact (unhide HI).2.2.2.2.1, (unhide HI).2.2.2.2.2.1.trans hbl (fun x hx => .inr (hlo x hx)), fun _ => hp2⟩
          clear hp2 hg2 hlo hbl
          go_wp2
          go_roundg Y2
          case measure => exact hlt2
          case rel => exact R
        · rcases Nat.eq_zero_or_pos gk with hz | hz
          · subst hz
            rw [Nat.gcd_zero_right] at hg
            rw [wd_zero] at hs2
            obtain ⟨a1, d1, rfl, -, -⟩ := id hs1
            obtain ⟨a2, d2, rfl, -, -⟩ := hs2
            have R := hide (And.intro hs1 hB)
            have HG := hide hg
            clear hrel hg hB hP hs1 hk2 HI hl2
            generalize (wd 18446744073709551616 X').length = m1 at *
            go_wp2
            go_ret
            exact ⟨_, rfl, by rw [← unhide HG]; exact (unhide R).1, (unhide R).2⟩
          · have hkB : gk < 18446744073709551616 := by
              rcases Nat.lt_or_ge gk 18446744073709551616 with h | h
              · exact h
              · exact absurd (wd_len_two gk h) hk2
            rcases word_open hs2 hkB with ⟨rfl, -⟩ | ⟨-, b, off, c, rfl, hcell⟩
            · omega
            have HBY := hide (byWord_any _ X' gk wr hs1 (by omega) hz hkB)
            have hmB : X' % gk < 18446744073709551616 := Nat.lt_trans (Nat.mod_lt _ hz) hkB
            have GW := hide (fun W => gcdWords_any gk (X' % gk) W hkB hmB)
            have hgB : Nat.gcd gk (X' % gk) < 18446744073709551616 := Nat.lt_of_le_of_lt (Nat.gcd_le_left _ hz) hkB
            have HG : Hid (Nat.gcd gk (X' % gk) = Nat.gcd X Y) := by show _ = _; rw [gcd_mod]; exact hg
            have HOF := hide (fun W => natOf_any (Nat.gcd gk (X' % gk)) hgB W)
            obtain ⟨a1, d1, rfl, -, -⟩ := id hs1
            have HB := hide hB
            clear hrel hg hB hP hs1 hs2 HI hl2
            generalize (wd 18446744073709551616 X').length = m1 at *
            go_wp2_with fail
            refine (unhide HBY).mono ?_
            rintro e w5 ⟨v5, rfl, -, hb5⟩
            have hc5 := hb5.cell_some hcell (by simp)
            have HB5 := hide hb5
            clear hb5 hcell
            go_wp2_with fail
            refine (unhide GW _).mono ?_
            rintro e w6 ⟨rfl, q6, rfl⟩
            go_wp2_with fail
            refine (unhide HOF _).mono ?_
            rintro e w7 ⟨v7, rfl, hv7, hb7, -⟩
            rw [unhide HG] at hv7
            have R := hide (And.intro hv7 ((unhide HB).trans' ((unhide HB5).trans' (((But.refl [] _).drewN q6).trans' hb7))))
            clear hv7 hb7
            go_wp2
            go_ret
            exact ⟨v7, rfl, (unhide R).1, (unhide R).2⟩
  · rcases huv with ⟨rfl, rfl, rfl⟩ | ⟨rfl, rfl, rfl⟩
    all_goals
      go_enter Tryz.func62, Tryz.ntmps62
      go_wp2_with fail
      refine (unhide hcmp).mono ?_
      rintro e w1 ⟨rfl, q, rfl⟩
      go_wp2_with fail
      refine (unhide HO _ (by exact unhide HY)).mono ?_
      rintro e w1 ⟨rfl, hw⟩
      obtain rfl := hw.symm
      clear hw
      have A0 : Hid (GcdInv w X Y Y (.slice (some ⟨b1, o1, none⟩) nx c1) (.slice (some ⟨b2, o2, none⟩) ny c2) (w.drewN q)) :=
        ⟨X, unhide HX, unhide HY, Nat.le_of_lt hle, Nat.le_refl _, rfl, (But.refl [] _).drewN q, fun h => by rw [unhide NY] at h; omega⟩
      go_wp2_with fail
      go_loopg [0, 1] Y (fun k p1 p2 wr => Hid (GcdInv w X Y k p1 p2 wr))
      case atStart => exact A0
      case round =>
        clear A0
        obtain ⟨X', hs1, hs2, hYX, hXX, hg, hB, hP⟩ := unhide hrel
        have hl1 := wd_len_mono hXX
        have hl2 := wd_len_mono hYX
        have HI := hide (And.intro hs1 (And.intro hs2 (And.intro hYX (And.intro hXX (And.intro hg (And.intro hB hP))))))
        rw [unhide NX] at hl1
        by_cases hk2 : 2 ≤ (wd 18446744073709551616 gk).length
        · have HL := hide (lessened_any w.heap.size _ _ X' gk wr (hP hk2) hk2 hYX (by omega) hB.size)
          obtain ⟨a1, d1, rfl, -, -⟩ := hs1
          obtain ⟨a2, d2, rfl, -, -⟩ := hs2
          clear hrel hg hB hP
          generalize (wd 18446744073709551616 X').length = m1 at *
          generalize (wd 18446744073709551616 gk).length = m2 at *
          go_wp2_with fail
          refine (unhide HL).mono ?_
          rintro e w5 ⟨v1, v2, X2, Y2, rfl, hp2, hle2, hlt2, hX2, hg2, l, hlo, hbl⟩
          have R : Hid (GcdInv w X Y Y2 v1 v2 w5) := ⟨X2, hp2.s1, hp2.s2, hle2, by omega, by rw [hg2]; exact (unhide HI).2.2.2.2.1, (unhide HI).2.2.2.2.2.1.trans hbl (fun x hx => .inr (hlo x hx)), fun _ => hp2⟩
          clear hp2 hg2 hlo hbl
          go_wp2
          go_roundg Y2
          case measure => exact hlt2
          case rel => exact R
        · rcases Nat.eq_zero_or_pos gk with hz | hz
          · subst hz
            rw [Nat.gcd_zero_right] at hg
            rw [wd_zero] at hs2
            obtain ⟨a1, d1, rfl, -, -⟩ := id hs1
            obtain ⟨a2, d2, rfl, -, -⟩ := hs2
            have R := hide (And.intro hs1 hB)
            have HG := hide hg
            clear hrel hg hB hP hs1 hk2 HI hl2
            generalize (wd 18446744073709551616 X').length = m1 at *
            go_wp2
            go_ret
            exact ⟨_, rfl, by rw [← unhide HG]; exact (unhide R).1, (unhide R).2⟩
          · have hkB : gk < 18446744073709551616 := by
              rcases Nat.lt_or_ge gk 18446744073709551616 with h | h
              · exact h
              · exact absurd (wd_len_two gk h) hk2
            rcases word_open hs2 hkB with ⟨rfl, -⟩ | ⟨-, b, off, c, rfl, hcell⟩
            · omega
            have HBY := hide (byWord_any _ X' gk wr hs1 (by omega) hz hkB)
            have hmB : X' % gk < 18446744073709551616 := Nat.lt_trans (Nat.mod_lt _ hz) hkB
            have GW := hide (fun W => gcdWords_any gk (X' % gk) W hkB hmB)
            have hgB : Nat.gcd gk (X' % gk) < 18446744073709551616 := Nat.lt_of_le_of_lt (Nat.gcd_le_left _ hz) hkB
            have HG : Hid (Nat.gcd gk (X' % gk) = Nat.gcd X Y) := by show _ = _; rw [gcd_mod]; exact hg
            have HOF := hide (fun W => natOf_any (Nat.gcd gk (X' % gk)) hgB W)
            obtain ⟨a1, d1, rfl, -, -⟩ := id hs1
            have HB := hide hB
            clear hrel hg hB hP hs1 hs2 HI hl2
            generalize (wd 18446744073709551616 X').length = m1 at *
            go_wp2_with fail
            refine (unhide HBY).mono ?_
            rintro e w5 ⟨v5, rfl, -, hb5⟩
            have hc5 := hb5.cell_some hcell (by simp)
            have HB5 := hide hb5
            clear hb5 hcell
            go_wp2_with fail
            refine (unhide GW _).mono ?_
            rintro e w6 ⟨rfl, q6, rfl⟩
            go_wp2_with fail
            refine (unhide HOF _).mono ?_
            rintro e w7 ⟨v7, rfl, hv7, hb7, -⟩
            rw [unhide HG] at hv7
            have R := hide (And.intro hv7 ((unhide HB).trans' ((unhide HB5).trans' (((But.refl [] _).drewN q6).trans' hb7))))
            clear hv7 hb7
            go_wp2
            go_ret
            exact ⟨v7, rfl, (unhide R).1, (unhide R).2⟩

set_option maxHeartbeats 4000000 in
set_option maxRecDepth 100000 in
theorem natGcd_any (vx vy : Value) (X Y : Nat) (w : World) (hx : Sl .u64 w vx (wd 18446744073709551616 X)) (hy : Sl .u64 w vy (wd 18446744073709551616 Y)) (hlx : (wd 18446744073709551616 X).length ≤ 1000000) (hly : (wd 18446744073709551616 Y).length ≤ 1000000) :
    Calls Tryz.prog 62 #[vx, vy] w fun e w' => ∃ v', e = .returned v' ∧ Sl .u64 w' v' (wd 18446744073709551616 (Nat.gcd X Y)) ∧ But [] w w' := by
  have hcmp := natCmp_any vx vy X Y w hx hy (by omega) (by omega)
  have HX := hide hx
  have HY := hide hy
  rcases cmpN_cases X Y with ⟨hlt, hc⟩ | ⟨heq, hc⟩ | ⟨hgt, hc⟩
  · rw [hc] at hcmp
    rcases Nat.lt_or_ge 1 X with h1 | h1
    · have := natGcd_long vy vx Y X w hy hx hlt h1 hly vx vy (-1) hcmp (.inr ⟨rfl, rfl, rfl⟩)
      rw [Nat.gcd_comm] at this
      exact this
    · have HC := hide hcmp
      have HO := hide (fun W (h : Sl .u64 W vx (wd 18446744073709551616 X)) => natOne_any vx X W h (by omega) true)
      rcases Nat.eq_zero_or_pos X with h0 | h0
      · subst h0
        rw [Nat.gcd_zero_left]
        rw [wd_zero] at hx
        obtain ⟨a1, c1, rfl, -, -⟩ := hx
        obtain ⟨a2, c2, rfl, -, -⟩ := hy
        clear hcmp hc HO
        generalize (wd 18446744073709551616 Y).length = ny at *
        go_enter Tryz.func62, Tryz.ntmps62
        go_wp2_with fail
        refine (unhide HC).mono ?_
        rintro e w1 ⟨rfl, q, rfl⟩
        go_wp2
        go_ret
        exact ⟨_, rfl, unhide HY, (But.refl _ _).drewN q⟩
      · have hX1 : X = 1 := by omega
        subst hX1
        rw [Nat.gcd_one_left]
        have hl1 : (wd 18446744073709551616 1).length = 1 := by rw [wd_word 1 (by omega) (by omega)]; rfl
        have HO1 := hide (fun W h => unhide HO W h (by show true = _; rfl))
        obtain ⟨a1, c1, rfl, -, -⟩ := hx
        obtain ⟨a2, c2, rfl, -, -⟩ := hy
        clear hcmp hc HO
        rw [hl1] at *
        generalize (wd 18446744073709551616 Y).length = ny at *
        clear hl1
        go_enter Tryz.func62, Tryz.ntmps62
        go_wp2_with fail
        refine (unhide HC).mono ?_
        rintro e w1 ⟨rfl, q, rfl⟩
        go_wp2_with fail
        refine (unhide HO1 _ (by exact unhide HX)).mono ?_
        rintro e w1 ⟨rfl, hw⟩
        obtain rfl := hw.symm
        clear hw
        go_wp2
        go_ret
        exact ⟨_, rfl, unhide HX, (But.refl _ _).drewN q⟩
  · rw [hc] at hcmp
    have HC := hide hcmp
    subst heq
    rw [Nat.gcd_self]
    obtain ⟨a1, c1, rfl, -, -⟩ := hx
    obtain ⟨a2, c2, rfl, -, -⟩ := hy
    clear hcmp hc
    generalize (wd 18446744073709551616 X).length = nx at *
    go_enter Tryz.func62, Tryz.ntmps62
    go_wp2_with fail
    refine (unhide HC).mono ?_
    rintro e w1 ⟨rfl, q, rfl⟩
    go_wp2
    go_ret
    exact ⟨_, rfl, unhide HX, (But.refl _ _).drewN q⟩
  · rw [hc] at hcmp
    rcases Nat.lt_or_ge 1 Y with h1 | h1
    · exact natGcd_long vx vy X Y w hx hy hgt h1 hlx vx vy 1 hcmp (.inl ⟨rfl, rfl, rfl⟩)
    · have HC := hide hcmp
      have HO := hide (fun W (h : Sl .u64 W vy (wd 18446744073709551616 Y)) => natOne_any vy Y W h (by omega) true)
      rcases Nat.eq_zero_or_pos Y with h0 | h0
      · subst h0
        rw [Nat.gcd_zero_right]
        rw [wd_zero] at hy
        obtain ⟨a1, c1, rfl, -, -⟩ := hx
        obtain ⟨a2, c2, rfl, -, -⟩ := hy
        clear hcmp hc HO
        generalize (wd 18446744073709551616 X).length = nx at *
        go_enter Tryz.func62, Tryz.ntmps62
        go_wp2_with fail
        refine (unhide HC).mono ?_
        rintro e w1 ⟨rfl, q, rfl⟩
        go_wp2
        go_ret
        exact ⟨_, rfl, unhide HX, (But.refl _ _).drewN q⟩
      · have hX1 : Y = 1 := by omega
        subst hX1
        rw [Nat.gcd_one_right]
        have hl1 : (wd 18446744073709551616 1).length = 1 := by rw [wd_word 1 (by omega) (by omega)]; rfl
        have HO1 := hide (fun W h => unhide HO W h (by show true = _; rfl))
        obtain ⟨a1, c1, rfl, -, -⟩ := hx
        obtain ⟨a2, c2, rfl, -, -⟩ := hy
        clear hcmp hc HO
        rw [hl1] at *
        generalize (wd 18446744073709551616 X).length = nx at *
        clear hl1
        go_enter Tryz.func62, Tryz.ntmps62
        go_wp2_with fail
        refine (unhide HC).mono ?_
        rintro e w1 ⟨rfl, q, rfl⟩
        go_wp2_with fail
        refine (unhide HO1 _ (by exact unhide HY)).mono ?_
        rintro e w1 ⟨rfl, hw⟩
        obtain rfl := hw.symm
        clear hw
        go_wp2
        go_ret
        exact ⟨_, rfl, unhide HY, (But.refl _ _).drewN q⟩
end Go.Proofs.YtihiafgogbhjkaaGreatDoor
