/- A fraction as a decimal, as the Go text of package frac writes it. -/
import Derived.Deep.DeepCutAuto
import Derived.Test.YtihiafgogbhjkaaGreatDoorRPn
namespace Go.Proofs.YtihiafgogbhjkaaGreatDoor
open Go.RowKit

/-- a place that has just been made -/
theorem nb0 (w : World) : (w.alloc (.cells #[.bool false, .int .u64 0, .int .u64 0, .pointer none] 27)).cell? ⟨w.heap.size, 0, none⟩ = some (.bool false) := by simp
theorem nb1 (w : World) : (w.alloc (.cells #[.bool false, .int .u64 0, .int .u64 0, .pointer none] 27)).cell? ⟨w.heap.size, 1, none⟩ = some (.int .u64 0) := by simp
theorem nb2 (w : World) : (w.alloc (.cells #[.bool false, .int .u64 0, .int .u64 0, .pointer none] 27)).cell? ⟨w.heap.size, 2, none⟩ = some (.int .u64 0) := by simp
theorem nb3 (w : World) : (w.alloc (.cells #[.bool false, .int .u64 0, .int .u64 0, .pointer none] 27)).cell? ⟨w.heap.size, 3, none⟩ = some (.pointer none) := by simp
theorem nbf (w : World) (j : Nat) : (w.alloc (.cells #[.bool false, .int .u64 0, .int .u64 0, .pointer none] 27)).frozen? ⟨w.heap.size, j, none⟩ = false := by simp
theorem nbl (w : World) : w.heap.size < (w.alloc (.cells #[.bool false, .int .u64 0, .int .u64 0, .pointer none] 27)).heap.size := by simp
theorem nfz {w w' : World} (h : But [] (w.alloc (.cells #[.bool false, .int .u64 0, .int .u64 0, .pointer none] 27)) w') : ∀ j, w'.frozen? ⟨w.heap.size, j, none⟩ = false := fun j => (h.frozen (p := ⟨w.heap.size, j, none⟩) (nbl w) (by simp)).trans (nbf w j)
theorem fzt {w w' : World} {b : Nat} {v : Value} (h : But [] w w') (c : w.cell? ⟨b, 0, none⟩ = some v) (z : ∀ j, w.frozen? ⟨b, j, none⟩ = false) : ∀ j, w'.frozen? ⟨b, j, none⟩ = false := fun j => (h.frozen (p := ⟨b, j, none⟩) (show b < w.heap.size from lt_of_cell (a := ⟨b, 0, none⟩) c) (by simp)).trans (z j)
theorem nbB (w : World) : Blank (w.alloc (.cells #[.bool false, .int .u64 0, .int .u64 0, .pointer none] 27)) w.heap.size := ⟨nb0 w, nb1 w, nb2 w, nb3 w, fun j hj => by simp; omega⟩

/-- a fraction lies at a block -/
def LiesF (w wx : World) (g2 : Nat) (r : Bool) (x2 y2 : Int) (p2 : Option Addr) (q : Rat) : Prop := But [] w wx ∧ wx.cell? ⟨g2, 0, none⟩ = some (.bool r) ∧ wx.cell? ⟨g2, 1, none⟩ = some (.int .u64 x2) ∧ wx.cell? ⟨g2, 2, none⟩ = some (.int .u64 y2) ∧ wx.cell? ⟨g2, 3, none⟩ = some (.pointer p2) ∧ FracAt wx (.agg #[.bool r, .int .u64 x2, .int .u64 y2, .pointer p2]) q
theorem lies_set {w w3 : World} {b : Nat} {r : Bool} {x2 y2 : Int} {p2 : Option Addr} {q : Rat} (hb : But [] w w3) (hl : w.heap.size ≤ b) (z : Blank w3 b) (hf : FracAt w3 (.agg #[.bool r, .int .u64 x2, .int .u64 y2, .pointer p2]) q) : LiesF w ((((w3.setCell ⟨b, 0, none⟩ (.bool r)).setCell ⟨b, 1, none⟩ (.int .u64 x2)).setCell ⟨b, 2, none⟩ (.int .u64 y2)).setCell ⟨b, 3, none⟩ (.pointer p2)) b r x2 y2 p2 q := by
  have hBg : But [b] w3 ((((w3.setCell ⟨b, 0, none⟩ (.bool r)).setCell ⟨b, 1, none⟩ (.int .u64 x2)).setCell ⟨b, 2, none⟩ (.int .u64 y2)).setCell ⟨b, 3, none⟩ (.pointer p2)) := (((((But.refl [b] w3).setCell (.inl (by simp)) _).setCell (.inl (by simp)) _).setCell (.inl (by simp)) _).setCell (.inl (by simp)) _)
  have hff := z.frac hf hBg
  obtain ⟨z0, z1, z2, z3, -⟩ := z
  refine ⟨(((hb.setCell (p := ⟨b, 0, none⟩) (.inr hl) _).setCell (p := ⟨b, 1, none⟩) (.inr hl) _).setCell (p := ⟨b, 2, none⟩) (.inr hl) _).setCell (p := ⟨b, 3, none⟩) (.inr hl) _, ?_, ?_, ?_, ?_, hff⟩ <;> simp [go_sem, z0, z1, z2, z3]
theorem lies_new {w w3 : World} {r : Bool} {x2 y2 : Int} {p2 : Option Addr} {q : Rat} (hb : But [] w w3) (hf : FracAt w3 (.agg #[.bool r, .int .u64 x2, .int .u64 y2, .pointer p2]) q) : LiesF w (w3.alloc (.cells #[.bool r, .int .u64 x2, .int .u64 y2, .pointer p2] 27)) w3.heap.size r x2 y2 p2 q :=
  ⟨hb.alloc _, by simp, by simp, by simp, by simp, hf.but ((But.refl _ _).alloc _)⟩

set_option maxHeartbeats 8000000 in
set_option maxRecDepth 100000 in
theorem decimal_any (v : Value) (f : Rat) (k : Nat) (N : Int) (w : World) (hf : FracAt w v f) (hk : k ≤ 18) (lf : Len f 1000000) (lp : Len (f * (((10 ^ k : Nat) : Int) : Rat)) 10) (hN : nearR (f * (((10 ^ k : Nat) : Int) : Rat)) = ((N : Int) : Rat)) (hb : N.natAbs < 10 ^ 42) (htab : Lib.TabIs Tryz.prog w "internal/strconv.uint64pow10" .u64 Lib.pow10Tab) :
    Calls Tryz.prog 37 #[v, .int .i64 (k : Int)] w fun e w' => ∃ t, e = .returned (.tuple #[.string t, .nilIface]) ∧ DecTxt N.natAbs k (decide (N < 0)) t ∧ But [] w w' := by
  have hkp : 10 ^ k ≤ 1000000000000000000 := Nat.pow_le_pow_right (by omega) hk (n := 10)
  obtain ⟨P, hP⟩ : ∃ P, P = 10 ^ k := ⟨_, rfl⟩
  rw [← hP] at hkp lp hN
  obtain ⟨rb, rp, F2, C2⟩ := whole_at (P : Int) (by omega) (by omega) w
  have WH := hide C2
  have MU : Hid (∀ W, But [] w W → Calls Tryz.prog 19 #[v, .agg #[.bool rb, .int .u64 rp, .int .u64 0, .pointer none]] W fun e w' => ∃ v', e = .returned v' ∧ FracAt w' v' (f * ((P : Int) : Rat)) ∧ But [] W w') := fun W hb => fracMul_any _ _ f _ W (hf.but hb) (F2 W) lf ((int_len _ (by omega) (by omega)).mono (by omega))
  obtain ⟨g, hg⟩ : ∃ g, g = f * ((P : Int) : Rat) := ⟨_, rfl⟩
  rw [← hg] at lp hN MU
  have NE : Hid (∀ W u, FracAt W u g → Calls Tryz.prog 87 #[u] W fun e w' => ∃ v', e = .returned v' ∧ FracAt w' v' ((N : Int) : Rat) ∧ But [] W w') := fun W u hu => by
    have := nearest_any u g W hu lp
    rw [hN] at this
    exact this
  obtain ⟨a1, a2, a3⟩ := absR_facts ((N : Int) : Rat)
  obtain ⟨b1, b2⟩ := int_num N
  obtain ⟨n, hn⟩ : ∃ n, n = N.natAbs := ⟨_, rfl⟩
  rw [b1, ← hn] at a1
  rw [b2] at a2
  rw [← hn] at hb
  have one608 := below_pow 1 1 608 (by omega) (by omega)
  have h608 := below_pow n 42 608 hb (by omega)
  have AB : Hid (∀ W u, FracAt W u ((N : Int) : Rat) → Calls Tryz.prog 93 #[u] W fun e w' => ∃ v', e = .returned v' ∧ FracAt w' v' (absR ((N : Int) : Rat)) ∧ But [] W w') := fun W u hu => fracAbs_any u _ W hu
  obtain ⟨dt, hdt⟩ : ∃ dt : ByteArray, dt = ⟨(Lib.decDigits n).toArray⟩ := ⟨_, rfl⟩
  have TX : Hid (∀ W u, FracAt W u (absR ((N : Int) : Rat)) → But [] w W → Calls Tryz.prog 13 #[u] W fun e w' => e = .returned (.string dt) ∧ But [] W w') := fun W u hu hb' => fracText_at u _ W hu (by rw [a1]; exact h608) (by rw [a2]; exact one608) (TabIs.but htab hb') dt (by show _ = _; rw [a1, a2, a3, hdt]; unfold fracTxt; rw [if_pos rfl, ba_nil]; rfl)
  have hs : decide (((N : Int) : Rat).num < 0) = decide (N < 0) := by rw [b1]
  have hdl : dt.data.toList = Lib.decDigits n := by rw [hdt]
  have HDL := hide hdl
  have hds : dt.size = (Lib.decDigits n).length := by rw [← hdl]; simp
  have hd1 := (dec_digits n).2.2
  have hd2 := dec_upto n 42 (by omega) hb
  rw [← hds] at hd1 hd2
  have HDS := hide hds
  rw [← hn]
  clear hn hds
  obtain ⟨x1, y1, p1, rfl, -⟩ := hf.agg
  clear hf lf lp hN hb a1 a2 a3 b1 b2 hdt h608 one608 htab hg F2 C2 hdl
  generalize decide (f.num < 0) = s1 at *
  generalize decide (N < 0) = s at *
  have HP := hide hP
  clear hP
  obtain ⟨W, hW⟩ : ∃ W, W = w.alloc (.cells #[.bool s1, .int .u64 x1, .int .u64 y1, .pointer p1] 27) := ⟨_, rfl⟩
  have hB : But [] w W := by rw [hW]; exact (But.refl _ _).alloc _
  have tA : ∀ j, W.cell? ⟨w.heap.size, j, none⟩ = #[Value.bool s1, .int .u64 x1, .int .u64 y1, .pointer p1][j]? := fun j => by rw [hW]; simp
  have a0 := tA 0
  have a1 := tA 1
  have a2 := tA 2
  have a3 := tA 3
  simp only [List.getElem?_toArray, List.getElem?_cons_zero, List.getElem?_cons_succ] at a0 a1 a2 a3
  have HW := hide hW
  have HB := hide hB
  clear hW hB tA
  go_enter Tryz.func37, Tryz.ntmps37
  go_wp2_with fail
  rw [← unhide HW]
  obtain ⟨ga, hga⟩ : ∃ ga, ga = w.heap.size := ⟨_, rfl⟩
  rw [← hga] at a0 a1 a2 a3
  rw [← hga]
  clear hga HW
  go_loopw [6, 19] (fun a i wq => ∃ j x : Nat, j ≤ k ∧ i = .int .i64 j ∧ a = .int .i64 x ∧ x ≤ 1000000000000000000 ∧ Hid (x = 10 ^ j) ∧ wq = W) (fun _ i _ => k - (intOf i).toNat)
  case atStart => exact ⟨0, 1, by omega, rfl, rfl, by omega, by show _ = _; simp, rfl⟩
  case round =>
    obtain ⟨j, x, hj, rfl, rfl, hx, HJ, rfl⟩ := hrel
    by_cases hjc : j < k
    · have hpp : Hid (x * 10 = 10 ^ (j + 1)) := by show _ = _; rw [unhide HJ, Nat.pow_succ]
      have hx2 : x * 10 ≤ 1000000000000000000 := by
        rw [unhide hpp]
        exact Nat.pow_le_pow_right (by omega) (by omega) (n := 10) (j := 18)
      have e2 : IntKind.i64.wrap ((x : Int) * 10) = ((x * 10 : Nat) : Int) := by rw [IntKind.wrap_i64]; omega
      go_wp2
      refine ⟨⟨j + 1, x * 10, by omega, by go_num, by go_num, by omega, hpp, trivial⟩, ?_⟩
      simp [intOf]; omega
    · have hjc' : j = k := by omega
      subst hjc'
      have hxP : x = P := (unhide HJ).trans (unhide HP).symm
      subst hxP
      clear HJ hx hjc hj
      go_wp2_with fail
      go_cut [7] (fun s7 wx => ∃ (g2 : Nat) (x2 y2 : Int) (p2 : Option Addr), s7 = .pointer (some ⟨g2, 0, none⟩) ∧ Hid (LiesF w wx g2 s x2 y2 p2 ((N : Int) : Rat)))
      case first =>
        -- FIRST
        go_region_held (fun w' => w'.cell? ⟨ga, 0, none⟩ = some (.bool s1) ∧ w'.cell? ⟨ga, 1, none⟩ = some (.int .u64 x1) ∧ w'.cell? ⟨ga, 2, none⟩ = some (.int .u64 y1) ∧ w'.cell? ⟨ga, 3, none⟩ = some (.pointer p1)) (first | (go_keep; done) | exact ⟨set4_cell _ _ _ _ _ _ _ _ _ zn o0, set4_cell _ _ _ _ _ _ _ _ _ zn o1, set4_cell _ _ _ _ _ _ _ _ _ zn o2, set4_cell _ _ _ _ _ _ _ _ _ zn o3⟩) (first
          | (go_at_call 87; refine (unhide NE _ _ (by first | exact unhide HVM | exact (unhide HVM).but (But.refl _ _).drew | exact (unhide HVM).but ((But.refl _ _).alloc _) | exact (unhide HVM).but (((But.refl _ _).drew).alloc _) | exact (unhide HVM).but (((But.refl _ _).alloc _).drew))).mono ?_; rintro e wc3 ⟨vn, rfl, hvn, hc3⟩; have B3 : But [] wr wc3 := (by first | exact B2.trans' hc3 | exact B2.drew.trans' hc3 | exact (B2.alloc _).trans' hc3 | exact (B2.drew.alloc _).trans' hc3 | exact ((B2.alloc _).drew).trans' hc3); have HVN := hide hvn; (first | (have z0 := hc3.cell_some (nb0 _) (by simp); have z1 := hc3.cell_some (nb1 _) (by simp); have z2 := hc3.cell_some (nb2 _) (by simp); have z3 := hc3.cell_some (nb3 _) (by simp); have zf := nfz hc3; have zn : ga ≠ _ := Nat.ne_of_lt (lt_of_cell n0); have zB := hide ((nbB _).but hc3)) | (replace zf := fzt hc3 z0 zf; replace zB := hide ((unhide zB).but hc3); replace z0 := hc3.cell_some z0 (by simp); replace z1 := hc3.cell_some z1 (by simp); replace z2 := hc3.cell_some z2 (by simp); replace z3 := hc3.cell_some z3 (by simp)) | skip); obtain ⟨x2, y2, p2, rfl, -⟩ := hvn.agg; clear hvn; rw [hs] at HVN ⊢; have o0 := B3.cell_some a0 (by simp); have o1 := B3.cell_some a1 (by simp); have o2 := B3.cell_some a2 (by simp); have o3 := B3.cell_some a3 (by simp); have zo := World.new_ne _ _ o0)
          | (go_at_call 19; refine (unhide MU _ (by first | exact (unhide HB).trans' B1 | exact ((unhide HB).trans' B1).drew | exact ((unhide HB).trans' B1).alloc _ | exact (((unhide HB).trans' B1).drew).alloc _ | exact (((unhide HB).trans' B1).alloc _).drew)).mono ?_; rintro e wc2 ⟨vm, rfl, hvm, hc2⟩; have B2 : But [] wr wc2 := (by first | exact B1.trans' hc2 | exact B1.drew.trans' hc2 | exact (B1.alloc _).trans' hc2 | exact (B1.drew.alloc _).trans' hc2 | exact ((B1.alloc _).drew).trans' hc2); have HVM := hide hvm; (first | (have z0 := hc2.cell_some (nb0 _) (by simp); have z1 := hc2.cell_some (nb1 _) (by simp); have z2 := hc2.cell_some (nb2 _) (by simp); have z3 := hc2.cell_some (nb3 _) (by simp); have zf := nfz hc2; have zn : ga ≠ _ := Nat.ne_of_lt (lt_of_cell m0); have zB := hide ((nbB _).but hc2)) | (replace zf := fzt hc2 z0 zf; replace zB := hide ((unhide zB).but hc2); replace z0 := hc2.cell_some z0 (by simp); replace z1 := hc2.cell_some z1 (by simp); replace z2 := hc2.cell_some z2 (by simp); replace z3 := hc2.cell_some z3 (by simp)) | skip); clear hvm hc2; have n0 := B2.cell_some a0 (by simp); have n1 := B2.cell_some a1 (by simp); have n2 := B2.cell_some a2 (by simp); have n3 := B2.cell_some a3 (by simp))
          | (go_at_call 51; refine (unhide WH _).mono ?_; rintro e wc1 ⟨rfl, hc1⟩; have B1 : But [] wr wc1 := (by first | exact hc1 | exact (But.refl _ _).drew.trans' hc1 | exact ((But.refl _ _).alloc _).trans' hc1 | exact (((But.refl _ _).drew).alloc _).trans' hc1 | exact (((But.refl _ _).alloc _).drew).trans' hc1); (first | (replace hc1 := ((But.refl [] _).drew).trans' hc1) | skip); (first | (have z0 := hc1.cell_some (nb0 _) (by simp); have z1 := hc1.cell_some (nb1 _) (by simp); have z2 := hc1.cell_some (nb2 _) (by simp); have z3 := hc1.cell_some (nb3 _) (by simp); have zf := nfz hc1; have zn : ga ≠ _ := Nat.ne_of_lt (lt_of_cell a0); have zB := hide ((nbB _).but hc1)) | (replace zf := fzt hc1 z0 zf; replace zB := hide ((unhide zB).but hc1); replace z0 := hc1.cell_some z0 (by simp); replace z1 := hc1.cell_some z1 (by simp); replace z2 := hc1.cell_some z2 (by simp); replace z3 := hc1.cell_some z3 (by simp)) | skip); clear hc1; have m0 := B1.cell_some a0 (by simp); have m1 := B1.cell_some a1 (by simp); have m2 := B1.cell_some a2 (by simp); have m3 := B1.cell_some a3 (by simp)))

        all_goals (
          have HK := (unhide HB).trans' B3
          first
            | (have HL := hide (lies_set HK (by first | exact (unhide HB).size | exact Nat.le_trans (unhide HB).size B1.size | exact Nat.le_trans (unhide HB).size B2.size) (unhide zB) (unhide HVN)))
            | (have HL := hide (lies_new HK (unhide HVN)))
          clear HK B1 B2 B3 HVN HVM m0 m1 m2 m3 n0 n1 n2 n3 o0 o1 o2 o3 zo
          try clear z0 z1 z2 z3 zf zB zn
          go_wp2_with fail
          go_meet
          exact ⟨_, _, _, _, rfl, unhide HL⟩)
        -- END
      case rest =>
        obtain ⟨g2, x2, y2, p2, rfl, HC⟩ := hcut
        have HB2 : Hid (But [] w wc) := (unhide HC).1
        obtain ⟨-, c0, c1, c2, c3, cf⟩ := unhide HC
        have HF := hide cf
        clear HC cf
        go_wp2_with fail
        refine (unhide AB _ _ (unhide HF)).mono ?_
        rintro e w4 ⟨v4, rfl, hv4, hb4⟩
        have HV4 := hide hv4
        have HB4 : Hid (But [] w w4) := (unhide HB2).trans' hb4
        replace c0 := hb4.cell_some c0 (by simp)
        clear hv4 hb4 c1 c2 c3 HF HB2 AB WH MU NE
        go_wp2_with fail
        refine (unhide TX _ _ (unhide HV4) (unhide HB4)).mono ?_
        rintro e w5 ⟨rfl, hb5⟩
        have HB5 : Hid (But [] w w5) := (unhide HB4).trans' hb5
        replace c0 := hb5.cell_some c0 (by simp)
        clear hb5 HV4 HB4 TX
        by_cases hpad : dt.size ≤ j
        · have l1 : decide ((dt.size : Int) ≤ (j : Int)) = true := decide_eq_true (by omega)
          obtain ⟨m, hm⟩ : ∃ m, j + 1 = m + dt.size := ⟨j + 1 - dt.size, by omega⟩
          have e1 : IntKind.i64.wrap ((j : Int) + 1) = (j : Int) + 1 := by rw [IntKind.wrap_i64]; omega
          have e2 : IntKind.i64.wrap ((j : Int) + 1 - (dt.size : Int)) = (m : Int) := by rw [IntKind.wrap_i64]; omega
          have RP := hide (Tryz.strings_Repeat ⟨#[48]⟩ m w5 (by omega) (by show 1 * m ≤ _; omega))
          obtain ⟨rt, hrt⟩ : ∃ rt : ByteArray, rt = ⟨(Lib.repeatL (⟨#[48]⟩ : ByteArray).data.toList m).toArray⟩ := ⟨_, rfl⟩
          rw [← hrt] at RP
          have hrl : rt.data.toList = List.replicate m 48 := by rw [hrt]; exact rep_one m
          have hrs : rt.size = m := by rw [size_list hrl, List.length_replicate]
          have HDD : Hid ((rt ++ dt).data.toList = dpad n j) := by
            show _ = _
            rw [ba_list, hrl, unhide HDL, dpad, ← unhide HDS, show j + 1 - dt.size = m from by omega]
          have hq1 : (rt ++ dt).size = 1 + j := by rw [ByteArray.size_append, hrs]; omega
          have HQ := hide hq1
          clear hrt hrl hq1
          go_wp2_with fail
          refine (unhide RP).mono ?_
          rintro e w6 ⟨rfl, hb6⟩
          have hb6' := But.of_below hb6
          have HB6 : Hid (But [] w w6) := (unhide HB5).trans' hb6'
          replace c0 := hb6'.cell_some c0 (by simp)
          clear hb6 hb6' HB5 RP
          cases s
          · go_wp2_with fail
            exact bodyPost_ret (v := .tuple #[.string ((rt ++ dt).extract 0 (m + dt.size - j) ++ (⟨#[46]⟩ ++ (rt ++ dt).extract (m + dt.size - j) (m + dt.size))), .nilIface]) (by simp [results, Tryz.results37, go_sem]) rfl ⟨_, rfl, dec_point n j (m + dt.size - j) (m + dt.size) false (rt ++ dt) (unhide HDD) (by rw [unhide HQ]; omega) (by omega) (by omega) _ rfl, unhide HB6⟩
          · go_wp2_with fail
            exact bodyPost_ret (v := .tuple #[.string (⟨#[45]⟩ ++ ((rt ++ dt).extract 0 (m + dt.size - j) ++ (⟨#[46]⟩ ++ (rt ++ dt).extract (m + dt.size - j) (m + dt.size)))), .nilIface]) (by simp [results, Tryz.results37, go_sem]) rfl ⟨_, rfl, dec_point n j (m + dt.size - j) (m + dt.size) true (rt ++ dt) (unhide HDD) (by rw [unhide HQ]; omega) (by omega) (by omega) _ rfl, unhide HB6⟩
        · have l1 : decide ((dt.size : Int) ≤ (j : Int)) = false := decide_eq_false (by omega)
          obtain ⟨q, hq⟩ : ∃ q, dt.size = q + j := ⟨dt.size - j, by omega⟩
          have HDD : Hid (dt.data.toList = dpad n j) := by show _ = _; rw [unhide HDL, dpad_long n j (by rw [← unhide HDS]; omega)]
          have e1 : IntKind.i64.wrap ((dt.size : Int) - (j : Int)) = (q : Int) := by rw [IntKind.wrap_i64]; omega
          rcases Nat.eq_zero_or_pos j with hj0 | hj0
          · subst hj0
            have E1 : IntKind.i64.wrap ((dt.size : Int) - 0) = (q : Int) := by rw [IntKind.wrap_i64]; omega
            cases s
            · go_wp2_with fail
              exact bodyPost_ret (v := .tuple #[.string (dt.extract 0 q), .nilIface]) (by simp [results, Tryz.results37, go_sem]) rfl ⟨_, rfl, dec_plain n q false dt (unhide HDD) hq _ rfl, unhide HB5⟩
            · go_wp2_with fail
              exact bodyPost_ret (v := .tuple #[.string (⟨#[45]⟩ ++ dt.extract 0 q), .nilIface]) (by simp [results, Tryz.results37, go_sem]) rfl ⟨_, rfl, dec_plain n q true dt (unhide HDD) hq _ rfl, unhide HB5⟩
          · cases s
            · go_wp2_with fail
              exact bodyPost_ret (v := .tuple #[.string (dt.extract 0 q ++ (⟨#[46]⟩ ++ dt.extract q (q + j))), .nilIface]) (by simp [results, Tryz.results37, go_sem]) rfl ⟨_, rfl, dec_point n j q (q + j) false dt (unhide HDD) hq rfl hj0 _ rfl, unhide HB5⟩
            · go_wp2_with fail
              exact bodyPost_ret (v := .tuple #[.string (⟨#[45]⟩ ++ (dt.extract 0 q ++ (⟨#[46]⟩ ++ dt.extract q (q + j)))), .nilIface]) (by simp [results, Tryz.results37, go_sem]) rfl ⟨_, rfl, dec_point n j q (q + j) true dt (unhide HDD) hq rfl hj0 _ rfl, unhide HB5⟩
end Go.Proofs.YtihiafgogbhjkaaGreatDoor
