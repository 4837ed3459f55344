/- The product of two whole numbers, word by word, as the Go text of package nat does it. -/
import Derived.Deep.RegionWith
import Derived.Test.YtjbboicccddhbaaGreatDoorKBN4
namespace Go.Proofs.YtjbboicccddhbaaGreatDoor
open Go.RowKit

theorem Seg.sub {w : World} {g o : Nat} {rs : List Nat} (h : Seg w g o rs) (i n : Nat) (hn : i + n ≤ rs.length) : Seg w g (o + i) ((rs.drop i).take n) := ⟨fun j hj => by
  have hj' : j < n := by simp only [List.length_take] at hj; omega
  have := h (i + j) (by omega)
  rw [List.getElem?_take_of_lt hj', List.getElem?_drop, show o + i + j = o + (i + j) from by omega]
  exact this, fun h0 => h.ints (by simp only [List.length_take, List.length_drop] at h0; omega)⟩
theorem take_drop_three (rs : List Nat) (i n : Nat) (_h : i + n ≤ rs.length) : rs = rs.take i ++ (rs.drop i).take n ++ rs.drop (i + n) := by
  rw [List.append_assoc, ← List.drop_drop, List.take_append_drop, List.take_append_drop]
theorem vl_zeros (B : Nat) : ∀ (rs : List Nat), (∀ j, j < rs.length → rs[j]?.getD 0 = 0) → vl B rs = 0
  | [], _ => rfl
  | x :: rs, h => by
    have h0 := h 0 (by simp)
    simp only [List.getElem?_cons_zero, Option.getD_some] at h0
    rw [vl, h0, vl_zeros B rs (fun j hj => by have := h (j + 1) (by simpa using hj); simpa using this)]
    simp
/-- what holds ahead of a round of the product -/
structure MulRow (xs ys rs : List Nat) (k : Nat) : Prop where
  len : rs.length = xs.length + ys.length
  mem : ∀ x ∈ rs, x < 18446744073709551616
  val : vl 18446744073709551616 rs = vl 18446744073709551616 xs * vl 18446744073709551616 (ys.take k)
  zero : ∀ j, k + xs.length ≤ j → rs[j]?.getD 0 = 0
theorem MulRow.start (xs ys : List Nat) : MulRow xs ys (List.replicate (xs.length + ys.length) 0) 0 :=
  ⟨by simp, by intro x hx; rw [List.mem_replicate] at hx; omega, by simp [vl_replicate, vl], by
    intro j _
    rcases Nat.lt_or_ge j (xs.length + ys.length) with h | h
    · rw [List.getElem?_replicate, if_pos h]; rfl
    · rw [List.getElem?_replicate, if_neg (by omega)]; rfl⟩
theorem MulRow.step {xs ys rs : List Nat} {k : Nat} (h : MulRow xs ys rs k) (hk : k < ys.length) (ws : List Nat) (c : Nat) (hc : c < 18446744073709551616) (hl : ws.length = xs.length) (hm : ∀ x ∈ ws, x < 18446744073709551616)
    (hv : vl 18446744073709551616 ws + c * 18446744073709551616 ^ xs.length = vl 18446744073709551616 ((rs.drop k).take xs.length) + ys[k]?.getD 0 * vl 18446744073709551616 xs) :
    MulRow xs ys ((rs.take k ++ ws ++ rs.drop (k + xs.length)).set (k + xs.length) c) (k + 1) := by
  have hlen := h.len
  have hn : k + xs.length ≤ rs.length := by omega
  have lt : (rs.take k).length = k := by rw [List.length_take]; omega
  have lw : (rs.take k ++ ws).length = k + xs.length := by rw [List.length_append, lt, hl]
  have ll : (rs.take k ++ ws ++ rs.drop (k + xs.length)).length = xs.length + ys.length := by rw [List.length_append, lw, List.length_drop]; omega
  have hz : vl 18446744073709551616 (rs.drop (k + xs.length)) = 0 := vl_zeros _ _ (fun j hj => by rw [List.getElem?_drop]; exact h.zero _ (by omega))
  have hd0 : (rs.take k ++ ws ++ rs.drop (k + xs.length))[k + xs.length]?.getD 0 = 0 := by
    rw [List.getElem?_append_right (by omega), lw, List.getElem?_drop]; exact h.zero _ (by omega)
  refine ⟨by rw [List.length_set, ll], mem_set ?_ _ _ hc, ?_, fun j hj => ?_⟩
  · intro x hx
    simp only [List.mem_append] at hx
    rcases hx with (hx | hx) | hx
    · exact h.mem x (List.mem_of_mem_take hx)
    · exact hm x hx
    · exact h.mem x (List.mem_of_mem_drop hx)
  · have h1 := vl_set 18446744073709551616 (rs.take k ++ ws ++ rs.drop (k + xs.length)) (k + xs.length) c (by omega)
    rw [hd0, Nat.zero_mul, Nat.add_zero] at h1
    rw [h1, vl_append, hz, Nat.mul_zero, Nat.add_zero, vl_append, lt, vl_take_succ 18446744073709551616 ys k hk, Nat.mul_add, ← h.val]
    have h2 := congrArg (vl 18446744073709551616) (take_drop_three rs k xs.length hn)
    rw [vl_append, hz, Nat.mul_zero, Nat.add_zero, vl_append, lt] at h2
    rw [h2, Nat.pow_add]
    generalize vl 18446744073709551616 ((rs.drop k).take xs.length) = a at *
    generalize vl 18446744073709551616 ws = b at *
    generalize vl 18446744073709551616 (rs.take k) = d at *
    generalize ys[k]?.getD 0 = y at *
    generalize vl 18446744073709551616 xs = X at *
    generalize 18446744073709551616 ^ xs.length = Q at *
    generalize 18446744073709551616 ^ k = P at *
    have h3 : P * (b + c * Q) = P * (a + y * X) := by rw [hv]
    grind
  · rw [List.getElem?_set_ne (by omega), List.getElem?_append_right (by omega), lw, List.getElem?_drop, show k + xs.length + (j - (k + xs.length)) = j from by omega]
    exact h.zero j (by omega)
theorem MulRow.fin {xs ys rs : List Nat} (h : MulRow xs ys rs ys.length) : vl 18446744073709551616 rs = vl 18446744073709551616 xs * vl 18446744073709551616 ys := by rw [h.val, List.take_length]

theorem run_make64p (wx : World) (n m : Nat) (h : n + m < 2147483648) : (Instr.makeSlice 95 (.int .i64 ((n : Int) + (m : Int))) (.int .i64 ((n : Int) + (m : Int)))).run Tryz.prog wx = .ok (.slice (some ⟨wx.heap.size, 0, none⟩) (n + m) (n + m)) (wx.alloc (.cells (madeCells #[.int .u64 0] (n + m)) 24)) := by
  have := run_make64 wx (n + m) h
  rw [Int.natCast_add] at this
  exact this

set_option maxHeartbeats 2000000 in
set_option maxRecDepth 100000 in
theorem mulWords_any (va vb : Value) (xs ys : List Nat) (w : World) (ha : Sl .u64 w va xs) (hb : Sl .u64 w vb ys) (mx : ∀ x ∈ xs, x < 18446744073709551616) (my : ∀ x ∈ ys, x < 18446744073709551616) (h0 : 0 < xs.length) (h0' : 0 < ys.length) (hl : xs.length < 536870912) (hl' : ys.length < 536870912) :
    Calls Tryz.prog 113 #[va, vb] w fun e w' => ∃ v', e = .returned v' ∧ Sl .u64 w' v' (wd 18446744073709551616 (vl 18446744073709551616 xs * vl 18446744073709551616 ys)) ∧ But [] w w' ∧ Fresh w.heap.size v' := by
  obtain ⟨b1, o1, c1, rfl, hc1⟩ : ∃ b o c, va = .slice (some ⟨b, o, none⟩) xs.length c ∧ xs.length ≤ c := by
    rcases ha.open with ⟨rfl, -⟩ | ⟨-, b, o, c, e, h, -⟩
    · simp at h0
    · exact ⟨b, o, c, e, h⟩
  rcases hb.open with ⟨rfl, -⟩ | ⟨-, b2, o2, c2, rfl, hc2, hb2, hcell⟩
  · simp at h0'
  have hmk := fun wx => run_make64p wx xs.length ys.length (by omega)
  have hof : Off w.heap.size (.slice (some ⟨b1, o1, none⟩) xs.length c1) := off_fresh ha h0 _ (Nat.le_refl _)
  have HC := hide hcell
  have HO := hide hof
  have HA := hide ha
  have MX := hide mx
  have MY := hide my
  clear hcell hof ha hb mx my
  go_enter Tryz.func113, Tryz.ntmps113
  go_wp2
  go_loopw [16] (fun i wr => ∃ (k : Nat) (rs : List Nat), k ≤ ys.length ∧ i = .int .i64 k ∧ Hid (MulRow xs ys rs k ∧ But [] w wr ∧ Seg wr w.heap.size 0 rs ∧ w.heap.size < wr.heap.size)) (fun i _ => ys.length - (intOf i).toNat)
  case atStart => exact ⟨0, List.replicate (xs.length + ys.length) 0, Nat.zero_le _, rfl, MulRow.start xs ys, (But.refl _ _).alloc _, Seg.made _ _ _, by simp⟩
  case round =>
    obtain ⟨k, rs, hk, rfl, HI⟩ := hrel
    rename World => wr
    by_cases hlt : k < ys.length
    · have cy := (unhide HI).2.1.cell_some (unhide HC k hlt) (by simp)
      have hyB : ys[k]?.getD 0 < 18446744073709551616 := mem_getD (unhide MY) (by omega) k
      have hlen := (unhide HI).1.len
      have hsub := (unhide HI).2.2.1.sub k xs.length (by omega)
      have hsl : ((rs.drop k).take xs.length).length = xs.length := by rw [List.length_take, List.length_drop]; omega
      have hat := addTimes_any w.heap.size (0 + k) (xs.length + ys.length - k) ((rs.drop k).take xs.length) xs (.slice (some ⟨b1, o1, none⟩) xs.length c1) (ys[k]?.getD 0) wr hsub (by rw [hsl]; omega) ((unhide HA).but_nil (unhide HI).2.1) (fun _ => unhide HO) (fun x hx => (unhide HI).1.mem x (List.mem_of_mem_drop (List.mem_of_mem_take hx))) (unhide MX) hyB hsl (by rw [hsl]; omega)
      rw [hsl, Nat.zero_add] at hat
      have HAT := hide hat
      have HLEN := hide hlen
      have ST := hide (fun ws c h1 h2 h3 h4 => (unhide HI).1.step hlt ws c h1 h2 h3 h4)
      clear hsub hsl hat hlen
      generalize ys[k]?.getD 0 = y at *
      go_wp2_with fail
      refine (unhide HAT).mono ?_
      rintro e w1 ⟨c, ws, rfl, hc, hlw, hmw, hvw, hsg, hpt⟩
      have hM := unhide ST ws c hc hlw hmw hvw
      have hW := (unhide HI).2.2.1.whole hpt hsg hlw (by rw [unhide HLEN]; omega)
      have hlen1 : k + xs.length < (rs.take k ++ ws ++ rs.drop (k + xs.length)).length := by have := hM.len; rw [List.length_set] at this; omega
      have hset := hW.set (k + xs.length) hlen1 c
      rw [Nat.zero_add] at hset
      obtain ⟨cc, fc⟩ := hW (k + xs.length) hlen1
      rw [Nat.zero_add] at cc fc
      have HB1 : Hid (But [] w w1) := (unhide HI).2.1.trans hpt.but (fun x hx => by simp at hx; subst hx; exact .inr (Nat.le_refl _))
      have HSET := hide hset
      have HM1 := hide hM
      have hsz : Hid (w.heap.size < w1.heap.size) := Nat.lt_of_lt_of_le (unhide HI).2.2.2 hpt.but.size
      clear hM hW hlen1 hset hpt hsg hvw HAT ST
      generalize (rs.take k ++ ws ++ rs.drop (k + xs.length))[k + xs.length]?.getD 0 = z at cc
      go_wp2
      refine ⟨⟨k + 1, (rs.take k ++ ws ++ rs.drop (k + xs.length)).set (k + xs.length) c, by omega, by go_num, unhide HM1, (unhide HB1).setCell (.inr (Nat.le_refl _)) _, unhide HSET, by rw [World.size_setCell]; exact unhide hsz⟩, ?_⟩
      simp [intOf]; omega
    · have hke : k = ys.length := by omega
      subst hke
      have hO := (unhide HI).1
      have hS := (unhide HI).2.2.1.sl (xs.length + ys.length) (by rw [hO.len]; exact Nat.le_refl _)
      rw [hO.len] at hS
      have HS := hide hS
      have HM := hide hO.mem
      have HL : rs.length < 2147483648 := by rw [hO.len]; omega
      have HF := hide hO.fin
      clear hO hS HC
      go_wp2_with fail
      refine (trimmed_any _ rs _ (unhide HS) (unhide HM) HL).mono ?_
      rintro e w' ⟨v', rfl, hs, hw, hsb⟩
      obtain rfl := hw.symm
      clear hw
      rw [unhide HF] at hs
      have H1 := hide hs
      have H2 := hide hsb
      clear hs hsb
      go_wp2
      go_ret
      exact ⟨v', rfl, unhide H1, (unhide HI).2.1, fresh_of (unhide H2) (Nat.le_refl _)⟩
end Go.Proofs.YtjbboicccddhbaaGreatDoor

namespace Go.Proofs.YtjbboicccddhbaaGreatDoor
open Go.RowKit

theorem wd_drop (n X : Nat) : (wd 18446744073709551616 X).drop n = wd 18446744073709551616 (X / 18446744073709551616 ^ n) := by
  induction n generalizing X with
  | zero => simp
  | succ n ih =>
    rcases Nat.eq_zero_or_pos X with h | h
    · subst h; simp [wd_zero]
    · rw [wd_pos (by omega) h, List.drop_succ_cons, ih, Nat.div_div_eq_div_mul, Nat.pow_succ, Nat.mul_comm 18446744073709551616]
theorem vl_mod (xs : List Nat) (n : Nat) (h : ∀ x ∈ xs, x < 18446744073709551616) : vl 18446744073709551616 (xs.take n) = vl 18446744073709551616 xs % 18446744073709551616 ^ n := by
  have h1 : vl 18446744073709551616 xs = vl 18446744073709551616 (xs.take n) + 18446744073709551616 ^ (xs.take n).length * vl 18446744073709551616 (xs.drop n) := by rw [← vl_append, List.take_append_drop]
  have h2 := vl_lt (by omega : 0 < 18446744073709551616) (xs.take n) (fun x hx => h x (List.mem_of_mem_take hx))
  rcases Nat.lt_or_ge n xs.length with hn | hn
  · have e : (xs.take n).length = n := by rw [List.length_take]; omega
    rw [e] at h1 h2
    rw [h1, Nat.add_mul_mod_self_left, Nat.mod_eq_of_lt h2]
  · rw [List.take_of_length_le hn] at h2 ⊢
    rw [Nat.mod_eq_of_lt (Nat.lt_of_lt_of_le h2 (Nat.pow_le_pow_right (by omega) hn))]
theorem wd_take (n X : Nat) : vl 18446744073709551616 ((wd 18446744073709551616 X).take n) = X % 18446744073709551616 ^ n := by rw [vl_mod _ _ (wd_mem (by omega) X), vl_wd (by omega)]
theorem wd_len_div (n X : Nat) : (wd 18446744073709551616 (X / 18446744073709551616 ^ n)).length = (wd 18446744073709551616 X).length - n := by rw [← wd_drop, List.length_drop]
theorem wd_len_mod (n X : Nat) : (wd 18446744073709551616 (X % 18446744073709551616 ^ n)).length ≤ n := wd_length_le (by omega) _ _ (Nat.mod_lt _ (Nat.pow_pos (by omega)))
theorem wd_len_mono {X Y : Nat} (h : X ≤ Y) : (wd 18446744073709551616 X).length ≤ (wd 18446744073709551616 Y).length := wd_length_le (by omega) X _ (Nat.lt_of_le_of_lt h (lt_of_wd_length (by omega) Y _ (Nat.le_refl _)))
theorem wd_len_mod' (n X : Nat) : (wd 18446744073709551616 (X % 18446744073709551616 ^ n)).length ≤ (wd 18446744073709551616 X).length := wd_len_mono (Nat.mod_le _ _)
theorem Sl.take {k : IntKind} {w : World} {b off cap : Nat} {xs : List Nat} (h : Sl k w (.slice (some ⟨b, off, none⟩) xs.length cap) xs) (n c : Nat) (hn : n ≤ xs.length) (hc : n ≤ c) : Sl k w (.slice (some ⟨b, off, none⟩) n c) (xs.take n) := by
  have hl : (xs.take n).length = n := by rw [List.length_take]; omega
  have hI := h.ints
  obtain ⟨a, cap', e, -, h1, -⟩ := h
  have h2 := Sl.mk (k := k) (w := w) (xs := xs.take n) b off c (by omega) (fun i hi => by
    obtain ⟨b2, off2, e2, h3⟩ := h1 i (by omega)
    simp only [Value.slice.injEq] at e
    obtain ⟨rfl, -, -⟩ := e
    simp only [Option.some.injEq, Addr.mk.injEq] at e2
    obtain ⟨rfl, rfl, -⟩ := e2
    rw [take_getD xs n i (by omega)]; exact h3) (fun h0 => hI (by omega))
  rw [hl] at h2
  exact h2
theorem Sl.drop {k : IntKind} {w : World} {b off cap : Nat} {xs : List Nat} (h : Sl k w (.slice (some ⟨b, off, none⟩) xs.length cap) xs) (n m c : Nat) (hm : m = xs.length - n) (hc : m ≤ c) : Sl k w (.slice (some ⟨b, off + n, none⟩) m c) (xs.drop n) := by
  have hl : (xs.drop n).length = m := by rw [List.length_drop]; omega
  have hI := h.ints
  obtain ⟨a, cap', e, -, h1, -⟩ := h
  have h2 := Sl.mk (k := k) (w := w) (xs := xs.drop n) b (off + n) c (by omega) (fun i hi => by
    obtain ⟨b2, off2, e2, h3⟩ := h1 (n + i) (by omega)
    simp only [Value.slice.injEq] at e
    obtain ⟨rfl, -, -⟩ := e
    simp only [Option.some.injEq, Addr.mk.injEq] at e2
    obtain ⟨rfl, rfl, -⟩ := e2
    rw [List.getElem?_drop, Nat.add_assoc]; exact h3) (fun h0 => hI (by omega))
  rw [hl] at h2
  exact h2

set_option maxHeartbeats 1000000 in
set_option maxRecDepth 100000 in
theorem natLow_any (v : Value) (X n : Nat) (w : World) (hv : Sl .u64 w v (wd 18446744073709551616 X)) (hl : (wd 18446744073709551616 X).length < 2147483648) (hn : n < 2147483648) :
    Calls Tryz.prog 159 #[v, .int .i64 (n : Int)] w fun e w' => ∃ v', e = .returned v' ∧ Sl .u64 w v' (wd 18446744073709551616 (X % 18446744073709551616 ^ n)) ∧ w' = w := by
  by_cases hle : (wd 18446744073709551616 X).length ≤ n
  · have e : X % 18446744073709551616 ^ n = X := Nat.mod_eq_of_lt (lt_of_wd_length (by omega) X n hle)
    rw [e]
    have HV := hide hv
    obtain ⟨a, c, rfl, -, -⟩ := hv
    clear e
    generalize (wd 18446744073709551616 X).length = l at *
    go_enter Tryz.func159, Tryz.ntmps159
    go_wp2
    go_ret
    exact ⟨_, rfl, unhide HV, rfl⟩
  · rcases hv.open with ⟨e, -⟩ | ⟨h0, b, off, c, rfl, hc, -, -⟩
    · rw [e] at hle; simp at hle
    have ht := trimmed_any (.slice (some ⟨b, off, none⟩) n c) ((wd 18446744073709551616 X).take n) w (hv.take n c (by omega) (by omega)) (fun x hx => wd_mem (by omega) X x (List.mem_of_mem_take hx)) (by rw [List.length_take]; omega)
    rw [wd_take] at ht
    have HT := hide ht
    clear ht hv
    generalize (wd 18446744073709551616 X).length = l at *
    have hnl : n < l := by omega
    have hnc : n ≤ c := by omega
    go_enter Tryz.func159, Tryz.ntmps159
    go_wp2_with fail
    refine (unhide HT).mono ?_
    rintro e w1 ⟨v', rfl, h1, hw, -⟩
    obtain rfl := hw.symm
    clear hw
    have H1 := hide h1
    clear h1
    go_wp2
    go_ret
    exact ⟨v', rfl, unhide H1, rfl⟩

set_option maxHeartbeats 1000000 in
set_option maxRecDepth 100000 in
theorem natHigh_any (v : Value) (X n : Nat) (w : World) (hv : Sl .u64 w v (wd 18446744073709551616 X)) (_hl : (wd 18446744073709551616 X).length < 2147483648) (hn : n < 2147483648) :
    Calls Tryz.prog 160 #[v, .int .i64 (n : Int)] w fun e w' => ∃ v', e = .returned v' ∧ Sl .u64 w v' (wd 18446744073709551616 (X / 18446744073709551616 ^ n)) ∧ w' = w := by
  by_cases hle : (wd 18446744073709551616 X).length ≤ n
  · have e : X / 18446744073709551616 ^ n = 0 := Nat.div_eq_of_lt (lt_of_wd_length (by omega) X n hle)
    rw [e, wd_zero]
    obtain ⟨a, c, rfl, -, -⟩ := hv
    clear e
    generalize (wd 18446744073709551616 X).length = l at *
    go_enter Tryz.func160, Tryz.ntmps160
    go_wp2
    go_ret
    exact ⟨_, rfl, Sl.nil _ _, rfl⟩
  · rcases hv.open with ⟨e, -⟩ | ⟨h0, b, off, c, rfl, hc, -, -⟩
    · rw [e] at hle; simp at hle
    have HR := hide (hv.drop n ((wd 18446744073709551616 X).length - n) (c - n) rfl (by omega))
    rw [wd_drop] at HR
    clear hv
    generalize (wd 18446744073709551616 X).length = l at *
    have hnl : n < l := by omega
    have hnc : n < c := by omega
    go_enter Tryz.func160, Tryz.ntmps160
    go_wp2
    go_ret
    exact ⟨_, rfl, unhide HR, rfl⟩
end Go.Proofs.YtjbboicccddhbaaGreatDoor

namespace Go.Proofs.YtjbboicccddhbaaGreatDoor
open Go.RowKit

theorem mem_drop {rs : List Nat} {B : Nat} (h : ∀ x ∈ rs, x < B) (i : Nat) : ∀ x ∈ rs.drop i, x < B := fun x hx => h x (List.mem_of_mem_drop hx)
theorem Seg.but_nil {w w' : World} {g o : Nat} {rs : List Nat} (hb : But [] w w') (h : Seg w g o rs) : Seg w' g o rs := h.but hb (by simp)
/-- words are added to the words of a row from a place on, and nothing is carried beyond it -/
theorem addAt_any (g h cap : Nat) (rs : List Nat) (H : Nat) (vy : Value) (w : World) (hs : Seg w g 0 rs) (hh : h < rs.length) (hc : rs.length - h ≤ cap) (hy : Sl .u64 w vy (wd 18446744073709551616 H)) (hoff : 0 < (wd 18446744073709551616 H).length → Off g vy) (hm : ∀ x ∈ rs, x < 18446744073709551616) (hfit : vl 18446744073709551616 rs + 18446744073709551616 ^ h * H < 18446744073709551616 ^ rs.length) (hl : rs.length < 2147483648) :
    Calls Tryz.prog 156 #[.slice (some ⟨g, h, none⟩) (rs.length - h) cap, vy] w fun e w' => ∃ (rs2 : List Nat) (c : Nat), e = .returned (.int .u64 (c : Nat)) ∧ rs2.length = rs.length ∧ (∀ x ∈ rs2, x < 18446744073709551616) ∧ vl 18446744073709551616 rs2 = vl 18446744073709551616 rs + 18446744073709551616 ^ h * H ∧ Seg w' g 0 rs2 ∧ But [g] w w' := by
  have hld : (rs.drop h).length = rs.length - h := List.length_drop
  have hsub := hs.sub h (rs.length - h) (by omega)
  have e0 : (rs.drop h).take (rs.length - h) = rs.drop h := List.take_of_length_le (by rw [hld]; exact Nat.le_refl _)
  rw [e0, Nat.zero_add] at hsub
  have hsplit : 18446744073709551616 ^ rs.length = 18446744073709551616 ^ h * 18446744073709551616 ^ (rs.length - h) := by rw [← Nat.pow_add]; congr 1; omega
  have hH : H < 18446744073709551616 ^ (rs.length - h) := by
    have : 18446744073709551616 ^ h * H < 18446744073709551616 ^ h * 18446744073709551616 ^ (rs.length - h) := by rw [← hsplit]; omega
    exact Nat.lt_of_mul_lt_mul_left this
  have hwl : (wd 18446744073709551616 H).length ≤ rs.length - h := wd_length_le (by omega) H _ hH
  have hA := addTo_any g h cap (rs.drop h) (wd 18446744073709551616 H) vy w hsub (by rw [hld]; exact hc) hy hoff (mem_drop hm h) (wd_mem (by omega) H) (by rw [hld]; exact hwl) (by rw [hld]; omega)
  rw [hld, vl_wd (by omega)] at hA
  refine hA.mono ?_
  rintro e w' ⟨c, ws, rfl, hc1, hlw, hmw, hv, hsg, hpt⟩
  have hlt : (rs.take h).length = h := by rw [List.length_take]; omega
  have hd : vl 18446744073709551616 rs = vl 18446744073709551616 (rs.take h) + 18446744073709551616 ^ h * vl 18446744073709551616 (rs.drop h) := by
    have := congrArg (vl 18446744073709551616) (List.take_append_drop h rs)
    rw [vl_append, hlt] at this
    exact this.symm
  have hc0 : c = 0 := by
    rcases Nat.eq_zero_or_pos c with h0 | h0
    · exact h0
    · exfalso
      have h1 : 18446744073709551616 ^ (rs.length - h) ≤ c * 18446744073709551616 ^ (rs.length - h) := Nat.le_mul_of_pos_left _ h0
      have h2 : 18446744073709551616 ^ h * 18446744073709551616 ^ (rs.length - h) ≤ 18446744073709551616 ^ h * (vl 18446744073709551616 (rs.drop h) + H) := Nat.mul_le_mul_left _ (by omega)
      rw [Nat.mul_add, ← hsplit] at h2
      omega
  subst hc0
  have hW := hs.whole hpt hsg hlw (by omega)
  have e1 : rs.drop (h + (rs.length - h)) = [] := List.drop_eq_nil_of_le (by omega)
  rw [e1, List.append_nil] at hW
  refine ⟨rs.take h ++ ws, 0, rfl, by rw [List.length_append, hlt, hlw]; omega, ?_, ?_, hW, hpt.but⟩
  · intro x hx
    rcases List.mem_append.1 hx with h1 | h1
    · exact hm x (List.mem_of_mem_take h1)
    · exact hmw x h1
  · rw [vl_append, hlt, hd]
    have hv' : vl 18446744073709551616 ws = vl 18446744073709551616 (rs.drop h) + H := by omega
    rw [hv', Nat.mul_add]; omega

/-- where a product lies: in a block of its own, or it is the other factor, where one of them is 1 -/
def MulAt (B : Nat) (v va vb : Value) (m n : Nat) : Prop := Fresh B v ∨ (v = va ∧ n = 1) ∨ (v = vb ∧ m = 1)
theorem mulAt_off {w : World} {v va vb : Value} {m n B : Nat} {xs : List Nat} (h : MulAt B v va vb m n) (hB : w.heap.size < B) (hn : n ≠ 1) (hb : Sl .u64 w vb xs) (h0 : 0 < xs.length) : Off w.heap.size v := by
  rcases h with h | ⟨_, h⟩ | ⟨rfl, _⟩
  · exact fun b off n c e => by have := h b off n c e; omega
  · exact absurd h hn
  · exact off_fresh hb h0 _ (Nat.le_refl _)
def MulOK (k : Nat) : Prop := ∀ (va vb : Value) (m n : Nat) (w : World), Sl .u64 w va (wd 18446744073709551616 m) → Sl .u64 w vb (wd 18446744073709551616 n) → (wd 18446744073709551616 m).length + (wd 18446744073709551616 n).length ≤ k →
  Calls Tryz.prog 60 #[va, vb] w fun e w' => ∃ v', e = .returned v' ∧ Sl .u64 w' v' (wd 18446744073709551616 (m * n)) ∧ But [] w w' ∧ MulAt w.heap.size v' va vb m n

theorem mul_lt_pow {X Y a b : Nat} (hx : X < 18446744073709551616 ^ a) (hy : Y < 18446744073709551616 ^ b) : X * Y < 18446744073709551616 ^ (a + b) := by
  rw [Nat.pow_add]
  rcases Nat.eq_zero_or_pos Y with h | h
  · subst h; rw [Nat.mul_zero]; exact Nat.mul_pos (Nat.pow_pos (by omega)) (Nat.pow_pos (by omega))
  · exact Nat.lt_of_lt_of_le (Nat.mul_lt_mul_of_pos_right hx h) (Nat.mul_le_mul_left _ (Nat.le_of_lt hy))
theorem lt_wd (X : Nat) : X < 18446744073709551616 ^ (wd 18446744073709551616 X).length := lt_of_wd_length (by omega) X _ (Nat.le_refl _)
theorem wd_len_mul (X Y : Nat) : (wd 18446744073709551616 (X * Y)).length ≤ (wd 18446744073709551616 X).length + (wd 18446744073709551616 Y).length := wd_length_le (by omega) _ _ (mul_lt_pow (lt_wd X) (lt_wd Y))
theorem vl_copy (xs : List Nat) (n : Nat) : vl 18446744073709551616 (xs ++ (List.replicate n 0).drop xs.length) = vl 18446744073709551616 xs := by rw [vl_append, List.drop_replicate, vl_replicate]; simp
theorem mem_copy (xs : List Nat) (n : Nat) (h : ∀ x ∈ xs, x < 18446744073709551616) : ∀ x ∈ xs ++ (List.replicate n 0).drop xs.length, x < 18446744073709551616 := fun x hx => by
  rcases List.mem_append.1 hx with h1 | h1
  · exact h x h1
  · have := List.mem_of_mem_drop h1
    rw [List.mem_replicate] at this
    omega
theorem len_copy (xs : List Nat) (n : Nat) (h : xs.length ≤ n) : (xs ++ (List.replicate n 0).drop xs.length).length = n := by simp; omega
theorem halves_sum (X Y h : Nat) : (X % 18446744073709551616 ^ h) * Y + 18446744073709551616 ^ h * (X / 18446744073709551616 ^ h * Y) = X * Y := by
  have := Nat.mod_add_div X (18446744073709551616 ^ h)
  generalize X % 18446744073709551616 ^ h = a at *
  generalize X / 18446744073709551616 ^ h = b at *
  generalize 18446744073709551616 ^ h = P at *
  subst this
  grind

set_option maxHeartbeats 4000000 in
set_option maxRecDepth 100000 in
theorem mulHalves_any (k : Nat) (IH : MulOK k) (va vb : Value) (X Y d : Nat) (w : World) (ha : Sl .u64 w va (wd 18446744073709551616 X)) (hb : Sl .u64 w vb (wd 18446744073709551616 Y)) (h0 : 0 < d) (hx : d < (wd 18446744073709551616 X).length) (hy : 0 < (wd 18446744073709551616 Y).length) (hy1 : Y ≠ 1) (hk1 : d + (wd 18446744073709551616 Y).length ≤ k) (hk2 : (wd 18446744073709551616 X).length - d + (wd 18446744073709551616 Y).length ≤ k) (hlx : (wd 18446744073709551616 X).length < 268435456) (hly : (wd 18446744073709551616 Y).length < 268435456) :
    Calls Tryz.prog 114 #[va, vb, .int .i64 (d : Int)] w fun e w' => ∃ v', e = .returned v' ∧ Sl .u64 w' v' (wd 18446744073709551616 (X * Y)) ∧ But [] w w' ∧ Fresh w.heap.size v' := by
  have hmk := fun wx => run_make64p wx (wd 18446744073709551616 X).length (wd 18446744073709551616 Y).length (by omega)
  have L1 := wd_len_mod d X
  have L2 := wd_len_div d X
  have L3 := wd_len_mul (X % 18446744073709551616 ^ d) Y
  have L4 := wd_len_mul (X / 18446744073709551616 ^ d) Y
  have V1 := vl_wd (B := 18446744073709551616) (by omega) (X % 18446744073709551616 ^ d * Y)
  have M1 := wd_mem (B := 18446744073709551616) (by omega) (X % 18446744073709551616 ^ d * Y)
  have HS := halves_sum X Y d
  have HXY := mul_lt_pow (lt_wd X) (lt_wd Y)
  have hal := ha.but_nil (but_made w ((wd 18446744073709551616 X).length + (wd 18446744073709551616 Y).length) 24)
  have hbl := hb.but_nil (but_made w ((wd 18446744073709551616 X).length + (wd 18446744073709551616 Y).length) 24)
  have sg0 := Seg.made w ((wd 18446744073709551616 X).length + (wd 18446744073709551616 Y).length) 24
  have bm := but_made w ((wd 18446744073709551616 X).length + (wd 18446744073709551616 Y).length) 24
  have low := natLow_any va X d (w.alloc (.cells (madeCells #[.int .u64 0] ((wd 18446744073709551616 X).length + (wd 18446744073709551616 Y).length)) 24)) hal (by omega) (by omega)
  have hsz0 : w.heap.size < (w.alloc (.cells (madeCells #[.int .u64 0] ((wd 18446744073709551616 X).length + (wd 18446744073709551616 Y).length)) 24)).heap.size := by simp
  obtain ⟨a1, c1, rfl, hc1, -⟩ := id ha
  obtain ⟨a2, c2, rfl, hc2, -⟩ := id hb
  have HV1 := hide V1
  have HM1 := hide M1
  have HHS := hide HS
  have HXYl := hide HXY
  have HAL := hide hal
  have HBL := hide hbl
  have SG0 := hide sg0
  have BM := hide bm
  have LOW := hide low
  have HIH := hide IH
  have HSZ := hide hsz0
  have HL := hide (And.intro L1 (And.intro L2 (And.intro L3 L4)))
  have HA := hide ha
  have HB := hide hb
  clear V1 M1 HS HXY hal hbl sg0 bm low IH ha hb L1 L2 L3 L4 hsz0
  have HLX : Hid (∀ n, n = (wd 18446744073709551616 X).length → n < 268435456) := fun n e => by rw [e]; exact hlx
  generalize hnx : (wd 18446744073709551616 X).length = nx at *
  generalize hny : (wd 18446744073709551616 Y).length = ny at *
  have NX := hide hnx
  have NY := hide hny
  clear hnx hny
  go_enter Tryz.func114, Tryz.ntmps114
  go_wp2_with fail
  refine (unhide LOW).mono ?_
  rintro e w1 ⟨v1, rfl, hv1, hw⟩
  obtain rfl := hw.symm
  clear hw
  have HV := hide hv1
  clear hv1
  go_wp2_with fail
  refine (unhide HIH v1 _ _ _ _ (unhide HV) (unhide HBL) (by have := unhide HL; rw [unhide NY]; omega)).mono ?_
  rintro e w2 ⟨v2, rfl, hv2, hb2, -⟩
  obtain ⟨w3, hcp, HC⟩ := run_copy_seg (P := Tryz.prog) w2 95 96 24 Tryz.underlying95 size_u64 w.heap.size 0 (nx + ny) (nx + ny) v2 (List.replicate (nx + ny) 0) (wd 18446744073709551616 (X % 18446744073709551616 ^ d * Y)) ((unhide SG0).but hb2 (by simp)) (by simp) hv2 (by have := unhide HL; rw [List.length_replicate]; omega)
  have R1 := vl_copy (wd 18446744073709551616 (X % 18446744073709551616 ^ d * Y)) (nx + ny)
  have R2 := mem_copy (wd 18446744073709551616 (X % 18446744073709551616 ^ d * Y)) (nx + ny) (unhide HM1)
  have R3 := len_copy (wd 18446744073709551616 (X % 18446744073709551616 ^ d * Y)) (nx + ny) (by have := unhide HL; omega)
  rw [unhide HV1] at R1
  have hB3 : But [] w w3 := ((unhide BM).trans' hb2).trans (unhide HC).2.but (fun x hx => by simp at hx; subst hx; exact .inr (Nat.le_refl _))
  have hbx : But [w.heap.size] (w.alloc (.cells (madeCells #[.int .u64 0] (nx + ny)) 24)) w3 := (But.of_nil hb2).trans (unhide HC).2.but (fun x hx => .inl hx)
  have hA3 : Sl .u64 w3 (.slice a1 nx c1) (wd 18446744073709551616 X) := (unhide HA).but_nil hB3
  have hY3 : Sl .u64 w3 (.slice a2 ny c2) (wd 18446744073709551616 Y) := (unhide HB).but_nil hB3
  have hsg3 := (unhide HC).1
  have hgs : w.heap.size < w3.heap.size := Nat.lt_of_lt_of_le (unhide HSZ) (Nat.le_trans hb2.size (unhide HC).2.but.size)
  generalize wd 18446744073709551616 (X % 18446744073709551616 ^ d * Y) ++ (List.replicate (nx + ny) 0).drop (wd 18446744073709551616 (X % 18446744073709551616 ^ d * Y)).length = r1 at *
  have hA := hide (fun (v4 : Value) (W : World) (h4 : Sl .u64 W v4 (wd 18446744073709551616 (X / 18446744073709551616 ^ d * Y))) (hO : Off w.heap.size v4) (hS : Seg W w.heap.size 0 r1) => addAt_any w.heap.size d (r1.length - d) r1 (X / 18446744073709551616 ^ d * Y) v4 W hS (by omega) (Nat.le_refl _) h4 (fun _ => hO) R2 (by rw [R1, unhide HHS, R3]; exact unhide HXYl) (by omega))
  rw [R3] at hA
  have HB3 := hide hB3
  have HA3 := hide hA3
  have HY3 := hide hY3
  have HSG3 := hide hsg3
  have HR := hide (And.intro R1 (And.intro R2 R3))
  have HGS := hide hgs
  clear R1 R2 R3 hB3 hbx hA3 hY3 hsg3 hb2 hv2 HC HV hgs
  have i1 : (0 : Int) ≤ (d : Int) := by omega
  have i2 : (d : Int) < ((nx + ny : Nat) : Int) := by omega
  go_wp2
  go_region_with (first
    | (go_at_call 160; refine (natHigh_any (.slice a1 nx c1) X d _ (by exact unhide HA3) (by rw [unhide NX]; omega) (by omega)).mono ?_; rintro e w4 ⟨v4, rfl, hv4, rfl⟩)
    | (go_at_call 60; refine (unhide HIH v4 (.slice a2 ny c2) _ _ _ (by exact hv4) (by exact unhide HY3) (by have := unhide HL; rw [unhide NY]; omega)).mono ?_; rintro e w5 ⟨v5, rfl, hv5, hb5, hf5⟩)
    | (go_at_call 156; refine (unhide hA v5 _ (by exact hv5) (by exact mulAt_off hf5 (by exact unhide HGS) hy1 (unhide HB) (by rw [unhide NY]; exact hy)) (by exact Seg.but_nil hb5 (by exact unhide HSG3))).mono ?_; rintro e w6 ⟨rs2, c, rfl, hl2, hm2, hv6, hs6, hb6⟩))
  all_goals
    have hB5 : But [] w w5 := (unhide HB3).trans' ((But.refl _ _).drew.trans' hb5)
    have HB6 : Hid (But [] w w6) := hB5.trans hb6 (fun x hx => by simp at hx; subst hx; exact .inr (Nat.le_refl _))
    have hsl := hs6.sl (nx + ny) (by rw [hl2]; exact Nat.le_refl _)
    rw [hl2] at hsl
    rw [(unhide HR).1, unhide HHS] at hv6
    have HSL := hide hsl
    have HM2 := hide hm2
    have HV6 := hide hv6
    have HL2 : rs2.length < 2147483648 := by rw [hl2]; omega
    clear hB5 hb5 hb6 hsl hm2 hv6 hv4 hv5 hf5 hs6 hl2 hA
    go_wp2_with fail
    refine (trimmed_any _ rs2 _ (unhide HSL) (unhide HM2) HL2).mono ?_
    rintro e w7 ⟨v7, rfl, hv7, hw, hsb⟩
    obtain rfl := hw.symm
    clear hw
    rw [unhide HV6] at hv7
    have HV7 := hide hv7
    have HSB := hide hsb
    clear hv7 hsb
    go_wp2
    go_ret
    exact ⟨v7, rfl, unhide HV7, unhide HB6, fresh_of (unhide HSB) (Nat.le_refl _)⟩
end Go.Proofs.YtjbboicccddhbaaGreatDoor
