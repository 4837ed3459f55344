/- Products of words with what is carried: timesPlus, addTimes, subTimes, as the Go text of package nat does them. -/
import Derived.Test.YtlkpkgajfakdpaaGreatKN4
import Derived.Test.YtlkpkgajfakdpaaGreatKSB
namespace Go.Proofs.YtlkpkgajfakdpaaGreat
open Go.RowKit

theorem mul64_any (x y hi lo : Nat) (hx : x < 18446744073709551616) (hy : y < 18446744073709551616) (hlo : lo < 18446744073709551616) (h : Hid (x * y = lo + 18446744073709551616 * hi)) (w : World) :
    Calls Tryz.prog 42 #[.int .u64 x, .int .u64 y] w fun e w' => e = .returned (.tuple #[.int .u64 (hi : Int), .int .u64 (lo : Int)]) ∧ w' = w := by
  have h1 := Tryz.bits_Mul64 x y hx hy w
  have e1 : x * y / 18446744073709551616 = hi := by rw [unhide h]; omega
  have e2 : x * y % 18446744073709551616 = lo := by rw [unhide h]; omega
  rw [e1, e2] at h1
  exact h1
theorem mul_letters (x y c : Nat) (hx : x < 18446744073709551616) (hy : y < 18446744073709551616) (hc : c < 18446744073709551616) : ∃ lo hi, lo < 18446744073709551616 ∧ hi < 18446744073709551616 ∧ x * y + c = lo + 18446744073709551616 * hi := by
  have h1 : x * y ≤ 18446744073709551615 * 18446744073709551615 := Nat.mul_le_mul (by omega) (by omega)
  exact ⟨(x * y + c) % 18446744073709551616, (x * y + c) / 18446744073709551616, by omega, by omega, by omega⟩

set_option maxHeartbeats 2000000 in
set_option maxRecDepth 100000 in
theorem timesPlus_any (x y c lo hi : Nat) (hx : x < 18446744073709551616) (hy : y < 18446744073709551616) (hc : c < 18446744073709551616) (hlo : lo < 18446744073709551616) (hhi : hi < 18446744073709551616) (h : Hid (x * y + c = lo + 18446744073709551616 * hi)) (w : World) :
    Calls Tryz.prog 89 #[.int .u64 (x : Int), .int .u64 (y : Int), .int .u64 (c : Int)] w fun e w' => e = .returned (.tuple #[.int .u64 (lo : Int), .int .u64 (hi : Int)]) ∧ w' = w := by
  obtain ⟨l0, h0, hl0, hh0, e0⟩ := mul_letters x y 0 hx hy (by omega)
  rw [Nat.add_zero] at e0
  have M := mul64_any x y h0 l0 hx hy hl0 e0 w
  have HM := hide M
  obtain ⟨s, k, hs, hk, e1⟩ := add_letters l0 c 0 hl0 hc (by omega)
  rw [Nat.add_zero] at e1
  have A := fun w => add64c l0 c hl0 hc s k e1 hs w
  have es : s = lo ∧ h0 + k = hi := by have := unhide h; omega
  obtain ⟨rfl, rfl⟩ := es
  clear M e0 e1 h
  go_enter Tryz.func89, Tryz.ntmps89
  go_wp2_with fail
  refine (unhide HM).mono ?_
  rintro e w1 ⟨rfl, hw⟩
  obtain rfl := hw.symm
  clear hw
  go_wp2
  go_ret2
  exact ⟨by simp, rfl⟩
theorem carry_lt (r x y c lo hi s k : Nat) (hr : r < 18446744073709551616) (hx : x < 18446744073709551616) (hy : y < 18446744073709551616) (hc : c < 18446744073709551616) (e : x * y + c = lo + 18446744073709551616 * hi) (e1 : r + lo = s + 18446744073709551616 * k) : hi + k < 18446744073709551616 := by
  have h1 : x * y ≤ 18446744073709551615 * 18446744073709551615 := Nat.mul_le_mul (by omega) (by omega)
  omega
theorem borrow_lt (r x y c lo hi s k : Nat) (hs : s < 18446744073709551616) (hx : x < 18446744073709551616) (hy : y < 18446744073709551616) (hc : c < 18446744073709551616) (e : x * y + c = lo + 18446744073709551616 * hi) (e1 : s + lo = r + 18446744073709551616 * k) : hi + k < 18446744073709551616 := by
  have h1 : x * y ≤ 18446744073709551615 * 18446744073709551615 := Nat.mul_le_mul (by omega) (by omega)
  omega
theorem take_times (xs : List Nat) (k y : Nat) (h : k < xs.length) : y * vl 18446744073709551616 (xs.take (k + 1)) = y * vl 18446744073709551616 (xs.take k) + xs[k]?.getD 0 * y * 18446744073709551616 ^ k := by
  rw [vl_take_succ 18446744073709551616 xs k h, Nat.mul_add, ← Nat.mul_assoc, Nat.mul_comm y (xs[k]?.getD 0)]

set_option maxHeartbeats 2000000 in
set_option maxRecDepth 100000 in
theorem addTimes_any (g o cap : Nat) (rs xs : List Nat) (vx : Value) (y : Nat) (w : World) (hs : Seg w g o rs) (_hc : rs.length ≤ cap) (hx : Sl .u64 w vx xs) (hoff : 0 < xs.length → Off g vx) (hm : ∀ x ∈ rs, x < 18446744073709551616) (hmx : ∀ x ∈ xs, x < 18446744073709551616) (hy : y < 18446744073709551616) (hle : rs.length = xs.length) (hl : rs.length < 2147483648) :
    Calls Tryz.prog 73 #[.slice (some ⟨g, o, none⟩) rs.length cap, vx, .int .u64 (y : Int)] w fun e w' => ∃ c rs', e = .returned (.int .u64 (c : Nat)) ∧ c < 18446744073709551616 ∧ rs'.length = rs.length ∧ (∀ x ∈ rs', x < 18446744073709551616) ∧ vl 18446744073709551616 rs' + c * 18446744073709551616 ^ rs.length = vl 18446744073709551616 rs + y * vl 18446744073709551616 xs ∧ Seg w' g o rs' ∧ Part g o rs.length w w' := by
  obtain ⟨a, capx, rfl, hcx, hcell, -⟩ := hx
  have I0 : Hid (AddInv rs rs 0 0 0 ∧ Seg w g o rs ∧ Part g o rs.length w w) := ⟨AddInv.start rs hm, hs, Part.refl _ _ _ _⟩
  have HC := hide hcell
  have HM := hide hmx
  have HO := hide hoff
  have HL := hide hle
  have hle1 : xs.length ≤ rs.length := by omega
  have hle2 : rs.length ≤ xs.length := by omega
  clear hcell hmx hs hm hoff hle
  go_enter Tryz.func73, Tryz.ntmps73
  go_wp2
  go_loopw [7, 16] (fun c i wr => ∃ (k cN : Nat) (rq : List Nat), k ≤ xs.length ∧ i = .int .i64 k ∧ c = .int .u64 cN ∧ cN < 18446744073709551616 ∧ rq.length = rs.length ∧ Hid (AddInv rs rq k cN (y * vl 18446744073709551616 (xs.take k)) ∧ Seg wr g o rq ∧ Part g o rs.length w wr)) (fun _ i _ => xs.length - (intOf i).toNat)
  case atStart => exact ⟨0, 0, rs, Nat.zero_le _, rfl, rfl, by omega, rfl, by simpa [vl] using I0⟩
  case round =>
    obtain ⟨k, cN, rq, hk, rfl, rfl, hcN, hrq, HI⟩ := hrel
    rename World => wr
    by_cases hlt : k < xs.length
    · obtain ⟨b, off, rfl, hcx1⟩ := unhide HC k hlt
      have hne : b ≠ g := unhide HO (by omega) b off _ _ rfl
      have cx := (unhide HI).2.2.but.cell_some hcx1 (by simp [hne])
      have hxB : xs[k]?.getD 0 < 18446744073709551616 := mem_getD (unhide HM) (by omega) k
      have hrB : rq[k]?.getD 0 < 18446744073709551616 := mem_getD (unhide HI).1.mem (by omega) k
      obtain ⟨cr, fr⟩ := (unhide HI).2.1 k (by omega)
      have hrs : k < rs.length := by omega
      have TS : Hid _ := take_times xs k y hlt
      obtain ⟨lo, hi, hlo, hhi, e0⟩ := mul_letters _ y cN hxB hy hcN
      have TP := timesPlus_any _ y cN lo hi hxB hy hcN hlo hhi e0 wr
      obtain ⟨s, c', hs, hc', he⟩ := add_letters _ lo 0 hrB hlo (by omega)
      rw [Nat.add_zero] at he
      have hcar := carry_lt _ _ _ _ _ _ _ _ hrB hxB hy hcN e0 he
      have ST := hide ((unhide HI).1.step (by omega) s (hi + c') (xs[k]?.getD 0 * y) hs (by rw [Nat.add_assoc, e0, ← Nat.add_assoc, he, Nat.mul_add]; omega))
      have AD := fun w => add64c _ lo hrB hlo s c' he hs w
      have HTP := hide TP
      clear he hcx1 e0 TP
      generalize rq[k]?.getD 0 = r at *
      generalize xs[k]?.getD 0 = x at *
      go_wp2_with fail
      refine (unhide HTP).mono ?_
      rintro e w1 ⟨rfl, hw⟩
      obtain rfl := hw.symm
      clear hw
      go_wp2
      refine ⟨⟨k + 1, hi + c', rq.set k s, by omega, by go_num, by go_num, hcar, by rw [List.length_set]; exact hrq, ?_⟩, ?_⟩
      · refine ⟨?_, (unhide HI).2.1.set k (by omega) s, (unhide HI).2.2.setCell k (by omega) _⟩
        rw [unhide TS]; exact unhide ST
      · simp [intOf]; omega
    · have hke : k = xs.length := by omega
      subst hke
      clear HC
      go_wp2
      go_ret
      refine ⟨cN, rq, rfl, hcN, hrq, (unhide HI).1.mem, ?_, (unhide HI).2.1, (unhide HI).2.2⟩
      have := (unhide HI).1.val
      rw [List.take_length] at this
      rw [unhide HL]; exact this

set_option maxHeartbeats 2000000 in
set_option maxRecDepth 100000 in
theorem subTimes_any (g o cap : Nat) (rs xs : List Nat) (vx : Value) (y : Nat) (w : World) (hs : Seg w g o rs) (_hc : rs.length ≤ cap) (hx : Sl .u64 w vx xs) (hoff : 0 < xs.length → Off g vx) (hm : ∀ x ∈ rs, x < 18446744073709551616) (hmx : ∀ x ∈ xs, x < 18446744073709551616) (hy : y < 18446744073709551616) (hle : rs.length = xs.length) (hl : rs.length < 2147483648) :
    Calls Tryz.prog 101 #[.slice (some ⟨g, o, none⟩) rs.length cap, vx, .int .u64 (y : Int)] w fun e w' => ∃ c rs', e = .returned (.int .u64 (c : Nat)) ∧ c < 18446744073709551616 ∧ rs'.length = rs.length ∧ (∀ x ∈ rs', x < 18446744073709551616) ∧ vl 18446744073709551616 rs' + y * vl 18446744073709551616 xs = vl 18446744073709551616 rs + c * 18446744073709551616 ^ rs.length ∧ Seg w' g o rs' ∧ Part g o rs.length w w' := by
  obtain ⟨a, capx, rfl, hcx, hcell, -⟩ := hx
  have I0 : Hid (SubInv rs rs 0 0 0 ∧ Seg w g o rs ∧ Part g o rs.length w w) := ⟨SubInv.start rs hm, hs, Part.refl _ _ _ _⟩
  have HC := hide hcell
  have HM := hide hmx
  have HO := hide hoff
  have HL := hide hle
  have hle1 : xs.length ≤ rs.length := by omega
  have hle2 : rs.length ≤ xs.length := by omega
  clear hcell hmx hs hm hoff hle
  go_enter Tryz.func101, Tryz.ntmps101
  go_wp2
  go_loopw [7, 16] (fun c i wr => ∃ (k cN : Nat) (rq : List Nat), k ≤ xs.length ∧ i = .int .i64 k ∧ c = .int .u64 cN ∧ cN < 18446744073709551616 ∧ rq.length = rs.length ∧ Hid (SubInv rs rq k cN (y * vl 18446744073709551616 (xs.take k)) ∧ Seg wr g o rq ∧ Part g o rs.length w wr)) (fun _ i _ => xs.length - (intOf i).toNat)
  case atStart => exact ⟨0, 0, rs, Nat.zero_le _, rfl, rfl, by omega, rfl, by simpa [vl] using I0⟩
  case round =>
    obtain ⟨k, cN, rq, hk, rfl, rfl, hcN, hrq, HI⟩ := hrel
    rename World => wr
    by_cases hlt : k < xs.length
    · obtain ⟨b, off, rfl, hcx1⟩ := unhide HC k hlt
      have hne : b ≠ g := unhide HO (by omega) b off _ _ rfl
      have cx := (unhide HI).2.2.but.cell_some hcx1 (by simp [hne])
      have hxB : xs[k]?.getD 0 < 18446744073709551616 := mem_getD (unhide HM) (by omega) k
      have hrB : rq[k]?.getD 0 < 18446744073709551616 := mem_getD (unhide HI).1.mem (by omega) k
      obtain ⟨cr, fr⟩ := (unhide HI).2.1 k (by omega)
      have hrs : k < rs.length := by omega
      have TS : Hid _ := take_times xs k y hlt
      obtain ⟨lo, hi, hlo, hhi, e0⟩ := mul_letters _ y cN hxB hy hcN
      have TP := timesPlus_any _ y cN lo hi hxB hy hcN hlo hhi e0 wr
      obtain ⟨s, c', hs, hc', he⟩ := sub_letters _ lo 0 hrB hlo (by omega)
      rw [Nat.add_zero] at he
      have hcar := borrow_lt _ _ _ _ _ _ _ _ hs hxB hy hcN e0 he
      have ST := hide ((unhide HI).1.step (by omega) s (hi + c') (xs[k]?.getD 0 * y) hs (by rw [Nat.add_assoc, e0, ← Nat.add_assoc, he, Nat.mul_add]; omega))
      have AD := fun w => sub64c _ lo s c' he hs hrB hlo w
      have HTP := hide TP
      clear he hcx1 e0 TP
      generalize rq[k]?.getD 0 = r at *
      generalize xs[k]?.getD 0 = x at *
      go_wp2_with fail
      refine (unhide HTP).mono ?_
      rintro e w1 ⟨rfl, hw⟩
      obtain rfl := hw.symm
      clear hw
      go_wp2
      refine ⟨⟨k + 1, hi + c', rq.set k s, by omega, by go_num, by go_num, hcar, by rw [List.length_set]; exact hrq, ?_⟩, ?_⟩
      · refine ⟨?_, (unhide HI).2.1.set k (by omega) s, (unhide HI).2.2.setCell k (by omega) _⟩
        rw [unhide TS]; exact unhide ST
      · simp [intOf]; omega
    · have hke : k = xs.length := by omega
      subst hke
      clear HC
      go_wp2
      go_ret
      refine ⟨cN, rq, rfl, hcN, hrq, (unhide HI).1.mem, ?_, (unhide HI).2.1, (unhide HI).2.2⟩
      have := (unhide HI).1.val
      rw [List.take_length] at this
      rw [unhide HL]; exact this

end Go.Proofs.YtlkpkgajfakdpaaGreat

namespace Go.Proofs.YtlkpkgajfakdpaaGreat
open Go.RowKit

theorem Seg.sub {w : World} {g o : Nat} {rs : List Nat} (h : Seg w g o rs) (i n : Nat) (hn : i + n ≤ rs.length) : Seg w g (o + i) ((rs.drop i).take n) := ⟨fun j hj => by
  have hj' : j < n := by simp only [List.length_take] at hj; omega
  have := h (i + j) (by omega)
  rw [List.getElem?_take_of_lt hj', List.getElem?_drop, show o + i + j = o + (i + j) from by omega]
  exact this, fun h0 => h.ints (by simp only [List.length_take, List.length_drop] at h0; omega)⟩
theorem take_drop_three (rs : List Nat) (i n : Nat) (_h : i + n ≤ rs.length) : rs = rs.take i ++ (rs.drop i).take n ++ rs.drop (i + n) := by
  rw [List.append_assoc, ← List.drop_drop, List.take_append_drop, List.take_append_drop]
theorem vl_zeros (B : Nat) : ∀ (rs : List Nat), (∀ j, j < rs.length → rs[j]?.getD 0 = 0) → vl B rs = 0
  | [], _ => rfl
  | x :: rs, h => by
    have h0 := h 0 (by simp)
    simp only [List.getElem?_cons_zero, Option.getD_some] at h0
    rw [vl, h0, vl_zeros B rs (fun j hj => by have := h (j + 1) (by simpa using hj); simpa using this)]
    simp
/-- what holds ahead of a round of the product -/
structure MulRow (xs ys rs : List Nat) (k : Nat) : Prop where
  len : rs.length = xs.length + ys.length
  mem : ∀ x ∈ rs, x < 18446744073709551616
  val : vl 18446744073709551616 rs = vl 18446744073709551616 xs * vl 18446744073709551616 (ys.take k)
  zero : ∀ j, k + xs.length ≤ j → rs[j]?.getD 0 = 0
theorem MulRow.start (xs ys : List Nat) : MulRow xs ys (List.replicate (xs.length + ys.length) 0) 0 :=
  ⟨by simp, by intro x hx; rw [List.mem_replicate] at hx; omega, by simp [vl_replicate, vl], by
    intro j _
    rcases Nat.lt_or_ge j (xs.length + ys.length) with h | h
    · rw [List.getElem?_replicate, if_pos h]; rfl
    · rw [List.getElem?_replicate, if_neg (by omega)]; rfl⟩
theorem MulRow.step {xs ys rs : List Nat} {k : Nat} (h : MulRow xs ys rs k) (hk : k < ys.length) (ws : List Nat) (c : Nat) (hc : c < 18446744073709551616) (hl : ws.length = xs.length) (hm : ∀ x ∈ ws, x < 18446744073709551616)
    (hv : vl 18446744073709551616 ws + c * 18446744073709551616 ^ xs.length = vl 18446744073709551616 ((rs.drop k).take xs.length) + ys[k]?.getD 0 * vl 18446744073709551616 xs) :
    MulRow xs ys ((rs.take k ++ ws ++ rs.drop (k + xs.length)).set (k + xs.length) c) (k + 1) := by
  have hlen := h.len
  have hn : k + xs.length ≤ rs.length := by omega
  have lt : (rs.take k).length = k := by rw [List.length_take]; omega
  have lw : (rs.take k ++ ws).length = k + xs.length := by rw [List.length_append, lt, hl]
  have ll : (rs.take k ++ ws ++ rs.drop (k + xs.length)).length = xs.length + ys.length := by rw [List.length_append, lw, List.length_drop]; omega
  have hz : vl 18446744073709551616 (rs.drop (k + xs.length)) = 0 := vl_zeros _ _ (fun j hj => by rw [List.getElem?_drop]; exact h.zero _ (by omega))
  have hd0 : (rs.take k ++ ws ++ rs.drop (k + xs.length))[k + xs.length]?.getD 0 = 0 := by
    rw [List.getElem?_append_right (by omega), lw, List.getElem?_drop]; exact h.zero _ (by omega)
  refine ⟨by rw [List.length_set, ll], mem_set ?_ _ _ hc, ?_, fun j hj => ?_⟩
  · intro x hx
    simp only [List.mem_append] at hx
    rcases hx with (hx | hx) | hx
    · exact h.mem x (List.mem_of_mem_take hx)
    · exact hm x hx
    · exact h.mem x (List.mem_of_mem_drop hx)
  · have h1 := vl_set 18446744073709551616 (rs.take k ++ ws ++ rs.drop (k + xs.length)) (k + xs.length) c (by omega)
    rw [hd0, Nat.zero_mul, Nat.add_zero] at h1
    rw [h1, vl_append, hz, Nat.mul_zero, Nat.add_zero, vl_append, lt, vl_take_succ 18446744073709551616 ys k hk, Nat.mul_add, ← h.val]
    have h2 := congrArg (vl 18446744073709551616) (take_drop_three rs k xs.length hn)
    rw [vl_append, hz, Nat.mul_zero, Nat.add_zero, vl_append, lt] at h2
    rw [h2, Nat.pow_add]
    generalize vl 18446744073709551616 ((rs.drop k).take xs.length) = a at *
    generalize vl 18446744073709551616 ws = b at *
    generalize vl 18446744073709551616 (rs.take k) = d at *
    generalize ys[k]?.getD 0 = y at *
    generalize vl 18446744073709551616 xs = X at *
    generalize 18446744073709551616 ^ xs.length = Q at *
    generalize 18446744073709551616 ^ k = P at *
    have h3 : P * (b + c * Q) = P * (a + y * X) := by rw [hv]
    grind
  · rw [List.getElem?_set_ne (by omega), List.getElem?_append_right (by omega), lw, List.getElem?_drop, show k + xs.length + (j - (k + xs.length)) = j from by omega]
    exact h.zero j (by omega)
theorem MulRow.fin {xs ys rs : List Nat} (h : MulRow xs ys rs ys.length) : vl 18446744073709551616 rs = vl 18446744073709551616 xs * vl 18446744073709551616 ys := by rw [h.val, List.take_length]

theorem run_make64p (wx : World) (n m : Nat) (h : n + m < 2147483648) : (Instr.makeSlice 52 (.int .i64 ((n : Int) + (m : Int))) (.int .i64 ((n : Int) + (m : Int)))).run Tryz.prog wx = .ok (.slice (some ⟨wx.heap.size, 0, none⟩) (n + m) (n + m)) (wx.alloc (.cells (madeCells #[.int .u64 0] (n + m)) 30)) := by
  have := run_make64 wx (n + m) h
  rw [Int.natCast_add] at this
  exact this

set_option maxHeartbeats 2000000 in
set_option maxRecDepth 100000 in
theorem mulWords_any (va vb : Value) (xs ys : List Nat) (w : World) (ha : Sl .u64 w va xs) (hb : Sl .u64 w vb ys) (mx : ∀ x ∈ xs, x < 18446744073709551616) (my : ∀ x ∈ ys, x < 18446744073709551616) (h0 : 0 < xs.length) (h0' : 0 < ys.length) (hl : xs.length < 536870912) (hl' : ys.length < 536870912) :
    Calls Tryz.prog 51 #[va, vb] w fun e w' => ∃ v', e = .returned v' ∧ Sl .u64 w' v' (wd 18446744073709551616 (vl 18446744073709551616 xs * vl 18446744073709551616 ys)) ∧ But [] w w' ∧ Fresh w.heap.size v' := by
  obtain ⟨b1, o1, c1, rfl, hc1⟩ : ∃ b o c, va = .slice (some ⟨b, o, none⟩) xs.length c ∧ xs.length ≤ c := by
    rcases ha.open with ⟨rfl, -⟩ | ⟨-, b, o, c, e, h, -⟩
    · simp at h0
    · exact ⟨b, o, c, e, h⟩
  rcases hb.open with ⟨rfl, -⟩ | ⟨-, b2, o2, c2, rfl, hc2, hb2, hcell⟩
  · simp at h0'
  have hmk := fun wx => run_make64p wx xs.length ys.length (by omega)
  have hof : Off w.heap.size (.slice (some ⟨b1, o1, none⟩) xs.length c1) := off_fresh ha h0 _ (Nat.le_refl _)
  have HC := hide hcell
  have HO := hide hof
  have HA := hide ha
  have MX := hide mx
  have MY := hide my
  clear hcell hof ha hb mx my
  go_enter Tryz.func51, Tryz.ntmps51
  go_wp2
  go_loopw [16] (fun i wr => ∃ (k : Nat) (rs : List Nat), k ≤ ys.length ∧ i = .int .i64 k ∧ Hid (MulRow xs ys rs k ∧ But [] w wr ∧ Seg wr w.heap.size 0 rs ∧ w.heap.size < wr.heap.size)) (fun i _ => ys.length - (intOf i).toNat)
  case atStart => exact ⟨0, List.replicate (xs.length + ys.length) 0, Nat.zero_le _, rfl, MulRow.start xs ys, (But.refl _ _).alloc _, Seg.made _ _ _, by simp⟩
  case round =>
    obtain ⟨k, rs, hk, rfl, HI⟩ := hrel
    rename World => wr
    by_cases hlt : k < ys.length
    · have cy := (unhide HI).2.1.cell_some (unhide HC k hlt) (by simp)
      have hyB : ys[k]?.getD 0 < 18446744073709551616 := mem_getD (unhide MY) (by omega) k
      have hlen := (unhide HI).1.len
      have hsub := (unhide HI).2.2.1.sub k xs.length (by omega)
      have hsl : ((rs.drop k).take xs.length).length = xs.length := by rw [List.length_take, List.length_drop]; omega
      have hat := addTimes_any w.heap.size (0 + k) (xs.length + ys.length - k) ((rs.drop k).take xs.length) xs (.slice (some ⟨b1, o1, none⟩) xs.length c1) (ys[k]?.getD 0) wr hsub (by rw [hsl]; omega) ((unhide HA).but_nil (unhide HI).2.1) (fun _ => unhide HO) (fun x hx => (unhide HI).1.mem x (List.mem_of_mem_drop (List.mem_of_mem_take hx))) (unhide MX) hyB hsl (by rw [hsl]; omega)
      rw [hsl, Nat.zero_add] at hat
      have HAT := hide hat
      have HLEN := hide hlen
      have ST := hide (fun ws c h1 h2 h3 h4 => (unhide HI).1.step hlt ws c h1 h2 h3 h4)
      clear hsub hsl hat hlen
      generalize ys[k]?.getD 0 = y at *
      go_wp2_with fail
      refine (unhide HAT).mono ?_
      rintro e w1 ⟨c, ws, rfl, hc, hlw, hmw, hvw, hsg, hpt⟩
      have hM := unhide ST ws c hc hlw hmw hvw
      have hW := (unhide HI).2.2.1.whole hpt hsg hlw (by rw [unhide HLEN]; omega)
      have hlen1 : k + xs.length < (rs.take k ++ ws ++ rs.drop (k + xs.length)).length := by have := hM.len; rw [List.length_set] at this; omega
      have hset := hW.set (k + xs.length) hlen1 c
      rw [Nat.zero_add] at hset
      obtain ⟨cc, fc⟩ := hW (k + xs.length) hlen1
      rw [Nat.zero_add] at cc fc
      have HB1 : Hid (But [] w w1) := (unhide HI).2.1.trans hpt.but (fun x hx => by simp at hx; subst hx; exact .inr (Nat.le_refl _))
      have HSET := hide hset
      have HM1 := hide hM
      have hsz : Hid (w.heap.size < w1.heap.size) := Nat.lt_of_lt_of_le (unhide HI).2.2.2 hpt.but.size
      clear hM hW hlen1 hset hpt hsg hvw HAT ST
      generalize (rs.take k ++ ws ++ rs.drop (k + xs.length))[k + xs.length]?.getD 0 = z at cc
      go_wp2
      refine ⟨⟨k + 1, (rs.take k ++ ws ++ rs.drop (k + xs.length)).set (k + xs.length) c, by omega, by go_num, unhide HM1, (unhide HB1).setCell (.inr (Nat.le_refl _)) _, unhide HSET, by rw [World.size_setCell]; exact unhide hsz⟩, ?_⟩
      simp [intOf]; omega
    · have hke : k = ys.length := by omega
      subst hke
      have hO := (unhide HI).1
      have hS := (unhide HI).2.2.1.sl (xs.length + ys.length) (by rw [hO.len]; exact Nat.le_refl _)
      rw [hO.len] at hS
      have HS := hide hS
      have HM := hide hO.mem
      have HL : rs.length < 2147483648 := by rw [hO.len]; omega
      have HF := hide hO.fin
      clear hO hS HC
      go_wp2_with fail
      refine (trimmed_any _ rs _ (unhide HS) (unhide HM) HL).mono ?_
      rintro e w' ⟨v', rfl, hs, hw, hsb⟩
      obtain rfl := hw.symm
      clear hw
      rw [unhide HF] at hs
      have H1 := hide hs
      have H2 := hide hsb
      clear hs hsb
      go_wp2
      go_ret
      exact ⟨v', rfl, unhide H1, (unhide HI).2.1, fresh_of (unhide H2) (Nat.le_refl _)⟩
end Go.Proofs.YtlkpkgajfakdpaaGreat

namespace Go.Proofs.YtlkpkgajfakdpaaGreat
open Go.RowKit

theorem wd_drop (n X : Nat) : (wd 18446744073709551616 X).drop n = wd 18446744073709551616 (X / 18446744073709551616 ^ n) := by
  induction n generalizing X with
  | zero => simp
  | succ n ih =>
    rcases Nat.eq_zero_or_pos X with h | h
    · subst h; simp [wd_zero]
    · rw [wd_pos (by omega) h, List.drop_succ_cons, ih, Nat.div_div_eq_div_mul, Nat.pow_succ, Nat.mul_comm 18446744073709551616]
theorem vl_mod (xs : List Nat) (n : Nat) (h : ∀ x ∈ xs, x < 18446744073709551616) : vl 18446744073709551616 (xs.take n) = vl 18446744073709551616 xs % 18446744073709551616 ^ n := by
  have h1 : vl 18446744073709551616 xs = vl 18446744073709551616 (xs.take n) + 18446744073709551616 ^ (xs.take n).length * vl 18446744073709551616 (xs.drop n) := by rw [← vl_append, List.take_append_drop]
  have h2 := vl_lt (by omega : 0 < 18446744073709551616) (xs.take n) (fun x hx => h x (List.mem_of_mem_take hx))
  rcases Nat.lt_or_ge n xs.length with hn | hn
  · have e : (xs.take n).length = n := by rw [List.length_take]; omega
    rw [e] at h1 h2
    rw [h1, Nat.add_mul_mod_self_left, Nat.mod_eq_of_lt h2]
  · rw [List.take_of_length_le hn] at h2 ⊢
    rw [Nat.mod_eq_of_lt (Nat.lt_of_lt_of_le h2 (Nat.pow_le_pow_right (by omega) hn))]
theorem wd_take (n X : Nat) : vl 18446744073709551616 ((wd 18446744073709551616 X).take n) = X % 18446744073709551616 ^ n := by rw [vl_mod _ _ (wd_mem (by omega) X), vl_wd (by omega)]
theorem wd_len_div (n X : Nat) : (wd 18446744073709551616 (X / 18446744073709551616 ^ n)).length = (wd 18446744073709551616 X).length - n := by rw [← wd_drop, List.length_drop]
theorem wd_len_mod (n X : Nat) : (wd 18446744073709551616 (X % 18446744073709551616 ^ n)).length ≤ n := wd_length_le (by omega) _ _ (Nat.mod_lt _ (Nat.pow_pos (by omega)))
theorem wd_len_mono {X Y : Nat} (h : X ≤ Y) : (wd 18446744073709551616 X).length ≤ (wd 18446744073709551616 Y).length := wd_length_le (by omega) X _ (Nat.lt_of_le_of_lt h (lt_of_wd_length (by omega) Y _ (Nat.le_refl _)))
theorem wd_len_mod' (n X : Nat) : (wd 18446744073709551616 (X % 18446744073709551616 ^ n)).length ≤ (wd 18446744073709551616 X).length := wd_len_mono (Nat.mod_le _ _)
theorem Sl.take {k : IntKind} {w : World} {b off cap : Nat} {xs : List Nat} (h : Sl k w (.slice (some ⟨b, off, none⟩) xs.length cap) xs) (n c : Nat) (hn : n ≤ xs.length) (hc : n ≤ c) : Sl k w (.slice (some ⟨b, off, none⟩) n c) (xs.take n) := by
  have hl : (xs.take n).length = n := by rw [List.length_take]; omega
  have hI := h.ints
  obtain ⟨a, cap', e, -, h1, -⟩ := h
  have h2 := Sl.mk (k := k) (w := w) (xs := xs.take n) b off c (by omega) (fun i hi => by
    obtain ⟨b2, off2, e2, h3⟩ := h1 i (by omega)
    simp only [Value.slice.injEq] at e
    obtain ⟨rfl, -, -⟩ := e
    simp only [Option.some.injEq, Addr.mk.injEq] at e2
    obtain ⟨rfl, rfl, -⟩ := e2
    rw [take_getD xs n i (by omega)]; exact h3) (fun h0 => hI (by omega))
  rw [hl] at h2
  exact h2
theorem Sl.drop {k : IntKind} {w : World} {b off cap : Nat} {xs : List Nat} (h : Sl k w (.slice (some ⟨b, off, none⟩) xs.length cap) xs) (n m c : Nat) (hm : m = xs.length - n) (hc : m ≤ c) : Sl k w (.slice (some ⟨b, off + n, none⟩) m c) (xs.drop n) := by
  have hl : (xs.drop n).length = m := by rw [List.length_drop]; omega
  have hI := h.ints
  obtain ⟨a, cap', e, -, h1, -⟩ := h
  have h2 := Sl.mk (k := k) (w := w) (xs := xs.drop n) b (off + n) c (by omega) (fun i hi => by
    obtain ⟨b2, off2, e2, h3⟩ := h1 (n + i) (by omega)
    simp only [Value.slice.injEq] at e
    obtain ⟨rfl, -, -⟩ := e
    simp only [Option.some.injEq, Addr.mk.injEq] at e2
    obtain ⟨rfl, rfl, -⟩ := e2
    rw [List.getElem?_drop, Nat.add_assoc]; exact h3) (fun h0 => hI (by omega))
  rw [hl] at h2
  exact h2

set_option maxHeartbeats 1000000 in
set_option maxRecDepth 100000 in
theorem natLow_any (v : Value) (X n : Nat) (w : World) (hv : Sl .u64 w v (wd 18446744073709551616 X)) (hl : (wd 18446744073709551616 X).length < 2147483648) (hn : n < 2147483648) :
    Calls Tryz.prog 74 #[v, .int .i64 (n : Int)] w fun e w' => ∃ v', e = .returned v' ∧ Sl .u64 w v' (wd 18446744073709551616 (X % 18446744073709551616 ^ n)) ∧ w' = w := by
  by_cases hle : (wd 18446744073709551616 X).length ≤ n
  · have e : X % 18446744073709551616 ^ n = X := Nat.mod_eq_of_lt (lt_of_wd_length (by omega) X n hle)
    rw [e]
    have HV := hide hv
    obtain ⟨a, c, rfl, -, -⟩ := hv
    clear e
    generalize (wd 18446744073709551616 X).length = l at *
    go_enter Tryz.func74, Tryz.ntmps74
    go_wp2
    go_ret
    exact ⟨_, rfl, unhide HV, rfl⟩
  · rcases hv.open with ⟨e, -⟩ | ⟨h0, b, off, c, rfl, hc, -, -⟩
    · rw [e] at hle; simp at hle
    have ht := trimmed_any (.slice (some ⟨b, off, none⟩) n c) ((wd 18446744073709551616 X).take n) w (hv.take n c (by omega) (by omega)) (fun x hx => wd_mem (by omega) X x (List.mem_of_mem_take hx)) (by rw [List.length_take]; omega)
    rw [wd_take] at ht
    have HT := hide ht
    clear ht hv
    generalize (wd 18446744073709551616 X).length = l at *
    have hnl : n < l := by omega
    have hnc : n ≤ c := by omega
    go_enter Tryz.func74, Tryz.ntmps74
    go_wp2_with fail
    refine (unhide HT).mono ?_
    rintro e w1 ⟨v', rfl, h1, hw, -⟩
    obtain rfl := hw.symm
    clear hw
    have H1 := hide h1
    clear h1
    go_wp2
    go_ret
    exact ⟨v', rfl, unhide H1, rfl⟩

set_option maxHeartbeats 1000000 in
set_option maxRecDepth 100000 in
theorem natHigh_any (v : Value) (X n : Nat) (w : World) (hv : Sl .u64 w v (wd 18446744073709551616 X)) (_hl : (wd 18446744073709551616 X).length < 2147483648) (hn : n < 2147483648) :
    Calls Tryz.prog 57 #[v, .int .i64 (n : Int)] w fun e w' => ∃ v', e = .returned v' ∧ Sl .u64 w v' (wd 18446744073709551616 (X / 18446744073709551616 ^ n)) ∧ w' = w := by
  by_cases hle : (wd 18446744073709551616 X).length ≤ n
  · have e : X / 18446744073709551616 ^ n = 0 := Nat.div_eq_of_lt (lt_of_wd_length (by omega) X n hle)
    rw [e, wd_zero]
    obtain ⟨a, c, rfl, -, -⟩ := hv
    clear e
    generalize (wd 18446744073709551616 X).length = l at *
    go_enter Tryz.func57, Tryz.ntmps57
    go_wp2
    go_ret
    exact ⟨_, rfl, Sl.nil _ _, rfl⟩
  · rcases hv.open with ⟨e, -⟩ | ⟨h0, b, off, c, rfl, hc, -, -⟩
    · rw [e] at hle; simp at hle
    have HR := hide (hv.drop n ((wd 18446744073709551616 X).length - n) (c - n) rfl (by omega))
    rw [wd_drop] at HR
    clear hv
    generalize (wd 18446744073709551616 X).length = l at *
    have hnl : n < l := by omega
    have hnc : n < c := by omega
    go_enter Tryz.func57, Tryz.ntmps57
    go_wp2
    go_ret
    exact ⟨_, rfl, unhide HR, rfl⟩
end Go.Proofs.YtlkpkgajfakdpaaGreat
