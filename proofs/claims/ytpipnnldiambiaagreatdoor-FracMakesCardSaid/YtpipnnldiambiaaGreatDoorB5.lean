/- Two numbers in words are multiplied, as the Go text of package tontinebig does it. -/
import Derived.Test.YtpipnnldiambiaaGreatDoorB2
import Derived.Laws.MakeOwn
namespace Go.Proofs.YtpipnnldiambiaaGreatDoor
open Go.RowKit

/-- a row of words in a block of the call's own -/
def Row (k : IntKind) (w : World) (g : Nat) (rs : List Nat) : Prop := ∀ i, i < rs.length → w.cell? ⟨g, i, none⟩ = some (.int k (rs[i]?.getD 0 : Nat)) ∧ w.frozen? ⟨g, i, none⟩ = false
theorem Row.set {k : IntKind} {w : World} {g : Nat} {rs : List Nat} (h : Row k w g rs) (i : Nat) (hi : i < rs.length) (t : Nat) : Row k (w.setCell ⟨g, i, none⟩ (.int k t)) g (rs.set i t) := by
  intro j hj
  rw [List.length_set] at hj
  refine ⟨?_, by rw [World.frozen?_setCell]; exact (h j hj).2⟩
  by_cases e : i = j
  · subst e
    rw [World.cell?_setCell_same _ _ _ (h i hi).1, List.getElem?_set_self hi]; rfl
  · rw [World.cell?_setCell_other _ _ _ _ (fun h => e (Addr.mk.inj h).2.1), List.getElem?_set_ne e]; exact (h j hj).1
theorem Row.sl {k : IntKind} {w : World} {g : Nat} {rs : List Nat} (h : Row k w g rs) (cap : Nat) (hc : rs.length ≤ cap) : Sl k w (.slice (some ⟨g, 0, none⟩) rs.length cap) rs :=
  Sl.mk g 0 cap hc (fun i hi => by rw [Nat.zero_add]; exact (h i hi).1)
theorem Row.made (k : IntKind) (w : World) (n : Nat) (t : TypeId) : Row k (w.alloc (.cells (madeCells #[.int k 0] n) t)) w.heap.size (List.replicate n 0) := by
  intro i hi
  rw [List.length_replicate] at hi
  refine ⟨?_, by simp⟩
  rw [World.cell?_alloc_new]
  simp [madeCells, hi, Nat.mod_one]
theorem vl_set (B : Nat) : ∀ (rs : List Nat) (k t : Nat), k < rs.length → vl B (rs.set k t) + rs[k]?.getD 0 * B ^ k = vl B rs + t * B ^ k
  | [], k, t, h => by simp at h
  | x :: rs, 0, t, _ => by simp [vl]; omega
  | x :: rs, k + 1, t, h => by
    have ih := vl_set B rs k t (by simpa using h)
    simp only [List.set_cons_succ, vl, List.getElem?_cons_succ, Nat.pow_succ]
    have e1 : rs[k]?.getD 0 * (B ^ k * B) = B * (rs[k]?.getD 0 * B ^ k) := by rw [← Nat.mul_assoc, Nat.mul_comm _ B]
    have e2 : t * (B ^ k * B) = B * (t * B ^ k) := by rw [← Nat.mul_assoc, Nat.mul_comm _ B]
    rw [e1, e2, Nat.add_assoc, ← Nat.mul_add, ih, Nat.mul_add, Nat.add_assoc]
theorem vl_take_succ (B : Nat) (xs : List Nat) (i : Nat) (h : i < xs.length) : vl B (xs.take (i + 1)) = vl B (xs.take i) + xs[i]?.getD 0 * B ^ i := by
  rw [List.take_succ_eq_append_getElem h, vl_append, List.length_take, Nat.min_eq_left (by omega), List.getElem?_eq_getElem h]
  simp only [vl, Nat.mul_zero, Nat.add_zero, Option.getD_some]
  rw [Nat.mul_comm]
theorem vl_replicate (B n : Nat) : vl B (List.replicate n 0) = 0 := by
  induction n with
  | zero => rfl
  | succ n ih => simp [List.replicate_succ, vl, ih]

theorem mem_getD {xs : List Nat} {B : Nat} (h : ∀ x ∈ xs, x < B) (hB : 0 < B) (i : Nat) : xs[i]?.getD 0 < B := by
  rcases Nat.lt_or_ge i xs.length with h1 | h1
  · rw [List.getElem?_eq_getElem h1]; exact h _ (List.getElem_mem h1)
  · rw [List.getElem?_eq_none h1]; exact hB

/-- what holds ahead of a round of the outer loop -/
structure MulOut (xs ys rs : List Nat) (k : Nat) : Prop where
  len : rs.length = xs.length + ys.length
  mem : ∀ x ∈ rs, x < 4294967296
  val : vl 4294967296 rs = vl 4294967296 (xs.take k) * vl 4294967296 ys
  zero : ∀ j, k + ys.length ≤ j → rs[j]?.getD 0 = 0
/-- what holds ahead of a round of the inner loop -/
structure MulIn (xs ys rs : List Nat) (k q c : Nat) : Prop where
  len : rs.length = xs.length + ys.length
  mem : ∀ x ∈ rs, x < 4294967296
  carry : c < 4294967296
  val : vl 4294967296 rs + c * 4294967296 ^ (k + q) = vl 4294967296 (xs.take k) * vl 4294967296 ys + xs[k]?.getD 0 * 4294967296 ^ k * vl 4294967296 (ys.take q)
  zero : ∀ j, k + ys.length ≤ j → rs[j]?.getD 0 = 0
theorem MulOut.start (xs ys : List Nat) : MulOut xs ys (List.replicate (xs.length + ys.length) 0) 0 :=
  ⟨by simp, by intro x hx; rw [List.mem_replicate] at hx; omega, by simp [vl_replicate, vl], by
    intro j _
    rcases Nat.lt_or_ge j (xs.length + ys.length) with h | h
    · rw [List.getElem?_replicate, if_pos h]; rfl
    · rw [List.getElem?_replicate, if_neg (by omega)]; rfl⟩
theorem MulIn.start {xs ys rs : List Nat} {k : Nat} (h : MulOut xs ys rs k) : MulIn xs ys rs k 0 0 :=
  ⟨h.len, h.mem, by omega, by simp [vl, h.val], h.zero⟩
theorem mem_set {rs : List Nat} {B : Nat} (h : ∀ x ∈ rs, x < B) (i t : Nat) (ht : t < B) : ∀ x ∈ rs.set i t, x < B := by
  intro x hx
  rcases List.mem_or_eq_of_mem_set hx with h1 | h1
  · exact h x h1
  · subst h1; exact ht
theorem MulIn.step {xs ys rs : List Nat} {k q c : Nat} (h : MulIn xs ys rs k q c) (hx : xs[k]?.getD 0 < 4294967296) (hq : q < ys.length) (hk : k < xs.length) (hy : ys[q]?.getD 0 < 4294967296) (t : Nat) (ht : t = c + (xs[k]?.getD 0 * ys[q]?.getD 0 + rs[k + q]?.getD 0)) :
    t < 18446744073709551616 ∧ MulIn xs ys (rs.set (k + q) (t % 4294967296)) k (q + 1) (t / 4294967296) := by
  have hr : rs[k + q]?.getD 0 < 4294967296 := mem_getD h.mem (by omega) _
  have hkq : k + q < rs.length := by have := h.len; omega
  have h1 : xs[k]?.getD 0 * ys[q]?.getD 0 ≤ 4294967295 * 4294967295 := Nat.mul_le_mul (by omega) (by omega)
  have hc := h.carry
  have htl : t < 18446744073709551616 := by omega
  refine ⟨htl, by rw [List.length_set]; exact h.len, mem_set h.mem _ _ (by omega), by omega, ?_, fun j hj => ?_⟩
  · have h2 := vl_set 4294967296 rs (k + q) (t % 4294967296) hkq
    have h3 := h.val
    have h4 := vl_take_succ 4294967296 ys q hq
    have e1 : xs[k]?.getD 0 * 4294967296 ^ k * (ys[q]?.getD 0 * 4294967296 ^ q) = xs[k]?.getD 0 * ys[q]?.getD 0 * 4294967296 ^ (k + q) := by
      rw [Nat.pow_add]; simp only [Nat.mul_assoc, Nat.mul_left_comm]
    have e0 : xs[k]?.getD 0 * 4294967296 ^ k * vl 4294967296 (ys.take (q + 1)) = xs[k]?.getD 0 * 4294967296 ^ k * vl 4294967296 (ys.take q) + xs[k]?.getD 0 * ys[q]?.getD 0 * 4294967296 ^ (k + q) := by rw [h4, Nat.mul_add, e1]
    rw [e0, ← Nat.add_assoc k q 1, Nat.pow_succ]
    clear e0 e1 h4
    generalize 4294967296 ^ (k + q) = P at *
    have e2 : t / 4294967296 * (P * 4294967296) = (4294967296 * (t / 4294967296)) * P := by rw [Nat.mul_comm P, ← Nat.mul_assoc, Nat.mul_comm (t / 4294967296)]
    have e3 : t % 4294967296 * P + 4294967296 * (t / 4294967296) * P = t * P := by rw [← Nat.add_mul, Nat.mod_add_div]
    have e4 : t * P = c * P + (xs[k]?.getD 0 * ys[q]?.getD 0 * P + rs[k + q]?.getD 0 * P) := by rw [ht, Nat.add_mul, Nat.add_mul]
    rw [e2]
    omega
  · rw [List.getElem?_set_ne (by omega)]; exact h.zero j hj
theorem MulIn.fin {xs ys rs : List Nat} {k c : Nat} (h : MulIn xs ys rs k ys.length c) (hk : k < xs.length) : MulOut xs ys (rs.set (k + ys.length) c) (k + 1) := by
  have hkq : k + ys.length < rs.length := by have := h.len; omega
  refine ⟨by rw [List.length_set]; exact h.len, mem_set h.mem _ _ h.carry, ?_, fun j hj => ?_⟩
  · have h2 := vl_set 4294967296 rs (k + ys.length) c hkq
    have h3 := h.val
    rw [h.zero _ (Nat.le_refl _), Nat.zero_mul, Nat.add_zero] at h2
    rw [h2, h3, List.take_length, vl_take_succ 4294967296 xs k hk, Nat.add_mul]
  · rw [List.getElem?_set_ne (by omega)]; exact h.zero j (by omega)
theorem MulOut.fin {xs ys rs : List Nat} (h : MulOut xs ys rs xs.length) : vl 4294967296 rs = vl 4294967296 xs * vl 4294967296 ys := by rw [h.val, List.take_length]

set_option maxHeartbeats 2000000 in
theorem mul_any (va vb : Value) (m n : Nat) (w : World) (ha : Sl .u32 w va (wd 4294967296 m)) (hb : Sl .u32 w vb (wd 4294967296 n)) (hla : (wd 4294967296 m).length < 1073741824) (hlb : (wd 4294967296 n).length < 1073741824) :
    Calls Tryz.prog 54 #[va, vb] w fun e w' => ∃ v', e = .returned v' ∧ Sl .u32 w' v' (wd 4294967296 (m * n)) ∧ But [] w w' := by
  have mm := wd_mem (B := 4294967296) (by omega) m
  have mn := wd_mem (B := 4294967296) (by omega) n
  have em := vl_wd (B := 4294967296) (by omega) m
  have en := vl_wd (B := 4294967296) (by omega) n
  generalize wd 4294967296 m = xs at *
  generalize wd 4294967296 n = ys at *
  subst em en
  rcases ha.open with ⟨rfl, a, cap, rfl⟩ | ⟨h0, b, off, cap, rfl, hc, hbl, hcell⟩
  · obtain ⟨b', cap', rfl, -, -⟩ := hb
    go_enter Tryz.func54, Tryz.ntmps54
    go_wp2
    go_ret
    exact ⟨_, rfl, by simp only [vl, Nat.zero_mul, wd_zero]; exact Sl.nil _ _, But.refl _ _⟩
  · have n0 : ((xs.length : Int) == 0) = false := by simp; intro h; simp [h] at h0
    rcases hb.open with ⟨rfl, a, cap', rfl⟩ | ⟨h0', b', off', cap', rfl, hc', hbl', hcell'⟩
    · go_enter Tryz.func54, Tryz.ntmps54
      go_wp2
      go_ret
      exact ⟨_, rfl, by simp only [vl, Nat.mul_zero, wd_zero]; exact Sl.nil _ _, But.refl _ _⟩
    · have n0' : ((ys.length : Int) == 0) = false := by simp; intro h; simp [h] at h0'
      obtain ⟨ti, hi, hz, hs, hbt⟩ := info_u32
      have hmk := fun wx => run_make (P := Tryz.prog) wx 50 126 ti (.int .u32 0) Tryz.underlying50 hi hz .i64 .i64 ((xs.length : Int) + (ys.length : Int)) ((xs.length : Int) + (ys.length : Int)) (by omega) (by omega) (by rw [hbt]; omega) (by omega)
      rw [hs] at hmk
      have et : ((xs.length : Int) + (ys.length : Int)).toNat = xs.length + ys.length := by omega
      rw [et, Nat.mul_one] at hmk
      clear hi hz hs hbt ti ha hb
      have HC := hide hcell
      have MM := hide mm
      have MN := hide mn
      clear mm mn
      have HC' := hide hcell'
      clear hcell hcell' et
      go_enter Tryz.func54, Tryz.ntmps54
      go_wp2
      go_loopw [6] (fun i wr => ∃ (k : Nat) (rs : List Nat), k ≤ xs.length ∧ i = .int .i64 k ∧ Hid (MulOut xs ys rs k ∧ But [] w wr ∧ Row .u32 wr w.heap.size rs ∧ w.heap.size < wr.heap.size)) (fun i _ => xs.length - (intOf i).toNat)
      case atStart => exact ⟨0, List.replicate (xs.length + ys.length) 0, Nat.zero_le _, rfl, MulOut.start xs ys, (But.refl _ _).alloc _, Row.made _ _ _ _, by simp⟩
      case round =>
        obtain ⟨k, rs, hk, rfl, HI⟩ := hrel
        rename World => wr
        by_cases hlt : k < xs.length
        · have cx := (unhide HI).2.1.cell_some (unhide HC k hlt) (by simp)
          have hxB : xs[k]?.getD 0 < 4294967296 := mem_getD (unhide MM) (by omega) k
          have II : Hid (MulIn xs ys rs k 0 0 ∧ But [] w wr ∧ Row .u32 wr w.heap.size rs ∧ w.heap.size < wr.heap.size) := ⟨MulIn.start (unhide HI).1, (unhide HI).2⟩
          go_wp2
          go_loopw [7, 8] (fun c j wq => ∃ (q cN : Nat) (rq : List Nat), q ≤ ys.length ∧ j = .int .i64 q ∧ c = .int .u64 cN ∧ cN < 4294967296 ∧ Hid (MulIn xs ys rq k q cN ∧ But [] w wq ∧ Row .u32 wq w.heap.size rq ∧ w.heap.size < wq.heap.size)) (fun _ j _ => ys.length - (intOf j).toNat)
          case atStart => exact ⟨0, 0, rs, Nat.zero_le _, rfl, rfl, by omega, II⟩
          case round =>
            clear cx II HI
            obtain ⟨q, cN, rq, hq, rfl, rfl, hcN, HJ⟩ := hrel
            rename World => wq
            by_cases hlt' : q < ys.length
            · have hrl : k + q < rq.length := by have := (unhide HJ).1.len; omega
              have cx := (unhide HJ).2.1.cell_some (unhide HC k hlt) (by simp)
              have cy := (unhide HJ).2.1.cell_some (unhide HC' q hlt') (by simp)
              have hyB : ys[q]?.getD 0 < 4294967296 := mem_getD (unhide MN) (by omega) q
              have hrB : rq[k + q]?.getD 0 < 4294967296 := mem_getD (unhide HJ).1.mem (by omega) _
              have cr := ((unhide HJ).2.2.1 (k + q) hrl).1
              have fr := ((unhide HJ).2.2.1 (k + q) hrl).2
              have ST := hide ((unhide HJ).1.step hxB hlt' hlt hyB _ rfl)
              have h1 : xs[k]?.getD 0 * ys[q]?.getD 0 ≤ 4294967295 * 4294967295 := Nat.mul_le_mul (by omega) (by omega)
              generalize xs[k]?.getD 0 = x at *
              generalize ys[q]?.getD 0 = y at *
              generalize rq[k + q]?.getD 0 = r at *
              go_wp2
              go_quiet (fail)
              go_wp2
              have hS := unhide ST
              have hR := (unhide HJ).2.2.1
              have e1 : ((cN : Int) + ((x : Int) * (y : Int) + (r : Int))) = ((cN + (x * y + r) : Nat) : Int) := by simp
              rw [e1]
              generalize cN + (x * y + r) = t at *
              have e2 : (t : Int) % 4294967296 = ((t % 4294967296 : Nat) : Int) := by omega
              have e3 : (t : Int) / 4294967296 = ((t / 4294967296 : Nat) : Int) := by omega
              rw [e2, e3]
              refine ⟨⟨q + 1, t / 4294967296, rq.set (k + q) (t % 4294967296), by omega, by go_num, rfl, hS.2.carry, hS.2, ((unhide HJ).2.1.drewN nq).setCell (by simp) _, Row.set (w := wq.drewN nq) hR _ hrl _, by rw [World.size_setCell]; exact (unhide HJ).2.2.2⟩, ?_⟩
              simp [intOf]; omega
            · have hqe : q = ys.length := by omega
              subst hqe
              have hrl : k + ys.length < rq.length := by have := (unhide HJ).1.len; omega
              obtain ⟨cr, fr⟩ := (unhide HJ).2.2.1 (k + ys.length) hrl
              go_wp2
              refine ⟨⟨k + 1, rq.set (k + ys.length) cN, by omega, by go_num, (unhide HJ).1.fin hlt, (unhide HJ).2.1.setCell (by simp) _, (unhide HJ).2.2.1.set _ hrl _, by rw [World.size_setCell]; exact (unhide HJ).2.2.2⟩, ?_⟩
              simp [intOf]; omega
        · go_wp2_with fail
          have hke : k = xs.length := by omega
          subst hke
          have hO := (unhide HI).1
          have hS := (unhide HI).2.2.1.sl (xs.length + ys.length) (by rw [hO.len]; exact Nat.le_refl _)
          rw [hO.len] at hS
          refine (trim_any _ rs _ hS hO.mem (by rw [hO.len]; omega)).mono ?_
          rintro e w' ⟨v', rfl, hs, rfl⟩
          go_wp2
          go_ret
          rw [hO.fin] at hs
          exact ⟨v', rfl, hs, (unhide HI).2.1⟩
end Go.Proofs.YtpipnnldiambiaaGreatDoor
