/- The library's iterator over a list from its end (slices.Backward), over fractions: for every loop body that keeps what lay below a bound. -/
import Derived.RangeFuncNested
import Derived.RangeFuncBound
import Derived.RangeFuncCalls
import Derived.RangeFuncLeaves
import Derived.Shelf.Abstract
import Derived.Shelf.RegionOpen
import Derived.WalkKit
import Derived.OwnWalkIn
import Derived.TacticsInMore
import Derived.LoopNIn
import Derived.LoopIn
import Derived.Test.YtnfnphbihgchhaaGreatDoorProg
namespace Go.Proofs.YtnfnphbihgchhaaGreatDoor
open Go.RowKit Go.Shelf
attribute [local go_sem] Oper.semAt_some

/-- the places of a list from its end down to k -/
def downs (len k : Nat) : List (Fin len) := ((List.finRange len).drop k).reverse
theorem downs_end (len : Nat) : downs len len = [] := by unfold downs; rw [List.drop_eq_nil_of_le (by simp)]; rfl
theorem downs_next (len k : Nat) (h : k < len) : downs len k = downs len (k + 1) ++ [⟨k, h⟩] := by
  unfold downs
  rw [List.drop_eq_getElem_cons (by simpa using h), List.reverse_cons]
  simp
theorem downs_length (len k : Nat) : (downs len k).length = len - k := by unfold downs; simp

/-- all blocks below a bound, but one, stay as they are -/
def Kept (n₀ g : Nat) (A B : World) : Prop := ∀ k, k < n₀ → k ≠ g → B.heap[k]? = A.heap[k]?
theorem Kept.refl (n₀ g : Nat) (A : World) : Kept n₀ g A A := fun _ _ _ => rfl
theorem Kept.trans {n₀ g : Nat} {A B C : World} (h : Kept n₀ g A B) (k : Kept n₀ g B C) : Kept n₀ g A C := fun i h1 h2 => (k i h1 h2).trans (h i h1 h2)
theorem Kept.cell {n₀ g : Nat} {A B : World} (h : Kept n₀ g A B) {p : Addr} (hp : p.block < n₀) (hn : p.block ≠ g) : B.cell? p = A.cell? p := World.cell?_of_block (w := A) (h p.block hp hn)
theorem Kept.put {n₀ g : Nat} (W : World) (l : Nat) (o : Obj) (hl : n₀ ≤ l) : Kept n₀ g W (W.putObj l o) := fun k hk _ => World.putObj_heap_other (by omega)

set_option maxRecDepth 100000 in
set_option maxHeartbeats 4000000 in
theorem back1_in (F : Fence) (n : Nat) (hf : F.fn 59) (hro : F.round = none) (hn : 1 ≤ n) (l Bs n₀ g b off len cap : Nat) (S : Nat → Bool) (X Y : Nat → Int) (Q : Nat → Option Addr) (hreach : len ≤ 1000000) (hb : b < n₀) (hbg : b ≠ g) (J Jx : List (Fin len) → World → Prop)
    (hY : ∀ pre (x : Fin len) W, J pre W → pre.length < len → YieldAt F (n - 1) Tryz.prog l #[.int .i64 ((x.1 : Nat) : Int), .agg #[.bool (S x.1), .int .u64 (X x.1), .int .u64 (Y x.1), .pointer (Q x.1)]] W fun e W' =>
      (e = .returned (.bool true) ∧ J (pre ++ [x]) W' ∧ Kept n₀ g W W') ∨ (e = .returned (.bool false) ∧ Jx (pre ++ [x]) W'))
    (W : World) (hBs : W.cell? ⟨Bs, 0, none⟩ = some (.slice (some ⟨b, off, none⟩) len cap)) (hBn : Bs < n₀) (hBg : Bs ≠ g)
    (hc : ∀ j, j < len → W.cell? ⟨b, off + j * 4, none⟩ = some (.bool (S j)) ∧ W.cell? ⟨b, off + j * 4 + 1, none⟩ = some (.int .u64 (X j)) ∧ W.cell? ⟨b, off + j * 4 + 2, none⟩ = some (.int .u64 (Y j)) ∧ W.cell? ⟨b, off + j * 4 + 3, none⟩ = some (.pointer (Q j))) (h0 : J [] W) :
    CallsIn F n Tryz.prog 59 #[.func (.yield l) #[] #[], .pointer (some ⟨Bs, 0, none⟩)] W fun e W' => (∃ v, e = .returned v) ∧
      ((∃ ys, ys = downs len 0 ∧ J ys W') ∨ (∃ pre, True ∧ Jx pre W')) := by
  refine callsIn_of_wp Tryz.func59 rfl hf ?_ hro
  simp only [Tryz.ntmps59, List.size_toArray, List.length_cons, List.length_nil, Nat.reduceAdd, Nat.reduceSub, Array.replicate_succ, Array.replicate_zero, List.push_toArray, List.append_toArray, List.nil_append, List.cons_append]
  gi_wp2
  gi_loopw [3] (fun i wr => ∃ k : Nat, k ≤ len ∧ i = .int .i64 ((k : Int) - 1) ∧ J (downs len k) wr ∧ Kept n₀ g W wr) (fun i _ => (intOf i + 1).toNat)
  case atStart => exact ⟨len, Nat.le_refl _, rfl, by rw [downs_end]; exact h0, Kept.refl _ _ _⟩
  case round =>
    obtain ⟨k, hk, rfl, hJs, hnx⟩ := hrel
    by_cases hlt : k = 0
    · subst hlt
      gi_wp2
      go_end0
      exact ⟨⟨_, rfl⟩, .inl ⟨_, rfl, hJs⟩⟩
    · obtain ⟨j, rfl⟩ : ∃ j, k = j + 1 := ⟨k - 1, by omega⟩
      rw [show (((j + 1 : Nat) : Int) - 1) = (j : Int) from by omega]
      obtain ⟨fn, tmps, assign, body, hy, hR⟩ := hY _ ⟨j, by omega⟩ wr hJs (by rw [downs_length]; omega)
      dsimp only at hy
      obtain ⟨c0, c1, c2, c3⟩ := hc j (by omega)
      have c0' := (hnx.cell (p := ⟨b, off + j * 4, none⟩) hb hbg).trans c0
      have c1' := (hnx.cell (p := ⟨b, off + j * 4 + 1, none⟩) hb hbg).trans c1
      have c2' := (hnx.cell (p := ⟨b, off + j * 4 + 2, none⟩) hb hbg).trans c2
      have c3' := (hnx.cell (p := ⟨b, off + j * 4 + 3, none⟩) hb hbg).trans c3
      have hBs' := (hnx.cell (p := ⟨Bs, 0, none⟩) hBn hBg).trans hBs
      clear hc c0 c1 c2 c3
      gi_wp2
      refine hR.mono ?_
      rintro e W3 (⟨rfl, hJ3, hk3⟩ | ⟨rfl, hJx3⟩)
      · gi_wp2
        go_roundw
        case rel => exact ⟨j, by omega, by simp, by rw [downs_next len j (by omega)]; exact hJ3, hnx.trans hk3⟩
        case measure => simp [intOf]
      · gi_wp2
        refine bodyPost_ret (results_none rfl _ _ _) rfl ?_
        exact ⟨⟨_, rfl⟩, .inr ⟨_, trivial, hJx3⟩⟩

theorem back_stops (F : Fence) (n : Nat) (hf : F.fn 59) (hro : F.round = none) (hn : 1 ≤ n) (Bs n₀ g b off len cap : Nat) (S : Nat → Bool) (X Y : Nat → Int) (Q : Nat → Option Addr) (hreach : len ≤ 1000000) (w : World) (hb : b < n₀) (hbg : b ≠ g) (hn₀ : n₀ ≤ w.heap.size)
    (hBs : w.cell? ⟨Bs, 0, none⟩ = some (.slice (some ⟨b, off, none⟩) len cap)) (hBn : Bs < n₀) (hBg : Bs ≠ g)
    (hc : ∀ j, j < len → w.cell? ⟨b, off + j * 4, none⟩ = some (.bool (S j)) ∧ w.cell? ⟨b, off + j * 4 + 1, none⟩ = some (.int .u64 (X j)) ∧ w.cell? ⟨b, off + j * 4 + 2, none⟩ = some (.int .u64 (Y j)) ∧ w.cell? ⟨b, off + j * 4 + 3, none⟩ = some (.pointer (Q j))) :
    SeqStopsK F n Tryz.prog 59 #[.pointer (some ⟨Bs, 0, none⟩)] (fun x : Fin len => #[.int .i64 ((x.1 : Nat) : Int), .agg #[.bool (S x.1), .int .u64 (X x.1), .int .u64 (Y x.1), .pointer (Q x.1)]]) (Kept n₀ g) (fun ys => ys = downs len 0) (fun _ => True) len w := fun l J Jx W hW _ _ hY h0 =>
  back1_in F n hf hro hn l Bs n₀ g b off len cap S X Y Q hreach hb hbg J Jx hY W ((hW.cell (p := ⟨Bs, 0, none⟩) (by show Bs < _; omega)).trans hBs) hBn hBg (fun j hj => by
    obtain ⟨c0, c1, c2, c3⟩ := hc j hj
    have hbl : b < w.heap.size := by omega
    exact ⟨(hW.cell (p := ⟨b, off + j * 4, none⟩) hbl).trans c0, (hW.cell (p := ⟨b, off + j * 4 + 1, none⟩) hbl).trans c1, (hW.cell (p := ⟨b, off + j * 4 + 2, none⟩) hbl).trans c2, (hW.cell (p := ⟨b, off + j * 4 + 3, none⟩) hbl).trans c3⟩) h0

set_option maxHeartbeats 1000000 in
theorem back_in (F : Fence) (n : Nat) (hf : F.fn 33) (hro : F.round = none) (a : Option Addr) (len cap : Nat) (w : World) :
    CallsIn F n Tryz.prog 33 #[.slice a len cap] w fun e w' => e = .returned (.func (.func 59) #[] #[.pointer (some ⟨w.heap.size, 0, none⟩)]) ∧ w' = w.alloc (.cells #[.slice a len cap] 35) := by
  refine callsIn_of_wp Tryz.func33 rfl hf ?_ hro
  simp only [Tryz.ntmps33, List.size_toArray, List.length_cons, List.length_nil, Nat.reduceAdd, Nat.reduceSub, Array.replicate_succ, Array.replicate_zero, List.push_toArray, List.append_toArray, List.nil_append, List.cons_append]
  gi_wp2
  go_ret
  exact ⟨rfl, rfl⟩
end Go.Proofs.YtnfnphbihgchhaaGreatDoor
