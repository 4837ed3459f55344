/- The library's iterator over a list from its end (slices.Backward), over a law's chances: for every loop body that keeps what lay below a bound, but for some places. -/
import Derived.RangeFuncNested
import Derived.RangeFuncBound
import Derived.RangeFuncCalls
import Derived.RangeFuncLeaves
import Derived.Shelf.Abstract
import Derived.Shelf.RegionOpen
import Derived.WalkKit
import Derived.OwnWalkIn
import Derived.TacticsInMore
import Derived.LoopNIn
import Derived.LoopIn
import Derived.Test.YtikgmhpbdcdogaaGreatDoorProg
import Derived.Test.YtikgmhpbdcdogaaGreatDoorZF8
namespace Go.Proofs.YtikgmhpbdcdogaaGreatDoor
open Go.RowKit Go.Shelf
attribute [local go_sem] Oper.semAt_some

/-- the places of a list from its end down to k -/
def downsL (len k : Nat) : List (Fin len):=((List.finRange len).drop k).reverse
theorem downs_endL (len : Nat) : downsL len len = []:=by unfold downsL; rw [List.drop_eq_nil_of_le (by simp)]; rfl
theorem downs_nextL (len k : Nat) (h : k < len) : downsL len k = downsL len (k + 1) ++ [⟨k,h⟩]:=by
 unfold downsL
 rw [List.drop_eq_getElem_cons (by simpa using h),List.reverse_cons]
 simp
theorem downs_lengthL (len k : Nat) : (downsL len k).length = len - k:=by unfold downsL; simp

/-- all blocks below a bound, but some, stay as they are -/
def KeptS (n₀ : Nat) (gs : List Nat) (A B : World) : Prop:=∀ k,k < n₀→k ∉ gs→B.heap[k]? = A.heap[k]?
theorem KeptS.refl (n₀ : Nat) (gs : List Nat) (A : World) : KeptS n₀ gs A A:=fun _ _ _ => rfl
theorem KeptS.trans {n₀ : Nat} {gs : List Nat} {A B C : World} (h : KeptS n₀ gs A B) (k : KeptS n₀ gs B C) : KeptS n₀ gs A C:=fun i h1 h2 => (k i h1 h2).trans (h i h1 h2)
theorem KeptS.cell {n₀ : Nat} {gs : List Nat} {A B : World} (h : KeptS n₀ gs A B) {p : Addr} (hp : p.block < n₀) (hn : p.block ∉ gs) : B.cell? p = A.cell? p:=World.cell?_of_block (w:=A) (h p.block hp hn)
theorem KeptS.put {n₀ : Nat} {gs : List Nat} (W : World) (l : Nat) (o : Obj) (hl : n₀ ≤ l) : KeptS n₀ gs W (W.putObj l o):=fun k hk _ => World.putObj_heap_other (by omega)

set_option maxRecDepth 100000 in
set_option maxHeartbeats 4000000 in
theorem back1_inL (F : Fence) (n : Nat) (hf : F.fn 100) (hro : F.round = none) (hn : 1 ≤ n) (l Bs n₀ : Nat) (gs : List Nat) (b off len cap : Nat) (S : Nat→Bool) (X Y : Nat→Int) (Q : Nat→Option Addr) (hreach : len ≤ 1000000) (hb : b < n₀) (hbg : b ∉ gs) (J Jx : List (Fin len)→World→Prop)
  (hY : ∀ pre (x : Fin len) W,J pre W→pre.length < len→YieldAt F (n - 1) Tryz.prog l #[.int .i64 ((x.1 : Nat) : Int),.agg #[.bool (S x.1),.int .u64 (X x.1),.int .u64 (Y x.1),.pointer (Q x.1)]] W fun e W' =>
   (e = .returned (.bool true)∧J (pre ++ [x]) W'∧KeptS n₀ gs W W') ∨ (e = .returned (.bool false)∧Jx (pre ++ [x]) W'))
  (W : World) (hBs : W.cell? ⟨Bs,0,none⟩ = some (.slice (some ⟨b,off,none⟩) len cap)) (hBn : Bs < n₀) (hBg : Bs ∉ gs)
  (hc : ∀ j,j < len→W.cell? ⟨b,off + j * 4,none⟩ = some (.bool (S j))∧W.cell? ⟨b,off + j * 4 + 1,none⟩ = some (.int .u64 (X j))∧W.cell? ⟨b,off + j * 4 + 2,none⟩ = some (.int .u64 (Y j))∧W.cell? ⟨b,off + j * 4 + 3,none⟩ = some (.pointer (Q j))) (h0 : J [] W) :
  CallsIn F n Tryz.prog 100 #[.func (.yield l) #[] #[],.pointer (some ⟨Bs,0,none⟩)] W fun e W' => (∃ v,e = .returned v) ∧
   ((∃ ys,ys = downsL len 0∧J ys W') ∨ (∃ pre,True∧Jx pre W')):=by
 refine callsIn_of_wp Tryz.func100 rfl hf ?_ hro
 simp only [Tryz.ntmps100,List.size_toArray,List.length_cons,List.length_nil,Nat.reduceAdd,Nat.reduceSub,Array.replicate_succ,Array.replicate_zero,List.push_toArray,List.append_toArray,List.nil_append,List.cons_append]
 gi_wp2
 gi_loopw [3] (fun i wr => ∃ k : Nat,k ≤ len∧i = .int .i64 ((k : Int) - 1)∧J (downsL len k) wr∧KeptS n₀ gs W wr) (fun i _ => (intOf i + 1).toNat)
 case atStart => exact ⟨len,Nat.le_refl _,rfl,by rw [downs_endL]; exact h0,KeptS.refl _ _ _⟩
 case round =>
  obtain ⟨k,hk,rfl,hJs,hnx⟩:=hrel
  by_cases hlt : k = 0
  ·subst hlt
   gi_wp2
   go_end0
   exact ⟨⟨_,rfl⟩,.inl ⟨_,rfl,hJs⟩⟩
  ·obtain ⟨j,rfl⟩ : ∃ j,k = j + 1:=⟨k - 1,by omega⟩
   rw [show (((j + 1 : Nat) : Int) - 1) = (j : Int) from by omega]
   obtain ⟨fn,tmps,assign,body,hy,hR⟩:=hY _ ⟨j,by omega⟩ wr hJs (by rw [downs_lengthL]; omega)
   dsimp only at hy
   obtain ⟨c0,c1,c2,c3⟩:=hc j (by omega)
   have c0':=(hnx.cell (p:=⟨b,off + j * 4,none⟩) hb hbg).trans c0
   have c1':=(hnx.cell (p:=⟨b,off + j * 4 + 1,none⟩) hb hbg).trans c1
   have c2':=(hnx.cell (p:=⟨b,off + j * 4 + 2,none⟩) hb hbg).trans c2
   have c3':=(hnx.cell (p:=⟨b,off + j * 4 + 3,none⟩) hb hbg).trans c3
   have hBs':=(hnx.cell (p:=⟨Bs,0,none⟩) hBn hBg).trans hBs
   clear hc c0 c1 c2 c3
   gi_wp2
   refine hR.mono ?_
   rintro e W3 (⟨rfl,hJ3,hk3⟩ | ⟨rfl,hJx3⟩)
   ·gi_wp2
    go_roundw
    case rel => exact ⟨j,by omega,by simp,by rw [downs_nextL len j (by omega)]; exact hJ3,hnx.trans hk3⟩
    case measure => simp [intOf]
   ·gi_wp2
    refine bodyPost_ret (results_none rfl _ _ _) rfl ?_
    exact ⟨⟨_,rfl⟩,.inr ⟨_,trivial,hJx3⟩⟩

theorem back_stopsL (F : Fence) (n : Nat) (hf : F.fn 100) (hro : F.round = none) (hn : 1 ≤ n) (Bs n₀ : Nat) (gs : List Nat) (b off len cap : Nat) (S : Nat→Bool) (X Y : Nat→Int) (Q : Nat→Option Addr) (hreach : len ≤ 1000000) (w : World) (hb : b < n₀) (hbg : b ∉ gs) (hn₀ : n₀ ≤ w.heap.size)
  (hBs : w.cell? ⟨Bs,0,none⟩ = some (.slice (some ⟨b,off,none⟩) len cap)) (hBn : Bs < n₀) (hBg : Bs ∉ gs)
  (hc : ∀ j,j < len→w.cell? ⟨b,off + j * 4,none⟩ = some (.bool (S j))∧w.cell? ⟨b,off + j * 4 + 1,none⟩ = some (.int .u64 (X j))∧w.cell? ⟨b,off + j * 4 + 2,none⟩ = some (.int .u64 (Y j))∧w.cell? ⟨b,off + j * 4 + 3,none⟩ = some (.pointer (Q j))) :
  SeqStopsK F n Tryz.prog 100 #[.pointer (some ⟨Bs,0,none⟩)] (fun x : Fin len => #[.int .i64 ((x.1 : Nat) : Int),.agg #[.bool (S x.1),.int .u64 (X x.1),.int .u64 (Y x.1),.pointer (Q x.1)]]) (KeptS n₀ gs) (fun ys => ys = downsL len 0) (fun _ => True) len w:=fun l J Jx W hW _ _ hY h0 =>
 back1_inL F n hf hro hn l Bs n₀ gs b off len cap S X Y Q hreach hb hbg J Jx hY W ((hW.cell (p:=⟨Bs,0,none⟩) (by show Bs < _; omega)).trans hBs) hBn hBg (fun j hj => by
  obtain ⟨c0,c1,c2,c3⟩:=hc j hj
  have hbl : b < w.heap.size:=by omega
  exact ⟨(hW.cell (p:=⟨b,off + j * 4,none⟩) hbl).trans c0,(hW.cell (p:=⟨b,off + j * 4 + 1,none⟩) hbl).trans c1,(hW.cell (p:=⟨b,off + j * 4 + 2,none⟩) hbl).trans c2,(hW.cell (p:=⟨b,off + j * 4 + 3,none⟩) hbl).trans c3⟩) h0

set_option maxHeartbeats 1000000 in
theorem back_inL (F : Fence) (n : Nat) (hf : F.fn 58) (hro : F.round = none) (a : Option Addr) (len cap : Nat) (w : World) :
  CallsIn F n Tryz.prog 58 #[.slice a len cap] w fun e w' => e = .returned (.func (.func 100) #[] #[.pointer (some ⟨w.heap.size,0,none⟩)])∧w' = w.alloc (.cells #[.slice a len cap] 38):=by
 refine callsIn_of_wp Tryz.func58 rfl hf ?_ hro
 simp only [Tryz.ntmps58,List.size_toArray,List.length_cons,List.length_nil,Nat.reduceAdd,Nat.reduceSub,Array.replicate_succ,Array.replicate_zero,List.push_toArray,List.append_toArray,List.nil_append,List.cons_append]
 gi_wp2
 go_ret
 exact ⟨rfl,rfl⟩
end Go.Proofs.YtikgmhpbdcdogaaGreatDoor

namespace Go.Proofs.YtikgmhpbdcdogaaGreatDoor
open Go.RowKit

set_option maxHeartbeats 2000000 in
theorem pick_gen (a n : Int) (h1 : -9223372036854775808 ≤ a) (h2 : a < 9223372036854775808) (hn : 0 < n) (hn2 : n < 9223372036854775808) (w : World) :
  Calls Tryz.prog 6 #[.int .i64 a,.int .i64 n] w fun e w' => e = .returned (.int .i64 ((((if a < 0 then a + 18446744073709551616 else a) % n).toNat : Nat) : Int))∧But [] w w':=by
 obtain ⟨u,hu⟩ : ∃ u : Int,u = if a < 0 then a + 18446744073709551616 else a:=⟨_,rfl⟩
 have u1 : 0 ≤ u∧u < 18446744073709551616:=by rw [hu]; split <;> omega
 have e1 : IntKind.u64.wrap a = u:=by rw [IntKind.wrap_u64,hu]; split <;> omega
 rw [← hu]
 have e2:=Int.emod_nonneg u (show n ≠ 0 by omega)
 have e3:=Int.emod_lt_of_pos u hn
 clear hu
 have e5 : u.tmod n = u % n:=Int.tmod_eq_emod_of_nonneg u1.1
 obtain ⟨m,hm⟩ : ∃ m,m = u % n:=⟨_,rfl⟩
 rw [← hm] at e2 e3 e5 ⊢
 have e4 : ((m.toNat : Nat) : Int) = m:=by omega
 rw [e4]
 have e6 : IntKind.i64.wrap m = m:=by rw [IntKind.wrap_i64]; omega
 have e7 : IntKind.u64.wrap n = n:=by rw [IntKind.wrap_u64]; omega
 have e8 : IntKind.u64.wrap m = m:=by rw [IntKind.wrap_u64]; omega
 have n0 : (n == 0) = false:=beq_eq_false_iff_ne.2 (by omega)
 have n1 : n ≠ 0:=by omega
 clear e4 hm
 go_enter Tryz.func6,Tryz.ntmps6
 go_wp2
 go_ret
 exact ⟨rfl,But.refl _ _⟩
end Go.Proofs.YtikgmhpbdcdogaaGreatDoor
