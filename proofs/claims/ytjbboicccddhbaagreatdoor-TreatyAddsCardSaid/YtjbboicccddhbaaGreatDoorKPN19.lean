/- A row is cloned; numbers are lessened; the greatest common divisor of two numbers, as the Go text of package nat does it. -/
import Derived.Laws.Append
import Derived.OwnWalk
import Derived.WalkSpells
import Derived.Test.YtjbboicccddhbaaGreatDoorProg
import Derived.Deep.LoopGhost
import Derived.Lib.ItoaNum
import Derived.Laws.IdiomStrings
import Derived.Shelf.Strconv.Itoa1
import Derived.Shelf.LaysM
import Derived.Shelf.Strconv.Itoa2
import Derived.Shelf.Small.Bits
import Derived.Laws.Bits64b
import Derived.Deep.RegionHeld
import Derived.Lib.ItoaMem
import Derived.Lib.AppendIntMem
import Derived.Test.YtjbboicccddhbaaGreatDoorKPN18
namespace Go.Proofs.YtjbboicccddhbaaGreatDoor
open Go.RowKit

/-- the built-in append, by its run -/
theorem wpList_app {P : Program} {w : World} {ops : Array Oper} {rest : List Oper} {o : Oper} {a : Act} {Q : Exit→Act→World→Prop} (hgd : o.guard = none) (s x : Operand) (t u : TypeId)
  (ho : o.op = .call { callee:=.builtin .append,args:=#[s,x],argTypes:=#[t,u] }) (vs vx v' : Value) (w' : World) (hs : a.eval s = vs) (hx : a.eval x = vx)
  (hr : (Builtin.append_ #[t,u] o.type #[vs,vx]).run P w = .ok v' w') (h : wpList P ops Q rest (a.put o.dst v') w') : wpList P ops Q (o :: rest) a w :=
 wpList_plain hgd fun _ hK => by
  unfold Oper.wp execOp
  simp only [ho,resolve,invoke,builtin,Sem.run_bind,Sem.run_pure,Result.andThen_ok,List.map_toArray,List.map_cons,List.map_nil,hs,hx,hr]
  exact hK _ _ h

set_option maxHeartbeats 1000000 in
set_option maxRecDepth 100000 in
theorem clone_any (b off c : Nat) (xs : List Nat) (w : World) (hv : Sl .u64 w (.slice (some ⟨b,off,none⟩) xs.length c) xs) (h0 : 0 < xs.length) (hl : xs.length < 1073741824) :
  Calls Tryz.prog 107 #[.slice (some ⟨b,off,none⟩) xs.length c] w fun e w' => ∃ v',e = .returned v'∧Sl .u64 w' v' xs∧But [] w w'∧Own w.heap.size w' v'∧(∃ g c',v' = .slice (some ⟨g,0,none⟩) xs.length c'):=by
 have hnil:=fun W => Lib.run_eql_slice_nil (P:=Tryz.prog) W 96 24 (some ⟨b,off,none⟩) xs.length c 0 0 Tryz.underlying96
 obtain ⟨i,hi,hz,hs,hbt⟩:=info_u64
 obtain ⟨W0,hW0⟩ : ∃ W0,W0 = w.alloc (.cells #[] 24):=⟨_,rfl⟩
 have hb0 : But [] w W0:=by rw [hW0]; exact (But.refl _ _).alloc _
 have hv0:=hv.but_nil hb0
 rcases hv0.open with ⟨e,-⟩ | ⟨-,b',off',c',e,hc,-,hcell⟩
 ·rw [e] at h0; simp at h0
 simp only [Value.slice.injEq,Option.some.injEq,Addr.mk.injEq] at e
 obtain ⟨⟨rfl,rfl,-⟩,-,rfl⟩:=e
 have hr:=fun ty => run_append_grow (P:=Tryz.prog) W0 96 ty 24 i (.int .u64 0) Tryz.underlying96 hi hz ⟨w.heap.size,0,none⟩ 0 0 [] (by simp) (by simp) ⟨b,off,none⟩ xs.length c (xs.map fun (x : Nat) => Value.int .u64 (x : Int)) (by simp [hs]) (fun j v hj => by
  obtain ⟨h1,rfl⟩:=getD_map_u64 xs j v hj
  rw [addr_add]; exact hcell j h1) (by omega) (by omega) (growslice_fits (by omega) (by rw [hbt]; omega))
 have hcg:=grownCap_ge W0 (0 + xs.length) 0 24
 rw [Nat.zero_add] at hr hcg
 generalize grownCap W0 xs.length 0 24 = cg at hr hcg
 have hsz : W0.heap.size = w.heap.size + 1:=by rw [hW0]; simp
 rw [hW0] at hr
 have H:=hide hr
 have HW0:=hide hW0
 have HB0:=hide hb0
 have HSZ:=hide hsz
 clear hr hi hz hs hbt i hv hcell hv0 hW0 hb0 hsz
 go_enter Tryz.func107,Tryz.ntmps107
 go_wp2_with (at_builtin; refine wpList_app rfl _ _ 96 96 rfl _ _ _ _ rfl rfl (unhide H _) ?_)
 go_ret
 rw [← unhide HW0]
 have es : w.heap.size + 1 = W0.heap.size:=(unhide HSZ).symm
 refine ⟨.slice (some ⟨w.heap.size + 1,0,none⟩) xs.length cg,rfl,?_,((unhide HB0).alloc _).drew,?_,⟨_,_,rfl⟩⟩
 ·rw [es]
  exact Sl.mk W0.heap.size 0 cg hcg (fun j hj => by
   rw [Nat.zero_add,World.cell?_drew,World.cell?_alloc_new,Array.getElem?_append_left (by simp; exact hj)]
   simp [hj]) (fun _ i v hv => by
   rw [World.cell?_drew,World.cell?_alloc_new] at hv
   have hm:=Array.mem_of_getElem? hv
   rw [Array.mem_append] at hm
   rcases hm with hm | hm
   ·simp only [List.mem_toArray,List.mem_map] at hm
    obtain ⟨x,-,rfl⟩:=hm
    exact ⟨_,rfl⟩
   ·unfold Builtin.zeroCells at hm
    exact ⟨0,by simp at hm; grind⟩)
 ·intro b off n c e
  simp only [Value.slice.injEq,Option.some.injEq,Addr.mk.injEq] at e
  obtain ⟨⟨rfl,rfl,-⟩,-,-⟩:=e
  refine ⟨by omega,fun i _ => ?_⟩
  rw [es]
  simp

/-- two rows that don't share a block -/
def Apart (v1 v2 : Value) : Prop:=∀ b off n c b' off' n' c',v1 = .slice (some ⟨b,off,none⟩) n c→v2 = .slice (some ⟨b',off',none⟩) n' c'→b ≠ b'
/-- the two numbers of a round: in rows of the call's own, apart from each other -/
structure Pair (lo : Nat) (w : World) (v1 v2 : Value) (X Y : Nat) : Prop where
 s1 : Sl .u64 w v1 (wd 18446744073709551616 X)
 s2 : Sl .u64 w v2 (wd 18446744073709551616 Y)
 o1 : Own lo w v1
 o2 : Own lo w v2
 ap : Apart v1 v2
theorem Sl.seg {w : World} {g o c n : Nat} {xs : List Nat} (h : Sl .u64 w (.slice (some ⟨g,o,none⟩) n c) xs) (ho : ∀ i,i < n→w.frozen? ⟨g,o + i,none⟩ = false) : Seg w g o xs:=⟨fun i hi => by
 obtain ⟨a,cap,e,-,hc,-⟩:=h
 simp only [Value.slice.injEq] at e
 obtain ⟨rfl,rfl,-⟩:=e
 obtain ⟨b,off,e,h2⟩:=hc i hi
 simp only [Option.some.injEq,Addr.mk.injEq] at e
 obtain ⟨rfl,rfl,-⟩:=e
 exact ⟨h2,ho i hi⟩,fun h0 => by
 obtain ⟨a,cap,e,-,-,hi⟩:=h
 simp only [Value.slice.injEq] at e
 obtain ⟨rfl,-,-⟩:=e
 exact hi _ _ rfl h0⟩
theorem OwnIn.own {g lo : Nat} {w : World} {v : Value} (h : OwnIn g w v) (hg : lo ≤ g) : Own lo w v:=fun b off n c e => by
 obtain ⟨rfl,h2⟩:=h b off n c e
 exact ⟨hg,h2⟩
theorem Own.but {lo : Nat} {w w' : World} {v : Value} {k : IntKind} {xs : List Nat} (h : Own lo w v) (hs : Sl k w v xs) (hb : But [] w w') : Own lo w' v:=fun b off n c e => by
 obtain ⟨h1,h2⟩:=h b off n c e
 refine ⟨h1,fun i hi => ?_⟩
 obtain ⟨a,cap,e2,-,hc,-⟩:=hs
 rw [e] at e2
 simp only [Value.slice.injEq] at e2
 obtain ⟨rfl,rfl,-⟩:=e2
 obtain ⟨b',off',e3,h4⟩:=hc i hi
 simp only [Option.some.injEq,Addr.mk.injEq] at e3
 obtain ⟨rfl,rfl,-⟩:=e3
 exact (hb.frozen (p:=⟨b,off + i,none⟩) (lt_of_cell h4) (by simp)).trans (h2 i hi)
theorem Pair.but {lo : Nat} {w w' : World} {v1 v2 : Value} {X Y : Nat} (h : Pair lo w v1 v2 X Y) (hb : But [] w w') : Pair lo w' v1 v2 X Y :=
 ⟨h.s1.but_nil hb,h.s2.but_nil hb,h.o1.but h.s1 hb,h.o2.but h.s2 hb,h.ap⟩
end Go.Proofs.YtjbboicccddhbaaGreatDoor

namespace Go.Proofs.YtjbboicccddhbaaGreatDoor
open Go.RowKit

theorem But.grown {a w w' : World} {row : Option Nat} (h : But [] a w) (hg : w.grownBy w' row) (hr : ∀ k,row = some k→a.heap.size ≤ k) : But [] a w' :=
 ⟨hg.os.trans h.os,hg.tape.trans h.tape,hg.output.trans h.output,Nat.le_trans h.size hg.size,fun k hk hn => by
  rw [hg.block k (Nat.lt_of_lt_of_le hk h.size) (fun e => by have:=hr k e.symm; omega)]
  exact h.block k hk hn⟩
/-- the decimal digits' bytes, the last first; none for 0 -/
def rdig (n : Nat) : List UInt8:=if h : 0 < n then UInt8.ofNat (48 + n % 10) :: rdig (n / 10) else []
 termination_by n
 decreasing_by exact Nat.div_lt_self h (by omega)
theorem rdig_zero : rdig 0 = []:=by rw [rdig]; simp
theorem rdig_pos {n : Nat} (h : 0 < n) : rdig n = UInt8.ofNat (48 + n % 10) :: rdig (n / 10):=by rw [rdig,dif_pos h]
theorem rdig_rev (n : Nat) (h : 0 < n) : (rdig n).reverse = Lib.decDigits n:=by
 induction n using Nat.strongRecOn with
 | _ n ih =>
  rw [rdig_pos h,List.reverse_cons,Lib.decDigits]
  by_cases h10 : n < 10
  ·rw [dif_pos h10,Nat.div_eq_of_lt h10,rdig_zero,Nat.mod_eq_of_lt h10]; rfl
  ·rw [dif_neg h10,ih (n / 10) (Nat.div_lt_self h (by omega)) (by omega)]
theorem rdig_length (n k : Nat) (h : n < 10 ^ k) : (rdig n).length ≤ k:=by
 induction k generalizing n with
 | zero =>
  have : n = 0:=by simp at h; omega
  subst this; simp [rdig_zero]
 | succ k ih =>
  by_cases hn : 0 < n
  ·rw [rdig_pos hn,List.length_cons]
   have:=ih (n / 10) (by rw [Nat.div_lt_iff_lt_mul (by omega)]; rw [Nat.pow_succ] at h; exact h)
   omega
  ·have : n = 0:=by omega
   subst this; simp [rdig_zero]
end Go.Proofs.YtjbboicccddhbaaGreatDoor

namespace Go.Proofs
open Go.Shelf
def Tryz.lays283_ren : Go.Shelf.Ren := ⟨fun | 283 => 185 | n => n, fun | 3 => 3 | 4 => 4 | 9 => 9 | n => n, fun | n => n⟩
theorem Tryz.lays283 : Go.Proofs.Lays.n283 Tryz.prog Tryz.lays283_ren := {
  mixed := by kernel_rfl
  f283 := Tryz.func185.trans (congrArg some (by kernel_rfl))
  t3 := Tryz.underlying3
  a3 := Tryz.isAgg3
  z3 := Tryz.sizeOf3
  v3 := Tryz.zeroValue3
  t4 := Tryz.underlying4
  a4 := Tryz.isAgg4
  z4 := Tryz.sizeOf4
  v4 := Tryz.zeroValue4
  t9 := Tryz.underlying9
  a9 := Tryz.isAgg9
  z9 := Tryz.sizeOf9
  v9 := Tryz.zeroValue9 }
open Go.Lib in
theorem Tryz.internal_strconv_small (i : Nat) (h : i < 100) (w : World) :
  Calls Tryz.prog 185 #[.int .i64 i] w fun e w' => e = .returned (.string ⟨(Lib.decDigits i).toArray⟩)∧w' = w:=Any.internal_strconv_small Tryz.lays283 i h w
def Tryz.laysM284_ren : Go.Shelf.Ren := ⟨fun | 129 => 147 | 284 => 186 | 317 => 207 | 318 => 208 | n => n, fun | 0 => 0 | 3 => 3 | 4 => 4 | 5 => 5 | 9 => 9 | 46 => 100 | 53 => 24 | 212 => 268 | n => n, fun | 17 => 4 | n => n⟩
theorem Tryz.laysM284 : Go.Proofs.LaysM.n284 Tryz.prog Tryz.laysM284_ren := {
  mixed := by kernel_rfl
  f129 := Tryz.func147.trans (congrArg some (by kernel_rfl))
  f284 := Tryz.func186.trans (congrArg some (by kernel_rfl))
  f317 := Tryz.func207.trans (congrArg some (by kernel_rfl))
  f318 := Tryz.func208.trans (congrArg some (by kernel_rfl))
  t0 := Tryz.underlying0
  a0 := Tryz.isAgg0
  z0 := Tryz.sizeOf0
  v0 := Tryz.zeroValue0
  t3 := Tryz.underlying3
  a3 := Tryz.isAgg3
  z3 := Tryz.sizeOf3
  v3 := Tryz.zeroValue3
  t4 := Tryz.underlying4
  a4 := Tryz.isAgg4
  z4 := Tryz.sizeOf4
  v4 := Tryz.zeroValue4
  t5 := Tryz.underlying5
  a5 := Tryz.isAgg5
  z5 := Tryz.sizeOf5
  v5 := Tryz.zeroValue5
  t9 := Tryz.underlying9
  a9 := Tryz.isAgg9
  z9 := Tryz.sizeOf9
  v9 := Tryz.zeroValue9
  t46 := Tryz.underlying100
  a46 := Tryz.isAgg100
  z46 := Tryz.sizeOf100
  v46 := Tryz.zeroValue100
  t53 := Tryz.underlying24
  a53 := Tryz.isAgg24
  z53 := Tryz.sizeOf24
  v53 := Tryz.zeroValue24
  t212 := Tryz.underlying268
  a212 := Tryz.isAgg268
  z212 := Tryz.sizeOf268
  v212 := Tryz.zeroValue268
  g17 := by kernel_rfl
  m17 := by kernel_rfl
  i0 := by kernel_rfl
  i3 := by kernel_rfl
  i4 := by kernel_rfl
  i5 := by kernel_rfl
  i9 := by kernel_rfl
  i46 := by kernel_rfl
  i53 := by kernel_rfl
  i212 := by kernel_rfl }
open Go.Lib in
theorem Tryz.internal_strconv_numDigits (u : Nat) (h1 : 1 ≤ u) (h2 : u < 18446744073709551616) (w : World) (htab : Lib.TabIs Tryz.prog w "internal/strconv.uint64pow10" .u64 Lib.pow10Tab) :
  Calls Tryz.prog 186 #[.int .u64 u] w fun e w' => e = .returned (.int .i64 (Lib.nDigits u))∧w' = w:=Any.internal_strconv_numDigits Tryz.laysM284 u h1 h2 w htab
def Tryz.lays285_ren : Go.Shelf.Ren := ⟨fun | 285 => 187 | n => n, fun | 0 => 0 | 3 => 3 | 4 => 4 | 5 => 5 | 9 => 9 | 37 => 123 | 51 => 198 | 53 => 24 | n => n, fun | n => n⟩
theorem Tryz.lays285 : Go.Proofs.Lays.n285 Tryz.prog Tryz.lays285_ren := {
  mixed := by kernel_rfl
  f285 := Tryz.func187.trans (congrArg some (by kernel_rfl))
  t0 := Tryz.underlying0
  a0 := Tryz.isAgg0
  z0 := Tryz.sizeOf0
  v0 := Tryz.zeroValue0
  t3 := Tryz.underlying3
  a3 := Tryz.isAgg3
  z3 := Tryz.sizeOf3
  v3 := Tryz.zeroValue3
  t4 := Tryz.underlying4
  a4 := Tryz.isAgg4
  z4 := Tryz.sizeOf4
  v4 := Tryz.zeroValue4
  t5 := Tryz.underlying5
  a5 := Tryz.isAgg5
  z5 := Tryz.sizeOf5
  v5 := Tryz.zeroValue5
  t9 := Tryz.underlying9
  a9 := Tryz.isAgg9
  z9 := Tryz.sizeOf9
  v9 := Tryz.zeroValue9
  t37 := Tryz.underlying123
  a37 := Tryz.isAgg123
  z37 := Tryz.sizeOf123
  v37 := Tryz.zeroValue123
  t51 := Tryz.underlying198
  a51 := Tryz.isAgg198
  z51 := Tryz.sizeOf198
  v51 := Tryz.zeroValue198
  t53 := Tryz.underlying24
  a53 := Tryz.isAgg24
  z53 := Tryz.sizeOf24
  v53 := Tryz.zeroValue24 }
open Go.RowKit Go.Sort Go.Lib in
theorem Tryz.internal_strconv_formatBase10 (blk off cap : Nat) (u : Nat) (d : Array UInt8) (w : World) (hH : Holds (fun (b : UInt8) => Value.int .u8 (b.toNat : Int)) w blk off d) (hu : u < 10 ^ d.size) (hu64 : u < 18446744073709551616) (hsz : d.size < 4611686018427387904) :
  Calls Tryz.prog 187 #[.slice (some ⟨blk,off,none⟩) d.size cap,.int .u64 u] w fun e w' =>
   e = .returned (.tuple #[])∧∃ (n v' : Nat) (dk : Array UInt8),w' = (putRow (fun (b : UInt8) => Value.int .u8 (b.toNat : Int)) w blk off dk).drewN n∧FmtInv d.size u 0 v' dk:=Any.internal_strconv_formatBase10 Tryz.lays285 blk off cap u d w hH hu hu64 hsz
def Tryz.lays125_ren : Go.Shelf.Ren := ⟨fun | 125 => 103 | 128 => 146 | 129 => 147 | n => n, fun | 3 => 3 | 4 => 4 | 5 => 5 | 9 => 9 | 46 => 100 | 51 => 198 | 53 => 24 | n => n, fun | n => n⟩
theorem Tryz.lays125 : Go.Proofs.Lays.n125 Tryz.prog Tryz.lays125_ren := {
  mixed := by kernel_rfl
  f125 := Tryz.func103.trans (congrArg some (by kernel_rfl))
  f128 := Tryz.func146.trans (congrArg some (by kernel_rfl))
  f129 := Tryz.func147.trans (congrArg some (by kernel_rfl))
  t3 := Tryz.underlying3
  a3 := Tryz.isAgg3
  z3 := Tryz.sizeOf3
  v3 := Tryz.zeroValue3
  t4 := Tryz.underlying4
  a4 := Tryz.isAgg4
  z4 := Tryz.sizeOf4
  v4 := Tryz.zeroValue4
  t5 := Tryz.underlying5
  a5 := Tryz.isAgg5
  z5 := Tryz.sizeOf5
  v5 := Tryz.zeroValue5
  t9 := Tryz.underlying9
  a9 := Tryz.isAgg9
  z9 := Tryz.sizeOf9
  v9 := Tryz.zeroValue9
  t46 := Tryz.underlying100
  a46 := Tryz.isAgg100
  z46 := Tryz.sizeOf100
  v46 := Tryz.zeroValue100
  t51 := Tryz.underlying198
  a51 := Tryz.isAgg198
  z51 := Tryz.sizeOf198
  v51 := Tryz.zeroValue198
  t53 := Tryz.underlying24
  a53 := Tryz.isAgg24
  z53 := Tryz.sizeOf24
  v53 := Tryz.zeroValue24 }
theorem Tryz.bits_Len (x : Int) (w : World) (h0 : 0 ≤ x) (h1 : x ≤ 18446744073709551615) :
  Calls Tryz.prog 103 #[.int .u64 x] w fun e w' => e = .returned (.int .i64 (Lib.bitLen x.toNat))∧w' = w:=Any.bits_Len Tryz.lays125 x w h0 h1
end Go.Proofs

namespace Go.Proofs.YtjbboicccddhbaaGreatDoor
open Go.RowKit

theorem TabIs.but {w w' : World} (h : Lib.TabIs Tryz.prog w "internal/strconv.uint64pow10" .u64 Lib.pow10Tab) (hb : But [] w w') : Lib.TabIs Tryz.prog w' "internal/strconv.uint64pow10" .u64 Lib.pow10Tab :=
 Go.Lib.tabBelow_of_tabIs h w' hb.below
end Go.Proofs.YtjbboicccddhbaaGreatDoor

namespace Go.Proofs.YtjbboicccddhbaaGreatDoor
open Go.RowKit

/-- a row of decimal digits -/
def Digits (ds : List UInt8) : Prop:=∀ d ∈ ds,48 ≤ d.toNat∧d.toNat ≤ 57
/-- the number that they tell -/
def dval (ds : List UInt8) : Nat:=ds.foldl (fun n d => n * 10 + (d.toNat - 48)) 0
theorem dval_from (ds : List UInt8) : ∀ n : Nat,ds.foldl (fun n d => n * 10 + (d.toNat - 48)) n = n * 10 ^ ds.length + dval ds:=by
 induction ds with
 | nil => intro n; simp [dval]
 | cons d ds ih =>
  intro n
  unfold dval
  rw [List.foldl_cons,List.foldl_cons,ih,ih (0 * 10 + (d.toNat - 48)),List.length_cons,Nat.pow_succ]
  generalize 10 ^ ds.length = P
  generalize dval ds = D
  grind
theorem dval_append (xs ys : List UInt8) : dval (xs ++ ys) = dval xs * 10 ^ ys.length + dval ys:=by
 show (xs ++ ys).foldl (fun n d => n * 10 + (d.toNat - 48)) 0 = _
 rw [List.foldl_append,dval_from]
 rfl
theorem dval_snoc (xs : List UInt8) (d : UInt8) : dval (xs ++ [d]) = dval xs * 10 + (d.toNat - 48):=by
 rw [dval_append]
 simp [dval]
theorem dval_cons (d : UInt8) (ds : List UInt8) : dval (d :: ds) = (d.toNat - 48) * 10 ^ ds.length + dval ds:=by
 have h:=dval_append [d] ds
 rw [List.singleton_append] at h
 rw [h]
 simp [dval]
theorem dval_lt : ∀ {ds : List UInt8},Digits ds→dval ds < 10 ^ ds.length
 | [],_ => by simp [dval]
 | d :: ds,h => by
  have h1:=dval_lt (ds:=ds) (fun x hx => h x (by simp [hx]))
  have h2:=h d (by simp)
  have h3 : (d.toNat - 48) * 10 ^ ds.length ≤ 9 * 10 ^ ds.length:=Nat.mul_le_mul_right _ (by omega)
  rw [dval_cons,List.length_cons,Nat.pow_succ]
  omega
theorem dig_byte (k : Nat) (h : k < 10) : (UInt8.ofNat (48 + k)).toNat = 48 + k:=UInt8.toNat_ofNat_of_lt' (by simp [UInt8.size]; omega)
theorem dec_digits (n : Nat) : Digits (Lib.decDigits n)∧dval (Lib.decDigits n) = n∧0 < (Lib.decDigits n).length:=by
 induction n using Nat.strongRecOn with
 | _ n ih =>
  rw [Lib.decDigits]
  by_cases h10 : n < 10
  ·rw [dif_pos h10]
   have e:=dig_byte n h10
   refine ⟨fun d hd => ?_,?_,by simp⟩
   ·rw [List.mem_singleton] at hd
    rw [hd,e]
    omega
   ·show 0 * 10 + ((UInt8.ofNat (48 + n)).toNat - 48) = n
    rw [e]
    omega
  ·rw [dif_neg h10]
   obtain ⟨h1,h2,h3⟩:=ih (n / 10) (Nat.div_lt_self (by omega) (by omega))
   have e:=dig_byte (n % 10) (Nat.mod_lt _ (by omega))
   refine ⟨fun d hd => ?_,?_,by simp⟩
   ·rcases List.mem_append.1 hd with hd | hd
    ·exact h1 d hd
    ·rw [List.mem_singleton] at hd
     rw [hd,e]
     omega
   ·rw [dval_snoc,h2,e]
    omega
end Go.Proofs.YtjbboicccddhbaaGreatDoor

namespace Go.Proofs.YtjbboicccddhbaaGreatDoor
open Go.RowKit

theorem take_dval {es : List UInt8} {j : Nat} (hd : Digits es) (hj : j < es.length) : dval (es.take (j + 1)) = dval (es.take j) * 10 + ((es[j]?.getD 0).toNat - 48)∧dval (es.take j) < 10 ^ j∧48 ≤ (es[j]?.getD 0).toNat∧(es[j]?.getD 0).toNat ≤ 57:=by
 have h1 : es.take (j + 1) = es.take j ++ [es[j]?.getD 0]:=by
  rw [List.getElem?_eq_getElem hj,Option.getD_some,List.take_succ_eq_append_getElem hj]
 have h2:=dval_lt (ds:=es.take j) (fun x hx => hd x (List.mem_of_mem_take hx))
 rw [List.length_take,Nat.min_eq_left (by omega)] at h2
 have h3:=hd (es[j]?.getD 0) (by rw [List.getElem?_eq_getElem hj,Option.getD_some]; exact List.getElem_mem hj)
 exact ⟨by rw [h1,dval_snoc],h2,h3.1,h3.2⟩
theorem byte_at {t : ByteArray} {es : List UInt8} (ht : t.data.toList = es) (j : Nat) (hj : j < es.length) (T : TypeId) (hT : Tryz.prog.underlying T = some .string) (w : World) : (Instr.index T (.string t) (.int .i64 (j : Int))).run Tryz.prog w = .ok (.int .u8 (((es[j]?.getD 0).toNat : Nat) : Int)) w:=by
 subst ht
 have hs : j < t.size:=by simpa using hj
 rw [run_index_string w T t .i64 (j : Int) hT,dif_pos ⟨by omega,by omega⟩]
 have e : (t[((j : Int)).toNat]'(by simpa using hs)) = t.data.toList[j]?.getD 0:=by
  rw [List.getElem?_eq_getElem hj,Option.getD_some]
  simp
  rfl
 simp only [e]

theorem extract_drop (t : ByteArray) (j : Nat) : (t.extract j t.size).data.toList = t.data.toList.drop j:=by
 rw [ByteArray.data_extract,Array.toList_extract,List.extract_eq_take_drop,List.take_of_length_le]
 rw [List.length_drop]
 simp

/-- what holds ahead of a round: so many digits are read -/
structure ReadInv (w : World) (ds : List UInt8) (k : Nat) (t : ByteArray) (vo : Value) (wr : World) : Prop where
 left : t.data.toList = ds.drop k
 le : k ≤ ds.length
 num : Sl .u64 wr vo (wd 18446744073709551616 (dval (ds.take k)))
 but : But [] w wr

set_option maxHeartbeats 4000000 in
set_option maxRecDepth 100000 in
theorem natRead_any (t : ByteArray) (ds : List UInt8) (w : World) (ht : t.data.toList = ds) (hd : Digits ds) (hl : ds.length < 1000000) :
  Calls Tryz.prog 91 #[.string t] w fun e w' => ∃ v',e = .returned v'∧Sl .u64 w' v' (wd 18446744073709551616 (dval ds))∧But [] w w':=by
 have HD:=hide hd
 have HT:=hide ht
 clear hd ht
 go_enter Tryz.func91,Tryz.ntmps91
 go_wp2
 go_loopg [0,3] ds.length (fun m s o wr => ∃ (t : ByteArray),s = .string t∧Hid (ReadInv w ds (ds.length - m) t o wr)∧m ≤ ds.length∧t.size = m)
 case atStart => exact ⟨t,rfl,⟨by rw [Nat.sub_self,List.drop_zero]; exact unhide HT,by omega,by rw [Nat.sub_self,List.take_zero]; exact wd_zero 18446744073709551616 ▸ Sl.nil _ _,But.refl _ _⟩,Nat.le_refl _,by rw [← unhide HT]; simp⟩
 case round =>
  obtain ⟨t,rfl,HI,hm,hsz⟩:=hrel
  rename World => wr
  have hs : ((t.size : Nat) : Int) = (gk : Int):=by omega
  by_cases hm0 : gk = 0
  ·subst hm0
   have hfin : Hid (Sl .u64 wr u3 (wd 18446744073709551616 (dval ds))∧But [] w wr):=by
    have h:=unhide HI
    have h1:=h.num
    rw [Nat.sub_zero,List.take_length] at h1
    exact ⟨h1,h.but⟩
   clear HI
   go_wp2
   go_ret
   exact ⟨_,rfl,(unhide hfin).1,(unhide hfin).2⟩
  ·obtain ⟨c,hc⟩ : ∃ c,c = min gk 19:=⟨_,rfl⟩
   have hc1 : 0 < c:=by omega
   have hc2 : c ≤ 19:=by omega
   have hc3 : c ≤ gk:=by omega
   have hmin : min (gk : Int) 19 = (c : Int):=by omega
   clear hc
   have hes : Hid (t.data.toList = ds.drop (ds.length - gk)):=(unhide HI).left
   have hel : (ds.drop (ds.length - gk)).length = gk:=by rw [List.length_drop]; omega
   have hed : Digits (ds.drop (ds.length - gk)):=fun d h => unhide HD d (List.mem_of_mem_drop h)
   obtain ⟨es,hese⟩ : ∃ es,es = ds.drop (ds.length - gk):=⟨_,rfl⟩
   rw [← hese] at hes hel hed
   have HEE:=hide hese
   have HED:=hide hed
   clear hese hed
   go_wp2_with fail
   go_loopw [5,6,15] (fun a b i wq => ∃ j x P : Nat,j ≤ c∧i = .int .i64 j∧a = .int .u64 x∧b = .int .u64 P∧x < 10000000000000000000∧P ≤ 10000000000000000000∧Hid (x = dval (es.take j)∧P = 10 ^ j)∧wq = wr) (fun _ _ i _ => c - (intOf i).toNat)
   case atStart => exact ⟨0,0,1,by omega,rfl,rfl,rfl,by omega,by omega,⟨by simp [dval],by simp⟩,rfl⟩
   case round =>
    obtain ⟨j,x,P,hj,rfl,rfl,rfl,hx,hP,HJ,rfl⟩:=hrel
    by_cases hjc : j < c
    ·obtain ⟨d1,d2,d3,d4⟩:=take_dval (unhide HED) (by omega : j < es.length)
     have hb:=fun W => byte_at (unhide hes) j (by omega) 9 Tryz.underlying9 W
     rw [← (unhide HJ).1] at d1 d2
     have hp18 : 10 ^ j ≤ 10 ^ 18:=Nat.pow_le_pow_right (by omega) (by omega)
     have hpp : Hid (P * 10 = 10 ^ (j + 1)):=by show _ = _; rw [(unhide HJ).2,Nat.pow_succ]
     have hP2 : P ≤ 1000000000000000000:=by rw [(unhide HJ).2]; exact hp18
     have hx2 : x < 1000000000000000000:=Nat.lt_of_lt_of_le d2 hp18
     generalize (es[j]?.getD 0).toNat = d at *
     obtain ⟨d',rfl⟩ : ∃ d',d = 48 + d':=⟨d - 48,by omega⟩
     have HD1 : Hid (dval (es.take (j + 1)) = x * 10 + d'):=by show _ = _; rw [d1]; omega
     have hd9 : d' ≤ 9:=by omega
     have e1 : IntKind.u8.wrap (((48 + d' : Nat) : Int) - 48) = (d' : Int):=by rw [IntKind.wrap_u8]; omega
     have e2 : IntKind.u64.wrap ((x : Int) * 10) = ((x * 10 : Nat) : Int):=by rw [IntKind.wrap_u64]; omega
     have e3 : IntKind.u64.wrap (((x * 10 : Nat) : Int) + (d' : Int)) = ((x * 10 + d' : Nat) : Int):=by rw [IntKind.wrap_u64]; omega
     have e4 : IntKind.u64.wrap ((P : Int) * 10) = ((P * 10 : Nat) : Int):=by rw [IntKind.wrap_u64]; omega
     clear d1 d2 d3 d4 hp18
     go_wp2
     refine ⟨⟨j + 1,x * 10 + d',P * 10,by omega,by go_num,by go_num,by go_num,by omega,by omega,⟨(unhide HD1).symm,unhide hpp⟩,trivial⟩,?_⟩
     simp [intOf]; omega
    ·have hjc' : j = c:=by omega
     subst hjc'
     have hI:=unhide HI
     have hnew : dval (ds.take (ds.length - gk)) * P + x = dval (ds.take (ds.length - (gk - j))):=by
      have e : ds.take (ds.length - (gk - j)) = ds.take (ds.length - gk) ++ es.take j:=by
       rw [unhide HEE,show ds.length - (gk - j) = (ds.length - gk) + j from by omega,List.take_add]
      rw [e,dval_append,List.length_take,Nat.min_eq_left (by omega),← (unhide HJ).1,← (unhide HJ).2]
     have hlen : (wd 18446744073709551616 (dval (ds.take (ds.length - gk)))).length < 1000000:=by
      have h1:=dval_lt (ds:=ds.take (ds.length - gk)) (fun x hx => unhide HD x (List.mem_of_mem_take hx))
      refine Nat.lt_of_le_of_lt (wd_length_le (B:=18446744073709551616) (by omega) _ (ds.take (ds.length - gk)).length (Nat.lt_of_lt_of_le h1 (Nat.pow_le_pow_left (by omega) _))) ?_
      rw [List.length_take]
      omega
     have hwl : ∀ n,n < 18446744073709551616→(wd 18446744073709551616 n).length ≤ 1:=fun n hn => wd_length_le (by omega) _ _ (by rw [Nat.pow_one]; exact hn)
     have hl1:=hwl P (by omega)
     have hl2:=hwl x (by omega)
     have hl3:=wd_len_mul (dval (ds.take (ds.length - gk))) P
     have MU:=hide (fun (W : World) (v : Value) (hb : But [] wr W) (h : Sl .u64 W v (wd 18446744073709551616 P)) => natMul_any u3 v _ _ W (hI.num.but_nil hb) h (by omega))
     have AD:=hide (fun (W : World) (v v2 : Value) (h : Sl .u64 W v (wd 18446744073709551616 (dval (ds.take (ds.length - gk)) * P))) (h2 : Sl .u64 W v2 (wd 18446744073709551616 x)) => natAdd_any v v2 _ _ W h h2 (by omega) (by omega))
     rw [hnew] at AD
     have HBW:=hide hI.but
     have hex : t.extract j t.size = t.extract j t.size:=rfl
     have hleft : Hid ((t.extract j t.size).data.toList = ds.drop (ds.length - (gk - j))):=by
      show _ = _
      have h1:=unhide hes
      rw [show ds.length - (gk - j) = (ds.length - gk) + j from by omega,← List.drop_drop,← unhide HEE,← h1]
      exact extract_drop t j
     have hsz2 : (t.extract j t.size).size = gk - j:=by simp [hsz]
     rw [hsz] at hleft hsz2
     clear hI hnew hlen hwl hl1 hl2 hl3 hex
     obtain ⟨oa,oc,hoe⟩ : ∃ a c,u3 = .slice a (wd 18446744073709551616 (dval (ds.take (ds.length - gk)))).length c:=by obtain ⟨a,c,e,-,-⟩:=(unhide HI).num; exact ⟨a,c,e⟩
     clear HI
     subst hoe
     generalize (wd 18446744073709551616 (dval (ds.take (ds.length - gk)))).length = on at *
     go_wp2_with fail
     refine (natOf_any P (by omega) _).mono ?_
     rintro e w1 ⟨v1,rfl,hv1,hb1,-⟩
     have H1:=hide hv1
     have B1:=hide hb1
     clear hv1 hb1
     go_wp2_with fail
     refine (unhide MU _ v1 (unhide B1) (unhide H1)).mono ?_
     rintro e w2 ⟨v2,rfl,hv2,hb2,-⟩
     have H2:=hide hv2
     have B2 : Hid (But [] w w2):=((unhide HBW).trans' (unhide B1)).trans' hb2
     clear hv2 hb2
     go_wp2_with fail
     refine (natOf_any x (by omega) _).mono ?_
     rintro e w3 ⟨v3,rfl,hv3,hb3,-⟩
     have H3:=hide hv3
     have H2':=hide ((unhide H2).but_nil hb3)
     have B3 : Hid (But [] w w3):=(unhide B2).trans' hb3
     clear hv3 hb3
     go_wp2_with fail
     refine (unhide AD _ v2 v3 (unhide H2') (unhide H3)).mono ?_
     rintro e w4 ⟨v4,rfl,hv4,hb4⟩
     have H4:=hide hv4
     have B4 : Hid (But [] w w4):=(unhide B3).trans' hb4
     clear hv4 hb4
     go_wp2
     go_roundg (gk - j)
     case measure => omega
     case rel => exact ⟨_,rfl,⟨unhide hleft,by omega,unhide H4,unhide B4⟩,by omega,hsz2⟩
end Go.Proofs.YtjbboicccddhbaaGreatDoor

namespace Go.Proofs.YtjbboicccddhbaaGreatDoor
open Go.RowKit

set_option maxHeartbeats 4000000 in
set_option maxRecDepth 100000 in
theorem digitsEnd_any (t : ByteArray) (bs ds es : List UInt8) (k : Nat) (w : World) (ht : t.data.toList = bs) (hk : bs.drop k = ds ++ es) (hkl : k ≤ bs.length) (hd : Digits ds) (he : ∀ e,es.head? = some e→e.toNat < 48 ∨ 57 < e.toNat) (hl : bs.length < 1000000) (r : Int) (hr : Hid (r = ((k + ds.length : Nat) : Int))) :
  Calls Tryz.prog 90 #[.string t,.int .i64 (k : Int)] w fun e w' => e = .returned (.int .i64 r)∧w' = w:=by
 have hlen : bs.length = k + ds.length + es.length:=by
  have:=congrArg List.length hk
  rw [List.length_drop,List.length_append] at this
  omega
 have hsz : t.size = k + ds.length + es.length:=by rw [← hlen,← ht]; simp
 have hs : ((t.size : Nat) : Int) = ((k + ds.length + es.length : Nat) : Int):=by rw [hsz]
 have hat : ∀ j,(bs[k + j]?.getD 0) = ((ds ++ es)[j]?.getD 0):=fun j => by rw [← hk,List.getElem?_drop]
 have HAT:=hide hat
 have HT:=hide ht
 have HD:=hide hd
 have HE:=hide he
 clear hat hk hd he ht hkl
 go_enter Tryz.func90,Tryz.ntmps90
 go_wp2
 obtain ⟨m,hm⟩ : ∃ m,m = k + ds.length:=⟨_,rfl⟩
 have hsm : t.size = m + es.length:=by omega
 rw [← hm] at hr
 have hkm : k ≤ m:=by omega
 have hbl : bs.length = m + es.length:=by omega
 have hdl : ds.length = m - k:=by omega
 clear hsz hs hlen
 go_loopw [1] (fun a wq => ∃ i : Nat,k ≤ i∧i ≤ m∧a = .int .i64 (i : Int)∧wq = w) (fun a _ => m - (intOf a).toNat)
 case atStart => exact ⟨k,by omega,by omega,rfl,rfl⟩
 case round =>
  obtain ⟨i,hki,him,rfl,rfl⟩:=hrel
  have hA : (bs[i]?.getD 0) = ((ds ++ es)[i - k]?.getD 0):=by have:=unhide HAT (i - k); rw [show k + (i - k) = i from by omega] at this; exact this
  by_cases hjd : i < m
  ·have hb:=fun W => byte_at (unhide HT) i (by omega) 9 Tryz.underlying9 W
   rw [hA,List.getElem?_append_left (by omega)] at hb
   have hdd:=unhide HD (ds[i - k]?.getD 0) (by rw [List.getElem?_eq_getElem (by omega),Option.getD_some]; exact List.getElem_mem _)
   generalize (ds[i - k]?.getD 0).toNat = d at *
   have l1 : (i : Int) < (t.size : Int):=by omega
   have c1 : decide (48 ≤ (d : Int)) = true:=decide_eq_true (by omega)
   have c2 : decide ((d : Int) ≤ 57) = true:=decide_eq_true (by omega)
   have l2 : decide ((i : Int) < (t.size : Int)) = true:=decide_eq_true l1
   have i0 : (0 : Int) ≤ (i : Int):=by omega
   clear hA hdl hm
   go_wp2
   refine ⟨⟨i + 1,by omega,by omega,by go_num,trivial⟩,?_⟩
   simp [intOf]; omega
  ·have hje : i = m:=by omega
   subst hje
   have hE : Hid ((i : Int) = r):=(unhide hr).symm
   by_cases hes : es.length = 0
   ·have l1 : (t.size : Int) ≤ (i : Int):=by omega
    have l2 : decide ((i : Int) < (t.size : Int)) = false:=decide_eq_false (by omega)
    clear hA hdl hm hsm hbl hes hjd him hkm hki
    go_wp2
    go_ret
    exact ⟨by rw [unhide hE]; rfl,rfl⟩
   ·have hb:=fun W => byte_at (unhide HT) i (by omega) 9 Tryz.underlying9 W
    rw [hA,List.getElem?_append_right (by omega),show i - k - ds.length = 0 from by omega] at hb
    have hee:=unhide HE (es[0]?.getD 0) (by rw [List.head?_eq_getElem?,List.getElem?_eq_getElem (by omega)]; rfl)
    have l1 : (i : Int) < (t.size : Int):=by omega
    have l2 : decide ((i : Int) < (t.size : Int)) = true:=decide_eq_true l1
    have i0 : (0 : Int) ≤ (i : Int):=by omega
    generalize (es[0]?.getD 0).toNat = d at *
    clear hA hdl hm hsm hbl hes hjd him hkm hki
    rcases hee with hee | hee
    ·have c1 : decide (48 ≤ (d : Int)) = false:=decide_eq_false (by omega)
     go_wp2
     go_ret
     exact ⟨by rw [unhide hE]; rfl,rfl⟩
    ·have c1 : decide (48 ≤ (d : Int)) = true:=decide_eq_true (by omega)
     have c2 : decide ((d : Int) ≤ 57) = false:=decide_eq_false (by omega)
     go_wp2
     go_ret
     exact ⟨by rw [unhide hE]; rfl,rfl⟩
end Go.Proofs.YtjbboicccddhbaaGreatDoor
