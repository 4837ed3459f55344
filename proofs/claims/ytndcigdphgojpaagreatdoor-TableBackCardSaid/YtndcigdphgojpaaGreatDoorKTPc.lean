/- Regions that draw their order: what holds ahead of each operation, whatever has come, holds of the region; two values made, two places made, each stored. -/
import Derived.Deep.RegionHeld
import Derived.RangeFuncCalls
import Derived.OrdersIn
import Derived.Laws.CopyOwn
import Derived.Test.YtndcigdphgojpaaGreatDoorProg
import Derived.Laws.MakeOwn
import Derived.Test.YtndcigdphgojpaaGreatDoorKTBase
namespace Go.Proofs.YtndcigdphgojpaaGreatDoor
open Go.RowKit

/-- what has come, and one more -/
def came (d : Nat→Bool) (i : Nat) : Nat→Bool:=fun j => if j = i then true else d j
theorem came_self (d : Nat→Bool) (i : Nat) : came d i i = true:=by simp [came]
theorem came_ne (d : Nat→Bool) {i j : Nat} (h : j ≠ i) : came d i j = d j:=by simp [came,h]

theorem region_inv {P : Program} {id : Nat} {ops : Array Oper} {Q : Exit→Act→World→Prop} {base : Act} {W0 : World} (hm : P.follows .mixedOrders = true)
  (hlow : ∀ i o,ops[i]? = some o→∀ e ∈ o.after,Region.binds .any e = true→e.on < i)
  (J : (Nat→Bool)→Act→World→Prop) (h0 : J (fun _ => false) base W0.drew)
  (hend : ∀ d a w,(∀ i,i < ops.size→d i = true)→J d a w→Q .normal a w)
  (hstep : ∀ d i o a w,ops[i]? = some o→d i = false→(∀ e ∈ o.after,Region.binds .any e = true→d e.on = true)→J d a w→wpOp P ops Q i (J (came d i)) a w) :
  (Code.region id ops true).wp P Q base W0:=by
 refine wp_region_any hm ?_
 show wpAny P .any ops Q ops.size (Array.replicate ops.size false) base W0.drew
 have none_ready : ∀ (l : Array Bool),l.toList.count false = 0→Region.ready .any ops l = []:=fun l hc => by
  refine List.eq_nil_iff_forall_not_mem.2 fun i hi => ?_
  obtain ⟨hf,o,ho,hd⟩:=mem_ready.1 hi
  rw [List.count_eq_zero] at hc
  rcases Nat.lt_or_ge i l.size with h1 | h1
  ·simp only [Array.getD_eq_getD_getElem?,Array.getElem?_eq_getElem h1,Option.getD_some] at hf
   exact hc (by rw [← hf]; exact Array.getElem_mem_toList h1)
  ·simp [Array.getElem?_eq_none h1] at hf
 have end_ : ∀ (l : Array Bool) a w,l.size = ops.size→J (fun i => l.getD i false) a w→Region.ready .any ops l = []→Q .normal a w:=fun l a w hs hJ hr => by
  refine hend _ a w (fun i => ?_) hJ
  induction i using Nat.strongRecOn with
  | _ i ih =>
   intro hi
   cases e : l.getD i false with
   | true => rfl
   | false =>
    exfalso
    have hmem : i ∈ Region.ready .any ops l:=mem_ready.2 ⟨by
     simp only [Array.getD_eq_getD_getElem?,Array.getElem?_eq_getElem (show i < l.size by omega),Option.getD_some] at e ⊢
     exact e,ops[i],Array.getElem?_eq_getElem hi,fun e he hb => by
      have hl:=hlow i ops[i] (Array.getElem?_eq_getElem hi) e he hb
      exact ih e.on hl (by omega)⟩
    rw [hr] at hmem
    simp at hmem
 have key : ∀ n (l : Array Bool) a w,l.size = ops.size∧l.toList.count false = n∧J (fun i => l.getD i false) a w→wpAny P .any ops Q n l a w:=by
  intro n
  induction n with
  | zero => rintro l a w ⟨hs,hc,hJ⟩; exact ⟨none_ready l hc,end_ l a w hs hJ (none_ready l hc)⟩
  | succ n ih =>
   rintro l a w ⟨hs,hc,hJ⟩
   refine ⟨end_ l a w hs hJ,fun i hi => ?_⟩
   obtain ⟨hf,o,ho,hd⟩:=mem_ready.1 hi
   have hlt : i < l.size:=by rw [hs]; exact (Array.getElem?_eq_some_iff.1 ho).1
   have hg : l[i] = false:=by simpa [hlt] using hf
   have hf' : l.getD i false = false:=by simp [hlt,hg]
   refine wpOp_mono (fun a' w' h' => ih _ a' w' ⟨by simp [hs],?_,?_⟩) (hstep _ i o a w ho hf' hd hJ)
   ·rw [Array.toList_setIfInBounds,List.count_set (by simpa using hlt)]
    simp [hg,hc]
   ·have e : (fun j => (l.setIfInBounds i true).getD j false) = came (fun j => l.getD j false) i:=funext fun j => by
     by_cases hj : j = i
     ·subst hj; simp [came,hlt]
     ·simp [came,hj,Array.getElem?_setIfInBounds_ne (Ne.symm hj)]
    rw [e]; exact h'
 exact key _ _ _ _ ⟨by simp,by simp,by
  have e : (fun i => (Array.replicate ops.size false).getD i false) = fun _ => false:=funext fun i => by
   simp only [Array.getD_eq_getD_getElem?,Array.getElem?_replicate]
   split <;> rfl
  rw [e]; exact h0⟩

theorem at_ne (a : Act) (d t : Nat) (v : Value) (h : t ≠ d) : (a.put (some d) v).eval (.tmp t) = a.eval (.tmp t):=by
 show (a.tmps.setIfInBounds d v).getD t undef = a.tmps.getD t undef
 simp only [Array.getD_eq_getD_getElem?,Array.getElem?_setIfInBounds_ne (Ne.symm h)]
theorem at_eq (a : Act) (d : Nat) (v : Value) (h : d < a.tmps.size) : (a.put (some d) v).eval (.tmp d) = v:=by
 show (a.tmps.setIfInBounds d v).getD d undef = v
 simp [h]
theorem slot_is {a : Act} {t : Nat} {v : Value} (h : a.eval (.tmp t) = v) (hs : t < a.tmps.size) : a.tmps[t]? = some v:=by
 have e : a.tmps.getD t undef = v:=h
 rw [Array.getD_eq_getD_getElem?,Array.getElem?_eq_getElem hs] at e
 rw [Array.getElem?_eq_getElem hs]
 exact congrArg some e
theorem slot_put (a : Act) (d t : Nat) (v : Value) : (a.put (some d) v).tmps[t]? = if d = t then (if d < a.tmps.size then some v else none) else a.tmps[t]?:=by
 show (a.tmps.setIfInBounds d v)[t]? = _
 rw [Array.getElem?_setIfInBounds]
theorem size_putted (a : Act) (d : Nat) (v : Value) : (a.put (some d) v).tmps.size = a.tmps.size:=by
 show (a.tmps.setIfInBounds d v).size = a.tmps.size
 simp
/-- values put into slots, one after the other -/
def putted (base : Act) (ps : List (Nat × Value)) : Act:=ps.foldl (fun b p => b.put (some p.1) p.2) base
theorem putted_eq : ∀ (ps : List (Nat × Value)) (base a : Act),a.defers = base.defers→a.tmps.size = base.tmps.size→(∀ p ∈ ps,a.tmps[p.1]? = some p.2)→(∀ t,(∀ p ∈ ps,t ≠ p.1)→a.tmps[t]? = base.tmps[t]?)→a = putted base ps
 | [],base,a,h1,_,_,h4 => by
  cases a
  cases base
  simp only at h1 h4
  show Act.mk _ _ = Act.mk _ _
  rw [Array.ext_getElem? (fun t => h4 t (fun p hp => by simp at hp)),h1]
 | (d,v) :: ps,base,a,h1,h2,h3,h4 => by
  have hd:=h3 (d,v) (by simp)
  simp only at hd
  have hlt : d < base.tmps.size:=by
   rw [← h2]
   exact (Array.getElem?_eq_some_iff.1 hd).1
  refine putted_eq ps (base.put (some d) v) a h1 (by rw [size_putted]; exact h2) (fun p hp => h3 p (by simp [hp])) (fun t ht => ?_)
  rw [slot_put]
  by_cases e : d = t
  ·subst e
   rw [if_pos rfl,if_pos hlt]
   exact hd
  ·rw [if_neg e]
   refine h4 t (fun p hp => ?_)
   rcases List.mem_cons.1 hp with rfl | hp
   ·exact Ne.symm e
   ·exact ht p hp

end Go.Proofs.YtndcigdphgojpaaGreatDoor

namespace Go.Proofs.YtndcigdphgojpaaGreatDoor
open Go.RowKit

theorem wp_value {P : Program} {Q : Exit→Act→World→Prop} {K : Act→World→Prop} {a : Act} {w w' : World} {o : Oper} {v : Value} (hr : (execOp a.eval o).run P w = .ok (.value v) w') (h : K (a.put o.dst v) w') : o.wp P a w K Q:=by
 unfold Oper.wp
 rw [hr]
 exact h
theorem wp_skipped {P : Program} {Q : Exit→Act→World→Prop} {K : Act→World→Prop} {a : Act} {w w' : World} {o : Oper} (hr : (execOp a.eval o).run P w = .ok .skip w') (h : K (a.put o.dst undef) w') : o.wp P a w K Q:=by
 unfold Oper.wp
 rw [hr]
 exact h
theorem wp_enter {P : Program} {Q : Exit→Act→World→Prop} {K : Act→World→Prop} {a : Act} {w : World} {o : Oper} {f : FuncId} {args : Array Value} (hr : (execOp a.eval o).run P w = .ok (.enter f args) w) {R : World→Value→Prop} (hc : Calls P f args w fun e w' => ∃ v,e = .returned v∧R w' v) (h : ∀ v w',R w' v→K (a.put o.dst v) w') : o.wp P a w K Q:=by
 unfold Oper.wp
 rw [hr]
 refine hc.mono ?_
 rintro e w' ⟨v,rfl,hv⟩
 exact h v w' hv
end Go.Proofs.YtndcigdphgojpaaGreatDoor

namespace Go.Proofs.YtndcigdphgojpaaGreatDoor
open Go.RowKit

/-- each operation that binds another stands behind it -/
def lowOps (ops : Array Oper) : Bool:=(List.range ops.size).all fun i => match ops[i]? with
 | some o => o.after.all fun e => !(Region.binds .any e) || decide (e.on < i)
 | none => true
theorem low_of {ops : Array Oper} (h : lowOps ops = true) : ∀ i o,ops[i]? = some o→∀ e ∈ o.after,Region.binds .any e = true→e.on < i:=fun i o ho e he hb => by
 have hi : i < ops.size:=(Array.getElem?_eq_some_iff.1 ho).1
 unfold lowOps at h
 rw [List.all_eq_true] at h
 have h1:=h i (List.mem_range.2 hi)
 simp only [ho] at h1
 rw [Array.all_eq_true_iff_forall_mem] at h1
 have h2:=h1 e he
 simpa [hb] using h2
def depOps (ops : Array Oper) (ps : List (Nat × Nat)) : Bool:=ps.all fun p => match ops[p.1]? with
 | some o => o.after.any fun e => Region.binds .any e && e.on == p.2
 | none => false
theorem dep_of {ops : Array Oper} {ps : List (Nat × Nat)} (h : depOps ops ps = true) : ∀ i j,(i,j) ∈ ps→∃ o,ops[i]? = some o∧∃ e ∈ o.after,Region.binds .any e = true∧e.on = j:=fun i j hij => by
 unfold depOps at h
 rw [List.all_eq_true] at h
 have h1:=h (i,j) hij
 cases ho : ops[i]? with
 | none => simp [ho] at h1
 | some o =>
  simp only [ho] at h1
  rw [Array.any_eq_true] at h1
  obtain ⟨k,hk,h2⟩:=h1
  simp only [Bool.and_eq_true,beq_iff_eq] at h2
  exact ⟨o,rfl,o.after[k],Array.getElem_mem hk,h2.1,h2.2⟩

/-- a fraction's four parts lie at a block -/
def P4 (w : World) (g : Nat) (s : Bool) (x y : Int) (p : Option Addr) : Prop:=w.cell? ⟨g,0,none⟩ = some (.bool s)∧w.cell? ⟨g,1,none⟩ = some (.int .u64 x)∧w.cell? ⟨g,2,none⟩ = some (.int .u64 y)∧w.cell? ⟨g,3,none⟩ = some (.pointer p)
theorem P4.but {w w' : World} {g : Nat} {s : Bool} {x y : Int} {p : Option Addr} {l : List Nat} (h : P4 w g s x y p) (hb : But l w w') (hn : g ∉ l) : P4 w' g s x y p:=⟨hb.cell_some h.1 hn,hb.cell_some h.2.1 hn,hb.cell_some h.2.2.1 hn,hb.cell_some h.2.2.2 hn⟩
theorem set_off (w : World) (b i j : Nat) (v : Value) (hij : i ≠ j) : (w.setCell ⟨b,i,none⟩ v).cell? ⟨b,j,none⟩ = w.cell? ⟨b,j,none⟩:=World.cell?_setCell_other w ⟨b,i,none⟩ ⟨b,j,none⟩ v (fun e => hij (Addr.mk.inj e).2.1)
/-- four cells written: the block is what was written, and what it was beyond -/
theorem set4_all (w : World) (b : Nat) (v0 v1 v2 v3 : Value) (c0 : (w.cell? ⟨b,0,none⟩).isSome = true) (c1 : (w.cell? ⟨b,1,none⟩).isSome = true) (c2 : (w.cell? ⟨b,2,none⟩).isSome = true) (c3 : (w.cell? ⟨b,3,none⟩).isSome = true) :
  (∀ j,j < 4→((((w.setCell ⟨b,0,none⟩ v0).setCell ⟨b,1,none⟩ v1).setCell ⟨b,2,none⟩ v2).setCell ⟨b,3,none⟩ v3).cell? ⟨b,j,none⟩ = #[v0,v1,v2,v3][j]?)∧∀ j,4 ≤ j→((((w.setCell ⟨b,0,none⟩ v0).setCell ⟨b,1,none⟩ v1).setCell ⟨b,2,none⟩ v2).setCell ⟨b,3,none⟩ v3).cell? ⟨b,j,none⟩ = w.cell? ⟨b,j,none⟩:=by
 constructor
 ·intro j hj
  have : j = 0 ∨ j = 1 ∨ j = 2 ∨ j = 3:=by omega
  rcases this with rfl | rfl | rfl | rfl
  ·rw [set_off _ _ 3 0 _ (by omega),set_off _ _ 2 0 _ (by omega),set_off _ _ 1 0 _ (by omega)]
   exact World.cell?_setCell_same' _ _ _ c0
  ·rw [set_off _ _ 3 1 _ (by omega),set_off _ _ 2 1 _ (by omega)]
   exact World.cell?_setCell_same' _ _ _ (by rw [set_off _ _ 0 1 _ (by omega)]; exact c1)
  ·rw [set_off _ _ 3 2 _ (by omega)]
   exact World.cell?_setCell_same' _ _ _ (by rw [set_off _ _ 1 2 _ (by omega),set_off _ _ 0 2 _ (by omega)]; exact c2)
  ·exact World.cell?_setCell_same' _ _ _ (by rw [set_off _ _ 2 3 _ (by omega),set_off _ _ 1 3 _ (by omega),set_off _ _ 0 3 _ (by omega)]; exact c3)
 ·intro j hj
  rw [set_off _ _ 3 j _ (by omega),set_off _ _ 2 j _ (by omega),set_off _ _ 1 j _ (by omega),set_off _ _ 0 j _ (by omega)]
end Go.Proofs.YtndcigdphgojpaaGreatDoor

namespace Go.Proofs.YtndcigdphgojpaaGreatDoor
open Go.RowKit

theorem getD_map_u64 (xs : List Nat) (j : Nat) (v : Value) (h : (xs.map fun (x : Nat) => Value.int .u64 (x : Int))[j]? = some v) : j < xs.length∧v = .int .u64 (xs[j]?.getD 0 : Nat):=by
 simp only [List.getElem?_map,Option.map_eq_some_iff] at h
 obtain ⟨x,hx,rfl⟩:=h
 exact ⟨(List.getElem?_eq_some_iff.1 hx).1,by rw [hx]; rfl⟩
theorem addr_add (b off j : Nat) : (⟨b,off,none⟩ : Addr).add j = ⟨b,off + j,none⟩:=by by_cases h : j = 0 <;> simp [Addr.add,h]
theorem but_setCells (w : World) (g : Nat) : ∀ (vs : List Value) (o : Nat),But [g] w (w.setCells g o vs)
 | [],_ => But.refl _ _
 | v :: vs,o => by
  rw [World.setCells]
  exact ((But.refl [g] w).setCell (p:=⟨g,o,none⟩) (by simp) v).trans (but_setCells _ g vs (o + 1)) (fun _ h => .inl h)
theorem ints_setCells (g : Nat) : ∀ (xs : List Nat) (o : Nat) (w : World),Ints .u64 w g→Ints .u64 (w.setCells g o (xs.map fun (x : Nat) => Value.int .u64 (x : Int))) g
 | [],_,_,h => h
 | x :: xs,o,w,h => by
  rw [List.map_cons,World.setCells]
  exact ints_setCells g xs (o + 1) _ (h.set o x)
theorem seg_copy {w : World} {g o : Nat} {rs : List Nat} (h : Seg w g o rs) (xs : List Nat) (hl : xs.length ≤ rs.length) :
  Seg (w.setCells g o (xs.map fun (x : Nat) => Value.int .u64 (x : Int))) g o (xs ++ rs.drop xs.length)∧Part g o xs.length w (w.setCells g o (xs.map fun (x : Nat) => Value.int .u64 (x : Int))):=by
 refine ⟨⟨fun i hi => ⟨?_,?_⟩,fun h0 => ints_setCells _ _ _ _ (h.ints (by simp only [List.length_append,List.length_drop] at h0; omega))⟩,but_setCells _ _ _ _,fun i hi => ?_,fun i => World.frozen?_setCells _ _ _ _ _⟩
 ·simp only [List.length_append,List.length_drop] at hi
  rcases Nat.lt_or_ge i xs.length with h1 | h1
  ·have:=World.cell?_setCells_in g (xs.map fun (x : Nat) => Value.int .u64 (x : Int)) o w (fun j hj => by rw [(h j (by simp at hj; omega)).1]; rfl) i (by simpa using h1)
   rw [this,List.getElem?_append_left h1]
   simp [List.getElem?_eq_getElem h1]
  ·rw [World.cell?_setCells_out g _ o w _ (fun _ _ => .inr (by simp; omega)),(h i (by omega)).1,List.getElem?_append_right h1,List.getElem?_drop,show xs.length + (i - xs.length) = i from by omega]
 ·simp only [List.length_append,List.length_drop] at hi
  rw [World.frozen?_setCells]; exact (h i (by omega)).2
 ·exact World.cell?_setCells_out g _ o w _ (fun _ _ => by simp; omega)
/-- the same as a run's equation, the world behind it a letter -/
theorem run_copy_seg {P : Program} (w : World) (dT sT elem : TypeId) (hu : P.underlying dT = some (.slice elem)) (hsz : (P.info? elem).map (·.size) = some 1)
  (g off dLen dCap : Nat) (vs : Value) (rs xs : List Nat) (hg : Seg w g off rs) (hr : dLen = rs.length) (hx : Sl .u64 w vs xs) (hl : xs.length ≤ rs.length) :
  ∃ w',(∀ ty,(Builtin.copy_ #[dT,sT] ty #[.slice (some ⟨g,off,none⟩) dLen dCap,vs]).run P w = .ok (goInt xs.length) w')∧Hid (Seg w' g off (xs ++ rs.drop xs.length)∧Part g off xs.length w w'):=by
 obtain ⟨ad,cap,rfl,-,hc,-⟩:=hx
 subst hr
 rcases Nat.eq_zero_or_pos xs.length with h0 | h0
 ·have e : xs = []:=List.length_eq_zero_iff.1 h0
  subst e
  exact ⟨w,fun ty => run_copy_none w dT sT ty elem _ _ _ _ _ _ hu hsz (by simp),by simpa using hg,Part.refl _ _ _ _⟩
 ·obtain ⟨b,off',rfl,-⟩:=hc 0 h0
  refine ⟨_,fun ty => ?_,seg_copy hg xs hl⟩
  have hrun:=run_copy_cells (P:=P) w dT sT ty elem g off rs.length dCap ⟨b,off',none⟩ xs.length cap (xs.map fun (x : Nat) => Value.int .u64 (x : Int)) hu hsz (by rw [List.length_map]; exact (Nat.min_eq_left hl).symm)
   (fun j v hj => by
    obtain ⟨h1,rfl⟩:=getD_map_u64 xs j v hj
    obtain ⟨b2,off2,e,h2⟩:=hc j h1
    simp only [Option.some.injEq,Addr.mk.injEq] at e
    obtain ⟨rfl,rfl,-⟩:=e
    rw [addr_add]; exact h2)
   (fun j hj => by rw [(hg j (by simp at hj; omega)).1]; rfl) (fun j hj => (hg j (by simp at hj; omega)).2) (fun v hv => by
    simp only [List.mem_map] at hv
    obtain ⟨x,-,rfl⟩:=hv
    rfl)
  rw [List.length_map] at hrun
  exact hrun
end Go.Proofs.YtndcigdphgojpaaGreatDoor

namespace Go.Proofs.YtndcigdphgojpaaGreatDoor
open Go.RowKit

structure Flow2 (base : Act) (H : (Nat→Bool)→World→Prop) (C : Nat→World→Value→Prop) (T : Nat→Nat) (m : Nat) (d : Nat→Bool) (a : Act) (w : World) : Prop where
 mem : H d w
 size : a.tmps.size = base.tmps.size
 defers : a.defers = base.defers
 rest : ∀ t,(∀ j,j < m→t ≠ T j)→a.tmps[t]? = base.tmps[t]?
 has : ∀ i,i < m→d i = true→C i w (a.eval (.tmp (T i)))
theorem Flow2.next {base : Act} {H : (Nat→Bool)→World→Prop} {C : Nat→World→Value→Prop} {T : Nat→Nat} {m : Nat} {d : Nat→Bool} {a : Act} {w : World} (h : Flow2 base H C T m d a w)
  (hinj : ∀ i j,i < m→j < m→T i = T j→i = j) (hT : ∀ i,i < m→T i < base.tmps.size)
  (i : Nat) (hi : i < m) (v : Value) (w' : World) (hH : H (came d i) w') (hC : ∀ j,j < m→d j = true→∀ u,C j w u→C j w' u) (hv : C i w' v) : Flow2 base H C T m (came d i) (a.put (some (T i)) v) w' where
 mem:=hH
 size:=by rw [size_putted]; exact h.size
 defers:=h.defers
 rest:=fun t ht => by rw [slot_put,if_neg (fun e => ht i hi e.symm)]; exact h.rest t ht
 has:=fun j hj hd => by
  by_cases e : j = i
  ·subst e
   rw [at_eq a (T j) v (by rw [h.size]; exact hT j hj)]
   exact hv
  ·rw [came_ne d e] at hd
   rw [at_ne a (T i) (T j) v (fun e2 => e (hinj j i hj hi e2))]
   exact hC j hj hd _ (h.has j hj hd)
theorem Flow2.eval {base : Act} {H : (Nat→Bool)→World→Prop} {C : Nat→World→Value→Prop} {T : Nat→Nat} {m : Nat} {d : Nat→Bool} {a : Act} {w : World} (h : Flow2 base H C T m d a w) (t : Nat) (ht : ∀ j,j < m→t ≠ T j) : a.eval (.tmp t) = base.eval (.tmp t):=by
 show a.tmps.getD t undef = base.tmps.getD t undef
 simp only [Array.getD_eq_getD_getElem?,h.rest t ht]

theorem Flow2.puts {base : Act} {H : (Nat→Bool)→World→Prop} {C : Nat→World→Value→Prop} {T : Nat→Nat} {m : Nat} {d : Nat→Bool} {a : Act} {w : World} (h : Flow2 base H C T m d a w) (hT : ∀ i,i < m→T i < base.tmps.size) (V : Nat→Value) (hV : ∀ i,i < m→a.eval (.tmp (T i)) = V i) : a = putted base ((List.range m).map fun i => (T i,V i)):=by
 refine putted_eq _ base a h.defers h.size (fun p hp => ?_) (fun t ht => ?_)
 ·obtain ⟨i,hi,rfl⟩:=List.mem_map.1 hp
  have hi':=List.mem_range.1 hi
  exact slot_is (hV i hi') (by rw [h.size]; exact hT i hi')
 ·refine h.rest t (fun j hj e => ?_)
  exact ht (T j,V j) (List.mem_map.2 ⟨j,List.mem_range.2 hj,rfl⟩) e
theorem region_flow {P : Program} {id : Nat} {ops : Array Oper} {Q : Exit→Act→World→Prop} {base : Act} {W0 : World} (hm : P.follows .mixedOrders = true)
  (hlow : ∀ i o,ops[i]? = some o→∀ e ∈ o.after,Region.binds .any e = true→e.on < i)
  (hg : ∀ (i : Nat) (o : Oper),ops[i]? = some o→o.guard = none)
  (H : (Nat→Bool)→World→Prop) (C : Nat→World→Value→Prop) (T : Nat→Nat) (m : Nat) (hsz : ops.size = m + 1)
  (hinj : ∀ i j,i < m→j < m→T i = T j→i = j) (hT : ∀ i,i < m→T i < base.tmps.size) (h0 : H (fun _ => false) W0.drew)
  (hall : ∀ i,i < m→∃ o,ops[m]? = some o∧∃ e ∈ o.after,Region.binds .any e = true∧e.on = i)
  (hstep : ∀ (d : Nat→Bool) (i : Nat) (o : Oper) (a : Act) (w : World) (K : Act→World→Prop),i < m→ops[i]? = some o→d i = false→H d w→(∀ t,(∀ j,j < m→t ≠ T j)→a.eval (.tmp t) = base.eval (.tmp t))→(∀ e ∈ o.after,Region.binds .any e = true→d e.on = true∧C e.on w (a.eval (.tmp (T e.on))))→(∀ v w',H (came d i) w'→(∀ j,j < m→d j = true→∀ u,C j w u→C j w' u)→C i w' v→K (a.put (some (T i)) v) w')→o.wp P a w K Q)
  (Fin : Act→World→Prop)
  (hlast : ∀ (d : Nat→Bool) (o : Oper) (a : Act) (w : World) (K : Act→World→Prop),ops[m]? = some o→(∀ i,i < m→d i = true)→Flow2 base H C T m d a w→(∀ a' w',Fin a' w'→K a' w')→o.wp P a w K Q)
  (hend : ∀ a w,Fin a w→Q .normal a w) :
  (Code.region id ops true).wp P Q base W0:=by
 have wpo : ∀ i o a w (K : Act→World→Prop),ops[i]? = some o→o.wp P a w K Q→wpOp P ops Q i K a w:=fun i o a w K ho h => by
  unfold wpOp
  simp only [ho,Region.wanted,hg i o ho,if_true]
  exact .inl h
 refine region_inv hm hlow (fun d a w => if d m = true then (Fin a w∧∀ i,i < m→d i = true) else Flow2 base H C T m d a w) ?_ ?_ ?_
 ·simp only [Bool.false_eq_true,if_false]
  exact ⟨h0,rfl,rfl,fun _ _ => rfl,fun _ _ h => by simp at h⟩
 ·intro d a w hd h
  rw [if_pos (hd m (by omega))] at h
  exact hend a w h.1
 ·intro d i o a w ho hdi hdep h
  refine wpo i o a w _ ho ?_
  have hi : i < m + 1:=by rw [← hsz]; exact (Array.getElem?_eq_some_iff.1 ho).1
  by_cases e : i = m
  ·subst e
   rw [if_neg (by rw [hdi]; simp)] at h
   have hd : ∀ j,j < i→d j = true:=fun j hj => by
    obtain ⟨o',ho',ed,he,hb,rfl⟩:=hall j hj
    rw [ho] at ho'
    obtain rfl:=Option.some.inj ho'
    exact hdep ed he hb
   refine hlast d o a w _ ho hd h (fun a' w' hf => ?_)
   rw [if_pos (came_self d i)]
   exact ⟨hf,fun j hj => by rw [came_ne d (by omega)]; exact hd j hj⟩
  ·have him : i < m:=by omega
   by_cases hdm : d m = true
   ·exfalso
    rw [if_pos hdm] at h
    rw [h.2 i him] at hdi
    simp at hdi
   ·rw [if_neg hdm] at h
    refine hstep d i o a w _ him ho hdi h.mem (fun t ht => h.eval t ht) (fun ed he hb => ⟨hdep ed he hb,h.has _ (by have:=hlow i o ho ed he hb; omega) (hdep ed he hb)⟩) (fun v w' hH hC hv => ?_)
    rw [if_neg (by rw [came_ne d (Ne.symm e)]; exact hdm)]
    exact h.next hinj hT i him v w' hH hC hv
end Go.Proofs.YtndcigdphgojpaaGreatDoor

namespace Go.Proofs.YtndcigdphgojpaaGreatDoor
open Go.RowKit

def Down (ops : Array Oper) (d : Nat→Bool) : Prop:=∀ i o,ops[i]? = some o→d i = true→∀ e ∈ o.after,Region.binds .any e = true→d e.on = true
structure Run (W : World) (ops : Array Oper) (base : Act) (C : Nat→World→Value→Prop) (T : Nat→Nat) (d : Nat→Bool) (a : Act) (w : World) : Prop where
 down : Down ops d
 but : But [] W w
 size : a.tmps.size = base.tmps.size
 defers : a.defers = base.defers
 rest : ∀ t,(∀ j,j < ops.size→d j = true→t ≠ T j)→a.tmps[t]? = base.tmps[t]?
 has : ∀ i,i < ops.size→d i = true→C i w (a.eval (.tmp (T i)))
theorem Run.eval {W : World} {ops : Array Oper} {base : Act} {C : Nat→World→Value→Prop} {T : Nat→Nat} {d : Nat→Bool} {a : Act} {w : World} (h : Run W ops base C T d a w) (t : Nat) (ht : ∀ j,j < ops.size→d j = true→t ≠ T j) : a.eval (.tmp t) = base.eval (.tmp t):=by
 show a.tmps.getD t undef = base.tmps.getD t undef
 simp only [Array.getD_eq_getD_getElem?,h.rest t ht]
theorem Run.next {W : World} {ops : Array Oper} {base : Act} {C : Nat→World→Value→Prop} {T : Nat→Nat} {d : Nat→Bool} {a : Act} {w : World} (h : Run W ops base C T d a w)
  (hinj : ∀ i j,i < ops.size→j < ops.size→T i = T j→i = j) (hT : ∀ i,i < ops.size→T i < base.tmps.size) (hC : ∀ i w w' v,i < ops.size→C i w v→But [] w w'→C i w' v)
  (i : Nat) (o : Oper) (ho : ops[i]? = some o) (hdep : ∀ e ∈ o.after,Region.binds .any e = true→d e.on = true) (v : Value) (w' : World) (hb : But [] w w') (hv : C i w' v) : Run W ops base C T (came d i) (a.put (some (T i)) v) w':=by
 have hi : i < ops.size:=(Array.getElem?_eq_some_iff.1 ho).1
 refine ⟨fun j oj hj hd e he hbi => ?_,h.but.trans' hb,by rw [size_putted]; exact h.size,h.defers,fun t ht => ?_,fun j hj hd => ?_⟩
 ·by_cases e1 : e.on = i
  ·rw [e1]; exact came_self d i
  ·rw [came_ne d e1]
   by_cases e2 : j = i
   ·subst e2
    rw [ho] at hj
    obtain rfl:=Option.some.inj hj
    exact hdep e he hbi
   ·rw [came_ne d e2] at hd
    exact h.down j oj hj hd e he hbi
 ·rw [slot_put,if_neg (fun e => ht i hi (came_self d i) e.symm)]
  exact h.rest t (fun j hj hd => by
   by_cases e : j = i
   ·subst e; exact ht j hj (came_self d j)
   ·exact ht j hj (by rw [came_ne d e]; exact hd))
 ·by_cases e : j = i
  ·subst e
   rw [at_eq a (T j) v (by rw [h.size]; exact hT j hj)]
   exact hv
  ·rw [came_ne d e] at hd
   rw [at_ne a (T i) (T j) v (fun e2 => e (hinj j i hj hi e2))]
   exact hC j w w' _ hj (h.has j hj hd) hb

/-- every operation writes the slot T says; one with a test stands behind it -/
def plainOps (ops : Array Oper) (T : Nat→Nat) : Bool:=(List.range ops.size).all fun i => match ops[i]? with
 | some o => (o.dst == some (T i)) && (match o.guard with | none => true | some (j,_) => decide (j < ops.size) && o.after.any fun e => Region.binds .any e && e.on == j)
 | none => true
theorem plain_of {ops : Array Oper} {T : Nat→Nat} (h : plainOps ops T = true) : ∀ (i : Nat) (o : Oper),ops[i]? = some o→o.dst = some (T i)∧∀ j want,o.guard = some (j,want)→j < ops.size∧∃ e ∈ o.after,Region.binds .any e = true∧e.on = j:=fun i o ho => by
 have hi : i < ops.size:=(Array.getElem?_eq_some_iff.1 ho).1
 unfold plainOps at h
 rw [List.all_eq_true] at h
 have h1:=h i (List.mem_range.2 hi)
 simp only [ho,Bool.and_eq_true,beq_iff_eq] at h1
 refine ⟨h1.1,fun j want hg => ?_⟩
 have h2:=h1.2
 rw [hg] at h2
 simp only [Bool.and_eq_true,decide_eq_true_eq] at h2
 refine ⟨h2.1,?_⟩
 have h3:=h2.2
 rw [Array.any_eq_true] at h3
 obtain ⟨k,hk,h4⟩:=h3
 simp only [Bool.and_eq_true,beq_iff_eq] at h4
 exact ⟨o.after[k],Array.getElem_mem hk,h4.1,h4.2⟩
theorem region_go {P : Program} {id : Nat} {ops : Array Oper} {Q : Exit→Act→World→Prop} {base : Act} {W0 : World} (hm : P.follows .mixedOrders = true)
  (hlow : ∀ i o,ops[i]? = some o→∀ e ∈ o.after,Region.binds .any e = true→e.on < i)
  (C : Nat→World→Value→Prop) (T : Nat→Nat) (hpl : plainOps ops T = true)
  (hgd : ∀ (i : Nat) (o : Oper) (j : Nat) (want : Bool),ops[i]? = some o→o.guard = some (j,want)→∀ w v,C j w v→v = .bool want)
  (hinj : ∀ i j,i < ops.size→j < ops.size→T i = T j→i = j) (hT : ∀ i,i < ops.size→T i < base.tmps.size) (hC : ∀ i w w' v,i < ops.size→C i w v→But [] w w'→C i w' v)
  (hstep : ∀ (i : Nat) (o : Oper) (a : Act) (w : World) (K : Act→World→Prop),ops[i]? = some o→But [] W0.drew w→(∀ t,(∀ j,j < ops.size→t = T j→∃ oj,ops[j]? = some oj∧∃ e ∈ oj.after,Region.binds .any e = true∧e.on = i)→a.eval (.tmp t) = base.eval (.tmp t))→(∀ e ∈ o.after,Region.binds .any e = true→C e.on w (a.eval (.tmp (T e.on))))→(∀ v w',But [] w w'→C i w' v→K (a.put o.dst v) w')→o.wp P a w K Q)
  (hend : ∀ a w,Run W0.drew ops base C T (fun _ => true) a w→Q .normal a w) :
  (Code.region id ops true).wp P Q base W0:=by
 have hp:=plain_of hpl
 refine region_inv hm hlow (fun d a w => Run W0.drew ops base C T d a w) ?_ ?_ ?_
 ·exact ⟨fun _ _ _ h => by simp at h,But.refl _ _,rfl,rfl,fun _ _ => rfl,fun _ _ h => by simp at h⟩
 ·intro d a w hd h
  refine hend a w ⟨fun _ _ _ _ _ _ _ => rfl,h.but,h.size,h.defers,fun t ht => h.rest t (fun j hj _ => ht j hj rfl),fun i hi _ => h.has i hi (hd i hi)⟩
 ·intro d i o a w ho hdi hdep h
  have hi : i < ops.size:=(Array.getElem?_eq_some_iff.1 ho).1
  obtain ⟨hdst,hg⟩:=hp i o ho
  have hw : Region.wanted o (yielded ops a.tmps) = true:=by
   unfold Region.wanted
   cases hgo : o.guard with
   | none => rfl
   | some jw =>
    obtain ⟨j,want⟩:=jw
    obtain ⟨hj,e,he,hbi,hon⟩:=hg j want hgo
    have hdj : d j = true:=by rw [← hon]; exact hdep e he hbi
    have hv:=hgd i o j want ho hgo w _ (h.has j hj hdj)
    have hoj:=Array.getElem?_eq_getElem hj
    have hdj2:=(hp j _ hoj).1
    have hsl:=slot_is hv (by rw [h.size]; exact hT j hj)
    show (yielded ops a.tmps j == some want) = true
    unfold yielded
    rw [hoj,Option.bind_some,hdj2,Option.bind_some,hsl]
    simp
  unfold wpOp
  simp only [ho,hw,if_true]
  refine .inl (hstep i o a w _ ho h.but (fun t ht => h.eval t (fun j hj hd e => ?_)) (fun e he hb => h.has _ (by have:=hlow i o ho e he hb; omega) (hdep e he hb)) (fun v w' hb hv => ?_))
  ·obtain ⟨oj,hoj,ed,hed,hbi,hon⟩:=ht j hj e
   have:=h.down j oj hoj hd ed hed hbi
   rw [hon,hdi] at this
   simp at this
  ·rw [hdst]
   exact h.next hinj hT hC i o ho hdep v w' hb hv
theorem Run.puts {W : World} {ops : Array Oper} {base : Act} {C : Nat→World→Value→Prop} {T : Nat→Nat} {a : Act} {w : World} (h : Run W ops base C T (fun _ => true) a w) (hT : ∀ i,i < ops.size→T i < base.tmps.size) (V : Nat→Value) (hV : ∀ i,i < ops.size→a.eval (.tmp (T i)) = V i) : a = putted base ((List.range ops.size).map fun i => (T i,V i)):=by
 refine putted_eq _ base a h.defers h.size (fun p hp => ?_) (fun t ht => ?_)
 ·obtain ⟨i,hi,rfl⟩:=List.mem_map.1 hp
  have hi':=List.mem_range.1 hi
  exact slot_is (hV i hi') (by rw [h.size]; exact hT i hi')
 ·refine h.rest t (fun j hj _ e => ?_)
  exact ht (T j,V j) (List.mem_map.2 ⟨j,List.mem_range.2 hj,rfl⟩) e
end Go.Proofs.YtndcigdphgojpaaGreatDoor

namespace Go.Proofs.YtndcigdphgojpaaGreatDoor
open Go.RowKit

theorem setCell_is (w : World) (g k : Nat) (v : Value) : w.setCell ⟨g,k,none⟩ v = w.setCells g k [v]:=rfl
theorem made_oneA (z : Value) (n k : Nat) (h : k < n) : (madeCells #[z] n)[k]? = some z:=by
 unfold madeCells
 rw [Array.getElem?_map,Array.getElem?_eq_getElem (by simpa using h),Array.getElem_range,Option.map_some]
 have e : k % (#[z] : Array Value).size = 0:=by simp [Nat.mod_one]
 rw [e]
 rfl
end Go.Proofs.YtndcigdphgojpaaGreatDoor
