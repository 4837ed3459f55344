/- Regions that draw their order: what holds ahead of each operation, whatever has come, holds of the region; two values made, two places made, each stored. -/
import Derived.Deep.RegionHeld
import Derived.RangeFuncCalls
import Derived.OrdersIn
import Derived.Test.YtloojmaamaambaaGreatDoorKBBase
namespace Go.Proofs.YtloojmaamaambaaGreatDoor
open Go.RowKit

/-- what has come, and one more -/
def came (d : Nat→Bool) (i : Nat) : Nat→Bool:=fun j => if j = i then true else d j
theorem came_self (d : Nat→Bool) (i : Nat) : came d i i = true:=by simp [came]
theorem came_ne (d : Nat→Bool) {i j : Nat} (h : j ≠ i) : came d i j = d j:=by simp [came,h]

theorem region_inv {P : Program} {id : Nat} {ops : Array Oper} {Q : Exit→Act→World→Prop} {base : Act} {W0 : World} (hm : P.follows .mixedOrders = true)
  (hlow : ∀ i o,ops[i]? = some o→∀ e ∈ o.after,Region.binds .any e = true→e.on < i)
  (J : (Nat→Bool)→Act→World→Prop) (h0 : J (fun _ => false) base W0.drew)
  (hend : ∀ d a w,(∀ i,i < ops.size→d i = true)→J d a w→Q .normal a w)
  (hstep : ∀ d i o a w,ops[i]? = some o→d i = false→(∀ e ∈ o.after,Region.binds .any e = true→d e.on = true)→J d a w→wpOp P ops Q i (J (came d i)) a w) :
  (Code.region id ops true).wp P Q base W0:=by
 refine wp_region_any hm ?_
 show wpAny P .any ops Q ops.size (Array.replicate ops.size false) base W0.drew
 have none_ready : ∀ (l : Array Bool),l.toList.count false = 0→Region.ready .any ops l = []:=fun l hc => by
  refine List.eq_nil_iff_forall_not_mem.2 fun i hi => ?_
  obtain ⟨hf,o,ho,hd⟩:=mem_ready.1 hi
  rw [List.count_eq_zero] at hc
  rcases Nat.lt_or_ge i l.size with h1 | h1
  ·simp only [Array.getD_eq_getD_getElem?,Array.getElem?_eq_getElem h1,Option.getD_some] at hf
   exact hc (by rw [← hf]; exact Array.getElem_mem_toList h1)
  ·simp [Array.getElem?_eq_none h1] at hf
 have end_ : ∀ (l : Array Bool) a w,l.size = ops.size→J (fun i => l.getD i false) a w→Region.ready .any ops l = []→Q .normal a w:=fun l a w hs hJ hr => by
  refine hend _ a w (fun i => ?_) hJ
  induction i using Nat.strongRecOn with
  | _ i ih =>
   intro hi
   cases e : l.getD i false with
   | true => rfl
   | false =>
    exfalso
    have hmem : i ∈ Region.ready .any ops l:=mem_ready.2 ⟨by
     simp only [Array.getD_eq_getD_getElem?,Array.getElem?_eq_getElem (show i < l.size by omega),Option.getD_some] at e ⊢
     exact e,ops[i],Array.getElem?_eq_getElem hi,fun e he hb => by
      have hl:=hlow i ops[i] (Array.getElem?_eq_getElem hi) e he hb
      exact ih e.on hl (by omega)⟩
    rw [hr] at hmem
    simp at hmem
 have key : ∀ n (l : Array Bool) a w,l.size = ops.size∧l.toList.count false = n∧J (fun i => l.getD i false) a w→wpAny P .any ops Q n l a w:=by
  intro n
  induction n with
  | zero => rintro l a w ⟨hs,hc,hJ⟩; exact ⟨none_ready l hc,end_ l a w hs hJ (none_ready l hc)⟩
  | succ n ih =>
   rintro l a w ⟨hs,hc,hJ⟩
   refine ⟨end_ l a w hs hJ,fun i hi => ?_⟩
   obtain ⟨hf,o,ho,hd⟩:=mem_ready.1 hi
   have hlt : i < l.size:=by rw [hs]; exact (Array.getElem?_eq_some_iff.1 ho).1
   have hg : l[i] = false:=by simpa [hlt] using hf
   have hf' : l.getD i false = false:=by simp [hlt,hg]
   refine wpOp_mono (fun a' w' h' => ih _ a' w' ⟨by simp [hs],?_,?_⟩) (hstep _ i o a w ho hf' hd hJ)
   ·rw [Array.toList_setIfInBounds,List.count_set (by simpa using hlt)]
    simp [hg,hc]
   ·have e : (fun j => (l.setIfInBounds i true).getD j false) = came (fun j => l.getD j false) i:=funext fun j => by
     by_cases hj : j = i
     ·subst hj; simp [came,hlt]
     ·simp [came,hj,Array.getElem?_setIfInBounds_ne (Ne.symm hj)]
    rw [e]; exact h'
 exact key _ _ _ _ ⟨by simp,by simp,by
  have e : (fun i => (Array.replicate ops.size false).getD i false) = fun _ => false:=funext fun i => by
   simp only [Array.getD_eq_getD_getElem?,Array.getElem?_replicate]
   split <;> rfl
  rw [e]; exact h0⟩

theorem at_ne (a : Act) (d t : Nat) (v : Value) (h : t ≠ d) : (a.put (some d) v).eval (.tmp t) = a.eval (.tmp t):=by
 show (a.tmps.setIfInBounds d v).getD t undef = a.tmps.getD t undef
 simp only [Array.getD_eq_getD_getElem?,Array.getElem?_setIfInBounds_ne (Ne.symm h)]
theorem at_eq (a : Act) (d : Nat) (v : Value) (h : d < a.tmps.size) : (a.put (some d) v).eval (.tmp d) = v:=by
 show (a.tmps.setIfInBounds d v).getD d undef = v
 simp [h]
theorem slot_is {a : Act} {t : Nat} {v : Value} (h : a.eval (.tmp t) = v) (hs : t < a.tmps.size) : a.tmps[t]? = some v:=by
 have e : a.tmps.getD t undef = v:=h
 rw [Array.getD_eq_getD_getElem?,Array.getElem?_eq_getElem hs] at e
 rw [Array.getElem?_eq_getElem hs]
 exact congrArg some e
theorem slot_put (a : Act) (d t : Nat) (v : Value) : (a.put (some d) v).tmps[t]? = if d = t then (if d < a.tmps.size then some v else none) else a.tmps[t]?:=by
 show (a.tmps.setIfInBounds d v)[t]? = _
 rw [Array.getElem?_setIfInBounds]
theorem size_putted (a : Act) (d : Nat) (v : Value) : (a.put (some d) v).tmps.size = a.tmps.size:=by
 show (a.tmps.setIfInBounds d v).size = a.tmps.size
 simp
/-- values put into slots, one after the other -/
def putted (base : Act) (ps : List (Nat × Value)) : Act:=ps.foldl (fun b p => b.put (some p.1) p.2) base
theorem putted_eq : ∀ (ps : List (Nat × Value)) (base a : Act),a.defers = base.defers→a.tmps.size = base.tmps.size→(∀ p ∈ ps,a.tmps[p.1]? = some p.2)→(∀ t,(∀ p ∈ ps,t ≠ p.1)→a.tmps[t]? = base.tmps[t]?)→a = putted base ps
 | [],base,a,h1,_,_,h4 => by
  cases a
  cases base
  simp only at h1 h4
  show Act.mk _ _ = Act.mk _ _
  rw [Array.ext_getElem? (fun t => h4 t (fun p hp => by simp at hp)),h1]
 | (d,v) :: ps,base,a,h1,h2,h3,h4 => by
  have hd:=h3 (d,v) (by simp)
  simp only at hd
  have hlt : d < base.tmps.size:=by
   rw [← h2]
   exact (Array.getElem?_eq_some_iff.1 hd).1
  refine putted_eq ps (base.put (some d) v) a h1 (by rw [size_putted]; exact h2) (fun p hp => h3 p (by simp [hp])) (fun t ht => ?_)
  rw [slot_put]
  by_cases e : d = t
  ·subst e
   rw [if_pos rfl,if_pos hlt]
   exact hd
  ·rw [if_neg e]
   refine h4 t (fun p hp => ?_)
   rcases List.mem_cons.1 hp with rfl | hp
   ·exact Ne.symm e
   ·exact ht p hp

theorem rest_eval {base a : Act} {t : Nat} (h : a.tmps[t]? = base.tmps[t]?) : a.eval (.tmp t) = base.eval (.tmp t):=by
 show a.tmps.getD t undef = base.tmps.getD t undef
 simp only [Array.getD_eq_getD_getElem?,h]
end Go.Proofs.YtloojmaamaambaaGreatDoor

namespace Go.Proofs.YtloojmaamaambaaGreatDoor
open Go.RowKit

theorem wp_value {P : Program} {Q : Exit→Act→World→Prop} {K : Act→World→Prop} {a : Act} {w w' : World} {o : Oper} {v : Value} (hr : (execOp a.eval o).run P w = .ok (.value v) w') (h : K (a.put o.dst v) w') : o.wp P a w K Q:=by
 unfold Oper.wp
 rw [hr]
 exact h
theorem wp_skipped {P : Program} {Q : Exit→Act→World→Prop} {K : Act→World→Prop} {a : Act} {w w' : World} {o : Oper} (hr : (execOp a.eval o).run P w = .ok .skip w') (h : K (a.put o.dst undef) w') : o.wp P a w K Q:=by
 unfold Oper.wp
 rw [hr]
 exact h
theorem wp_enter {P : Program} {Q : Exit→Act→World→Prop} {K : Act→World→Prop} {a : Act} {w : World} {o : Oper} {f : FuncId} {args : Array Value} (hr : (execOp a.eval o).run P w = .ok (.enter f args) w) {R : World→Value→Prop} (hc : Calls P f args w fun e w' => ∃ v,e = .returned v∧R w' v) (h : ∀ v w',R w' v→K (a.put o.dst v) w') : o.wp P a w K Q:=by
 unfold Oper.wp
 rw [hr]
 refine hc.mono ?_
 rintro e w' ⟨v,rfl,hv⟩
 exact h v w' hv
end Go.Proofs.YtloojmaamaambaaGreatDoor

namespace Go.Proofs.YtloojmaamaambaaGreatDoor
open Go.RowKit

structure Flow2 (base : Act) (H : (Nat→Bool)→World→Prop) (C : Nat→World→Value→Prop) (T : Nat→Nat) (m : Nat) (d : Nat→Bool) (a : Act) (w : World) : Prop where
 mem : H d w
 size : a.tmps.size = base.tmps.size
 defers : a.defers = base.defers
 rest : ∀ t,(∀ j,j < m→t ≠ T j)→a.tmps[t]? = base.tmps[t]?
 has : ∀ i,i < m→d i = true→C i w (a.eval (.tmp (T i)))
theorem Flow2.next {base : Act} {H : (Nat→Bool)→World→Prop} {C : Nat→World→Value→Prop} {T : Nat→Nat} {m : Nat} {d : Nat→Bool} {a : Act} {w : World} (h : Flow2 base H C T m d a w)
  (hinj : ∀ i j,i < m→j < m→T i = T j→i = j) (hT : ∀ i,i < m→T i < base.tmps.size)
  (i : Nat) (hi : i < m) (v : Value) (w' : World) (hH : H (came d i) w') (hC : ∀ j,j < m→d j = true→∀ u,C j w u→C j w' u) (hv : C i w' v) : Flow2 base H C T m (came d i) (a.put (some (T i)) v) w' where
 mem:=hH
 size:=by rw [size_putted]; exact h.size
 defers:=h.defers
 rest:=fun t ht => by rw [slot_put,if_neg (fun e => ht i hi e.symm)]; exact h.rest t ht
 has:=fun j hj hd => by
  by_cases e : j = i
  ·subst e
   rw [at_eq a (T j) v (by rw [h.size]; exact hT j hj)]
   exact hv
  ·rw [came_ne d e] at hd
   rw [at_ne a (T i) (T j) v (fun e2 => e (hinj j i hj hi e2))]
   exact hC j hj hd _ (h.has j hj hd)
theorem Flow2.eval {base : Act} {H : (Nat→Bool)→World→Prop} {C : Nat→World→Value→Prop} {T : Nat→Nat} {m : Nat} {d : Nat→Bool} {a : Act} {w : World} (h : Flow2 base H C T m d a w) (t : Nat) (ht : ∀ j,j < m→t ≠ T j) : a.eval (.tmp t) = base.eval (.tmp t):=by
 show a.tmps.getD t undef = base.tmps.getD t undef
 simp only [Array.getD_eq_getD_getElem?,h.rest t ht]

theorem Flow2.puts {base : Act} {H : (Nat→Bool)→World→Prop} {C : Nat→World→Value→Prop} {T : Nat→Nat} {m : Nat} {d : Nat→Bool} {a : Act} {w : World} (h : Flow2 base H C T m d a w) (hT : ∀ i,i < m→T i < base.tmps.size) (V : Nat→Value) (hV : ∀ i,i < m→a.eval (.tmp (T i)) = V i) : a = putted base ((List.range m).map fun i => (T i,V i)):=by
 refine putted_eq _ base a h.defers h.size (fun p hp => ?_) (fun t ht => ?_)
 ·obtain ⟨i,hi,rfl⟩:=List.mem_map.1 hp
  have hi':=List.mem_range.1 hi
  exact slot_is (hV i hi') (by rw [h.size]; exact hT i hi')
 ·refine h.rest t (fun j hj e => ?_)
  exact ht (T j,V j) (List.mem_map.2 ⟨j,List.mem_range.2 hj,rfl⟩) e
theorem putted_snoc (base : Act) (l : List (Nat × Value)) (t : Nat) (v : Value) : (putted base l).put (some t) v = putted base (l ++ [(t,v)]):=by
 unfold putted
 rw [List.foldl_append]
 rfl

theorem region_flow {P : Program} {id : Nat} {ops : Array Oper} {Q : Exit→Act→World→Prop} {base : Act} {W0 : World} (hm : P.follows .mixedOrders = true)
  (hlow : ∀ i o,ops[i]? = some o→∀ e ∈ o.after,Region.binds .any e = true→e.on < i)
  (hg : ∀ (i : Nat) (o : Oper),ops[i]? = some o→o.guard = none)
  (H : (Nat→Bool)→World→Prop) (C : Nat→World→Value→Prop) (T : Nat→Nat) (m : Nat) (hsz : ops.size = m + 1)
  (hinj : ∀ i j,i < m→j < m→T i = T j→i = j) (hT : ∀ i,i < m→T i < base.tmps.size) (h0 : H (fun _ => false) W0.drew)
  (hall : ∀ i,i < m→∃ o,ops[m]? = some o∧∃ e ∈ o.after,Region.binds .any e = true∧e.on = i)
  (hstep : ∀ (d : Nat→Bool) (i : Nat) (o : Oper) (a : Act) (w : World) (K : Act→World→Prop),i < m→ops[i]? = some o→d i = false→H d w→(∀ t,(∀ j,j < m→t ≠ T j)→a.eval (.tmp t) = base.eval (.tmp t))→(∀ e ∈ o.after,Region.binds .any e = true→d e.on = true∧C e.on w (a.eval (.tmp (T e.on))))→(∀ v w',H (came d i) w'→(∀ j,j < m→d j = true→∀ u,C j w u→C j w' u)→C i w' v→K (a.put (some (T i)) v) w')→o.wp P a w K Q)
  (Fin : Act→World→Prop)
  (hlast : ∀ (d : Nat→Bool) (o : Oper) (a : Act) (w : World) (K : Act→World→Prop),ops[m]? = some o→(∀ i,i < m→d i = true)→Flow2 base H C T m d a w→(∀ a' w',Fin a' w'→K a' w')→o.wp P a w K Q)
  (hend : ∀ a w,Fin a w→Q .normal a w) :
  (Code.region id ops true).wp P Q base W0:=by
 have wpo : ∀ i o a w (K : Act→World→Prop),ops[i]? = some o→o.wp P a w K Q→wpOp P ops Q i K a w:=fun i o a w K ho h => by
  unfold wpOp
  simp only [ho,Region.wanted,hg i o ho,if_true]
  exact .inl h
 refine region_inv hm hlow (fun d a w => if d m = true then (Fin a w∧∀ i,i < m→d i = true) else Flow2 base H C T m d a w) ?_ ?_ ?_
 ·simp only [Bool.false_eq_true,if_false]
  exact ⟨h0,rfl,rfl,fun _ _ => rfl,fun _ _ h => by simp at h⟩
 ·intro d a w hd h
  rw [if_pos (hd m (by omega))] at h
  exact hend a w h.1
 ·intro d i o a w ho hdi hdep h
  refine wpo i o a w _ ho ?_
  have hi : i < m + 1:=by rw [← hsz]; exact (Array.getElem?_eq_some_iff.1 ho).1
  by_cases e : i = m
  ·subst e
   rw [if_neg (by rw [hdi]; simp)] at h
   have hd : ∀ j,j < i→d j = true:=fun j hj => by
    obtain ⟨o',ho',ed,he,hb,rfl⟩:=hall j hj
    rw [ho] at ho'
    obtain rfl:=Option.some.inj ho'
    exact hdep ed he hb
   refine hlast d o a w _ ho hd h (fun a' w' hf => ?_)
   rw [if_pos (came_self d i)]
   exact ⟨hf,fun j hj => by rw [came_ne d (by omega)]; exact hd j hj⟩
  ·have him : i < m:=by omega
   by_cases hdm : d m = true
   ·exfalso
    rw [if_pos hdm] at h
    rw [h.2 i him] at hdi
    simp at hdi
   ·rw [if_neg hdm] at h
    refine hstep d i o a w _ him ho hdi h.mem (fun t ht => h.eval t ht) (fun ed he hb => ⟨hdep ed he hb,h.has _ (by have:=hlow i o ho ed he hb; omega) (hdep ed he hb)⟩) (fun v w' hH hC hv => ?_)
    rw [if_neg (by rw [came_ne d (Ne.symm e)]; exact hdm)]
    exact h.next hinj hT i him v w' hH hC hv
end Go.Proofs.YtloojmaamaambaaGreatDoor

namespace Go.Proofs.YtloojmaamaambaaGreatDoor
open Go.RowKit

theorem region_flow4 {P : Program} {id : Nat} {ops : Array Oper} {Q : Exit→Act→World→Prop} {base : Act} {W0 : World} (hm : P.follows .mixedOrders = true)
  (hlow : ∀ i o,ops[i]? = some o→∀ e ∈ o.after,Region.binds .any e = true→e.on < i)
  (hg : ∀ (i : Nat) (o : Oper),ops[i]? = some o→o.guard = none)
  (H : World→Prop) (hH0 : H W0.drew) (hHB : ∀ w w',H w→But [] w w'→H w') (C : Nat→World→Value→Prop) (T : Nat→Nat) (m q ka : Nat) (hka : ka < m) (St : World→Value→Prop) (hsz : ops.size = m + 1)
  (hinj : ∀ i j,i < m→j < m→T i = T j→i = j) (hT : ∀ i,i < m→T i < base.tmps.size)
  (hC : ∀ i w w' v,i < m→C i w v→But [] w w'→C i w' v) (hCq : ∀ w v,C q w v) (hSt : ∀ w w' v,St w v→But [] w w'→St w' v)
  (hall : ∀ i,i < m→∃ o,ops[m]? = some o∧∃ e ∈ o.after,Region.binds .any e = true∧e.on = i)
  (hqk : ∃ o,ops[q]? = some o∧∃ e ∈ o.after,Region.binds .any e = true∧e.on = ka)
  (hstep : ∀ (i : Nat) (o : Oper) (a : Act) (w : World) (K : Act→World→Prop),i < m→i ≠ q→ops[i]? = some o→H w→(∀ t,(∀ j,j < m→t ≠ T j)→a.eval (.tmp t) = base.eval (.tmp t))→(∀ e ∈ o.after,Region.binds .any e = true→C e.on w (a.eval (.tmp (T e.on))))→(∀ v w',But [] w w'→C i w' v→K (a.put (some (T i)) v) w')→o.wp P a w K Q)
  (hmute : ∀ (o : Oper) (a : Act) (w : World) (K : Act→World→Prop),ops[q]? = some o→H w→(∀ t,(∀ j,j < m→t ≠ T j)→a.eval (.tmp t) = base.eval (.tmp t))→(∀ e ∈ o.after,Region.binds .any e = true→C e.on w (a.eval (.tmp (T e.on))))→(∀ w',H w'→(∀ j,j < m→∀ u,C j w u→C j w' u)→St w' (a.eval (.tmp (T ka)))→K a w')→o.wp P a w K Q)
  (Fin : Act→World→Prop)
  (hlast : ∀ (d : Nat→Bool) (o : Oper) (a : Act) (w : World) (K : Act→World→Prop),ops[m]? = some o→(∀ i,i < m→d i = true)→Flow2 base (fun _ w => H w) C T m d a w→St w (a.eval (.tmp (T ka)))→(∀ a' w',Fin a' w'→K a' w')→o.wp P a w K Q)
  (hend : ∀ a w,Fin a w→Q .normal a w) (hqm : q < m) :
  (Code.region id ops true).wp P Q base W0:=by
 have wpo : ∀ i o a w (K : Act→World→Prop),ops[i]? = some o→o.wp P a w K Q→wpOp P ops Q i K a w:=fun i o a w K ho h => by
  unfold wpOp
  simp only [ho,Region.wanted,hg i o ho,if_true]
  exact .inl h
 refine region_inv hm hlow (fun d a w => if d m = true then (Fin a w∧∀ i,i < m→d i = true) else (Flow2 base (fun _ w => H w) C T m d a w∧(d q = true→d ka = true∧St w (a.eval (.tmp (T ka)))))) ?_ ?_ ?_
 ·simp only [Bool.false_eq_true,if_false]
  exact ⟨⟨hH0,rfl,rfl,fun _ _ => rfl,fun _ _ h => by simp at h⟩,fun h => by simp at h⟩
 ·intro d a w hd h
  rw [if_pos (hd m (by omega))] at h
  exact hend a w h.1
 ·intro d i o a w ho hdi hdep h
  refine wpo i o a w _ ho ?_
  have hi : i < m + 1:=by rw [← hsz]; exact (Array.getElem?_eq_some_iff.1 ho).1
  by_cases e : i = m
  ·subst e
   rw [if_neg (by rw [hdi]; simp)] at h
   have hd : ∀ j,j < i→d j = true:=fun j hj => by
    obtain ⟨o',ho',ed,he,hb,rfl⟩:=hall j hj
    rw [ho] at ho'
    obtain rfl:=Option.some.inj ho'
    exact hdep ed he hb
   refine hlast d o a w _ ho hd h.1 (h.2 (hd q hqm)).2 (fun a' w' hf => ?_)
   rw [if_pos (came_self d i)]
   exact ⟨hf,fun j hj => by rw [came_ne d (by omega)]; exact hd j hj⟩
  ·have him : i < m:=by omega
   by_cases hdm : d m = true
   ·exfalso
    rw [if_pos hdm] at h
    rw [h.2 i him] at hdi
    simp at hdi
   ·rw [if_neg hdm] at h
    obtain ⟨h,hs⟩:=h
    have hdp:=fun (ed : Edge) (he : ed ∈ o.after) (hb : Region.binds .any ed = true) => h.has _ (show ed.on < m by have:=hlow i o ho ed he hb; omega) (hdep ed he hb)
    by_cases eq : i = q
    ·subst eq
     refine hmute o a w _ ho h.mem (fun t ht => h.eval t ht) hdp (fun w' hB hCw hSw => ?_)
     rw [if_neg (by rw [came_ne d (Ne.symm e)]; exact hdm)]
     refine ⟨⟨hB,h.size,h.defers,h.rest,fun j hj hd => ?_⟩,fun _ => ?_⟩
     ·by_cases ej : j = i
      ·rw [ej]; exact hCq _ _
      ·rw [came_ne d ej] at hd
       exact hCw j hj _ (h.has j hj hd)
     ·obtain ⟨o',ho',ed,he,hb,ek⟩:=hqk
      rw [ho] at ho'
      obtain rfl:=Option.some.inj ho'
      have hk:=hdep ed he hb
      rw [ek] at hk
      have hne : ka ≠ i:=fun e2 => by rw [e2,hdi] at hk; simp at hk
      exact ⟨by rw [came_ne d hne]; exact hk,hSw⟩
    ·refine hstep i o a w _ him eq ho h.mem (fun t ht => h.eval t ht) hdp (fun v w' hB hv => ?_)
     rw [if_neg (by rw [came_ne d (Ne.symm e)]; exact hdm)]
     refine ⟨h.next hinj hT i him v w' (hHB _ _ h.mem hB) (fun j hj _ u hu => hC j w w' u hj hu hB) hv,fun hq => ?_⟩
     rw [came_ne d (Ne.symm eq)] at hq
     obtain ⟨h1,h2⟩:=hs hq
     have hne : ka ≠ i:=fun e2 => by rw [e2,hdi] at h1; simp at h1
     refine ⟨by rw [came_ne d hne]; exact h1,?_⟩
     rw [at_ne a (T i) (T ka) v (fun e2 => hne (hinj ka i hka him e2))]
     exact hSt w w' _ h2 hB
theorem region_flow3 {P : Program} {id : Nat} {ops : Array Oper} {Q : Exit→Act→World→Prop} {base : Act} {W0 : World} (hm : P.follows .mixedOrders = true)
  (hlow : ∀ i o,ops[i]? = some o→∀ e ∈ o.after,Region.binds .any e = true→e.on < i)
  (hg : ∀ (i : Nat) (o : Oper),ops[i]? = some o→o.guard = none)
  (C : Nat→World→Value→Prop) (T : Nat→Nat) (m q ka : Nat) (hka : ka < m) (St : World→Value→Prop) (hsz : ops.size = m + 1)
  (hinj : ∀ i j,i < m→j < m→T i = T j→i = j) (hT : ∀ i,i < m→T i < base.tmps.size)
  (hC : ∀ i w w' v,i < m→C i w v→But [] w w'→C i w' v) (hCq : ∀ w v,C q w v) (hSt : ∀ w w' v,St w v→But [] w w'→St w' v)
  (hall : ∀ i,i < m→∃ o,ops[m]? = some o∧∃ e ∈ o.after,Region.binds .any e = true∧e.on = i)
  (hqk : ∃ o,ops[q]? = some o∧∃ e ∈ o.after,Region.binds .any e = true∧e.on = ka)
  (hstep : ∀ (i : Nat) (o : Oper) (a : Act) (w : World) (K : Act→World→Prop),i < m→i ≠ q→ops[i]? = some o→But [] W0.drew w→(∀ t,(∀ j,j < m→t ≠ T j)→a.eval (.tmp t) = base.eval (.tmp t))→(∀ e ∈ o.after,Region.binds .any e = true→C e.on w (a.eval (.tmp (T e.on))))→(∀ v w',But [] w w'→C i w' v→K (a.put (some (T i)) v) w')→o.wp P a w K Q)
  (hmute : ∀ (o : Oper) (a : Act) (w : World) (K : Act→World→Prop),ops[q]? = some o→But [] W0.drew w→(∀ t,(∀ j,j < m→t ≠ T j)→a.eval (.tmp t) = base.eval (.tmp t))→(∀ e ∈ o.after,Region.binds .any e = true→C e.on w (a.eval (.tmp (T e.on))))→(∀ w',But [] W0.drew w'→(∀ j,j < m→∀ u,C j w u→C j w' u)→St w' (a.eval (.tmp (T ka)))→K a w')→o.wp P a w K Q)
  (Fin : Act→World→Prop)
  (hlast : ∀ (d : Nat→Bool) (o : Oper) (a : Act) (w : World) (K : Act→World→Prop),ops[m]? = some o→(∀ i,i < m→d i = true)→Flow2 base (fun _ w => But [] W0.drew w) C T m d a w→St w (a.eval (.tmp (T ka)))→(∀ a' w',Fin a' w'→K a' w')→o.wp P a w K Q)
  (hend : ∀ a w,Fin a w→Q .normal a w) (hqm : q < m) :
  (Code.region id ops true).wp P Q base W0 :=
 region_flow4 hm hlow hg (fun w => But [] W0.drew w) (But.refl _ _) (fun _ _ h hb => h.trans' hb) C T m q ka hka St hsz hinj hT hC hCq hSt hall hqk hstep hmute Fin hlast hend hqm
end Go.Proofs.YtloojmaamaambaaGreatDoor

namespace Go.Proofs.YtloojmaamaambaaGreatDoor
open Go.RowKit

theorem region_flow2 {P : Program} {id : Nat} {ops : Array Oper} {Q : Exit→Act→World→Prop} {base : Act} {W0 : World} (hm : P.follows .mixedOrders = true)
  (hlow : ∀ i o,ops[i]? = some o→∀ e ∈ o.after,Region.binds .any e = true→e.on < i)
  (hg : ∀ (i : Nat) (o : Oper),ops[i]? = some o→o.guard = none)
  (H : (Nat→Bool)→World→Prop) (C : Nat→World→Value→Prop) (T : Nat→Nat) (m : Nat) (hsz : ops.size = m + 2)
  (hinj : ∀ i j,i < m→j < m→T i = T j→i = j) (hT : ∀ i,i < m→T i < base.tmps.size) (h0 : H (fun _ => false) W0.drew)
  (hall : ∀ i,i < m→∃ o,ops[m]? = some o∧∃ e ∈ o.after,Region.binds .any e = true∧e.on = i)
  (hall2 : ∃ o,ops[m + 1]? = some o∧∃ e ∈ o.after,Region.binds .any e = true∧e.on = m)
  (hstep : ∀ (d : Nat→Bool) (i : Nat) (o : Oper) (a : Act) (w : World) (K : Act→World→Prop),i < m→ops[i]? = some o→d i = false→H d w→(∀ t,(∀ j,j < m→t ≠ T j)→a.eval (.tmp t) = base.eval (.tmp t))→(∀ e ∈ o.after,Region.binds .any e = true→d e.on = true∧C e.on w (a.eval (.tmp (T e.on))))→(∀ v w',H (came d i) w'→(∀ j,j < m→d j = true→∀ u,C j w u→C j w' u)→C i w' v→K (a.put (some (T i)) v) w')→o.wp P a w K Q)
  (Fin Fin2 : Act→World→Prop)
  (hlast : ∀ (d : Nat→Bool) (o : Oper) (a : Act) (w : World) (K : Act→World→Prop),ops[m]? = some o→(∀ i,i < m→d i = true)→Flow2 base H C T m d a w→(∀ a' w',Fin a' w'→K a' w')→o.wp P a w K Q)
  (hlast2 : ∀ (o : Oper) (a : Act) (w : World) (K : Act→World→Prop),ops[m + 1]? = some o→Fin a w→(∀ a' w',Fin2 a' w'→K a' w')→o.wp P a w K Q)
  (hend : ∀ a w,Fin2 a w→Q .normal a w) :
  (Code.region id ops true).wp P Q base W0:=by
 have wpo : ∀ i o a w (K : Act→World→Prop),ops[i]? = some o→o.wp P a w K Q→wpOp P ops Q i K a w:=fun i o a w K ho h => by
  unfold wpOp
  simp only [ho,Region.wanted,hg i o ho,if_true]
  exact .inl h
 refine region_inv hm hlow (fun d a w => if d (m + 1) = true then (Fin2 a w∧∀ i,i < m + 1→d i = true) else if d m = true then (Fin a w∧∀ i,i < m→d i = true) else Flow2 base H C T m d a w) ?_ ?_ ?_
 ·simp only [Bool.false_eq_true,if_false]
  exact ⟨h0,rfl,rfl,fun _ _ => rfl,fun _ _ h => by simp at h⟩
 ·intro d a w hd h
  rw [if_pos (hd (m + 1) (by omega))] at h
  exact hend a w h.1
 ·intro d i o a w ho hdi hdep h
  refine wpo i o a w _ ho ?_
  have hi : i < m + 2:=by rw [← hsz]; exact (Array.getElem?_eq_some_iff.1 ho).1
  by_cases e2 : i = m + 1
  ·subst e2
   rw [if_neg (by rw [hdi]; simp)] at h
   have hdm : d m = true:=by
    obtain ⟨o',ho',ed,he,hb,e⟩:=hall2
    rw [ho] at ho'
    obtain rfl:=Option.some.inj ho'
    rw [← e]
    exact hdep ed he hb
   rw [if_pos hdm] at h
   refine hlast2 o a w _ ho h.1 (fun a' w' hf => ?_)
   rw [if_pos (came_self d (m + 1))]
   exact ⟨hf,fun j hj => by
    rw [came_ne d (by omega)]
    by_cases ej : j = m
    ·rw [ej]; exact hdm
    ·exact h.2 j (by omega)⟩
  by_cases hd2 : d (m + 1) = true
  ·exfalso
   rw [if_pos hd2] at h
   rw [h.2 i (by omega)] at hdi
   simp at hdi
  rw [if_neg hd2] at h
  by_cases e : i = m
  ·subst e
   rw [if_neg (by rw [hdi]; simp)] at h
   have hd : ∀ j,j < i→d j = true:=fun j hj => by
    obtain ⟨o',ho',ed,he,hb,rfl⟩:=hall j hj
    rw [ho] at ho'
    obtain rfl:=Option.some.inj ho'
    exact hdep ed he hb
   refine hlast d o a w _ ho hd h (fun a' w' hf => ?_)
   rw [if_neg (by rw [came_ne d (by omega)]; exact hd2),if_pos (came_self d i)]
   exact ⟨hf,fun j hj => by rw [came_ne d (by omega)]; exact hd j hj⟩
  ·have him : i < m:=by omega
   by_cases hdm : d m = true
   ·exfalso
    rw [if_pos hdm] at h
    rw [h.2 i him] at hdi
    simp at hdi
   ·rw [if_neg hdm] at h
    refine hstep d i o a w _ him ho hdi h.mem (fun t ht => h.eval t ht) (fun ed he hb => ⟨hdep ed he hb,h.has _ (by have:=hlow i o ho ed he hb; omega) (hdep ed he hb)⟩) (fun v w' hH hC hv => ?_)
    rw [if_neg (by rw [came_ne d (Ne.symm e2)]; exact hd2),if_neg (by rw [came_ne d (Ne.symm e)]; exact hdm)]
    exact h.next hinj hT i him v w' hH hC hv
end Go.Proofs.YtloojmaamaambaaGreatDoor
