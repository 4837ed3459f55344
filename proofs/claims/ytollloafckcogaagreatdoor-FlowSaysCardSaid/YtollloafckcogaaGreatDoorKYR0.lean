/- Regions that draw their order: what hold -/
import Derived.Deep.RegionHeld
import Derived.RangeFuncCalls
import Derived.OrdersIn
import Derived.Laws.AppendOwn
import Derived.Test.YtollloafckcogaaGreatDoorKYF3
namespace Go.Proofs.YtollloafckcogaaGreatDoor
open Go.RowKit
def came (d:Nat→Bool) (i:Nat):Nat→Bool:=fun j=>if j=i then true else d j
theorem came_self (d:Nat→Bool) (i:Nat):came d i i=true:=by simp [came]
theorem came_ne (d:Nat→Bool) {i j:Nat} (h:j≠i):came d i j=d j:=by simp [came,h]
theorem region_inv {P:Program} {id:Nat} {ops:Array Oper} {Q:Exit→Act→World→Prop} {base:Act} {W0:World} (hm:P.follows .mixedOrders=true)
  (hlow:∀ i o,ops[i]? = some o→∀ e ∈ o.after,Region.binds .any e=true→e.on<i)
  (J:(Nat→Bool)→Act→World→Prop) (h0:J (fun _=>false) base W0.drew)
  (hend:∀ d a w,(∀ i,i<ops.size→d i=true)→J d a w→Q .normal a w)
  (hstep:∀ d i o a w,ops[i]? = some o→d i=false→(∀ e ∈ o.after,Region.binds .any e=true→d e.on=true)→J d a w→wpOp P ops Q i (J (came d i)) a w) :
  (Code.region id ops true).wp P Q base W0:=by
 refine wp_region_any hm ?_
 show wpAny P .any ops Q ops.size (Array.replicate ops.size false) base W0.drew
 have none_ready:∀ (l:Array Bool),l.toList.count false=0→Region.ready .any ops l=[]:=fun l hc=>by
  refine List.eq_nil_iff_forall_not_mem.2 fun i hi=>?_
  obtain ⟨hf,o,ho,hd⟩:=mem_ready.1 hi
  rw [List.count_eq_zero] at hc
  rcases Nat.lt_or_ge i l.size with h1 | h1
  ·simp only [Array.getD_eq_getD_getElem?,Array.getElem?_eq_getElem h1,Option.getD_some] at hf
   exact hc (by rw [← hf];exact Array.getElem_mem_toList h1)
  ·simp [Array.getElem?_eq_none h1] at hf
 have end_:∀ (l:Array Bool) a w,l.size=ops.size→J (fun i=>l.getD i false) a w→Region.ready .any ops l=[]→Q .normal a w:=fun l a w hs hJ hr=>by
  refine hend _ a w (fun i=>?_) hJ
  induction i using Nat.strongRecOn with
  | _ i ih =>
   intro hi
   cases e:l.getD i false with
   | true=>rfl
   | false =>
    exfalso
    have hmem:i ∈ Region.ready .any ops l:=mem_ready.2 ⟨by
     simp only [Array.getD_eq_getD_getElem?,Array.getElem?_eq_getElem (show i<l.size by omega),Option.getD_some] at e ⊢
     exact e,ops[i],Array.getElem?_eq_getElem hi,fun e he hb=>by
      have hl:=hlow i ops[i] (Array.getElem?_eq_getElem hi) e he hb
      exact ih e.on hl (by omega)⟩
    rw [hr] at hmem
    simp at hmem
 have key:∀ n (l:Array Bool) a w,l.size=ops.size∧l.toList.count false=n∧J (fun i=>l.getD i false) a w→wpAny P .any ops Q n l a w:=by
  intro n
  induction n with
  | zero=>rintro l a w ⟨hs,hc,hJ⟩;exact ⟨none_ready l hc,end_ l a w hs hJ (none_ready l hc)⟩
  | succ n ih =>
   rintro l a w ⟨hs,hc,hJ⟩
   refine ⟨end_ l a w hs hJ,fun i hi=>?_⟩
   obtain ⟨hf,o,ho,hd⟩:=mem_ready.1 hi
   have hlt:i<l.size:=by rw [hs];exact (Array.getElem?_eq_some_iff.1 ho).1
   have hg:l[i]=false:=by simpa [hlt] using hf
   have hf':l.getD i false=false:=by simp [hlt,hg]
   refine wpOp_mono (fun a' w' h'=>ih _ a' w' ⟨by simp [hs],?_,?_⟩) (hstep _ i o a w ho hf' hd hJ)
   ·rw [Array.toList_setIfInBounds,List.count_set (by simpa using hlt)]
    simp [hg,hc]
   ·have e:(fun j=>(l.setIfInBounds i true).getD j false)=came (fun j=>l.getD j false) i:=funext fun j=>by
     by_cases hj:j=i
     ·subst hj;simp [came,hlt]
     ·simp [came,hj,Array.getElem?_setIfInBounds_ne (Ne.symm hj)]
    rw [e];exact h'
 exact key _ _ _ _ ⟨by simp,by simp,by
  have e:(fun i=>(Array.replicate ops.size false).getD i false)=fun _=>false:=funext fun i=>by
   simp only [Array.getD_eq_getD_getElem?,Array.getElem?_replicate]
   split <;> rfl
  rw [e];exact h0⟩
theorem at_ne (a:Act) (d t:Nat) (v:Value) (h:t≠d):(a.put (some d) v).eval (.tmp t)=a.eval (.tmp t):=by
 show (a.tmps.setIfInBounds d v).getD t undef=a.tmps.getD t undef
 simp only [Array.getD_eq_getD_getElem?,Array.getElem?_setIfInBounds_ne (Ne.symm h)]
theorem at_eq (a:Act) (d:Nat) (v:Value) (h:d<a.tmps.size):(a.put (some d) v).eval (.tmp d)=v:=by
 show (a.tmps.setIfInBounds d v).getD d undef=v
 simp [h]
theorem slot_is {a:Act} {t:Nat} {v:Value} (h:a.eval (.tmp t)=v) (hs:t<a.tmps.size):a.tmps[t]? = some v:=by
 have e:a.tmps.getD t undef=v:=h
 rw [Array.getD_eq_getD_getElem?,Array.getElem?_eq_getElem hs] at e
 rw [Array.getElem?_eq_getElem hs]
 exact congrArg some e
theorem slot_put (a:Act) (d t:Nat) (v:Value):(a.put (some d) v).tmps[t]? = if d=t then (if d<a.tmps.size then some v else none) else a.tmps[t]?:=by
 show (a.tmps.setIfInBounds d v)[t]? = _
 rw [Array.getElem?_setIfInBounds]
theorem size_putted (a:Act) (d:Nat) (v:Value):(a.put (some d) v).tmps.size=a.tmps.size:=by
 show (a.tmps.setIfInBounds d v).size=a.tmps.size
 simp
def putted (base:Act) (ps:List (Nat × Value)):Act:=ps.foldl (fun b p=>b.put (some p.1) p.2) base
theorem putted_eq:∀ (ps:List (Nat × Value)) (base a:Act),a.defers=base.defers→a.tmps.size=base.tmps.size→(∀ p ∈ ps,a.tmps[p.1]? = some p.2)→(∀ t,(∀ p ∈ ps,t≠p.1)→a.tmps[t]? = base.tmps[t]?)→a=putted base ps
 | [],base,a,h1,_,_,h4=>by
  cases a
  cases base
  simp only at h1 h4
  show Act.mk _ _=Act.mk _ _
  rw [Array.ext_getElem? (fun t=>h4 t (fun p hp=>by simp at hp)),h1]
 | (d,v)::ps,base,a,h1,h2,h3,h4=>by
  have hd:=h3 (d,v) (by simp)
  simp only at hd
  have hlt:d<base.tmps.size:=by
   rw [← h2]
   exact (Array.getElem?_eq_some_iff.1 hd).1
  refine putted_eq ps (base.put (some d) v) a h1 (by rw [size_putted];exact h2) (fun p hp=>h3 p (by simp [hp])) (fun t ht=>?_)
  rw [slot_put]
  by_cases e:d=t
  ·subst e
   rw [if_pos rfl,if_pos hlt]
   exact hd
  ·rw [if_neg e]
   refine h4 t (fun p hp=>?_)
   rcases List.mem_cons.1 hp with rfl | hp
   ·exact Ne.symm e
   ·exact ht p hp
theorem rest_eval {base a:Act} {t:Nat} (h:a.tmps[t]? = base.tmps[t]?):a.eval (.tmp t)=base.eval (.tmp t):=by
 show a.tmps.getD t undef=base.tmps.getD t undef
 simp only [Array.getD_eq_getD_getElem?,h]
end Go.Proofs.YtollloafckcogaaGreatDoor

namespace Go.Proofs.YtollloafckcogaaGreatDoor
open Go.RowKit
def lowOps (ops:Array Oper):Bool:=(List.range ops.size).all fun i=>match ops[i]? with
 | some o=>o.after.all fun e=>!(Region.binds .any e) || decide (e.on<i)
 | none=>true
theorem low_of {ops:Array Oper} (h:lowOps ops=true):∀ i o,ops[i]? = some o→∀ e ∈ o.after,Region.binds .any e=true→e.on<i:=fun i o ho e he hb=>by
 have hi:i<ops.size:=(Array.getElem?_eq_some_iff.1 ho).1
 unfold lowOps at h
 rw [List.all_eq_true] at h
 have h1:=h i (List.mem_range.2 hi)
 simp only [ho] at h1
 rw [Array.all_eq_true_iff_forall_mem] at h1
 have h2:=h1 e he
 simpa [hb] using h2
def depOps (ops:Array Oper) (ps:List (Nat × Nat)):Bool:=ps.all fun p=>match ops[p.1]? with
 | some o=>o.after.any fun e=>Region.binds .any e && e.on==p.2
 | none=>false
theorem dep_of {ops:Array Oper} {ps:List (Nat × Nat)} (h:depOps ops ps=true):∀ i j,(i,j) ∈ ps→∃ o,ops[i]? = some o∧∃ e ∈ o.after,Region.binds .any e=true∧e.on=j:=fun i j hij=>by
 unfold depOps at h
 rw [List.all_eq_true] at h
 have h1:=h (i,j) hij
 cases ho:ops[i]? with
 | none=>simp [ho] at h1
 | some o =>
  simp only [ho] at h1
  rw [Array.any_eq_true] at h1
  obtain ⟨k,hk,h2⟩:=h1
  simp only [Bool.and_eq_true,beq_iff_eq] at h2
  exact ⟨o,rfl,o.after[k],Array.getElem_mem hk,h2.1,h2.2⟩
def P4 (w:World) (g:Nat) (s:Bool) (x y:Int) (p:Option Addr):Prop:=w.cell? ⟨g,0,none⟩=some (.bool s)∧w.cell? ⟨g,1,none⟩=some (.int .u64 x)∧w.cell? ⟨g,2,none⟩=some (.int .u64 y)∧w.cell? ⟨g,3,none⟩=some (.pointer p)
theorem P4.but {w w':World} {g:Nat} {s:Bool} {x y:Int} {p:Option Addr} {l:List Nat} (h:P4 w g s x y p) (hb:But l w w') (hn:g ∉ l):P4 w' g s x y p:=⟨hb.cell_some h.1 hn,hb.cell_some h.2.1 hn,hb.cell_some h.2.2.1 hn,hb.cell_some h.2.2.2 hn⟩
theorem set_off (w:World) (b i j:Nat) (v:Value) (hij:i≠j):(w.setCell ⟨b,i,none⟩ v).cell? ⟨b,j,none⟩=w.cell? ⟨b,j,none⟩:=World.cell?_setCell_other w ⟨b,i,none⟩ ⟨b,j,none⟩ v (fun e=>hij (Addr.mk.inj e).2.1)
theorem set4_all (w:World) (b:Nat) (v0 v1 v2 v3:Value) (c0:(w.cell? ⟨b,0,none⟩).isSome=true) (c1:(w.cell? ⟨b,1,none⟩).isSome=true) (c2:(w.cell? ⟨b,2,none⟩).isSome=true) (c3:(w.cell? ⟨b,3,none⟩).isSome=true) :
  (∀ j,j<4→((((w.setCell ⟨b,0,none⟩ v0).setCell ⟨b,1,none⟩ v1).setCell ⟨b,2,none⟩ v2).setCell ⟨b,3,none⟩ v3).cell? ⟨b,j,none⟩=#[v0,v1,v2,v3][j]?)∧∀ j,4≤j→((((w.setCell ⟨b,0,none⟩ v0).setCell ⟨b,1,none⟩ v1).setCell ⟨b,2,none⟩ v2).setCell ⟨b,3,none⟩ v3).cell? ⟨b,j,none⟩=w.cell? ⟨b,j,none⟩:=by
 constructor
 ·intro j hj
  have:j=0∨j=1∨j=2∨j=3:=by omega
  rcases this with rfl | rfl | rfl | rfl
  ·rw [set_off _ _ 3 0 _ (by omega),set_off _ _ 2 0 _ (by omega),set_off _ _ 1 0 _ (by omega)]
   exact World.cell?_setCell_same' _ _ _ c0
  ·rw [set_off _ _ 3 1 _ (by omega),set_off _ _ 2 1 _ (by omega)]
   exact World.cell?_setCell_same' _ _ _ (by rw [set_off _ _ 0 1 _ (by omega)];exact c1)
  ·rw [set_off _ _ 3 2 _ (by omega)]
   exact World.cell?_setCell_same' _ _ _ (by rw [set_off _ _ 1 2 _ (by omega),set_off _ _ 0 2 _ (by omega)];exact c2)
  ·exact World.cell?_setCell_same' _ _ _ (by rw [set_off _ _ 2 3 _ (by omega),set_off _ _ 1 3 _ (by omega),set_off _ _ 0 3 _ (by omega)];exact c3)
 ·intro j hj
  rw [set_off _ _ 3 j _ (by omega),set_off _ _ 2 j _ (by omega),set_off _ _ 1 j _ (by omega),set_off _ _ 0 j _ (by omega)]
end Go.Proofs.YtollloafckcogaaGreatDoor

namespace Go.Proofs.YtollloafckcogaaGreatDoor
open Go.RowKit
def bareOps (ops:Array Oper):Bool:=(List.range ops.size).all fun i=>match ops[i]? with
 | some o=>o.guard.isNone
 | none=>true
theorem bare_of {ops:Array Oper} (h:bareOps ops=true):∀ (i:Nat) (o:Oper),ops[i]? = some o→o.guard=none:=fun i o ho=>by
 have hi:i<ops.size:=(Array.getElem?_eq_some_iff.1 ho).1
 unfold bareOps at h
 rw [List.all_eq_true] at h
 have h1:=h i (List.mem_range.2 hi)
 simp only [ho] at h1
 simpa using h1
theorem dep_is {ops:Array Oper} {ps:List (Nat × Nat)} (h:depOps ops ps=true) {i:Nat} {o:Oper} (ho:ops[i]? = some o) (R:Nat→Prop) (hdep:∀ e ∈ o.after,Region.binds .any e=true→R e.on) (j:Nat) (hij:(i,j) ∈ ps):R j:=by
 obtain ⟨o',ho',e,he,hb,rfl⟩:=dep_of h i j hij
 rw [ho] at ho'
 obtain rfl:=Option.some.inj ho'
 exact hdep e he hb
theorem does_value {P:Program} {Q:Exit→Act→World→Prop} {K:Act→World→Prop} {a:Act} {w w':World} {o:Oper} {v:Value} (hr:(execOp a.eval o).run P w=.ok (.value v) w') (h:K (a.put o.dst v) w'):o.wp P a w K Q:=by
 unfold Oper.wp
 rw [hr]
 exact h
theorem does_enter {P:Program} {Q:Exit→Act→World→Prop} {K:Act→World→Prop} {a:Act} {w:World} {o:Oper} {f:FuncId} {args:Array Value} (hr:(execOp a.eval o).run P w=.ok (.enter f args) w) {R:World→Value→Prop} (hc:Calls P f args w fun e w'=>∃ v,e=.returned v∧R w' v) (h:∀ v w',R w' v→K (a.put o.dst v) w'):o.wp P a w K Q:=by
 unfold Oper.wp
 rw [hr]
 refine hc.mono ?_
 rintro e w' ⟨v,rfl,hv⟩
 exact h v w' hv
def Closed (ops:Array Oper) (d:Nat→Bool):Prop:=∀ i o,ops[i]? = some o→d i=true→∀ e ∈ o.after,Region.binds .any e=true→d e.on=true
theorem Closed.dep {ops:Array Oper} {d:Nat→Bool} (h:Closed ops d) {ps:List (Nat × Nat)} (hp:depOps ops ps=true) {i j:Nat} (hij:(i,j) ∈ ps) (hd:d i=true):d j=true:=by
 obtain ⟨o,ho,e,he,hb,rfl⟩:=dep_of hp i j hij
 exact h i o ho hd e he hb
theorem Closed.not {ops:Array Oper} {d:Nat→Bool} (h:Closed ops d) {ps:List (Nat × Nat)} (hp:depOps ops ps=true) {i j:Nat} (hij:(i,j) ∈ ps) (hd:d j=false):d i=false:=by
 cases e:d i with
 | false=>rfl
 | true=>rw [h.dep hp hij e] at hd;simp at hd
theorem Closed.next {ops:Array Oper} {d:Nat→Bool} (h:Closed ops d) {i:Nat} {o:Oper} (ho:ops[i]? = some o) (hdep:∀ e ∈ o.after,Region.binds .any e=true→d e.on=true):Closed ops (came d i):=fun j oj hj hd e he hbi=>by
 by_cases e1:e.on=i
 ·rw [e1];exact came_self d i
 ·rw [came_ne d e1]
  by_cases e2:j=i
  ·subst e2
   rw [ho] at hj
   obtain rfl:=Option.some.inj hj
   exact hdep e he hbi
  ·rw [came_ne d e2] at hd
   exact h j oj hj hd e he hbi
structure Named {α:Type} (ops:Array Oper) (base:Act) (H:α→(Nat→Bool)→World→Prop) (V:α→Nat→Value) (T:Nat→Nat) (m:Nat) (d:Nat→Bool) (a:Act) (w:World) (N:α):Prop where
 down:Closed ops d
 mem:H N d w
 size:a.tmps.size=base.tmps.size
 defers:a.defers=base.defers
 rest:∀ t,(∀ j,j<m→t≠T j)→a.tmps[t]? = base.tmps[t]?
 has:∀ i,i<m→d i=true→a.eval (.tmp (T i))=V N i
theorem region_names {P:Program} {id:Nat} {ops:Array Oper} {Q:Exit→Act→World→Prop} {base:Act} {W0:World} (hm:P.follows .mixedOrders=true)
  (hlow:∀ i o,ops[i]? = some o→∀ e ∈ o.after,Region.binds .any e=true→e.on<i)
  (hg:∀ (i:Nat) (o:Oper),ops[i]? = some o→o.guard=none)
  {α:Type} (H:α→(Nat→Bool)→World→Prop) (V:α→Nat→Value) (T:Nat→Nat) (m:Nat) (hsz:ops.size=m)
  (hinj:∀ i j,i<m→j<m→T i=T j→i=j) (hT:∀ i,i<m→T i<base.tmps.size) (N0:α) (h0:H N0 (fun _=>false) W0.drew)
  (hstep:∀ (N:α) (d:Nat→Bool) (i:Nat) (o:Oper) (a:Act) (w:World) (K:Act→World→Prop),i<m→ops[i]? = some o→d i=false→Closed ops d→H N d w→(∀ t,(∀ j,j<m→t≠T j)→a.eval (.tmp t)=base.eval (.tmp t))→(∀ e ∈ o.after,Region.binds .any e=true→d e.on=true∧a.eval (.tmp (T e.on))=V N e.on)→(∀ N' v w',v=V N' i→(∀ j,j<m→d j=true→V N' j=V N j)→H N' (came d i) w'→K (a.put (some (T i)) v) w')→o.wp P a w K Q)
  (hend:∀ N d w,(∀ i,i<m→d i=true)→H N d w→Q .normal (putted base ((List.range m).map fun i=>(T i,V N i))) w) :
  (Code.region id ops true).wp P Q base W0:=by
 have wpo:∀ i o a w (K:Act→World→Prop),ops[i]? = some o→o.wp P a w K Q→wpOp P ops Q i K a w:=fun i o a w K ho h=>by
  unfold wpOp
  simp only [ho,Region.wanted,hg i o ho,if_true]
  exact .inl h
 refine region_inv hm hlow (fun d a w=>∃ N,Named ops base H V T m d a w N) ?_ ?_ ?_
 ·exact ⟨N0,fun _ _ _ h=>by simp at h,h0,rfl,rfl,fun _ _=>rfl,fun _ _ h=>by simp at h⟩
 ·rintro d a w hd ⟨N,h⟩
  have ea:a=putted base ((List.range m).map fun i=>(T i,V N i)):=by
   refine putted_eq _ base a h.defers h.size (fun p hp=>?_) (fun t ht=>?_)
   ·obtain ⟨i,hi,rfl⟩:=List.mem_map.1 hp
    have hi':=List.mem_range.1 hi
    exact slot_is (h.has i hi' (hd i (by omega))) (by rw [h.size];exact hT i hi')
   ·refine h.rest t (fun j hj e=>?_)
    exact ht (T j,V N j) (List.mem_map.2 ⟨j,List.mem_range.2 hj,rfl⟩) e
  rw [ea]
  exact hend N d w (fun i hi=>hd i (by omega)) h.mem
 ·rintro d i o a w ho hdi hdep ⟨N,h⟩
  refine wpo i o a w _ ho ?_
  have hi:i<m:=by rw [← hsz];exact (Array.getElem?_eq_some_iff.1 ho).1
  refine hstep N d i o a w _ hi ho hdi h.down h.mem (fun t ht=>rest_eval (h.rest t ht)) (fun ed he hb=>⟨hdep ed he hb,h.has _ (by have:=hlow i o ho ed he hb;omega) (hdep ed he hb)⟩) ?_
  rintro N' v w' rfl hV hH
  refine ⟨N',h.down.next ho hdep,hH,by rw [size_putted];exact h.size,h.defers,fun t ht=>?_,fun j hj hd=>?_⟩
  ·rw [slot_put,if_neg (fun e=>ht i hi e.symm)];exact h.rest t ht
  ·by_cases e:j=i
   ·subst e
    exact at_eq a (T j) _ (by rw [h.size];exact hT j hj)
   ·rw [came_ne d e] at hd
    rw [at_ne a (T i) (T j) _ (fun e2=>e (hinj j i hj hi e2)),h.has j hj hd]
    exact (hV j hj hd).symm
end Go.Proofs.YtollloafckcogaaGreatDoor

namespace Go.Proofs.YtollloafckcogaaGreatDoor
open Go.RowKit
set_option maxHeartbeats 8000000
set_option maxRecDepth 100000
theorem FracAt.agg {w:World} {v:Value} {f:Rat} (h:FracAt w v f):∃ x y p,v=.agg #[.bool (decide (f.num<0)),.int .u64 x,.int .u64 y,.pointer p]∧(p=none→f.num.natAbs < 18446744073709551616∧f.den < 18446744073709551616∧x=(f.num.natAbs:Int)∧y=(f.den:Int)-1):=by
 rcases h with ⟨h1,h2,rfl⟩ | ⟨-,b,v1,v2,rfl,-⟩
 ·exact ⟨_,_,_,rfl,fun _=>⟨h1,h2,rfl,rfl⟩⟩
 ·exact ⟨_,_,_,rfl,fun e=>by simp at e⟩
def Blank (w:World) (g:Nat):Prop:=w.cell? ⟨g,0,none⟩=some (.bool false)∧w.cell? ⟨g,1,none⟩=some (.int .u64 0)∧w.cell? ⟨g,2,none⟩=some (.int .u64 0)∧w.cell? ⟨g,3,none⟩=some (.pointer none)∧∀ j,4≤j→w.cell? ⟨g,j,none⟩=none
theorem Blank.but {w w':World} {g:Nat} (h:Blank w g) (hb:But [] w w'):Blank w' g:=by
 obtain ⟨h0,h1,h2,h3,h4⟩:=h
 have hl:=lt_of_cell h0
 exact ⟨hb.cell_some h0 (by simp),hb.cell_some h1 (by simp),hb.cell_some h2 (by simp),hb.cell_some h3 (by simp),fun j hj=>(hb.cell (p:=⟨g,j,none⟩) hl (by simp)).trans (h4 j hj)⟩
theorem Blank.frac {w W:World} {g:Nat} (h:Blank w g) {v:Value} {f:Rat} (hf:FracAt w v f) (hb:But [g] w W):FracAt W v f:=hf.over h.1 hb
theorem len_quo (m k n:Nat) (h:(wd 18446744073709551616 m).length≤n):(wd 18446744073709551616 (m/k)).length≤n:=Nat.le_trans (wd_len_mono (Nat.div_le_self _ _)) h
theorem fracMul_any (vf vg:Value) (f g:Rat) (w:World) (hf:FracAt w vf f) (hg:FracAt w vg g) (lf:Len f 1000000) (lg:Len g 1000000) :
  Calls Tryz.prog 58 #[vf,vg] w fun e w'=>∃ v,e=.returned v∧FracAt w' v (f*g)∧But [] w w':=by
 obtain ⟨k1,hk1⟩:∃ k1,k1=Nat.gcd f.num.natAbs g.den:=⟨_,rfl⟩
 obtain ⟨k2,hk2⟩:∃ k2,k2=Nat.gcd g.num.natAbs f.den:=⟨_,rfl⟩
 obtain ⟨hn,hd⟩:=mul_low f g k1 k2 hk1 hk2
 have k10:0<k1:=by rw [hk1];exact Nat.gcd_pos_of_pos_right _ (den_pos g)
 have k20:0<k2:=by rw [hk2];exact Nat.gcd_pos_of_pos_right _ (den_pos f)
 have k1l:(wd 18446744073709551616 k1).length≤1000000:=Nat.le_trans (wd_len_mono (by rw [hk1];exact Nat.gcd_le_right _ (den_pos g))) lg.2
 have k2l:(wd 18446744073709551616 k2).length≤1000000:=Nat.le_trans (wd_len_mono (by rw [hk2];exact Nat.gcd_le_right _ (den_pos f))) lf.2
 have habs:(f*g).num.natAbs=f.num.natAbs/k1*(g.num.natAbs/k2):=by rw [hn,sgn_abs]
 have NF:=hide (fun W (h:FracAt W vf f)=>numbers_any vf f W h)
 have NG:=hide (fun W (h:FracAt W vg g)=>numbers_any vg g W h)
 have q1l:=len_quo f.num.natAbs k1 1000000 lf.1
 have q2l:=len_quo g.num.natAbs k2 1000000 lg.1
 have q3l:=len_quo f.den k2 1000000 lf.2
 have q4l:=len_quo g.den k1 1000000 lg.2
 have m1l:=wd_len_mul (f.num.natAbs/k1) (g.num.natAbs/k2)
 have m2l:=wd_len_mul (f.den/k2) (g.den/k1)
 obtain ⟨s,hs⟩:∃ s,s=(decide (f.num<0) != decide (g.num<0)):=⟨_,rfl⟩
 rw [← hs] at hn
 have OL:=hide (fun (W:World) (v1 v2:Value) (a:Sl .u64 W v1 (wd 18446744073709551616 (f.num.natAbs/k1*(g.num.natAbs/k2)))) (b:Sl .u64 W v2 (wd 18446744073709551616 (f.den/k2*(g.den/k1))))=>ofLowered_any s v1 v2 (f*g) W (by rw [habs];exact a) (by rw [hd];exact b) (by rw [habs];exact hn) (by rw [habs];omega) (by rw [hd];omega))
 have G1:=hide (fun (W:World) (v1 v2:Value) (a:Sl .u64 W v1 (wd 18446744073709551616 f.num.natAbs)) (b:Sl .u64 W v2 (wd 18446744073709551616 g.den))=>natGcd_any v1 v2 f.num.natAbs g.den W a b lf.1 lg.2)
 have G2:=hide (fun (W:World) (v1 v2:Value) (a:Sl .u64 W v1 (wd 18446744073709551616 g.num.natAbs)) (b:Sl .u64 W v2 (wd 18446744073709551616 f.den))=>natGcd_any v1 v2 g.num.natAbs f.den W a b lg.1 lf.2)
 rw [← hk1] at G1
 rw [← hk2] at G2
 have Q1:=hide (fun (W:World) (v1 v2:Value) (a:Sl .u64 W v1 (wd 18446744073709551616 f.num.natAbs)) (b:Sl .u64 W v2 (wd 18446744073709551616 k1))=>natQuo_any v1 v2 f.num.natAbs k1 W a b k10 (by have:=lf.1;omega) (by omega) (Short.of _ _ lf.1))
 have Q2:=hide (fun (W:World) (v1 v2:Value) (a:Sl .u64 W v1 (wd 18446744073709551616 g.num.natAbs)) (b:Sl .u64 W v2 (wd 18446744073709551616 k2))=>natQuo_any v1 v2 g.num.natAbs k2 W a b k20 (by have:=lg.1;omega) (by omega) (Short.of _ _ lg.1))
 have Q3:=hide (fun (W:World) (v1 v2:Value) (a:Sl .u64 W v1 (wd 18446744073709551616 f.den)) (b:Sl .u64 W v2 (wd 18446744073709551616 k2))=>natQuo_any v1 v2 f.den k2 W a b k20 (by have:=lf.2;omega) (by omega) (Short.of _ _ lf.2))
 have Q4:=hide (fun (W:World) (v1 v2:Value) (a:Sl .u64 W v1 (wd 18446744073709551616 g.den)) (b:Sl .u64 W v2 (wd 18446744073709551616 k1))=>natQuo_any v1 v2 g.den k1 W a b k10 (by have:=lg.2;omega) (by omega) (Short.of _ _ lg.2))
 have M1:=hide (fun (W:World) (v1 v2:Value) (a:Sl .u64 W v1 (wd 18446744073709551616 (f.num.natAbs/k1))) (b:Sl .u64 W v2 (wd 18446744073709551616 (g.num.natAbs/k2)))=>natMul_any v1 v2 _ _ W a b (by omega))
 have M2:=hide (fun (W:World) (v1 v2:Value) (a:Sl .u64 W v1 (wd 18446744073709551616 (f.den/k2))) (b:Sl .u64 W v2 (wd 18446744073709551616 (g.den/k1)))=>natMul_any v1 v2 _ _ W a b (by omega))
 have MW:=hide (fun (W:World) h1 h2 h3 h4=>mulWords_frac s f g W hs h1 h2 h3 h4)
 have HFA:=hide hf
 have HGA:=hide hg
 obtain ⟨x1,y1,p1,rfl,hw1⟩:=hf.agg
 obtain ⟨x2,y2,p2,rfl,hw2⟩:=hg.agg
 have HW1:=hide hw1
 have HW2:=hide hw2
 have HSS:=hide hs
 clear hn hd habs hk1 hk2 hf hg hw1 hw2 k1l k2l q1l q2l q3l q4l m1l m2l lf lg k10 k20
 generalize f.num.natAbs/k1*(g.num.natAbs/k2)=P1 at *
 generalize f.den/k2*(g.den/k1)=P2 at *
 generalize f.num.natAbs/k1=q1 at *
 generalize g.num.natAbs/k2=q2 at *
 generalize f.den/k2=q3 at *
 generalize g.den/k1=q4 at *
 generalize hsf:decide (f.num<0)=s1 at *
 generalize hsg:decide (g.num<0)=s2 at *
 clear hsf hsg
 have hss:(!(s1==s2))=s:=hs.symm
 clear hs
 obtain ⟨W,hW⟩:∃ W,W=(((w.alloc (.cells #[.bool s1,.int .u64 x1,.int .u64 y1,.pointer p1] 27)).alloc (.cells #[.bool s2,.int .u64 x2,.int .u64 y2,.pointer p2] 27)).alloc (.cells #[.bool false,.int .u64 0,.int .u64 0,.pointer none] 27)):=⟨_,rfl⟩
 obtain ⟨tA,tB,tC,fz,hB⟩:=three_new w W _ _ _ _ hW
 have a0:=tA 0
 have a1:=tA 1
 have a2:=tA 2
 have a3:=tA 3
 have b0:=tB 0
 have b1:=tB 1
 have b2:=tB 2
 have b3:=tB 3
 have r0:=tC 0
 have r1:=tC 1
 have r2:=tC 2
 have r3:=tC 3
 simp only [List.getElem?_toArray,List.getElem?_cons_zero,List.getElem?_cons_succ] at a0 a1 a2 a3 b0 b1 b2 b3 r0 r1 r2 r3
 have BL:Hid (Blank W (w.heap.size+2)):=⟨r0,r1,r2,r3,fun j hj=>by rw [tC j];simp;omega⟩
 clear tA tB tC
 have HW:=hide hW
 have HB:=hide hB
 clear hW hB
 by_cases hpp:p1=none∧p2=none
 ·obtain ⟨rfl,rfl⟩:=hpp
  obtain ⟨h1,h2,ex1,ey1⟩:=unhide HW1 rfl
  obtain ⟨h3,h4,ex2,ey2⟩:=unhide HW2 rfl
  have MW':=hide (unhide MW W h1 h2 h3 h4)
  rw [← ex1,← ey1,← ex2,← ey2] at MW'
  clear MW HW1 HW2 h1 h2 h3 h4 ex1 ex2 ey1 ey2
  go_enter Tryz.func58,Tryz.ntmps58
  go_wp2_with fail
  rw [← unhide HW]
  obtain ⟨ga,hga⟩:∃ ga,ga=w.heap.size:=⟨_,rfl⟩
  obtain ⟨gb,hgb⟩:∃ gb,gb=w.heap.size+1:=⟨_,rfl⟩
  obtain ⟨gr,hgr⟩:∃ gr,gr=w.heap.size+2:=⟨_,rfl⟩
  rw [← hga] at a0 a1 a2 a3
  rw [← hgb] at b0 b1 b2 b3
  rw [← hgr] at r0 r1 r2 r3 fz BL
  rw [show w.heap.size+1+1=w.heap.size+2 from rfl,← hgr,← hgb,← hga]
  have HGR:Hid (w.heap.size≤gr):=by show _≤_;omega
  clear hga hgb hgr HW
  refine (unhide MW').mono ?_
  rintro e w0 ⟨r9,x9,y9,ok,rfl,hok,hb0⟩
  have grl:gr<W.heap.size:=lt_of_cell r0
  have f0:∀ j,w0.frozen? ⟨gr,j,none⟩=false:=fun j=>(hb0.frozen (p:=⟨gr,j,none⟩) grl (by simp)).trans (fz j)
  have BL0:=hide ((unhide BL).but hb0)
  have a0':=hb0.cell_some a0 (by simp)
  have a1':=hb0.cell_some a1 (by simp)
  have a2':=hb0.cell_some a2 (by simp)
  have a3':=hb0.cell_some a3 (by simp)
  have b0':=hb0.cell_some b0 (by simp)
  have b1':=hb0.cell_some b1 (by simp)
  have b2':=hb0.cell_some b2 (by simp)
  have b3':=hb0.cell_some b3 (by simp)
  have r0':=hb0.cell_some r0 (by simp)
  have r1':=hb0.cell_some r1 (by simp)
  have r2':=hb0.cell_some r2 (by simp)
  have r3':=hb0.cell_some r3 (by simp)
  have HB0:Hid (But [] w w0):=(unhide HB).trans' hb0
  have HOK:=hide hok
  clear hok hb0 a0 a1 a2 a3 b0 b1 b2 b3 r0 r1 r2 r3 fz MW' HB BL
  have grl0:gr<w0.heap.size:=lt_of_cell r0'
  cases ok
  ·obtain ⟨V,hV⟩:∃ V,V=w0.alloc (.cells #[.bool r9,.int .u64 x9,.int .u64 y9,.pointer none] 27):=⟨_,rfl⟩
   have hbV:But [] w0 V:=by rw [hV];exact (But.refl _ _).alloc _
   have HBV:Hid (But [] w V):=(unhide HB0).trans' hbV
   have BL:=hide ((unhide BL0).but hbV)
   have a0:=hbV.cell_some a0' (by simp)
   have a1:=hbV.cell_some a1' (by simp)
   have a2:=hbV.cell_some a2' (by simp)
   have a3:=hbV.cell_some a3' (by simp)
   have c0:=hbV.cell_some b0' (by simp)
   have c1:=hbV.cell_some b1' (by simp)
   have c2:=hbV.cell_some b2' (by simp)
   have c3:=hbV.cell_some b3' (by simp)
   have z0:=hbV.cell_some r0' (by simp)
   have z1:=hbV.cell_some r1' (by simp)
   have z2:=hbV.cell_some r2' (by simp)
   have z3:=hbV.cell_some r3' (by simp)
   have zf:∀ j,V.frozen? ⟨gr,j,none⟩=false:=fun j=>(hbV.frozen (p:=⟨gr,j,none⟩) grl0 (by simp)).trans (f0 j)
   have HV:=hide hV
   have gal:ga<w0.heap.size:=lt_of_cell a0'
   have gbl:gb<w0.heap.size:=lt_of_cell b0'
   clear hV hbV b0' b1' b2' b3' r0' r1' r2' r3' f0 BL0 HB0 HOK
   go_wp2_with fail
   rw [← unhide HV]
   clear a0' a1' a2' a3' HV
   refine (unhide NF _ ((unhide HFA).but (unhide HBV))).mono ?_
   rintro e w1 ⟨na,nb,rfl,hna,hnb,hb1⟩
   have d0:=hb1.cell_some c0 (by simp)
   have d1:=hb1.cell_some c1 (by simp)
   have d2:=hb1.cell_some c2 (by simp)
   have d3:=hb1.cell_some c3 (by simp)
   have e0:=hb1.cell_some z0 (by simp)
   have HB1:Hid (But [] w w1):=(unhide HBV).trans' hb1
   have HV1:=hide hb1
   have SA:=hide hna
   have SB:=hide hnb
   clear hb1 hna hnb
   go_wp2_with fail
   refine (unhide NG _ ((unhide HGA).but (unhide HB1))).mono ?_
   rintro e w2 ⟨nc,nd,rfl,hnc,hnd,hb2⟩
   have HV2:Hid (But [] V w2):=(unhide HV1).trans' hb2
   have HB2:Hid (But [] w w2):=(unhide HB1).trans' hb2
   have SA2:=hide ((unhide SA).but_nil hb2)
   have SB2:=hide ((unhide SB).but_nil hb2)
   have SC:=hide hnc
   have SD:=hide hnd
   clear hb2 hnc hnd SA SB d0 d1 d2 d3 e0 c0 c1 c2 c3 NF NG
   have e0:=(unhide HV2).cell_some z0 (by simp)
   go_wp2_with fail
   refine (unhide G1 _ _ _ (unhide SA2) (unhide SD)).mono ?_
   rintro e w3 ⟨vk1,rfl,hk1s,hb3⟩
   have HV3:Hid (But [] V w3):=(unhide HV2).trans' hb3
   have HB23:=hide hb3
   have SK1:=hide hk1s
   clear hb3 hk1s e0
   go_wp2_with fail
   refine (unhide G2 _ _ _ ((unhide SC).but_nil (unhide HB23)) ((unhide SB2).but_nil (unhide HB23))).mono ?_
   rintro e w4 ⟨vk2,rfl,hk2s,hb4⟩
   have HV4:Hid (But [] V w4):=(unhide HV3).trans' hb4
   have HB24:Hid (But [] w2 w4):=(unhide HB23).trans' hb4
   have SK1':=hide ((unhide SK1).but_nil hb4)
   have SK2:=hide hk2s
   clear hb4 hk2s SK1 HB23
   go_wp2_with fail
   refine (unhide Q1 _ _ _ ((unhide SA2).but_nil (unhide HB24)) (unhide SK1')).mono ?_
   rintro e w5 ⟨vq1,rfl,hq1s,hb5⟩
   have HV5:Hid (But [] V w5):=(unhide HV4).trans' hb5
   have HB45:=hide hb5
   have SQ1:=hide hq1s
   clear hb5 hq1s
   go_wp2_with fail
   refine (unhide Q2 _ _ _ ((unhide SC).but_nil ((unhide HB24).trans' (unhide HB45))) ((unhide SK2).but_nil (unhide HB45))).mono ?_
   rintro e w6 ⟨vq2,rfl,hq2s,hb6⟩
   have HV6:Hid (But [] V w6):=(unhide HV5).trans' hb6
   have HB46:Hid (But [] w4 w6):=(unhide HB45).trans' hb6
   have SQ1':=hide ((unhide SQ1).but_nil hb6)
   have SQ2:=hide hq2s
   clear hb6 hq2s SQ1 HB45
   go_wp2_with fail
   refine (unhide M1 _ _ _ (unhide SQ1') (unhide SQ2)).mono ?_
   rintro e w7 ⟨vm1,rfl,hm1s,hb7,-⟩
   have HV7:Hid (But [] V w7):=(unhide HV6).trans' hb7
   have HB47:Hid (But [] w4 w7):=(unhide HB46).trans' hb7
   have SM1:=hide hm1s
   clear hb7 hm1s SQ1' SQ2 HB46
   go_wp2_with fail
   refine (unhide Q3 _ _ _ ((unhide SB2).but_nil ((unhide HB24).trans' (unhide HB47))) ((unhide SK2).but_nil (unhide HB47))).mono ?_
   rintro e w8 ⟨vq3,rfl,hq3s,hb8⟩
   have HV8:Hid (But [] V w8):=(unhide HV7).trans' hb8
   have HB48:Hid (But [] w4 w8):=(unhide HB47).trans' hb8
   have SM1':=hide ((unhide SM1).but_nil hb8)
   have SQ3:=hide hq3s
   clear hb8 hq3s SM1 HB47
   go_wp2_with fail
   refine (unhide Q4 _ _ _ ((unhide SD).but_nil ((unhide HB24).trans' (unhide HB48))) ((unhide SK1').but_nil (unhide HB48))).mono ?_
   rintro e w9 ⟨vq4,rfl,hq4s,hb9⟩
   have HV9:Hid (But [] V w9):=(unhide HV8).trans' hb9
   have SM9:=hide ((unhide SM1').but_nil hb9)
   have SQ3':=hide ((unhide SQ3).but_nil hb9)
   have SQ4:=hide hq4s
   clear hb9 hq4s SM1' SQ3 HB48
   go_wp2_with fail
   refine (unhide M2 _ _ _ (unhide SQ3') (unhide SQ4)).mono ?_
   rintro e w10 ⟨vm2,rfl,hm2s,hb10,-⟩
   have HV10:Hid (But [] V w10):=(unhide HV9).trans' hb10
   have SM10:=hide ((unhide SM9).but_nil hb10)
   have SM2:=hide hm2s
   clear hb10 hm2s SQ3' SQ4 SM9
   go_wp2_with fail
   refine (unhide OL _ _ _ (unhide SM10) (unhide SM2)).mono ?_
   rintro e w11 ⟨v12,rfl,hf11,hb11⟩
   have HV11:Hid (But [] V w11):=(unhide HV10).trans' hb11
   have HB11:Hid (But [] w w11):=(unhide HBV).trans' (unhide HV11)
   have u0:=(unhide HV11).cell_some z0 (by simp)
   have u1:=(unhide HV11).cell_some z1 (by simp)
   have u2:=(unhide HV11).cell_some z2 (by simp)
   have u3:=(unhide HV11).cell_some z3 (by simp)
   have hgl:gr<V.heap.size:=lt_of_cell z0
   have uf:∀ j,w11.frozen? ⟨gr,j,none⟩=false:=fun j=>((unhide HV11).frozen (p:=⟨gr,j,none⟩) hgl (by simp)).trans (zf j)
   have H11:=hide hf11
   obtain ⟨x8,y8,p8,rfl,-⟩:=hf11.agg
   clear hb11 hf11 z0 z1 z2 z3 zf hgl
   generalize decide ((f*g).num<0)=r8 at *
   go_wp2
   have hBf:=((((unhide HB11).setCell (p:=⟨gr,0,none⟩) (.inr (unhide HGR)) (.bool r8)).setCell (p:=⟨gr,1,none⟩) (.inr (unhide HGR)) (.int .u64 x8)).setCell (p:=⟨gr,2,none⟩) (.inr (unhide HGR)) (.int .u64 y8)).setCell (p:=⟨gr,3,none⟩) (.inr (unhide HGR)) (.pointer p8)
   have hBg:But [gr] w11 ((((w11.setCell ⟨gr,0,none⟩ (.bool r8)).setCell ⟨gr,1,none⟩ (.int .u64 x8)).setCell ⟨gr,2,none⟩ (.int .u64 y8)).setCell ⟨gr,3,none⟩ (.pointer p8)):=(((((But.refl [gr] w11).setCell (.inl (by simp)) _).setCell (.inl (by simp)) _).setCell (.inl (by simp)) _).setCell (.inl (by simp)) _)
   exact bodyPost_ret (v:=.agg #[.bool r8,.int .u64 x8,.int .u64 y8,.pointer p8]) (by simp [results,Tryz.results58,go_sem,u0,u1,u2,u3]) rfl ⟨_,rfl,((unhide BL).but (unhide HV11)).frac (unhide H11) hBg,hBf⟩
  ·have HF9:=hide (unhide HOK rfl)
   clear HOK
   go_wp2
   have hBf:=(((((unhide HB0).setCell (p:=⟨gr,0,none⟩) (.inr (unhide HGR)) (.bool r9)).setCell (p:=⟨gr,1,none⟩) (.inr (unhide HGR)) (.int .u64 x9)).setCell (p:=⟨gr,2,none⟩) (.inr (unhide HGR)) (.int .u64 y9)).setCell (p:=⟨gr,3,none⟩) (.inr (unhide HGR)) (.pointer none)).alloc (.cells #[.bool r9,.int .u64 x9,.int .u64 y9,.pointer none] 27)
   have hBg:=(((((But.refl [gr] w0).setCell (p:=⟨gr,0,none⟩) (.inl (by simp)) (.bool r9)).setCell (p:=⟨gr,1,none⟩) (.inl (by simp)) (.int .u64 x9)).setCell (p:=⟨gr,2,none⟩) (.inl (by simp)) (.int .u64 y9)).setCell (p:=⟨gr,3,none⟩) (.inl (by simp)) (.pointer none)).alloc (.cells #[.bool r9,.int .u64 x9,.int .u64 y9,.pointer none] 27)
   exact bodyPost_ret (v:=.agg #[.bool r9,.int .u64 x9,.int .u64 y9,.pointer none]) (by simp [results,Tryz.results58,go_sem,r0',r1',r2',r3',grl0]) rfl ⟨_,rfl,(unhide BL0).frac (unhide HF9) hBg,hBf⟩
 ·have hp12:p1≠none∨p2≠none:=by
   rcases Classical.em (p1=none) with h1 | h1
   ·right;intro h2;exact hpp ⟨h1,h2⟩
   ·left;exact h1
  clear hpp MW HW1 HW2
  obtain ⟨pp,hpp⟩:∃ pp,pp=(p1,p2):=⟨_,rfl⟩
  clear hpp pp
  rcases p1 with _ | p1
  ·rcases p2 with _ | p2
   ·simp at hp12
   ·clear hp12
    go_enter Tryz.func58,Tryz.ntmps58
    go_wp2_with fail
    rw [← unhide HW]
    obtain ⟨ga,hga⟩:∃ ga,ga=w.heap.size:=⟨_,rfl⟩
    obtain ⟨gb,hgb⟩:∃ gb,gb=w.heap.size+1:=⟨_,rfl⟩
    obtain ⟨gr,hgr⟩:∃ gr,gr=w.heap.size+2:=⟨_,rfl⟩
    rw [← hgb] at b0 b1 b2 b3
    rw [← hgr] at r0 r1 r2 r3 fz BL
    rw [show w.heap.size+1+1=w.heap.size+2 from rfl,← hgr,← hgb,← hga]
    have HGR:Hid (w.heap.size≤gr):=by show _≤_;omega
    clear hga hgb hgr HW a0 a1 a2 a3
    obtain ⟨V,hV⟩:∃ V,V=W:=⟨_,rfl⟩
    rw [← hV] at b0 b1 b2 b3 r0 r1 r2 r3 fz BL
    rw [← hV]
    have HBV:Hid (But [] w V):=by rw [hV];exact unhide HB
    clear hV HB
    have c0:=b0
    have c1:=b1
    have c2:=b2
    have c3:=b3
    have z0:=r0
    have z1:=r1
    have z2:=r2
    have z3:=r3
    have zf:=fz
    clear b0 b1 b2 b3 r0 r1 r2 r3 fz
    refine (unhide NF _ ((unhide HFA).but (unhide HBV))).mono ?_
    rintro e w1 ⟨na,nb,rfl,hna,hnb,hb1⟩
    have d0:=hb1.cell_some c0 (by simp)
    have d1:=hb1.cell_some c1 (by simp)
    have d2:=hb1.cell_some c2 (by simp)
    have d3:=hb1.cell_some c3 (by simp)
    have e0:=hb1.cell_some z0 (by simp)
    have HB1:Hid (But [] w w1):=(unhide HBV).trans' hb1
    have HV1:=hide hb1
    have SA:=hide hna
    have SB:=hide hnb
    clear hb1 hna hnb
    go_wp2_with fail
    refine (unhide NG _ ((unhide HGA).but (unhide HB1))).mono ?_
    rintro e w2 ⟨nc,nd,rfl,hnc,hnd,hb2⟩
    have HV2:Hid (But [] V w2):=(unhide HV1).trans' hb2
    have HB2:Hid (But [] w w2):=(unhide HB1).trans' hb2
    have SA2:=hide ((unhide SA).but_nil hb2)
    have SB2:=hide ((unhide SB).but_nil hb2)
    have SC:=hide hnc
    have SD:=hide hnd
    clear hb2 hnc hnd SA SB d0 d1 d2 d3 e0 c0 c1 c2 c3 NF NG
    have e0:=(unhide HV2).cell_some z0 (by simp)
    go_wp2_with fail
    refine (unhide G1 _ _ _ (unhide SA2) (unhide SD)).mono ?_
    rintro e w3 ⟨vk1,rfl,hk1s,hb3⟩
    have HV3:Hid (But [] V w3):=(unhide HV2).trans' hb3
    have HB23:=hide hb3
    have SK1:=hide hk1s
    clear hb3 hk1s e0
    go_wp2_with fail
    refine (unhide G2 _ _ _ ((unhide SC).but_nil (unhide HB23)) ((unhide SB2).but_nil (unhide HB23))).mono ?_
    rintro e w4 ⟨vk2,rfl,hk2s,hb4⟩
    have HV4:Hid (But [] V w4):=(unhide HV3).trans' hb4
    have HB24:Hid (But [] w2 w4):=(unhide HB23).trans' hb4
    have SK1':=hide ((unhide SK1).but_nil hb4)
    have SK2:=hide hk2s
    clear hb4 hk2s SK1 HB23
    go_wp2_with fail
    refine (unhide Q1 _ _ _ ((unhide SA2).but_nil (unhide HB24)) (unhide SK1')).mono ?_
    rintro e w5 ⟨vq1,rfl,hq1s,hb5⟩
    have HV5:Hid (But [] V w5):=(unhide HV4).trans' hb5
    have HB45:=hide hb5
    have SQ1:=hide hq1s
    clear hb5 hq1s
    go_wp2_with fail
    refine (unhide Q2 _ _ _ ((unhide SC).but_nil ((unhide HB24).trans' (unhide HB45))) ((unhide SK2).but_nil (unhide HB45))).mono ?_
    rintro e w6 ⟨vq2,rfl,hq2s,hb6⟩
    have HV6:Hid (But [] V w6):=(unhide HV5).trans' hb6
    have HB46:Hid (But [] w4 w6):=(unhide HB45).trans' hb6
    have SQ1':=hide ((unhide SQ1).but_nil hb6)
    have SQ2:=hide hq2s
    clear hb6 hq2s SQ1 HB45
    go_wp2_with fail
    refine (unhide M1 _ _ _ (unhide SQ1') (unhide SQ2)).mono ?_
    rintro e w7 ⟨vm1,rfl,hm1s,hb7,-⟩
    have HV7:Hid (But [] V w7):=(unhide HV6).trans' hb7
    have HB47:Hid (But [] w4 w7):=(unhide HB46).trans' hb7
    have SM1:=hide hm1s
    clear hb7 hm1s SQ1' SQ2 HB46
    go_wp2_with fail
    refine (unhide Q3 _ _ _ ((unhide SB2).but_nil ((unhide HB24).trans' (unhide HB47))) ((unhide SK2).but_nil (unhide HB47))).mono ?_
    rintro e w8 ⟨vq3,rfl,hq3s,hb8⟩
    have HV8:Hid (But [] V w8):=(unhide HV7).trans' hb8
    have HB48:Hid (But [] w4 w8):=(unhide HB47).trans' hb8
    have SM1':=hide ((unhide SM1).but_nil hb8)
    have SQ3:=hide hq3s
    clear hb8 hq3s SM1 HB47
    go_wp2_with fail
    refine (unhide Q4 _ _ _ ((unhide SD).but_nil ((unhide HB24).trans' (unhide HB48))) ((unhide SK1').but_nil (unhide HB48))).mono ?_
    rintro e w9 ⟨vq4,rfl,hq4s,hb9⟩
    have HV9:Hid (But [] V w9):=(unhide HV8).trans' hb9
    have SM9:=hide ((unhide SM1').but_nil hb9)
    have SQ3':=hide ((unhide SQ3).but_nil hb9)
    have SQ4:=hide hq4s
    clear hb9 hq4s SM1' SQ3 HB48
    go_wp2_with fail
    refine (unhide M2 _ _ _ (unhide SQ3') (unhide SQ4)).mono ?_
    rintro e w10 ⟨vm2,rfl,hm2s,hb10,-⟩
    have HV10:Hid (But [] V w10):=(unhide HV9).trans' hb10
    have SM10:=hide ((unhide SM9).but_nil hb10)
    have SM2:=hide hm2s
    clear hb10 hm2s SQ3' SQ4 SM9
    go_wp2_with fail
    refine (unhide OL _ _ _ (unhide SM10) (unhide SM2)).mono ?_
    rintro e w11 ⟨v11,rfl,hf11,hb11⟩
    have HV11:Hid (But [] V w11):=(unhide HV10).trans' hb11
    have HB11:Hid (But [] w w11):=(unhide HBV).trans' (unhide HV11)
    have u0:=(unhide HV11).cell_some z0 (by simp)
    have u1:=(unhide HV11).cell_some z1 (by simp)
    have u2:=(unhide HV11).cell_some z2 (by simp)
    have u3:=(unhide HV11).cell_some z3 (by simp)
    have hgl:gr<V.heap.size:=lt_of_cell z0
    have uf:∀ j,w11.frozen? ⟨gr,j,none⟩=false:=fun j=>((unhide HV11).frozen (p:=⟨gr,j,none⟩) hgl (by simp)).trans (zf j)
    have H11:=hide hf11
    obtain ⟨x9,y9,p9,rfl,-⟩:=hf11.agg
    clear hb11 hf11 z0 z1 z2 z3 zf hgl
    generalize decide ((f*g).num<0)=r9 at *
    go_wp2
    have hBf:=((((unhide HB11).setCell (p:=⟨gr,0,none⟩) (.inr (unhide HGR)) (.bool r9)).setCell (p:=⟨gr,1,none⟩) (.inr (unhide HGR)) (.int .u64 x9)).setCell (p:=⟨gr,2,none⟩) (.inr (unhide HGR)) (.int .u64 y9)).setCell (p:=⟨gr,3,none⟩) (.inr (unhide HGR)) (.pointer p9)
    have hBg:But [gr] w11 ((((w11.setCell ⟨gr,0,none⟩ (.bool r9)).setCell ⟨gr,1,none⟩ (.int .u64 x9)).setCell ⟨gr,2,none⟩ (.int .u64 y9)).setCell ⟨gr,3,none⟩ (.pointer p9)):=(((((But.refl [gr] w11).setCell (.inl (by simp)) _).setCell (.inl (by simp)) _).setCell (.inl (by simp)) _).setCell (.inl (by simp)) _)
    exact bodyPost_ret (v:=.agg #[.bool r9,.int .u64 x9,.int .u64 y9,.pointer p9]) (by simp [results,Tryz.results58,go_sem,u0,u1,u2,u3]) rfl ⟨_,rfl,((unhide BL).but (unhide HV11)).frac (unhide H11) hBg,hBf⟩
  ·clear hp12
   go_enter Tryz.func58,Tryz.ntmps58
   go_wp2_with fail
   rw [← unhide HW]
   obtain ⟨ga,hga⟩:∃ ga,ga=w.heap.size:=⟨_,rfl⟩
   obtain ⟨gb,hgb⟩:∃ gb,gb=w.heap.size+1:=⟨_,rfl⟩
   obtain ⟨gr,hgr⟩:∃ gr,gr=w.heap.size+2:=⟨_,rfl⟩
   rw [← hgb] at b0 b1 b2 b3
   rw [← hgr] at r0 r1 r2 r3 fz BL
   rw [show w.heap.size+1+1=w.heap.size+2 from rfl,← hgr,← hgb,← hga]
   have HGR:Hid (w.heap.size≤gr):=by show _≤_;omega
   clear hga hgb hgr HW a0 a1 a2 a3
   obtain ⟨V,hV⟩:∃ V,V=W:=⟨_,rfl⟩
   rw [← hV] at b0 b1 b2 b3 r0 r1 r2 r3 fz BL
   rw [← hV]
   have HBV:Hid (But [] w V):=by rw [hV];exact unhide HB
   clear hV HB
   have c0:=b0
   have c1:=b1
   have c2:=b2
   have c3:=b3
   have z0:=r0
   have z1:=r1
   have z2:=r2
   have z3:=r3
   have zf:=fz
   clear b0 b1 b2 b3 r0 r1 r2 r3 fz
   refine (unhide NF _ ((unhide HFA).but (unhide HBV))).mono ?_
   rintro e w1 ⟨na,nb,rfl,hna,hnb,hb1⟩
   have d0:=hb1.cell_some c0 (by simp)
   have d1:=hb1.cell_some c1 (by simp)
   have d2:=hb1.cell_some c2 (by simp)
   have d3:=hb1.cell_some c3 (by simp)
   have e0:=hb1.cell_some z0 (by simp)
   have HB1:Hid (But [] w w1):=(unhide HBV).trans' hb1
   have HV1:=hide hb1
   have SA:=hide hna
   have SB:=hide hnb
   clear hb1 hna hnb
   go_wp2_with fail
   refine (unhide NG _ ((unhide HGA).but (unhide HB1))).mono ?_
   rintro e w2 ⟨nc,nd,rfl,hnc,hnd,hb2⟩
   have HV2:Hid (But [] V w2):=(unhide HV1).trans' hb2
   have HB2:Hid (But [] w w2):=(unhide HB1).trans' hb2
   have SA2:=hide ((unhide SA).but_nil hb2)
   have SB2:=hide ((unhide SB).but_nil hb2)
   have SC:=hide hnc
   have SD:=hide hnd
   clear hb2 hnc hnd SA SB d0 d1 d2 d3 e0 c0 c1 c2 c3 NF NG
   have e0:=(unhide HV2).cell_some z0 (by simp)
   go_wp2_with fail
   refine (unhide G1 _ _ _ (unhide SA2) (unhide SD)).mono ?_
   rintro e w3 ⟨vk1,rfl,hk1s,hb3⟩
   have HV3:Hid (But [] V w3):=(unhide HV2).trans' hb3
   have HB23:=hide hb3
   have SK1:=hide hk1s
   clear hb3 hk1s e0
   go_wp2_with fail
   refine (unhide G2 _ _ _ ((unhide SC).but_nil (unhide HB23)) ((unhide SB2).but_nil (unhide HB23))).mono ?_
   rintro e w4 ⟨vk2,rfl,hk2s,hb4⟩
   have HV4:Hid (But [] V w4):=(unhide HV3).trans' hb4
   have HB24:Hid (But [] w2 w4):=(unhide HB23).trans' hb4
   have SK1':=hide ((unhide SK1).but_nil hb4)
   have SK2:=hide hk2s
   clear hb4 hk2s SK1 HB23
   go_wp2_with fail
   refine (unhide Q1 _ _ _ ((unhide SA2).but_nil (unhide HB24)) (unhide SK1')).mono ?_
   rintro e w5 ⟨vq1,rfl,hq1s,hb5⟩
   have HV5:Hid (But [] V w5):=(unhide HV4).trans' hb5
   have HB45:=hide hb5
   have SQ1:=hide hq1s
   clear hb5 hq1s
   go_wp2_with fail
   refine (unhide Q2 _ _ _ ((unhide SC).but_nil ((unhide HB24).trans' (unhide HB45))) ((unhide SK2).but_nil (unhide HB45))).mono ?_
   rintro e w6 ⟨vq2,rfl,hq2s,hb6⟩
   have HV6:Hid (But [] V w6):=(unhide HV5).trans' hb6
   have HB46:Hid (But [] w4 w6):=(unhide HB45).trans' hb6
   have SQ1':=hide ((unhide SQ1).but_nil hb6)
   have SQ2:=hide hq2s
   clear hb6 hq2s SQ1 HB45
   go_wp2_with fail
   refine (unhide M1 _ _ _ (unhide SQ1') (unhide SQ2)).mono ?_
   rintro e w7 ⟨vm1,rfl,hm1s,hb7,-⟩
   have HV7:Hid (But [] V w7):=(unhide HV6).trans' hb7
   have HB47:Hid (But [] w4 w7):=(unhide HB46).trans' hb7
   have SM1:=hide hm1s
   clear hb7 hm1s SQ1' SQ2 HB46
   go_wp2_with fail
   refine (unhide Q3 _ _ _ ((unhide SB2).but_nil ((unhide HB24).trans' (unhide HB47))) ((unhide SK2).but_nil (unhide HB47))).mono ?_
   rintro e w8 ⟨vq3,rfl,hq3s,hb8⟩
   have HV8:Hid (But [] V w8):=(unhide HV7).trans' hb8
   have HB48:Hid (But [] w4 w8):=(unhide HB47).trans' hb8
   have SM1':=hide ((unhide SM1).but_nil hb8)
   have SQ3:=hide hq3s
   clear hb8 hq3s SM1 HB47
   go_wp2_with fail
   refine (unhide Q4 _ _ _ ((unhide SD).but_nil ((unhide HB24).trans' (unhide HB48))) ((unhide SK1').but_nil (unhide HB48))).mono ?_
   rintro e w9 ⟨vq4,rfl,hq4s,hb9⟩
   have HV9:Hid (But [] V w9):=(unhide HV8).trans' hb9
   have SM9:=hide ((unhide SM1').but_nil hb9)
   have SQ3':=hide ((unhide SQ3).but_nil hb9)
   have SQ4:=hide hq4s
   clear hb9 hq4s SM1' SQ3 HB48
   go_wp2_with fail
   refine (unhide M2 _ _ _ (unhide SQ3') (unhide SQ4)).mono ?_
   rintro e w10 ⟨vm2,rfl,hm2s,hb10,-⟩
   have HV10:Hid (But [] V w10):=(unhide HV9).trans' hb10
   have SM10:=hide ((unhide SM9).but_nil hb10)
   have SM2:=hide hm2s
   clear hb10 hm2s SQ3' SQ4 SM9
   go_wp2_with fail
   refine (unhide OL _ _ _ (unhide SM10) (unhide SM2)).mono ?_
   rintro e w11 ⟨v11,rfl,hf11,hb11⟩
   have HV11:Hid (But [] V w11):=(unhide HV10).trans' hb11
   have HB11:Hid (But [] w w11):=(unhide HBV).trans' (unhide HV11)
   have u0:=(unhide HV11).cell_some z0 (by simp)
   have u1:=(unhide HV11).cell_some z1 (by simp)
   have u2:=(unhide HV11).cell_some z2 (by simp)
   have u3:=(unhide HV11).cell_some z3 (by simp)
   have hgl:gr<V.heap.size:=lt_of_cell z0
   have uf:∀ j,w11.frozen? ⟨gr,j,none⟩=false:=fun j=>((unhide HV11).frozen (p:=⟨gr,j,none⟩) hgl (by simp)).trans (zf j)
   have H11:=hide hf11
   obtain ⟨x9,y9,p9,rfl,-⟩:=hf11.agg
   clear hb11 hf11 z0 z1 z2 z3 zf hgl
   generalize decide ((f*g).num<0)=r9 at *
   go_wp2
   have hBf:=((((unhide HB11).setCell (p:=⟨gr,0,none⟩) (.inr (unhide HGR)) (.bool r9)).setCell (p:=⟨gr,1,none⟩) (.inr (unhide HGR)) (.int .u64 x9)).setCell (p:=⟨gr,2,none⟩) (.inr (unhide HGR)) (.int .u64 y9)).setCell (p:=⟨gr,3,none⟩) (.inr (unhide HGR)) (.pointer p9)
   have hBg:But [gr] w11 ((((w11.setCell ⟨gr,0,none⟩ (.bool r9)).setCell ⟨gr,1,none⟩ (.int .u64 x9)).setCell ⟨gr,2,none⟩ (.int .u64 y9)).setCell ⟨gr,3,none⟩ (.pointer p9)):=(((((But.refl [gr] w11).setCell (.inl (by simp)) _).setCell (.inl (by simp)) _).setCell (.inl (by simp)) _).setCell (.inl (by simp)) _)
   exact bodyPost_ret (v:=.agg #[.bool r9,.int .u64 x9,.int .u64 y9,.pointer p9]) (by simp [results,Tryz.results58,go_sem,u0,u1,u2,u3]) rfl ⟨_,rfl,((unhide BL).but (unhide HV11)).frac (unhide H11) hBg,hBf⟩
end Go.Proofs.YtollloafckcogaaGreatDoor

namespace Go.Proofs.YtollloafckcogaaGreatDoor
open Go.RowKit
theorem wpIn_of_wp {P:Program} {o:Oper} {a:Act} {w:World} {K:Act→World→Prop} {Q:Exit→Act→World→Prop} (l n:Nat) (hd:∀ c,o.op≠.defer c) (h:o.wp P a w K Q):o.wpIn (Fence.wide.inRound l) n P a w K Q:=by
 unfold Oper.wp at h
 unfold Oper.wpIn
 refine ⟨fun _ _=>trivial,?_⟩
 rw [Oper.semAt_eq _ _ _ hd]
 generalize (execOp a.eval o).run P w=r at *
 cases r with
 | ok x w' =>
  cases x with
  | value v=>exact h
  | skip=>exact h
  | defer d=>exact h
  | enter f args=>exact ⟨fun e=>by simp [Fence.wide] at e,CallsIn.inRound l (callsIn_wide.2 h)⟩
  | row r args=>exact ⟨fun e=>by simp [Fence.wide] at e,fun c cs _=>by
   obtain ⟨v,w1,hr,hs⟩:=h c cs
   exact ⟨v,w1,hr,stepsIn_wide.2 hs⟩⟩
  | _=>exact h.elim
 | halt x w'=>cases x <;> exact h
theorem region_invR {P:Program} {id l0 n0:Nat} {ops:Array Oper} {Q:Exit→Act→World→Prop} {base:Act} {W0:World} (hm:P.follows .mixedOrders=true)
  (hnd:∀ (i:Nat) (o:Oper),ops[i]? = some o→o.guard=none∧∀ c,o.op≠.defer c)
  (hlow:∀ i o,ops[i]? = some o→∀ e ∈ o.after,Region.binds .any e=true→e.on<i)
  (J:(Nat→Bool)→Act→World→Prop) (h0:J (fun _=>false) base W0.drew)
  (hend:∀ d a w,(∀ i,i<ops.size→d i=true)→J d a w→Q .normal a w)
  (hstep:∀ d i o a w,ops[i]? = some o→d i=false→(∀ e ∈ o.after,Region.binds .any e=true→d e.on=true)→J d a w→o.wp P a w (J (came d i)) Q) :
  (Code.region id ops true).wpIn (Fence.wide.inRound l0) n0 P Q base W0:=by
 refine wpIn_region_any hm ?_
 show wpAnyIn (Fence.wide.inRound l0) n0 P .any ops Q ops.size (Array.replicate ops.size false) base W0.drew
 have none_ready:∀ (l:Array Bool),l.toList.count false=0→Region.ready .any ops l=[]:=fun l hc=>by
  refine List.eq_nil_iff_forall_not_mem.2 fun i hi=>?_
  obtain ⟨hf,o,ho,hd⟩:=mem_ready.1 hi
  rw [List.count_eq_zero] at hc
  rcases Nat.lt_or_ge i l.size with h1 | h1
  ·simp only [Array.getD_eq_getD_getElem?,Array.getElem?_eq_getElem h1,Option.getD_some] at hf
   exact hc (by rw [← hf];exact Array.getElem_mem_toList h1)
  ·simp [Array.getElem?_eq_none h1] at hf
 have end_:∀ (l:Array Bool) a w,l.size=ops.size→J (fun i=>l.getD i false) a w→Region.ready .any ops l=[]→Q .normal a w:=fun l a w hs hJ hr=>by
  refine hend _ a w (fun i=>?_) hJ
  induction i using Nat.strongRecOn with
  | _ i ih =>
   intro hi
   cases e:l.getD i false with
   | true=>rfl
   | false =>
    exfalso
    have hmem:i ∈ Region.ready .any ops l:=mem_ready.2 ⟨by
     simp only [Array.getD_eq_getD_getElem?,Array.getElem?_eq_getElem (show i<l.size by omega),Option.getD_some] at e ⊢
     exact e,ops[i],Array.getElem?_eq_getElem hi,fun e he hb=>by
      have hl:=hlow i ops[i] (Array.getElem?_eq_getElem hi) e he hb
      exact ih e.on hl (by omega)⟩
    rw [hr] at hmem
    simp at hmem
 have key:∀ n (l:Array Bool) a w,l.size=ops.size∧l.toList.count false=n∧J (fun i=>l.getD i false) a w→wpAnyIn (Fence.wide.inRound l0) n0 P .any ops Q n l a w:=by
  intro n
  induction n with
  | zero=>rintro l a w ⟨hs,hc,hJ⟩;exact ⟨none_ready l hc,end_ l a w hs hJ (none_ready l hc)⟩
  | succ n ih =>
   rintro l a w ⟨hs,hc,hJ⟩
   refine ⟨end_ l a w hs hJ,fun i hi=>?_⟩
   obtain ⟨hf,o,ho,hd⟩:=mem_ready.1 hi
   have hlt:i<l.size:=by rw [hs];exact (Array.getElem?_eq_some_iff.1 ho).1
   have hg:l[i]=false:=by simpa [hlt] using hf
   have hf':l.getD i false=false:=by simp [hlt,hg]
   have hop:wpOpIn (Fence.wide.inRound l0) n0 P ops Q i (J (came (fun j=>l.getD j false) i)) a w:=by
    unfold wpOpIn
    simp only [ho,Region.wanted,(hnd i o ho).1,if_true]
    exact wpIn_of_wp l0 n0 (hnd i o ho).2 (hstep _ i o a w ho hf' hd hJ)
   refine wpOpIn_mono (fun a' w' h'=>ih _ a' w' ⟨by simp [hs],?_,?_⟩) hop
   ·rw [Array.toList_setIfInBounds,List.count_set (by simpa using hlt)]
    simp [hg,hc]
   ·have e:(fun j=>(l.setIfInBounds i true).getD j false)=came (fun j=>l.getD j false) i:=funext fun j=>by
     by_cases hj:j=i
     ·subst hj;simp [came,hlt]
     ·simp [came,hj,Array.getElem?_setIfInBounds_ne (Ne.symm hj)]
    rw [e];exact h'
 exact key _ _ _ _ ⟨by simp,by simp,by
  have e:(fun i=>(Array.replicate ops.size false).getD i false)=fun _=>false:=funext fun i=>by
   simp only [Array.getD_eq_getD_getElem?,Array.getElem?_replicate]
   split <;> rfl
  rw [e];exact h0⟩
theorem wp_value {P:Program} {Q:Exit→Act→World→Prop} {K:Act→World→Prop} {a:Act} {w w':World} {o:Oper} {v:Value} (hr:(execOp a.eval o).run P w=.ok (.value v) w') (h:K (a.put o.dst v) w'):o.wp P a w K Q:=by
 unfold Oper.wp
 rw [hr]
 exact h
theorem wp_skipped {P:Program} {Q:Exit→Act→World→Prop} {K:Act→World→Prop} {a:Act} {w w':World} {o:Oper} (hr:(execOp a.eval o).run P w=.ok .skip w') (h:K (a.put o.dst undef) w'):o.wp P a w K Q:=by
 unfold Oper.wp
 rw [hr]
 exact h
theorem wp_enter {P:Program} {Q:Exit→Act→World→Prop} {K:Act→World→Prop} {a:Act} {w:World} {o:Oper} {f:FuncId} {args:Array Value} (hr:(execOp a.eval o).run P w=.ok (.enter f args) w) {R:World→Value→Prop} (hc:Calls P f args w fun e w'=>∃ v,e=.returned v∧R w' v) (h:∀ v w',R w' v→K (a.put o.dst v) w'):o.wp P a w K Q:=by
 unfold Oper.wp
 rw [hr]
 refine hc.mono ?_
 rintro e w' ⟨v,rfl,hv⟩
 exact h v w' hv
end Go.Proofs.YtollloafckcogaaGreatDoor

namespace Go.Proofs.YtollloafckcogaaGreatDoor
open Go.RowKit
structure Flow (W:World) (base:Act) (C:Nat→World→Value→Prop) (T:Nat→Nat) (m:Nat) (d:Nat→Bool) (a:Act) (w:World):Prop where
 but:But [] W w
 size:a.tmps.size=base.tmps.size
 defers:a.defers=base.defers
 rest:∀ t,(∀ j,j<m→t≠T j)→a.tmps[t]? = base.tmps[t]?
 has:∀ i,i<m→d i=true→C i w (a.eval (.tmp (T i)))
theorem Flow.next {W:World} {base:Act} {C:Nat→World→Value→Prop} {T:Nat→Nat} {m:Nat} {d:Nat→Bool} {a:Act} {w:World} (h:Flow W base C T m d a w)
  (hinj:∀ i j,i<m→j<m→T i=T j→i=j) (hT:∀ i,i<m→T i<base.tmps.size) (hC:∀ i w w' v,i<m→C i w v→But [] w w'→C i w' v)
  (i:Nat) (hi:i<m) (v:Value) (w':World) (hb:But [] w w') (hv:C i w' v):Flow W base C T m (came d i) (a.put (some (T i)) v) w' where
 but:=h.but.trans' hb
 size:=by rw [size_putted];exact h.size
 defers:=h.defers
 rest:=fun t ht=>by rw [slot_put,if_neg (fun e=>ht i hi e.symm)];exact h.rest t ht
 has:=fun j hj hd=>by
  by_cases e:j=i
  ·subst e
   rw [at_eq a (T j) v (by rw [h.size];exact hT j hj)]
   exact hv
  ·rw [came_ne d e] at hd
   rw [at_ne a (T i) (T j) v (fun e2=>e (hinj j i hj hi e2))]
   exact hC j w w' _ hj (h.has j hj hd) hb
theorem Flow.eval {W:World} {base:Act} {C:Nat→World→Value→Prop} {T:Nat→Nat} {m:Nat} {d:Nat→Bool} {a:Act} {w:World} (h:Flow W base C T m d a w) (t:Nat) (ht:∀ j,j<m→t≠T j):a.eval (.tmp t)=base.eval (.tmp t):=by
 show a.tmps.getD t undef=base.tmps.getD t undef
 simp only [Array.getD_eq_getD_getElem?,h.rest t ht]
theorem region_flowR {P:Program} {id l0 n0:Nat} {ops:Array Oper} {Q:Exit→Act→World→Prop} {base:Act} {W0:World} (hm:P.follows .mixedOrders=true)
  (hnd:∀ (i:Nat) (o:Oper),ops[i]? = some o→o.guard=none∧∀ c,o.op≠.defer c)
  (hlow:∀ i o,ops[i]? = some o→∀ e ∈ o.after,Region.binds .any e=true→e.on<i)
  (C:Nat→World→Value→Prop) (T:Nat→Nat) (m:Nat) (hsz:ops.size=m+1)
  (hinj:∀ i j,i<m→j<m→T i=T j→i=j) (hT:∀ i,i<m→T i<base.tmps.size) (hC:∀ i w w' v,i<m→C i w v→But [] w w'→C i w' v)
  (hall:∀ i,i<m→∃ o,ops[m]? = some o∧∃ e ∈ o.after,Region.binds .any e=true∧e.on=i)
  (hstep:∀ (i:Nat) (o:Oper) (a:Act) (w:World) (K:Act→World→Prop),i<m→ops[i]? = some o→But [] W0.drew w→(∀ t,(∀ j,j<m→t≠T j)→a.eval (.tmp t)=base.eval (.tmp t))→(∀ e ∈ o.after,Region.binds .any e=true→C e.on w (a.eval (.tmp (T e.on))))→(∀ v w',But [] w w'→C i w' v→K (a.put (some (T i)) v) w')→o.wp P a w K Q)
  (Fin:World→Prop)
  (hstore:∀ (o:Oper) (a:Act) (w:World) (K:Act→World→Prop),ops[m]? = some o→But [] W0.drew w→(∀ t,(∀ j,j<m→t≠T j)→a.eval (.tmp t)=base.eval (.tmp t))→(∀ i,i<m→C i w (a.eval (.tmp (T i))))→(∀ a' w',Fin w'→K a' w')→o.wp P a w K Q)
  (hend:∀ a w,Fin w→Q .normal a w) :
  (Code.region id ops true).wpIn (Fence.wide.inRound l0) n0 P Q base W0:=by
 refine region_invR hm hnd hlow (fun d a w=>if d m=true then (Fin w∧∀ i,i<m→d i=true) else Flow W0.drew base C T m d a w) ?_ ?_ ?_
 ·simp only [Bool.false_eq_true,if_false]
  exact ⟨But.refl _ _,rfl,rfl,fun _ _=>rfl,fun _ _ h=>by simp at h⟩
 ·intro d a w hd h
  rw [if_pos (hd m (by omega))] at h
  exact hend a w h.1
 ·intro d i o a w ho hdi hdep h
  have hi:i<m+1:=by rw [← hsz];exact (Array.getElem?_eq_some_iff.1 ho).1
  by_cases e:i=m
  ·subst e
   rw [if_neg (by rw [hdi];simp)] at h
   have hd:∀ j,j<i→d j=true:=fun j hj=>by
    obtain ⟨o',ho',ed,he,hb,rfl⟩:=hall j hj
    rw [ho] at ho'
    obtain rfl:=Option.some.inj ho'
    exact hdep ed he hb
   refine hstore o a w _ ho h.but (fun t ht=>h.eval t ht) (fun j hj=>h.has j hj (hd j hj)) (fun a' w' hf=>?_)
   rw [if_pos (came_self d i)]
   exact ⟨hf,fun j hj=>by rw [came_ne d (by omega)];exact hd j hj⟩
  ·have him:i<m:=by omega
   by_cases hdm:d m=true
   ·exfalso
    rw [if_pos hdm] at h
    rw [h.2 i him] at hdi
    simp at hdi
   ·rw [if_neg hdm] at h
    refine hstep i o a w _ him ho h.but (fun t ht=>h.eval t ht) (fun ed he hb=>h.has _ (by have:=hlow i o ho ed he hb;omega) (hdep ed he hb)) (fun v w' hb hv=>?_)
    rw [if_neg (by rw [came_ne d (Ne.symm e)];exact hdm)]
    exact h.next hinj hT hC i him v w' hb hv
end Go.Proofs.YtollloafckcogaaGreatDoor

namespace Go.Proofs.YtollloafckcogaaGreatDoor
open Go.RowKit
def P4o (w:World) (b o:Nat) (s:Bool) (x y:Int) (p:Option Addr):Prop:=w.cell? ⟨b,o,none⟩=some (.bool s)∧w.cell? ⟨b,o+1,none⟩=some (.int .u64 x)∧w.cell? ⟨b,o+2,none⟩=some (.int .u64 y)∧w.cell? ⟨b,o+3,none⟩=some (.pointer p)
theorem P4o.but {w w':World} {b o:Nat} {s:Bool} {x y:Int} {p:Option Addr} {l:List Nat} (h:P4o w b o s x y p) (hb:But l w w') (hn:b ∉ l):P4o w' b o s x y p:=⟨hb.cell_some h.1 hn,hb.cell_some h.2.1 hn,hb.cell_some h.2.2.1 hn,hb.cell_some h.2.2.2 hn⟩
theorem P4o.lt {w:World} {b o:Nat} {s:Bool} {x y:Int} {p:Option Addr} (h:P4o w b o s x y p):b<w.heap.size:=lt_of_cell h.1
def LiesAt (w:World) (b o:Nat) (f:Rat):Prop:=∃ s x y p,P4o w b o s x y p∧FracAt w (.agg #[.bool s,.int .u64 x,.int .u64 y,.pointer p]) f
theorem LiesAt.but {w w':World} {b o:Nat} {f:Rat} (h:LiesAt w b o f) (hb:But [] w w'):LiesAt w' b o f:=by
 obtain ⟨s,x,y,p,h1,h2⟩:=h
 exact ⟨s,x,y,p,h1.but hb (by simp),h2.but hb⟩
theorem Sl.beside {k:IntKind} {w w':World} {v:Value} {xs:List Nat} {l:List Nat} (h:Sl k w v xs) (hb:But l w w') (hc:∀ g ∈ l,∃ i s,w.cell? ⟨g,i,none⟩=some (.bool s)):Sl k w' v xs:=by
 obtain ⟨a,cap,rfl,hcp,h,hi⟩:=h
 rcases Nat.eq_zero_or_pos xs.length with h0 | h0
 ·exact ⟨a,cap,rfl,hcp,fun i hi=>by omega,fun b off e h1=>by omega⟩
 ·refine Sl.but (xs:=xs) ⟨a,cap,rfl,hcp,h,hi⟩ hb (fun b off cap' n e hm=>?_)
  simp only [Value.slice.injEq] at e
  obtain ⟨rfl,-,-⟩:=e
  obtain ⟨i,s,hs⟩:=hc b hm
  exact (hi _ _ rfl h0).ne hs (by simp) rfl
theorem FracAt.beside {w W:World} {v:Value} {f:Rat} {l:List Nat} (h:FracAt w v f) (hb:But l w W) (hc:∀ g ∈ l,∃ s,w.cell? ⟨g,0,none⟩=some (.bool s)):FracAt W v f:=by
 rcases h with h1 | ⟨h1,b,v1,v2,h2,h3,h4,h5,h6⟩
 ·exact .inl h1
 ·have hbg:b ∉ l:=fun hm=>by
   obtain ⟨s,hs⟩:=hc b hm
   obtain ⟨a,cap,rfl,-⟩:=h5
   rw [hs] at h3
   simp at h3
  exact .inr ⟨h1,b,v1,v2,h2,hb.cell_some h3 hbg,hb.cell_some h4 hbg,h5.beside hb (fun g hg=>⟨0,hc g hg⟩),h6.beside hb (fun g hg=>⟨0,hc g hg⟩)⟩
theorem LiesAt.beside {w w':World} {b o:Nat} {f:Rat} {l:List Nat} (h:LiesAt w b o f) (hb:But l w w') (hn:b ∉ l) (hc:∀ g ∈ l,∃ s,w.cell? ⟨g,0,none⟩=some (.bool s)):LiesAt w' b o f:=by
 obtain ⟨s,x,y,p,h1,h2⟩:=h
 exact ⟨s,x,y,p,h1.but hb hn,h2.beside hb hc⟩
def FracsAt (w:World) (v:Value) (fs:List Rat):Prop:=∃ a cap,v=.slice a fs.length cap∧fs.length≤cap∧∀ i f,fs[i]? = some f→∃ b off,a=some ⟨b,off,none⟩∧LiesAt w b (off+i*4) f
theorem FracsAt.nil (w:World):FracsAt w (.slice none 0 0) []:=⟨none,0,rfl,Nat.le_refl _,fun i f h=>by simp at h⟩
theorem FracsAt.but {w w':World} {v:Value} {fs:List Rat} (h:FracsAt w v fs) (hb:But [] w w'):FracsAt w' v fs:=by
 obtain ⟨a,cap,e,hc,h⟩:=h
 refine ⟨a,cap,e,hc,fun i f hf=>?_⟩
 obtain ⟨b,off,e1,h1⟩:=h i f hf
 exact ⟨b,off,e1,h1.but hb⟩
theorem FracsAt.open {w:World} {v:Value} {fs:List Rat} (h:FracsAt w v fs) :
  (fs=[]∧∃ a cap,v=.slice a 0 cap)∨(0<fs.length∧∃ b off cap,v=.slice (some ⟨b,off,none⟩) fs.length cap∧fs.length≤cap∧∀ i f,fs[i]? = some f→LiesAt w b (off+i*4) f):=by
 obtain ⟨a,cap,rfl,hc,h⟩:=h
 rcases Nat.eq_zero_or_pos fs.length with h0 | h0
 ·exact .inl ⟨List.length_eq_zero_iff.1 h0,a,cap,by rw [h0]⟩
 ·obtain ⟨b,off,rfl,-⟩:=h 0 fs[0] (List.getElem?_eq_getElem h0)
  refine .inr ⟨h0,b,off,cap,rfl,hc,fun i f hf=>?_⟩
  obtain ⟨b',off',e,h2⟩:=h i f hf
  simp only [Option.some.injEq,Addr.mk.injEq] at e
  obtain ⟨rfl,rfl,_⟩:=e
  exact h2
def parts4 (vs:List Value):List Value:=vs.flatMap fun v=>v.cells.toList
structure Holds4 (w:World) (base:Nat) (e:TypeId) (v:Value) (fs:List Rat) (vs:List Value):Prop where
 own:w.ownsRow base e 4 v fs.length (parts4 vs)
 len:vs.length=fs.length
 val:∀ (i:Nat) (f:Rat),fs[i]? = some f→∃ s x y p,vs[i]? = some (Value.agg #[.bool s,.int .u64 x,.int .u64 y,.pointer p])∧FracAt w (.agg #[.bool s,.int .u64 x,.int .u64 y,.pointer p]) f
theorem parts4_get:∀ (vs:List Value),(∀ v ∈ vs,v.cells.size=4)→∀ (i k:Nat) (v:Value),vs[i]? = some v→k<4→(parts4 vs)[4*i+k]? = v.cells[k]?
 | [],_,i,k,v,e,_=>by simp at e
 | u::vs,h,0,k,v,e,hk=>by
  have hu:=h u (by simp)
  simp only [List.getElem?_cons_zero,Option.some.injEq] at e
  subst e
  unfold parts4
  rw [List.flatMap_cons,Nat.mul_zero,Nat.zero_add,List.getElem?_append_left (by rw [Array.length_toList,hu];exact hk)]
  simp
 | u::vs,h,i+1,k,v,e,hk=>by
  have hu:=h u (by simp)
  have ih:=parts4_get vs (fun x hx=>h x (by simp [hx])) i k v (by simpa using e) hk
  unfold parts4 at ih ⊢
  rw [List.flatMap_cons,List.getElem?_append_right (by rw [Array.length_toList,hu];omega),Array.length_toList,hu,show 4*(i+1)+k-4=4*i+k from by omega]
  exact ih
theorem parts4_append (vs us:List Value):parts4 (vs++us)=parts4 vs++parts4 us:=by unfold parts4;rw [List.flatMap_append]
theorem Holds4.fracs {w:World} {base:Nat} {e:TypeId} {v:Value} {fs:List Rat} {vs:List Value} (h:Holds4 w base e v fs vs):FracsAt w v fs:=by
 have h4:∀ u ∈ vs,u.cells.size=4:=fun u hu=>by
  obtain ⟨i,hi,rfl⟩:=List.mem_iff_getElem.1 hu
  obtain ⟨s,x,y,p,e,-⟩:=h.val i (fs[i]'(by rw [← h.len];exact hi)) (List.getElem?_eq_getElem (by rw [← h.len];exact hi))
  rw [List.getElem?_eq_getElem hi] at e
  rw [Option.some.inj e]
  rfl
 obtain ⟨hl,⟨rfl,h0⟩ | ⟨g,cap,cur,rfl,hg,hb,hn,hm,hs,ht⟩⟩:=id h.own
 ·have:fs=[]:=List.length_eq_zero_iff.1 h0
  subst this
  exact FracsAt.nil w
 ·refine ⟨_,cap,rfl,hn,fun i f hf=>⟨g,0,rfl,?_⟩⟩
  obtain ⟨s,x,y,p,e1,e2⟩:=h.val i f hf
  have cell:∀ k,k<4→w.cell? ⟨g,0+i*4+k,none⟩=(#[Value.bool s,.int .u64 x,.int .u64 y,.pointer p]:Array Value)[k]?:=fun k hk=>by
   have h1:=parts4_get vs h4 i k _ e1 hk
   have h2:=h.own.cells (g:=g) rfl
   have hlt:k<(#[Value.bool s,.int .u64 x,.int .u64 y,.pointer p]:Array Value).size:=hk
   have h3:=h2 (4*i+k) _ (h1.trans (Array.getElem?_eq_getElem hlt))
   have h5:(⟨g,0,none⟩:Addr).add (4*i+k)=⟨g,0+i*4+k,none⟩:=by
    by_cases hz:4*i+k=0
    ·simp only [Addr.add,hz,if_true,Addr.mk.injEq,true_and,and_true];omega
    ·simp only [Addr.add,hz,if_false,Addr.mk.injEq,true_and,and_true];omega
   rw [h5] at h3
   rw [h3]
   exact (Array.getElem?_eq_getElem hlt).symm
  exact ⟨s,x,y,p,⟨cell 0 (by omega),cell 1 (by omega),cell 2 (by omega),cell 3 (by omega)⟩,e2⟩
end Go.Proofs.YtollloafckcogaaGreatDoor

namespace Go.Proofs.YtollloafckcogaaGreatDoor
open Go.RowKit
theorem run_load4 (a:Act) (w:World) (d t:Nat) (u:TypeId) (ps:String) (ed:Array Edge) (b o:Nat) (s:Bool) (x y:Int) (p:Option Addr) (h1:a.eval (.tmp t)=.pointer (some ⟨b,o,none⟩)) (hc:P4o w b o s x y p) :
  (execOp a.eval { dst:=some d,op:=Op.load 27 (.tmp t),type:=u,pos:=ps,after:=ed,guard:=none }).run Tryz.prog w=.ok (.value (.agg #[.bool s,.int .u64 x,.int .u64 y,.pointer p])) w:=by
 obtain ⟨c0,c1,c2,c3⟩:=hc
 unfold execOp
 simp only [h1]
 go_simp
theorem run_load1 (a:Act) (w:World) (d t:Nat) (u:TypeId) (ps:String) (ed:Array Edge) (b:Nat) (q:Option Addr) (m c:Nat) (h1:a.eval (.tmp t)=.pointer (some ⟨b,0,none⟩)) (hc:w.cell? ⟨b,0,none⟩=some (.slice q m c)) :
  (execOp a.eval { dst:=some d,op:=Op.load 42 (.tmp t),type:=u,pos:=ps,after:=ed,guard:=none }).run Tryz.prog w=.ok (.value (.slice q m c)) w:=by
 unfold execOp
 simp only [h1]
 go_simp
theorem run_moved (a:Act) (w:World) (d t:Nat) (u:TypeId) (ps:String) (ed:Array Edge) (N:Value) (h:a.eval (.tmp t)=N) :
  (execOp a.eval { dst:=some d,op:=Op.move (.tmp t),type:=u,pos:=ps,after:=ed,guard:=none }).run Tryz.prog w=.ok (.value N) w:=by
 unfold execOp
 simp only [h]
 go_simp
theorem run_less1 (a:Act) (w:World) (d t:Nat) (u:TypeId) (ps:String) (ed:Array Edge) (k:Nat) (hk:k<1000000) (h:a.eval (.tmp t)=.int .i64 ((k+1:Nat):Int)) :
  (execOp a.eval { dst:=some d,op:=Op.binOp BinOp.sub 3 (.tmp t) (.const (.int .i64 1)) 3,type:=u,pos:=ps,after:=ed,guard:=none }).run Tryz.prog w=.ok (.value (.int .i64 (k:Int))) w:=by
 have e:a.eval (.const (.int .i64 1))=.int .i64 1:=rfl
 unfold execOp
 simp only [h,e]
 go_simp
 rw [IntKind.wrap_i64]
 omega
theorem run_indexed (a:Act) (w:World) (d t1 t2:Nat) (u:TypeId) (ps:String) (ed:Array Edge) (b off n c k:Nat) (hk:k<n) (_hn:n<1000000) (h1:a.eval (.tmp t1)=.slice (some ⟨b,off,none⟩) n c) (h2:a.eval (.tmp t2)=.int .i64 (k:Int)) :
  (execOp a.eval { dst:=some d,op:=Op.indexAddr 42 (.tmp t1) (.tmp t2),type:=u,pos:=ps,after:=ed,guard:=none }).run Tryz.prog w=.ok (.value (.pointer (some ⟨b,off+k*4,none⟩))) w:=by
 unfold execOp
 simp only [h1,h2]
 go_simp
theorem run_store4 (a:Act) (w:World) (t1 t2:Nat) (u:TypeId) (ps:String) (ed:Array Edge) (g:Nat) (s:Bool) (x y:Int) (p:Option Addr) {s':Bool} {x' y':Int} {p':Option Addr} (h1:a.eval (.tmp t1)=.pointer (some ⟨g,0,none⟩)) (h2:a.eval (.tmp t2)=.agg #[.bool s,.int .u64 x,.int .u64 y,.pointer p]) (hc:P4 w g s' x' y' p') (fz:∀ j,w.frozen? ⟨g,j,none⟩=false) :
  (execOp a.eval { dst:=none,op:=Op.store 27 (.tmp t1) (.tmp t2),type:=u,pos:=ps,after:=ed,guard:=none }).run Tryz.prog w=.ok .skip ((((w.setCell ⟨g,0,none⟩ (.bool s)).setCell ⟨g,1,none⟩ (.int .u64 x)).setCell ⟨g,2,none⟩ (.int .u64 y)).setCell ⟨g,3,none⟩ (.pointer p)):=by
 obtain ⟨c0,c1,c2,c3⟩:=hc
 unfold execOp
 simp only [h1,h2]
 go_simp
def put4 (w:World) (g:Nat) (s:Bool) (x y:Int) (p:Option Addr):World:=(((w.setCell ⟨g,0,none⟩ (.bool s)).setCell ⟨g,1,none⟩ (.int .u64 x)).setCell ⟨g,2,none⟩ (.int .u64 y)).setCell ⟨g,3,none⟩ (.pointer p)
theorem put4_but (w:World) (g:Nat) (s:Bool) (x y:Int) (p:Option Addr):But [g] w (put4 w g s x y p):=(((((But.refl [g] w).setCell (.inl (by simp)) _).setCell (.inl (by simp)) _).setCell (.inl (by simp)) _).setCell (.inl (by simp)) _)
theorem put4_p4 (w:World) (g:Nat) (s:Bool) (x y:Int) (p:Option Addr) {s':Bool} {x' y':Int} {p':Option Addr} (hc:P4 w g s' x' y' p'):P4 (put4 w g s x y p) g s x y p:=by
 obtain ⟨h1,-⟩:=set4_all w g (.bool s) (.int .u64 x) (.int .u64 y) (.pointer p) (by rw [hc.1];rfl) (by rw [hc.2.1];rfl) (by rw [hc.2.2.1];rfl) (by rw [hc.2.2.2];rfl)
 exact ⟨h1 0 (by omega),h1 1 (by omega),h1 2 (by omega),h1 3 (by omega)⟩
theorem put4_fz (w:World) (g:Nat) (s:Bool) (x y:Int) (p:Option Addr) (b j:Nat):(put4 w g s x y p).frozen? ⟨b,j,none⟩=w.frozen? ⟨b,j,none⟩:=by
 unfold put4
 simp only [World.frozen?_setCell]
def calmOps (ops:Array Oper):Bool:=(List.range ops.size).all fun i=>match ops[i]? with
 | some o=>o.guard.isNone && (match o.op with | .defer _=>false | _=>true)
 | none=>true
theorem calm_of {ops:Array Oper} (h:calmOps ops=true):∀ (i:Nat) (o:Oper),ops[i]? = some o→o.guard=none∧∀ c,o.op≠.defer c:=fun i o ho=>by
 have hi:i<ops.size:=(Array.getElem?_eq_some_iff.1 ho).1
 unfold calmOps at h
 rw [List.all_eq_true] at h
 have h1:=h i (List.mem_range.2 hi)
 simp only [ho,Bool.and_eq_true,Option.isNone_iff_eq_none] at h1
 exact ⟨h1.1,fun c e=>by rw [e] at h1;simp at h1⟩
theorem dep_have {ops:Array Oper} {ps:List (Nat × Nat)} (h:depOps ops ps=true) {i:Nat} {o:Oper} (ho:ops[i]? = some o) (R:Nat→Prop) (hdep:∀ e ∈ o.after,Region.binds .any e=true→R e.on) (j:Nat) (hij:(i,j) ∈ ps):R j:=by
 obtain ⟨o',ho',ed,hed,hbi,rfl⟩:=dep_of h i j hij
 rw [ho] at ho'
 obtain rfl:=Option.some.inj ho'
 exact hdep ed hed hbi
structure Calm (A B:World):Prop where
 size:A.heap.size≤B.heap.size
 block:∀ k i v,A.cell? ⟨k,i,none⟩=some v→B.heap[k]? = A.heap[k]?
theorem Calm.cell {A B:World} (h:Calm A B) {k i:Nat} {v:Value} (hc:A.cell? ⟨k,i,none⟩=some v):B.cell? ⟨k,i,none⟩=some v:=(World.cell?_of_block (w:=A) (h.block k i v hc)).trans hc
theorem Calm.frozen {A B:World} (h:Calm A B) {k i j:Nat} {v:Value} (hc:A.cell? ⟨k,i,none⟩=some v):B.frozen? ⟨k,j,none⟩=A.frozen? ⟨k,j,none⟩:=World.frozen?_of_block (w:=A) (a:=⟨k,j,none⟩) (h.block k i v hc)
theorem Sl.calm {k:IntKind} {A B:World} {v:Value} {xs:List Nat} (h:Sl k A v xs) (hb:Calm A B):Sl k B v xs:=by
 obtain ⟨a,cap,rfl,hc,h,hi⟩:=h
 refine ⟨a,cap,rfl,hc,fun i hi=>?_,fun b off e h0=>?_⟩
 ·obtain ⟨b,off,rfl,h2⟩:=h i hi
  exact ⟨b,off,rfl,hb.cell h2⟩
 ·subst e
  obtain ⟨b2,off2,e2,h2⟩:=h 0 h0
  simp only [Option.some.injEq,Addr.mk.injEq] at e2
  obtain ⟨rfl,rfl,-⟩:=e2
  have hbl:=hb.block _ _ _ h2
  exact fun i v hv=>hi _ _ rfl h0 i v (by rw [← World.cell?_of_block (w:=A) (w':=B) (a:=⟨_,i,none⟩) hbl];exact hv)
theorem FracAt.calm {A B:World} {v:Value} {f:Rat} (h:FracAt A v f) (hb:Calm A B):FracAt B v f:=by
 rcases h with h | ⟨h1,b,v1,v2,h2,h3,h4,h5,h6⟩
 ·exact .inl h
 ·exact .inr ⟨h1,b,v1,v2,h2,hb.cell h3,hb.cell h4,h5.calm hb,h6.calm hb⟩
theorem P4o.calm {A B:World} {b o:Nat} {s:Bool} {x y:Int} {p:Option Addr} (h:P4o A b o s x y p) (hb:Calm A B):P4o B b o s x y p:=⟨hb.cell h.1,hb.cell h.2.1,hb.cell h.2.2.1,hb.cell h.2.2.2⟩
theorem P4.calm {A B:World} {b:Nat} {s:Bool} {x y:Int} {p:Option Addr} (h:P4 A b s x y p) (hb:Calm A B):P4 B b s x y p:=⟨hb.cell h.1,hb.cell h.2.1,hb.cell h.2.2.1,hb.cell h.2.2.2⟩
def BoxAt (w:World) (g:Nat) (f:Rat):Prop:=(∃ s x y p,P4 w g s x y p∧FracAt w (.agg #[.bool s,.int .u64 x,.int .u64 y,.pointer p]) f)∧∀ j,w.frozen? ⟨g,j,none⟩=false
theorem BoxAt.calm {A B:World} {g:Nat} {f:Rat} (h:BoxAt A g f) (hb:Calm A B):BoxAt B g f:=by
 obtain ⟨⟨s,x,y,p,h1,h2⟩,h3⟩:=h
 exact ⟨⟨s,x,y,p,h1.calm hb,h2.calm hb⟩,fun j=>(hb.frozen h1.1).trans (h3 j)⟩
theorem BoxAt.but {A B:World} {g:Nat} {f:Rat} (h:BoxAt A g f) (hb:But [] A B):BoxAt B g f:=by
 obtain ⟨⟨s,x,y,p,h1,h2⟩,h3⟩:=h
 have hl:g<A.heap.size:=lt_of_cell h1.1
 exact ⟨⟨s,x,y,p,h1.but hb (by simp),h2.but hb⟩,fun j=>(hb.frozen (p:=⟨g,j,none⟩) hl (by simp)).trans (h3 j)⟩
theorem BoxAt.beside {A B:World} {g:Nat} {f:Rat} {l:List Nat} (h:BoxAt A g f) (hb:But l A B) (hn:g ∉ l) (hc:∀ g ∈ l,∃ s,A.cell? ⟨g,0,none⟩=some (.bool s)):BoxAt B g f:=by
 obtain ⟨⟨s,x,y,p,h1,h2⟩,h3⟩:=h
 have hl:g<A.heap.size:=lt_of_cell h1.1
 exact ⟨⟨s,x,y,p,h1.but hb hn,h2.beside hb hc⟩,fun j=>(hb.frozen (p:=⟨g,j,none⟩) hl hn).trans (h3 j)⟩
theorem BoxAt.put {w:World} {g:Nat} {f f':Rat} (h:BoxAt w g f) {s:Bool} {x y:Int} {p:Option Addr} (hf:FracAt w (.agg #[.bool s,.int .u64 x,.int .u64 y,.pointer p]) f'):BoxAt (put4 w g s x y p) g f':=by
 obtain ⟨⟨s0,x0,y0,p0,h1,h2⟩,h3⟩:=h
 exact ⟨⟨s,x,y,p,put4_p4 w g s x y p h1,hf.over h1.1 (put4_but w g s x y p)⟩,fun j=>(put4_fz w g s x y p g j).trans (h3 j)⟩
theorem BoxAt.new (w:World) (s:Bool) (x y:Int) (p:Option Addr) (f:Rat) (t:TypeId) (h:FracAt w (.agg #[.bool s,.int .u64 x,.int .u64 y,.pointer p]) f):BoxAt (w.alloc (.cells #[.bool s,.int .u64 x,.int .u64 y,.pointer p] t)) w.heap.size f :=
 ⟨⟨s,x,y,p,⟨by simp,by simp,by simp,by simp⟩,h.but ((But.refl _ _).alloc _)⟩,fun j=>by simp⟩
theorem BoxAt.lt {w:World} {g:Nat} {f:Rat} (h:BoxAt w g f):g<w.heap.size:=by
 obtain ⟨⟨s,x,y,p,h1,-⟩,-⟩:=h
 exact lt_of_cell h1.1
theorem BoxAt.bool {w:World} {g:Nat} {f:Rat} (h:BoxAt w g f):∃ s,w.cell? ⟨g,0,none⟩=some (.bool s):=by
 obtain ⟨⟨s,x,y,p,h1,-⟩,-⟩:=h
 exact ⟨s,h1.1⟩
theorem LiesAt.calm {A B:World} {b o:Nat} {f:Rat} (h:LiesAt A b o f) (hb:Calm A B):LiesAt B b o f:=by
 obtain ⟨s,x,y,p,h1,h2⟩:=h
 exact ⟨s,x,y,p,h1.calm hb,h2.calm hb⟩
theorem FracsAt.calm {A B:World} {v:Value} {fs:List Rat} (h:FracsAt A v fs) (hb:Calm A B):FracsAt B v fs:=by
 obtain ⟨a,cap,e,hc,h⟩:=h
 refine ⟨a,cap,e,hc,fun i f hf=>?_⟩
 obtain ⟨b,off,e1,h1⟩:=h i f hf
 exact ⟨b,off,e1,h1.calm hb⟩
theorem FracsAt.get {w:World} {b off n cap:Nat} {fs:List Rat} (h:FracsAt w (.slice (some ⟨b,off,none⟩) n cap) fs) (i:Nat) (hi:i<n):∃ s x y p,P4o w b (off+i*4) s x y p∧FracAt w (.agg #[.bool s,.int .u64 x,.int .u64 y,.pointer p]) (fs[i]?.getD 0):=by
 obtain ⟨a,cap',e,-,h⟩:=h
 simp only [Value.slice.injEq] at e
 obtain ⟨rfl,rfl,-⟩:=e
 obtain ⟨b',off',e2,s,x,y,p,h1,h2⟩:=h i fs[i] (List.getElem?_eq_getElem hi)
 simp only [Option.some.injEq,Addr.mk.injEq] at e2
 obtain ⟨rfl,rfl,-⟩:=e2
 exact ⟨s,x,y,p,h1,by rw [List.getElem?_eq_getElem hi];exact h2⟩
theorem in_parts {P:Program} {f:FuncId} {args:Array Value} {w:World} {r:Rat} (h:Calls P f args w fun e w'=>∃ v,e=.returned v∧FracAt w' v r∧But [] w w') :
  Calls P f args w fun e w'=>∃ s x y p,e=.returned (.agg #[.bool s,.int .u64 x,.int .u64 y,.pointer p])∧FracAt w' (.agg #[.bool s,.int .u64 x,.int .u64 y,.pointer p]) r∧But [] w w' :=
 h.mono fun e w' ⟨v,he,hv,hb⟩=>by
  obtain ⟨x,y,p,rfl,-⟩:=hv.agg
  exact ⟨_,x,y,p,he,hv,hb⟩
theorem zero_at (w:World):FracAt w (.agg #[.bool false,.int .u64 0,.int .u64 0,.pointer none]) 0:=.inl ⟨by decide,by decide,rfl⟩
theorem FracsAt.behind {w0 w w':World} {v:Value} {fs:List Rat} {g:Nat} (h0:FracsAt w0 v fs) (h:FracsAt w v fs) (hb:But [g] w w') (hg:w0.heap.size≤g) (hc:∃ s,w.cell? ⟨g,0,none⟩=some (.bool s)):FracsAt w' v fs:=by
 obtain ⟨a0,cap0,e0,-,k0⟩:=h0
 obtain ⟨a,cap,rfl,hcp,k⟩:=h
 simp only [Value.slice.injEq] at e0
 obtain ⟨rfl,-,-⟩:=e0
 refine ⟨a,cap,rfl,hcp,fun i f hf=>?_⟩
 obtain ⟨b,off,rfl,h1⟩:=k i f hf
 obtain ⟨b',off',e',s,x,y,p,h2,-⟩:=k0 i f hf
 simp only [Option.some.injEq,Addr.mk.injEq] at e'
 obtain ⟨rfl,-,-⟩:=e'
 have hlt:b<w0.heap.size:=lt_of_cell h2.1
 exact ⟨b,off,rfl,h1.beside hb (by simp;omega) (fun g' hg'=>by simp at hg';subst hg';exact hc)⟩
theorem info_frac:∃ i,Tryz.prog.info? 27 = some i∧i.zero=some (.agg #[.bool false,.int .u64 0,.int .u64 0,.pointer none])∧i.size=4∧i.bytes=32:=by
 have h:(Tryz.prog.info? 27).map (fun i=>(i.zero,i.size,i.bytes))=some (some (.agg #[.bool false,.int .u64 0,.int .u64 0,.pointer none]),4,32):=by kernel_rfl
 cases e:Tryz.prog.info? 27 with
 | none=>rw [e] at h;simp at h
 | some i =>
  rw [e] at h
  simp only [Option.map_some,Option.some.injEq,Prod.mk.injEq] at h
  exact ⟨i,rfl,h.1,h.2.1,h.2.2⟩
theorem run_makeF (wx:World) (n:Nat) (h:n<1000000):(Instr.makeSlice 42 (.int .i64 (n:Int)) (.int .i64 (n:Int))).run Tryz.prog wx=.ok (.slice (some ⟨wx.heap.size,0,none⟩) n n) (wx.alloc (.cells (madeCells #[.bool false,.int .u64 0,.int .u64 0,.pointer none] (n*4)) 27)):=by
 obtain ⟨ti,hi,hz,hs,hbt⟩:=info_frac
 have hmk:=run_make (P:=Tryz.prog) wx 42 27 ti _ Tryz.underlying42 hi hz .i64 .i64 (n:Int) (n:Int) (by omega) (by omega) (by rw [hbt];omega) (by omega)
 rw [hs,Int.toNat_natCast] at hmk
 exact hmk
theorem made_four (n o:Nat) (h:o<n*4):(madeCells #[Value.bool false,.int .u64 0,.int .u64 0,.pointer none] (n*4))[o]? = (#[Value.bool false,.int .u64 0,.int .u64 0,.pointer none]:Array Value)[o%4]?:=by
 unfold madeCells
 rw [Array.getElem?_map,Array.getElem?_eq_getElem (by simpa using h),Array.getElem_range,Option.map_some]
 have:o%4=0∨o%4=1∨o%4=2∨o%4=3:=by omega
 show some ((#[Value.bool false,.int .u64 0,.int .u64 0,.pointer none]:Array Value)[o%4]!)=_
 rcases this with e | e | e | e <;> (rw [e];rfl)
end Go.Proofs.YtollloafckcogaaGreatDoor

namespace Go.Proofs.YtollloafckcogaaGreatDoor
open Go.RowKit
structure NamedS {α:Type} (ops:Array Oper) (base:Act) (H:α→(Nat→Bool)→World→Prop) (V:α→Nat→Value) (T:Nat→Nat) (wr:Nat→Bool) (m:Nat) (d:Nat→Bool) (a:Act) (w:World) (N:α):Prop where
 down:Closed ops d
 mem:H N d w
 size:a.tmps.size=base.tmps.size
 defers:a.defers=base.defers
 rest:∀ t,(∀ j,j<m→wr j=true→d j=true→t≠T j)→a.tmps[t]? = base.tmps[t]?
 has:∀ i,i<m→wr i=true→d i=true→a.eval (.tmp (T i))=V N i
theorem region_all {P:Program} {id:Nat} {ops:Array Oper} {Q:Exit→Act→World→Prop} {base:Act} {W0:World} (hm:P.follows .mixedOrders=true)
  (hlow:∀ i o,ops[i]? = some o→∀ e ∈ o.after,Region.binds .any e=true→e.on<i)
  (hg:∀ (i:Nat) (o:Oper),ops[i]? = some o→o.guard=none)
  {α:Type} (H:α→(Nat→Bool)→World→Prop) (V:α→Nat→Value) (T:Nat→Nat) (wr:Nat→Bool) (m:Nat) (hsz:ops.size=m)
  (hinj:∀ i j,i<m→j<m→wr i=true→wr j=true→T i=T j→i=j) (hT:∀ i,i<m→wr i=true→T i<base.tmps.size) (N0:α) (h0:H N0 (fun _=>false) W0.drew)
  (hstep:∀ (N:α) (d:Nat→Bool) (i:Nat) (o:Oper) (a:Act) (w:World) (K:Act→World→Prop),i<m→ops[i]? = some o→d i=false→Closed ops d→H N d w→(∀ t,(∀ j,j<m→wr j=true→d j=true→t≠T j)→a.eval (.tmp t)=base.eval (.tmp t))→(∀ e ∈ o.after,Region.binds .any e=true→d e.on=true∧(wr e.on=true→a.eval (.tmp (T e.on))=V N e.on))→(∀ N' v w',(wr i=true→v=V N' i)→(∀ j,j<m→wr j=true→d j=true→V N' j=V N j)→H N' (came d i) w'→K (a.put (if wr i=true then some (T i) else none) v) w')→o.wp P a w K Q)
  (hend:∀ N d w,(∀ i,i<m→d i=true)→H N d w→Q .normal (putted base (((List.range m).filter wr).map fun i=>(T i,V N i))) w) :
  (Code.region id ops true).wp P Q base W0:=by
 have wpo:∀ i o a w (K:Act→World→Prop),ops[i]? = some o→o.wp P a w K Q→wpOp P ops Q i K a w:=fun i o a w K ho h=>by
  unfold wpOp
  simp only [ho,Region.wanted,hg i o ho,if_true]
  exact .inl h
 refine region_inv hm hlow (fun d a w=>∃ N,NamedS ops base H V T wr m d a w N) ?_ ?_ ?_
 ·exact ⟨N0,fun _ _ _ h=>by simp at h,h0,rfl,rfl,fun _ _=>rfl,fun _ _ _ h=>by simp at h⟩
 ·rintro d a w hd ⟨N,h⟩
  have ea:a=putted base (((List.range m).filter wr).map fun i=>(T i,V N i)):=by
   refine putted_eq _ base a h.defers h.size (fun p hp=>?_) (fun t ht=>?_)
   ·obtain ⟨i,hi,rfl⟩:=List.mem_map.1 hp
    obtain ⟨hi1,hi2⟩:=List.mem_filter.1 hi
    have hi':=List.mem_range.1 hi1
    exact slot_is (h.has i hi' hi2 (hd i (by omega))) (by rw [h.size];exact hT i hi' hi2)
   ·refine h.rest t (fun j hj hw hdj e=>?_)
    exact ht (T j,V N j) (List.mem_map.2 ⟨j,List.mem_filter.2 ⟨List.mem_range.2 hj,hw⟩,rfl⟩) e
  rw [ea]
  exact hend N d w (fun i hi=>hd i (by omega)) h.mem
 ·rintro d i o a w ho hdi hdep ⟨N,h⟩
  refine wpo i o a w _ ho ?_
  have hi:i<m:=by rw [← hsz];exact (Array.getElem?_eq_some_iff.1 ho).1
  refine hstep N d i o a w _ hi ho hdi h.down h.mem (fun t ht=>rest_eval (h.rest t ht)) (fun ed he hb=>⟨hdep ed he hb,fun hw=>h.has _ (by have:=hlow i o ho ed he hb;omega) hw (hdep ed he hb)⟩) ?_
  rintro N' v w' hv hV hH
  by_cases hw:wr i=true
  ·obtain rfl:=hv hw
   rw [if_pos hw]
   refine ⟨N',h.down.next ho hdep,hH,by rw [size_putted];exact h.size,h.defers,fun t ht=>?_,fun j hj hwj hd=>?_⟩
   ·rw [slot_put,if_neg (fun e=>ht i hi hw (came_self d i) e.symm)]
    refine h.rest t (fun j hj hwj hdj=>ht j hj hwj ?_)
    by_cases e:j=i
    ·subst e;exact came_self d j
    ·rw [came_ne d e];exact hdj
   ·by_cases e:j=i
    ·subst e
     exact at_eq a (T j) _ (by rw [h.size];exact hT j hj hwj)
    ·rw [came_ne d e] at hd
     rw [at_ne a (T i) (T j) _ (fun e2=>e (hinj j i hj hi hwj hw e2)),h.has j hj hwj hd]
     exact (hV j hj hwj hd).symm
  ·rw [if_neg hw]
   have ne:∀ j,wr j=true→j≠i:=fun j hj e=>hw (e ▸ hj)
   refine ⟨N',h.down.next ho hdep,hH,h.size,h.defers,fun t ht=>h.rest t (fun j hj hwj hdj=>ht j hj hwj (by rw [came_ne d (ne j hwj)];exact hdj)),fun j hj hwj hd=>?_⟩
   rw [came_ne d (ne j hwj)] at hd
   rw [show a.put none v=a from rfl,h.has j hj hwj hd]
   exact (hV j hj hwj hd).symm
end Go.Proofs.YtollloafckcogaaGreatDoor

namespace Go.Proofs.YtollloafckcogaaGreatDoor
open Go.RowKit
theorem run_mvK (a:Act) (w:World) (d t:Nat) (u:TypeId) (ps:String) (ed:Array Edge) (gd:Option (Nat × Bool)) (N:Value) (h:a.eval (.tmp t)=N) :
  (execOp a.eval { dst:=some d,op:=Op.move (.tmp t),type:=u,pos:=ps,after:=ed,guard:=gd }).run Tryz.prog w=.ok (.value N) w:=by
 unfold execOp
 simp only [h]
 go_simp
abbrev FZ:=Bool × Int × Int × Option Addr
theorem in_prod {P:Program} {f:FuncId} {args:Array Value} {w:World} {r:Rat} (h:Calls P f args w fun e w'=>∃ v,e=.returned v∧FracAt w' v r∧But [] w w') :
  Calls P f args w fun e w'=>∃ z:FZ,e=.returned (.agg #[.bool z.1,.int .u64 z.2.1,.int .u64 z.2.2.1,.pointer z.2.2.2])∧FracAt w' (.agg #[.bool z.1,.int .u64 z.2.1,.int .u64 z.2.2.1,.pointer z.2.2.2]) r∧But [] w w' :=
 (in_parts h).mono fun _ _ ⟨s,x,y,p,h1,h2,h3⟩=>⟨(s,x,y,p),h1,h2,h3⟩
end Go.Proofs.YtollloafckcogaaGreatDoor

namespace Go.Proofs.YtollloafckcogaaGreatDoor
open Go.RowKit
theorem run_loadK (a:Act) (w:World) (d t:Nat) (u:TypeId) (ps:String) (ed:Array Edge) (gd:Option (Nat × Bool)) (b o:Nat) (s:Bool) (x y:Int) (p:Option Addr) (h1:a.eval (.tmp t)=.pointer (some ⟨b,o,none⟩)) (hc:P4o w b o s x y p) :
  (execOp a.eval { dst:=some d,op:=Op.load 27 (.tmp t),type:=u,pos:=ps,after:=ed,guard:=gd }).run Tryz.prog w=.ok (.value (.agg #[.bool s,.int .u64 x,.int .u64 y,.pointer p])) w:=by
 obtain ⟨c0,c1,c2,c3⟩:=hc
 unfold execOp
 simp only [h1]
 go_simp
end Go.Proofs.YtollloafckcogaaGreatDoor

namespace Go.Proofs.YtollloafckcogaaGreatDoor
open Go.RowKit
set_option linter.unusedVariables false
structure Row4 (w:World) (g n i:Nat) (F:Nat→Rat):Prop where
 blank:∀ j,i≤j→j<n→P4o w g (j*4) false 0 0 none
 told:∀ j,j<i→LiesAt w g (j*4) (F j)
 loose:∀ o,w.frozen? ⟨g,o,none⟩=false
theorem Row4.made (w:World) (n:Nat) (F:Nat→Rat):Row4 (w.alloc (.cells (madeCells #[Value.bool false,.int .u64 0,.int .u64 0,.pointer none] (n*4)) 27)) w.heap.size n 0 F:=by
 have hc:∀ j k,j<n→k<4→(w.alloc (.cells (madeCells #[Value.bool false,.int .u64 0,.int .u64 0,.pointer none] (n*4)) 27)).cell? ⟨w.heap.size,j*4+k,none⟩=(#[Value.bool false,.int .u64 0,.int .u64 0,.pointer none]:Array Value)[k]?:=fun j k hj hk=>by
  rw [World.cell?_alloc_new,made_four n _ (by omega),show (j*4+k)%4=k from by omega]
 exact ⟨fun j _ hj=>⟨hc j 0 hj (by omega),hc j 1 hj (by omega),hc j 2 hj (by omega),hc j 3 hj (by omega)⟩,fun j hj=>by omega,fun o=>by simp⟩
theorem Row4.but {w w':World} {g n i:Nat} {F:Nat→Rat} (h:Row4 w g n i F) (hb:But [] w w') (hg:g<w.heap.size):Row4 w' g n i F :=
 ⟨fun j h1 h2=>(h.blank j h1 h2).but hb (by simp),fun j hj=>(h.told j hj).but hb,fun o=>(hb.frozen (p:=⟨g,o,none⟩) hg (by simp)).trans (h.loose o)⟩
theorem Row4.bool {w:World} {g n i:Nat} {F:Nat→Rat} (h:Row4 w g n i F) (h0:0<n):∃ s,w.cell? ⟨g,0,none⟩=some (.bool s):=by
 rcases Nat.eq_zero_or_pos i with e | e
 ·subst e
  have a:=h.blank 0 (Nat.le_refl _) h0
  rw [Nat.zero_mul] at a
  exact ⟨_,a.1⟩
 ·obtain ⟨s,x,y,p,a,-⟩:=h.told 0 e
  rw [Nat.zero_mul] at a
  exact ⟨_,a.1⟩
theorem Row4.next {w:World} {g n i:Nat} {F:Nat→Rat} (h:Row4 w g n i F) (hi:i<n) (s1:Bool) (x1 y1:Int) (p1:Option Addr) (h1:FracAt w (.agg #[.bool s1,.int .u64 x1,.int .u64 y1,.pointer p1]) (F i)) :
  Row4 (w.setCells g (i*4) [.bool s1,.int .u64 x1,.int .u64 y1,.pointer p1]) g n (i+1) F:=by
 obtain ⟨c,hc⟩:=h.bool (by omega)
 have a1:=h.blank i (Nat.le_refl _) hi
 have hb:=but_setCells w g [.bool s1,.int .u64 x1,.int .u64 y1,.pointer p1] (i*4)
 have some4:∀ k,k<4→(w.cell? ⟨g,i*4+k,none⟩).isSome=true:=fun k hk=>by
  have:k=0∨k=1∨k=2∨k=3:=by omega
  rcases this with rfl | rfl | rfl | rfl
  ·rw [show i*4+0=i*4 from rfl,a1.1];rfl
  ·rw [a1.2.1];rfl
  ·rw [a1.2.2.1];rfl
  ·rw [a1.2.2.2];rfl
 have hin:∀ k (hk:k<4),(w.setCells g (i*4) [.bool s1,.int .u64 x1,.int .u64 y1,.pointer p1]).cell? ⟨g,i*4+k,none⟩=some ([Value.bool s1,.int .u64 x1,.int .u64 y1,.pointer p1][k]'hk):=fun k hk =>
  World.cell?_setCells_in g [.bool s1,.int .u64 x1,.int .u64 y1,.pointer p1] (i*4) w (fun j hj=>some4 j hj) k hk
 have hout:∀ o,o<i*4∨i*4+4≤o→(w.setCells g (i*4) [.bool s1,.int .u64 x1,.int .u64 y1,.pointer p1]).cell? ⟨g,o,none⟩=w.cell? ⟨g,o,none⟩:=fun o ho=>World.cell?_setCells_out g _ (i*4) w _ (fun _ _=>by simp;omega)
 have keep:∀ o s x y p,o+4≤i*4∨i*4+4≤o→P4o w g o s x y p→P4o (w.setCells g (i*4) [.bool s1,.int .u64 x1,.int .u64 y1,.pointer p1]) g o s x y p:=fun o s x y p ho hp=>⟨(hout o (by omega)).trans hp.1,(hout (o+1) (by omega)).trans hp.2.1,(hout (o+2) (by omega)).trans hp.2.2.1,(hout (o+3) (by omega)).trans hp.2.2.2⟩
 have hfr:∀ {v f},FracAt w v f→FracAt (w.setCells g (i*4) [.bool s1,.int .u64 x1,.int .u64 y1,.pointer p1]) v f:=fun hf=>hf.over hc hb
 refine ⟨fun j h1 h2=>keep _ _ _ _ _ (by omega) (h.blank j (by omega) h2),fun j hj=>?_,fun o=>by rw [World.frozen?_setCells];exact h.loose o⟩
 by_cases e:j=i
 ·subst e
  exact ⟨s1,x1,y1,p1,⟨hin 0 (by omega),hin 1 (by omega),hin 2 (by omega),hin 3 (by omega)⟩,hfr h1⟩
 ·obtain ⟨t1,u1,v1,q1,b1,f1⟩:=h.told j (by omega)
  exact ⟨t1,u1,v1,q1,keep _ _ _ _ _ (by omega) b1,hfr f1⟩
theorem Row4.fracs {w:World} {g n:Nat} {F:Nat→Rat} (h:Row4 w g n n F):FracsAt w (.slice (some ⟨g,0,none⟩) n n) ((List.range n).map F) :=
 ⟨some ⟨g,0,none⟩,n,by simp,by simp,fun i f hf=>by
  rw [List.getElem?_map] at hf
  by_cases hi:i<n
  ·rw [List.getElem?_range hi] at hf
   simp only [Option.map_some,Option.some.injEq] at hf
   subst hf
   exact ⟨g,0,rfl,by rw [Nat.zero_add];exact h.told i hi⟩
  ·rw [List.getElem?_eq_none (by simp;omega)] at hf
   simp at hf⟩
end Go.Proofs.YtollloafckcogaaGreatDoor
