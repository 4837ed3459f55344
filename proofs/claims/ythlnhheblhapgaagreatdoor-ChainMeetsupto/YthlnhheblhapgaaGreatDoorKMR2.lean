/- What single operations do, as the Go tex -/
import Derived.Test.YthlnhheblhapgaaGreatDoorKMN1
import Derived.Test.YthlnhheblhapgaaGreatDoorKMPc
import Derived.Test.YthlnhheblhapgaaGreatDoorKMPm
namespace Go.Proofs.YthlnhheblhapgaaGreatDoor
open Go.RowKit
def lowOps (ops:Array Oper):Bool:=(List.range ops.size).all fun i=>match ops[i]? with
 | some o=>o.after.all fun e=>!(Region.binds .any e) || decide (e.on<i)
 | none=>true
theorem low_of {ops:Array Oper} (h:lowOps ops=true):∀ i o,ops[i]? = some o→∀ e ∈ o.after,Region.binds .any e=true→e.on<i:=fun i o ho e he hb=>by
 have hi:i<ops.size:=(Array.getElem?_eq_some_iff.1 ho).1
 unfold lowOps at h
 rw [List.all_eq_true] at h
 have h1:=h i (List.mem_range.2 hi)
 simp only [ho] at h1
 rw [Array.all_eq_true_iff_forall_mem] at h1
 have h2:=h1 e he
 simpa [hb] using h2
def depOps (ops:Array Oper) (ps:List (Nat × Nat)):Bool:=ps.all fun p=>match ops[p.1]? with
 | some o=>o.after.any fun e=>Region.binds .any e && e.on==p.2
 | none=>false
theorem dep_of {ops:Array Oper} {ps:List (Nat × Nat)} (h:depOps ops ps=true):∀ i j,(i,j) ∈ ps→∃ o,ops[i]? = some o∧∃ e ∈ o.after,Region.binds .any e=true∧e.on=j:=fun i j hij=>by
 unfold depOps at h
 rw [List.all_eq_true] at h
 have h1:=h (i,j) hij
 cases ho:ops[i]? with
 | none=>simp [ho] at h1
 | some o =>
  simp only [ho] at h1
  rw [Array.any_eq_true] at h1
  obtain ⟨k,hk,h2⟩:=h1
  simp only [Bool.and_eq_true,beq_iff_eq] at h2
  exact ⟨o,rfl,o.after[k],Array.getElem_mem hk,h2.1,h2.2⟩
def P4 (w:World) (g:Nat) (s:Bool) (x y:Int) (p:Option Addr):Prop:=w.cell? ⟨g,0,none⟩=some (.bool s)∧w.cell? ⟨g,1,none⟩=some (.int .u64 x)∧w.cell? ⟨g,2,none⟩=some (.int .u64 y)∧w.cell? ⟨g,3,none⟩=some (.pointer p)
theorem P4.but {w w':World} {g:Nat} {s:Bool} {x y:Int} {p:Option Addr} {l:List Nat} (h:P4 w g s x y p) (hb:But l w w') (hn:g ∉ l):P4 w' g s x y p:=⟨hb.cell_some h.1 hn,hb.cell_some h.2.1 hn,hb.cell_some h.2.2.1 hn,hb.cell_some h.2.2.2 hn⟩
theorem set_off (w:World) (b i j:Nat) (v:Value) (hij:i≠j):(w.setCell ⟨b,i,none⟩ v).cell? ⟨b,j,none⟩=w.cell? ⟨b,j,none⟩:=World.cell?_setCell_other w ⟨b,i,none⟩ ⟨b,j,none⟩ v (fun e=>hij (Addr.mk.inj e).2.1)
theorem set4_all (w:World) (b:Nat) (v0 v1 v2 v3:Value) (c0:(w.cell? ⟨b,0,none⟩).isSome=true) (c1:(w.cell? ⟨b,1,none⟩).isSome=true) (c2:(w.cell? ⟨b,2,none⟩).isSome=true) (c3:(w.cell? ⟨b,3,none⟩).isSome=true) :
  (∀ j,j<4→((((w.setCell ⟨b,0,none⟩ v0).setCell ⟨b,1,none⟩ v1).setCell ⟨b,2,none⟩ v2).setCell ⟨b,3,none⟩ v3).cell? ⟨b,j,none⟩=#[v0,v1,v2,v3][j]?)∧∀ j,4≤j→((((w.setCell ⟨b,0,none⟩ v0).setCell ⟨b,1,none⟩ v1).setCell ⟨b,2,none⟩ v2).setCell ⟨b,3,none⟩ v3).cell? ⟨b,j,none⟩=w.cell? ⟨b,j,none⟩:=by
 constructor
 ·intro j hj
  have:j=0∨j=1∨j=2∨j=3:=by omega
  rcases this with rfl | rfl | rfl | rfl
  ·rw [set_off _ _ 3 0 _ (by omega),set_off _ _ 2 0 _ (by omega),set_off _ _ 1 0 _ (by omega)]
   exact World.cell?_setCell_same' _ _ _ c0
  ·rw [set_off _ _ 3 1 _ (by omega),set_off _ _ 2 1 _ (by omega)]
   exact World.cell?_setCell_same' _ _ _ (by rw [set_off _ _ 0 1 _ (by omega)];exact c1)
  ·rw [set_off _ _ 3 2 _ (by omega)]
   exact World.cell?_setCell_same' _ _ _ (by rw [set_off _ _ 1 2 _ (by omega),set_off _ _ 0 2 _ (by omega)];exact c2)
  ·exact World.cell?_setCell_same' _ _ _ (by rw [set_off _ _ 2 3 _ (by omega),set_off _ _ 1 3 _ (by omega),set_off _ _ 0 3 _ (by omega)];exact c3)
 ·intro j hj
  rw [set_off _ _ 3 j _ (by omega),set_off _ _ 2 j _ (by omega),set_off _ _ 1 j _ (by omega),set_off _ _ 0 j _ (by omega)]
end Go.Proofs.YthlnhheblhapgaaGreatDoor

namespace Go.Proofs.YthlnhheblhapgaaGreatDoor
open Go.RowKit
def bareOps (ops:Array Oper):Bool:=(List.range ops.size).all fun i=>match ops[i]? with
 | some o=>o.guard.isNone
 | none=>true
theorem bare_of {ops:Array Oper} (h:bareOps ops=true):∀ (i:Nat) (o:Oper),ops[i]? = some o→o.guard=none:=fun i o ho=>by
 have hi:i<ops.size:=(Array.getElem?_eq_some_iff.1 ho).1
 unfold bareOps at h
 rw [List.all_eq_true] at h
 have h1:=h i (List.mem_range.2 hi)
 simp only [ho] at h1
 simpa using h1
theorem dep_is {ops:Array Oper} {ps:List (Nat × Nat)} (h:depOps ops ps=true) {i:Nat} {o:Oper} (ho:ops[i]? = some o) (R:Nat→Prop) (hdep:∀ e ∈ o.after,Region.binds .any e=true→R e.on) (j:Nat) (hij:(i,j) ∈ ps):R j:=by
 obtain ⟨o',ho',e,he,hb,rfl⟩:=dep_of h i j hij
 rw [ho] at ho'
 obtain rfl:=Option.some.inj ho'
 exact hdep e he hb
def Closed (ops:Array Oper) (d:Nat→Bool):Prop:=∀ i o,ops[i]? = some o→d i=true→∀ e ∈ o.after,Region.binds .any e=true→d e.on=true
theorem Closed.dep {ops:Array Oper} {d:Nat→Bool} (h:Closed ops d) {ps:List (Nat × Nat)} (hp:depOps ops ps=true) {i j:Nat} (hij:(i,j) ∈ ps) (hd:d i=true):d j=true:=by
 obtain ⟨o,ho,e,he,hb,rfl⟩:=dep_of hp i j hij
 exact h i o ho hd e he hb
theorem Closed.not {ops:Array Oper} {d:Nat→Bool} (h:Closed ops d) {ps:List (Nat × Nat)} (hp:depOps ops ps=true) {i j:Nat} (hij:(i,j) ∈ ps) (hd:d j=false):d i=false:=by
 cases e:d i with
 | false=>rfl
 | true=>rw [h.dep hp hij e] at hd;simp at hd
theorem Closed.next {ops:Array Oper} {d:Nat→Bool} (h:Closed ops d) {i:Nat} {o:Oper} (ho:ops[i]? = some o) (hdep:∀ e ∈ o.after,Region.binds .any e=true→d e.on=true):Closed ops (came d i):=fun j oj hj hd e he hbi=>by
 by_cases e1:e.on=i
 ·rw [e1];exact came_self d i
 ·rw [came_ne d e1]
  by_cases e2:j=i
  ·subst e2
   rw [ho] at hj
   obtain rfl:=Option.some.inj hj
   exact hdep e he hbi
  ·rw [came_ne d e2] at hd
   exact h j oj hj hd e he hbi
end Go.Proofs.YthlnhheblhapgaaGreatDoor

namespace Go.Proofs.YthlnhheblhapgaaGreatDoor
open Go.RowKit
structure NamedS {α:Type} (ops:Array Oper) (base:Act) (H:α→(Nat→Bool)→World→Prop) (V:α→Nat→Value) (T:Nat→Nat) (wr:Nat→Bool) (m:Nat) (d:Nat→Bool) (a:Act) (w:World) (N:α):Prop where
 down:Closed ops d
 mem:H N d w
 size:a.tmps.size=base.tmps.size
 defers:a.defers=base.defers
 rest:∀ t,(∀ j,j<m→wr j=true→d j=true→t≠T j)→a.tmps[t]? = base.tmps[t]?
 has:∀ i,i<m→wr i=true→d i=true→a.eval (.tmp (T i))=V N i
theorem region_all {P:Program} {id:Nat} {ops:Array Oper} {Q:Exit→Act→World→Prop} {base:Act} {W0:World} (hm:P.follows .mixedOrders=true)
  (hlow:∀ i o,ops[i]? = some o→∀ e ∈ o.after,Region.binds .any e=true→e.on<i)
  (hg:∀ (i:Nat) (o:Oper),ops[i]? = some o→o.guard=none)
  {α:Type} (H:α→(Nat→Bool)→World→Prop) (V:α→Nat→Value) (T:Nat→Nat) (wr:Nat→Bool) (m:Nat) (hsz:ops.size=m)
  (hinj:∀ i j,i<m→j<m→wr i=true→wr j=true→T i=T j→i=j) (hT:∀ i,i<m→wr i=true→T i<base.tmps.size) (N0:α) (h0:H N0 (fun _=>false) W0.drew)
  (hstep:∀ (N:α) (d:Nat→Bool) (i:Nat) (o:Oper) (a:Act) (w:World) (K:Act→World→Prop),i<m→ops[i]? = some o→d i=false→Closed ops d→H N d w→(∀ t,(∀ j,j<m→wr j=true→d j=true→t≠T j)→a.eval (.tmp t)=base.eval (.tmp t))→(∀ e ∈ o.after,Region.binds .any e=true→d e.on=true∧(wr e.on=true→a.eval (.tmp (T e.on))=V N e.on))→(∀ N' v w',(wr i=true→v=V N' i)→(∀ j,j<m→wr j=true→d j=true→V N' j=V N j)→H N' (came d i) w'→K (a.put (if wr i=true then some (T i) else none) v) w')→o.wp P a w K Q)
  (hend:∀ N d w,(∀ i,i<m→d i=true)→H N d w→Q .normal (putted base (((List.range m).filter wr).map fun i=>(T i,V N i))) w) :
  (Code.region id ops true).wp P Q base W0:=by
 have wpo:∀ i o a w (K:Act→World→Prop),ops[i]? = some o→o.wp P a w K Q→wpOp P ops Q i K a w:=fun i o a w K ho h=>by
  unfold wpOp
  simp only [ho,Region.wanted,hg i o ho,if_true]
  exact .inl h
 refine region_inv hm hlow (fun d a w=>∃ N,NamedS ops base H V T wr m d a w N) ?_ ?_ ?_
 ·exact ⟨N0,fun _ _ _ h=>by simp at h,h0,rfl,rfl,fun _ _=>rfl,fun _ _ _ h=>by simp at h⟩
 ·rintro d a w hd ⟨N,h⟩
  have ea:a=putted base (((List.range m).filter wr).map fun i=>(T i,V N i)):=by
   refine putted_eq _ base a h.defers h.size (fun p hp=>?_) (fun t ht=>?_)
   ·obtain ⟨i,hi,rfl⟩:=List.mem_map.1 hp
    obtain ⟨hi1,hi2⟩:=List.mem_filter.1 hi
    have hi':=List.mem_range.1 hi1
    exact slot_is (h.has i hi' hi2 (hd i (by omega))) (by rw [h.size];exact hT i hi' hi2)
   ·refine h.rest t (fun j hj hw hdj e=>?_)
    exact ht (T j,V N j) (List.mem_map.2 ⟨j,List.mem_filter.2 ⟨List.mem_range.2 hj,hw⟩,rfl⟩) e
  rw [ea]
  exact hend N d w (fun i hi=>hd i (by omega)) h.mem
 ·rintro d i o a w ho hdi hdep ⟨N,h⟩
  refine wpo i o a w _ ho ?_
  have hi:i<m:=by rw [← hsz];exact (Array.getElem?_eq_some_iff.1 ho).1
  refine hstep N d i o a w _ hi ho hdi h.down h.mem (fun t ht=>rest_eval (h.rest t ht)) (fun ed he hb=>⟨hdep ed he hb,fun hw=>h.has _ (by have:=hlow i o ho ed he hb;omega) hw (hdep ed he hb)⟩) ?_
  rintro N' v w' hv hV hH
  by_cases hw:wr i=true
  ·obtain rfl:=hv hw
   rw [if_pos hw]
   refine ⟨N',h.down.next ho hdep,hH,by rw [size_putted];exact h.size,h.defers,fun t ht=>?_,fun j hj hwj hd=>?_⟩
   ·rw [slot_put,if_neg (fun e=>ht i hi hw (came_self d i) e.symm)]
    refine h.rest t (fun j hj hwj hdj=>ht j hj hwj ?_)
    by_cases e:j=i
    ·subst e;exact came_self d j
    ·rw [came_ne d e];exact hdj
   ·by_cases e:j=i
    ·subst e
     exact at_eq a (T j) _ (by rw [h.size];exact hT j hj hwj)
    ·rw [came_ne d e] at hd
     rw [at_ne a (T i) (T j) _ (fun e2=>e (hinj j i hj hi hwj hw e2)),h.has j hj hwj hd]
     exact (hV j hj hwj hd).symm
  ·rw [if_neg hw]
   have ne:∀ j,wr j=true→j≠i:=fun j hj e=>hw (e ▸ hj)
   refine ⟨N',h.down.next ho hdep,hH,h.size,h.defers,fun t ht=>h.rest t (fun j hj hwj hdj=>ht j hj hwj (by rw [came_ne d (ne j hwj)];exact hdj)),fun j hj hwj hd=>?_⟩
   rw [came_ne d (ne j hwj)] at hd
   rw [show a.put none v=a from rfl,h.has j hj hwj hd]
   exact (hV j hj hwj hd).symm
end Go.Proofs.YthlnhheblhapgaaGreatDoor

namespace Go.Proofs.YthlnhheblhapgaaGreatDoor
open Go.RowKit
theorem setCell_is (w:World) (g k:Nat) (v:Value):w.setCell ⟨g,k,none⟩ v=w.setCells g k [v]:=rfl
structure NewB (B:Nat) (w:World) (g:Nat) (vs:List Value):Prop where
 cells:∀ k v,vs[k]? = some v→w.cell? ⟨g,k,none⟩=some v
 loose:∀ j,w.frozen? ⟨g,j,none⟩=false
 new:B≤g
 lt:g<w.heap.size
theorem NewB.but {B:Nat} {w w':World} {g:Nat} {vs:List Value} (h:NewB B w g vs) (hb:But [] w w'):NewB B w' g vs :=
 ⟨fun k v hv=>hb.cell_some (h.cells k v hv) (by simp),fun j=>(hb.frozen (p:=⟨g,j,none⟩) h.lt (by simp)).trans (h.loose j),h.new,Nat.lt_of_lt_of_le h.lt hb.size⟩
theorem NewB.made (B:Nat) (w:World) (vs:List Value) (t:TypeId) (h:B≤w.heap.size):NewB B (w.alloc (.cells vs.toArray t)) w.heap.size vs :=
 ⟨fun k v hv=>by rw [World.cell?_alloc_new];simpa using hv,fun j=>by simp,h,by simp⟩
theorem NewB.put {B:Nat} {w:World} {g:Nat} {vs us:List Value} (h:NewB B w g vs) (hl:us.length=vs.length):NewB B (w.setCells g 0 us) g us:=by
 refine ⟨fun k v hv=>?_,fun j=>by rw [World.frozen?_setCells];exact h.loose j,h.new,Nat.lt_of_lt_of_le h.lt (but_setCells w g _ _).size⟩
 have hk:k<us.length:=(List.getElem?_eq_some_iff.1 hv).1
 have e:=World.cell?_setCells_in g us 0 w (fun j hj=>by
  rw [Nat.zero_add,h.cells j vs[j] (List.getElem?_eq_getElem (by omega))];rfl) k hk
 rw [Nat.zero_add] at e
 rw [e,← (List.getElem?_eq_some_iff.1 hv).2]
theorem NewB.putAt {B:Nat} {w:World} {g:Nat} {vs:List Value} (h:NewB B w g vs) (o:Nat) (us:List Value) (hl:o+us.length≤vs.length):NewB B (w.setCells g o us) g (vs.take o++us++vs.drop (o+us.length)):=by
 refine ⟨fun k v hv=>?_,fun j=>by rw [World.frozen?_setCells];exact h.loose j,h.new,Nat.lt_of_lt_of_le h.lt (but_setCells w g _ _).size⟩
 have hto:(vs.take o).length=o:=by rw [List.length_take];omega
 rcases Nat.lt_or_ge k o with h1 | h1
 ·rw [World.cell?_setCells_out g _ _ _ _ (fun _ _=>.inl h1)]
  rw [List.append_assoc,List.getElem?_append_left (by omega),List.getElem?_take_of_lt h1] at hv
  exact h.cells k v hv
 ·rcases Nat.lt_or_ge k (o+us.length) with h2 | h2
  ·have e:=World.cell?_setCells_in g us o w (fun j hj=>by
    rw [h.cells (o+j) vs[o+j] (List.getElem?_eq_getElem (by omega))];rfl) (k-o) (by omega)
   rw [show o+(k-o)=k by omega] at e
   rw [List.append_assoc,List.getElem?_append_right (by omega),hto,List.getElem?_append_left (by omega)] at hv
   rw [e,← (List.getElem?_eq_some_iff.1 hv).2]
  ·rw [World.cell?_setCells_out g _ _ _ _ (fun _ _=>.inr h2)]
   rw [List.append_assoc,List.getElem?_append_right (by omega),hto,List.getElem?_append_right (by omega),List.getElem?_drop,show o+us.length+(k-o-us.length)=k by omega] at hv
   exact h.cells k v hv
theorem NewB.beside {B:Nat} {w w':World} {g:Nat} {vs:List Value} {l:List Nat} (h:NewB B w g vs) (hb:But l w w') (hn:g ∉ l):NewB B w' g vs :=
 ⟨fun k v hv=>hb.cell_some (h.cells k v hv) hn,fun j=>(hb.frozen (p:=⟨g,j,none⟩) h.lt hn).trans (h.loose j),h.new,Nat.lt_of_lt_of_le h.lt hb.size⟩
end Go.Proofs.YthlnhheblhapgaaGreatDoor
