/- Regions that draw their order: what hold -/
import Derived.Deep.RegionHeld
import Derived.RangeFuncCalls
import Derived.OrdersIn
import Derived.Laws.MakeOwn
import Derived.Test.YtagmkkiagjmimaaGreatDoorRN1
import Derived.Test.YtagmkkiagjmimaaGreatDoorRPc
namespace Go.Proofs.YtagmkkiagjmimaaGreatDoor
open Go.RowKit
def came (d:Nat→Bool) (i:Nat):Nat→Bool:=fun j=>if j=i then true else d j
theorem xg (d:Nat→Bool) (i:Nat):came d i i=true:=by simp[came]
theorem qw (d:Nat→Bool) {i j:Nat} (h:j≠i):came d i j=d j:=by simp[came,h]
theorem zaf {P:Program} {id:Nat} {ops:Array Oper} {Q:Exit→Act→World→Prop} {base:Act} {W0:World} (hm:P.follows .mixedOrders=true)
  (hlow:∀ i o,ops[i]? = some o→∀ e ∈ o.after,Region.binds .any e=true→e.on<i)
  (J:(Nat→Bool)→Act→World→Prop) (h0:J (fun _=>false) base W0.drew)
  (hend:∀ d a w,(∀ i,i<ops.size→d i=true)→J d a w→Q .normal a w)
  (hstep:∀ d i o a w,ops[i]? = some o→d i=false→(∀ e ∈ o.after,Region.binds .any e=true→d e.on=true)→J d a w→wpOp P ops Q i (J (came d i)) a w) :
  (Code.region id ops true).wp P Q base W0:=by(
refine wp_region_any hm ?_
show wpAny P .any ops Q ops.size (Array.replicate ops.size false) base W0.drew
have none_ready:∀ (l:Array Bool),l.toList.count false=0→Region.ready .any ops l=[]:=fun l hc=>by
 refine List.eq_nil_iff_forall_not_mem.2 fun i hi=>?_
 obtain⟨hf,o,ho,hd⟩:=mem_ready.1 hi
 rw[List.count_eq_zero] at hc
 rcases Nat.lt_or_ge i l.size with h1 | h1
 ·simp only[Array.getD_eq_getD_getElem?,Array.getElem?_eq_getElem h1,Option.getD_some] at hf
  exact hc (by rw[← hf];exact Array.getElem_mem_toList h1)
 ·simp[Array.getElem?_eq_none h1] at hf
have end_:∀ (l:Array Bool) a w,l.size=ops.size→J (fun i=>l.getD i false) a w→Region.ready .any ops l=[]→Q .normal a w:=fun l a w hs hJ hr=>by
 refine hend _ a w (fun i=>?_) hJ
 induction i using Nat.strongRecOn with
 | _ i ih =>
  intro hi
  cases e:l.getD i false with
  | true=>rfl
  | false =>
   exfalso
   have hmem:i ∈ Region.ready .any ops l:=mem_ready.2 ⟨by
    simp only[Array.getD_eq_getD_getElem?,Array.getElem?_eq_getElem (show i<l.size by omega),Option.getD_some] at e ⊢
    exact e,ops[i],Array.getElem?_eq_getElem hi,fun e he hb=>by
     have hl:=hlow i ops[i] (Array.getElem?_eq_getElem hi) e he hb
     exact ih e.on hl (by omega)⟩
   rw[hr] at hmem
   simp at hmem
have key:∀ n (l:Array Bool) a w,l.size=ops.size∧l.toList.count false=n∧J (fun i=>l.getD i false) a w→wpAny P .any ops Q n l a w:=by
 intro n
 induction n with
 | zero=>rintro l a w ⟨hs,hc,hJ⟩;exact⟨none_ready l hc,end_ l a w hs hJ (none_ready l hc)⟩
 | succ n ih =>
  rintro l a w ⟨hs,hc,hJ⟩
  refine⟨end_ l a w hs hJ,fun i hi=>?_⟩
  obtain⟨hf,o,ho,hd⟩:=mem_ready.1 hi
  have hlt:i<l.size:=by rw[hs];exact (Array.getElem?_eq_some_iff.1 ho).1
  have hg:l[i]=false:=by simpa [hlt] using hf
  have hf':l.getD i false=false:=by simp[hlt,hg]
  refine wpOp_mono (fun a' w' h'=>ih _ a' w' ⟨by simp[hs],?_,?_⟩) (hstep _ i o a w ho hf' hd hJ)
  ·rw[Array.toList_setIfInBounds,List.count_set (by simpa using hlt)]
   simp[hg,hc]
  ·have e:(fun j=>(l.setIfInBounds i true).getD j false)=came (fun j=>l.getD j false) i:=funext fun j=>by
    by_cases hj:j=i
    ·subst hj;simp[came,hlt]
    ·simp[came,hj,Array.getElem?_setIfInBounds_ne (Ne.symm hj)]
   rw[e];exact h'
exact key _ _ _ _ ⟨by simp,by simp,by
 have e:(fun i=>(Array.replicate ops.size false).getD i false)=fun _=>false:=funext fun i=>by
  simp only[Array.getD_eq_getD_getElem?,Array.getElem?_replicate]
  split <;> rfl
 rw[e];exact h0⟩)
theorem zwj (a:Act) (d t:Nat) (v:Value) (h:t≠d):(a.put (some d) v).eval (.tmp t)=a.eval (.tmp t):=by
 show (a.tmps.setIfInBounds d v).getD t undef=a.tmps.getD t undef
 simp only[Array.getD_eq_getD_getElem?,Array.getElem?_setIfInBounds_ne (Ne.symm h)]
theorem at_eq (a:Act) (d:Nat) (v:Value) (h:d<a.tmps.size):(a.put (some d) v).eval (.tmp d)=v:=by
 show (a.tmps.setIfInBounds d v).getD d undef=v
 simp[h]
theorem zhm {a:Act} {t:Nat} {v:Value} (h:a.eval (.tmp t)=v) (hs:t<a.tmps.size):a.tmps[t]? = some v:=by(
have e:a.tmps.getD t undef=v:=h
rw[Array.getD_eq_getD_getElem?,Array.getElem?_eq_getElem hs] at e
rw[Array.getElem?_eq_getElem hs]
exact congrArg some e)
theorem zet (a:Act) (d t:Nat) (v:Value):(a.put (some d) v).tmps[t]? = if d=t then (if d<a.tmps.size then some v else none) else a.tmps[t]?:=by
 show (a.tmps.setIfInBounds d v)[t]? = _
 rw[Array.getElem?_setIfInBounds]
theorem zau (a:Act) (d:Nat) (v:Value):(a.put (some d) v).tmps.size=a.tmps.size:=by
 show (a.tmps.setIfInBounds d v).size=a.tmps.size
 simp
def bi (base:Act) (ps:List (Nat × Value)):Act:=ps.foldl (fun b p=>b.put (some p.1) p.2) base
theorem zdi:∀ (ps:List (Nat × Value)) (base a:Act),a.defers=base.defers→a.tmps.size=base.tmps.size→(∀ p ∈ ps,a.tmps[p.1]? = some p.2)→(∀ t,(∀ p ∈ ps,t≠p.1)→a.tmps[t]? = base.tmps[t]?)→a=bi base ps
 | [],base,a,h1,_,_,h4=>by
  cases a
  cases base
  simp only at h1 h4
  show Act.mk _ _=Act.mk _ _
  rw[Array.ext_getElem? (fun t=>h4 t (fun p hp=>by simp at hp)),h1]
 | (d,v)::ps,base,a,h1,h2,h3,h4=>by
  have hd:=h3 (d,v) (by simp)
  simp only at hd
  have hlt:d<base.tmps.size:=by
   rw[← h2]
   exact (Array.getElem?_eq_some_iff.1 hd).1
  refine zdi ps (base.put (some d) v) a h1 (by rw[zau];exact h2) (fun p hp=>h3 p (by simp[hp])) (fun t ht=>?_)
  rw[zet]
  by_cases e:d=t
  ·subst e
   rw[if_pos rfl,if_pos hlt]
   exact hd
  ·rw[if_neg e]
   refine h4 t (fun p hp=>?_)
   rcases List.mem_cons.1 hp with rfl | hp
   ·exact Ne.symm e
   ·exact ht p hp
theorem zpm {base a:Act} {t:Nat} (h:a.tmps[t]? = base.tmps[t]?):a.eval (.tmp t)=base.eval (.tmp t):=by
 show a.tmps.getD t undef=base.tmps.getD t undef
 simp only[Array.getD_eq_getD_getElem?,h]
theorem zws {P:Program} {o:Oper} {a:Act} {w:World} {K:Act→World→Prop} {Q:Exit→Act→World→Prop} (l n:Nat) (hd:∀ c,o.op≠.defer c) (h:o.wp P a w K Q):o.wpIn (Fence.wide.inRound l) n P a w K Q:=by(
unfold Oper.wp at h
unfold Oper.wpIn
refine⟨fun _ _=>trivial,?_⟩
rw[Oper.semAt_eq _ _ _ hd]
generalize (execOp a.eval o).run P w=r at *
cases r with
| ok x w' =>
 cases x with
 | value v=>exact h
 | skip=>exact h
 | defer d=>exact h
 | enter f args=>exact⟨fun e=>by simp[Fence.wide] at e,CallsIn.inRound l (callsIn_wide.2 h)⟩
 | row r args=>exact⟨fun e=>by simp[Fence.wide] at e,fun c cs _=>by
  obtain⟨v,w1,hr,hs⟩:=h c cs
  exact⟨v,w1,hr,stepsIn_wide.2 hs⟩⟩
 | _=>exact h.elim
| halt x w'=>cases x <;> exact h)
theorem zua {P:Program} {id l0 n0:Nat} {ops:Array Oper} {Q:Exit→Act→World→Prop} {base:Act} {W0:World} (hm:P.follows .mixedOrders=true)
  (hnd:∀ (i:Nat) (o:Oper),ops[i]? = some o→o.guard=none∧∀ c,o.op≠.defer c)
  (hlow:∀ i o,ops[i]? = some o→∀ e ∈ o.after,Region.binds .any e=true→e.on<i)
  (J:(Nat→Bool)→Act→World→Prop) (h0:J (fun _=>false) base W0.drew)
  (hend:∀ d a w,(∀ i,i<ops.size→d i=true)→J d a w→Q .normal a w)
  (hstep:∀ d i o a w,ops[i]? = some o→d i=false→(∀ e ∈ o.after,Region.binds .any e=true→d e.on=true)→J d a w→o.wp P a w (J (came d i)) Q) :
  (Code.region id ops true).wpIn (Fence.wide.inRound l0) n0 P Q base W0:=by(
refine wpIn_region_any hm ?_
show wpAnyIn (Fence.wide.inRound l0) n0 P .any ops Q ops.size (Array.replicate ops.size false) base W0.drew
have none_ready:∀ (l:Array Bool),l.toList.count false=0→Region.ready .any ops l=[]:=fun l hc=>by
 refine List.eq_nil_iff_forall_not_mem.2 fun i hi=>?_
 obtain⟨hf,o,ho,hd⟩:=mem_ready.1 hi
 rw[List.count_eq_zero] at hc
 rcases Nat.lt_or_ge i l.size with h1 | h1
 ·simp only[Array.getD_eq_getD_getElem?,Array.getElem?_eq_getElem h1,Option.getD_some] at hf
  exact hc (by rw[← hf];exact Array.getElem_mem_toList h1)
 ·simp[Array.getElem?_eq_none h1] at hf
have end_:∀ (l:Array Bool) a w,l.size=ops.size→J (fun i=>l.getD i false) a w→Region.ready .any ops l=[]→Q .normal a w:=fun l a w hs hJ hr=>by
 refine hend _ a w (fun i=>?_) hJ
 induction i using Nat.strongRecOn with
 | _ i ih =>
  intro hi
  cases e:l.getD i false with
  | true=>rfl
  | false =>
   exfalso
   have hmem:i ∈ Region.ready .any ops l:=mem_ready.2 ⟨by
    simp only[Array.getD_eq_getD_getElem?,Array.getElem?_eq_getElem (show i<l.size by omega),Option.getD_some] at e ⊢
    exact e,ops[i],Array.getElem?_eq_getElem hi,fun e he hb=>by
     have hl:=hlow i ops[i] (Array.getElem?_eq_getElem hi) e he hb
     exact ih e.on hl (by omega)⟩
   rw[hr] at hmem
   simp at hmem
have key:∀ n (l:Array Bool) a w,l.size=ops.size∧l.toList.count false=n∧J (fun i=>l.getD i false) a w→wpAnyIn (Fence.wide.inRound l0) n0 P .any ops Q n l a w:=by
 intro n
 induction n with
 | zero=>rintro l a w ⟨hs,hc,hJ⟩;exact⟨none_ready l hc,end_ l a w hs hJ (none_ready l hc)⟩
 | succ n ih =>
  rintro l a w ⟨hs,hc,hJ⟩
  refine⟨end_ l a w hs hJ,fun i hi=>?_⟩
  obtain⟨hf,o,ho,hd⟩:=mem_ready.1 hi
  have hlt:i<l.size:=by rw[hs];exact (Array.getElem?_eq_some_iff.1 ho).1
  have hg:l[i]=false:=by simpa [hlt] using hf
  have hf':l.getD i false=false:=by simp[hlt,hg]
  have hop:wpOpIn (Fence.wide.inRound l0) n0 P ops Q i (J (came (fun j=>l.getD j false) i)) a w:=by
   unfold wpOpIn
   simp only[ho,Region.wanted,(hnd i o ho).1,if_true]
   exact zws l0 n0 (hnd i o ho).2 (hstep _ i o a w ho hf' hd hJ)
  refine wpOpIn_mono (fun a' w' h'=>ih _ a' w' ⟨by simp[hs],?_,?_⟩) hop
  ·rw[Array.toList_setIfInBounds,List.count_set (by simpa using hlt)]
   simp[hg,hc]
  ·have e:(fun j=>(l.setIfInBounds i true).getD j false)=came (fun j=>l.getD j false) i:=funext fun j=>by
    by_cases hj:j=i
    ·subst hj;simp[came,hlt]
    ·simp[came,hj,Array.getElem?_setIfInBounds_ne (Ne.symm hj)]
   rw[e];exact h'
exact key _ _ _ _ ⟨by simp,by simp,by
 have e:(fun i=>(Array.replicate ops.size false).getD i false)=fun _=>false:=funext fun i=>by
  simp only[Array.getD_eq_getD_getElem?,Array.getElem?_replicate]
  split <;> rfl
 rw[e];exact h0⟩)
theorem al {P:Program} {Q:Exit→Act→World→Prop} {K:Act→World→Prop} {a:Act} {w w':World} {o:Oper} {v:Value} (hr:(execOp a.eval o).run P w=.ok (.value v) w') (h:K (a.put o.dst v) w'):o.wp P a w K Q:=by(
unfold Oper.wp
rw[hr]
exact h)
theorem xh {P:Program} {Q:Exit→Act→World→Prop} {K:Act→World→Prop} {a:Act} {w w':World} {o:Oper} (hr:(execOp a.eval o).run P w=.ok .skip w') (h:K (a.put o.dst undef) w'):o.wp P a w K Q:=by(
unfold Oper.wp
rw[hr]
exact h)
theorem ax {P:Program} {Q:Exit→Act→World→Prop} {K:Act→World→Prop} {a:Act} {w:World} {o:Oper} {f:FuncId} {args:Array Value} (hr:(execOp a.eval o).run P w=.ok (.enter f args) w) {R:World→Value→Prop} (hc:Calls P f args w fun e w'=>∃ v,e=.returned v∧R w' v) (h:∀ v w',R w' v→K (a.put o.dst v) w'):o.wp P a w K Q:=by(
unfold Oper.wp
rw[hr]
refine hc.mono ?_
rintro e w' ⟨v,rfl,hv⟩
exact h v w' hv)
def qic (ops:Array Oper):Bool:=(List.range ops.size).all fun i=>match ops[i]? with
 | some o=>o.after.all fun e=>!(Region.binds .any e) || decide (e.on<i)
 | none=>true
theorem dx {ops:Array Oper} (h:qic ops=true):∀ i o,ops[i]? = some o→∀ e ∈ o.after,Region.binds .any e=true→e.on<i:=fun i o ho e he hb=>by
 have hi:i<ops.size:=(Array.getElem?_eq_some_iff.1 ho).1
 unfold qic at h
 rw[List.all_eq_true] at h
 have h1:=h i (List.mem_range.2 hi)
 simp only[ho] at h1
 rw[Array.all_eq_true_iff_forall_mem] at h1
 have h2:=h1 e he
 simpa [hb] using h2
def zei (ops:Array Oper) (ps:List (Nat × Nat)):Bool:=ps.all fun p=>match ops[p.1]? with
 | some o=>o.after.any fun e=>Region.binds .any e && e.on==p.2
 | none=>false
theorem pg {ops:Array Oper} {ps:List (Nat × Nat)} (h:zei ops ps=true):∀ i j,(i,j) ∈ ps→∃ o,ops[i]? = some o∧∃ e ∈ o.after,Region.binds .any e=true∧e.on=j:=fun i j hij=>by
 unfold zei at h
 rw[List.all_eq_true] at h
 have h1:=h (i,j) hij
 cases ho:ops[i]? with
 | none=>simp[ho] at h1
 | some o =>
  simp only[ho] at h1
  rw[Array.any_eq_true] at h1
  obtain⟨k,hk,h2⟩:=h1
  simp only[Bool.and_eq_true,beq_iff_eq] at h2
  exact⟨o,rfl,o.after[k],Array.getElem_mem hk,h2.1,h2.2⟩
def P4 (w:World) (g:Nat) (s:Bool) (x y:Int) (p:Option Addr):Prop:=w.cell? ⟨g,0,none⟩=some (.bool s)∧w.cell? ⟨g,1,none⟩=some (.int .u64 x)∧w.cell? ⟨g,2,none⟩=some (.int .u64 y)∧w.cell? ⟨g,3,none⟩=some (.pointer p)
theorem P4.but {w w':World} {g:Nat} {s:Bool} {x y:Int} {p:Option Addr} {l:List Nat} (h:P4 w g s x y p) (hb:But l w w') (hn:g ∉ l):P4 w' g s x y p:=⟨hb.ag h.1 hn,hb.ag h.2.1 hn,hb.ag h.2.2.1 hn,hb.ag h.2.2.2 hn⟩
theorem yg (w:World) (b i j:Nat) (v:Value) (hij:i≠j):(w.setCell ⟨b,i,none⟩ v).cell? ⟨b,j,none⟩=w.cell? ⟨b,j,none⟩:=World.cell?_setCell_other w ⟨b,i,none⟩ ⟨b,j,none⟩ v (fun e=>hij (Addr.mk.inj e).2.1)
theorem qfj (w:World) (b:Nat) (v0 v1 v2 v3:Value) (c0:(w.cell? ⟨b,0,none⟩).isSome=true) (c1:(w.cell? ⟨b,1,none⟩).isSome=true) (c2:(w.cell? ⟨b,2,none⟩).isSome=true) (c3:(w.cell? ⟨b,3,none⟩).isSome=true) :
  (∀ j,j<4→((((w.setCell ⟨b,0,none⟩ v0).setCell ⟨b,1,none⟩ v1).setCell ⟨b,2,none⟩ v2).setCell ⟨b,3,none⟩ v3).cell? ⟨b,j,none⟩=#[v0,v1,v2,v3][j]?)∧∀ j,4≤j→((((w.setCell ⟨b,0,none⟩ v0).setCell ⟨b,1,none⟩ v1).setCell ⟨b,2,none⟩ v2).setCell ⟨b,3,none⟩ v3).cell? ⟨b,j,none⟩=w.cell? ⟨b,j,none⟩:=by(
constructor
·(
intro j hj
have:j=0∨j=1∨j=2∨j=3:=by omega
rcases this with rfl|rfl|rfl|rfl
·rw[yg _ _ 3 0 _ (by omega),yg _ _ 2 0 _ (by omega),yg _ _ 1 0 _ (by omega)]
 exact World.cell?_setCell_same' _ _ _ c0
·rw[yg _ _ 3 1 _ (by omega),yg _ _ 2 1 _ (by omega)]
 exact World.cell?_setCell_same' _ _ _ (by rw[yg _ _ 0 1 _ (by omega)];exact c1)
·rw[yg _ _ 3 2 _ (by omega)]
 exact World.cell?_setCell_same' _ _ _ (by rw[yg _ _ 1 2 _ (by omega),yg _ _ 0 2 _ (by omega)];exact c2)
·exact World.cell?_setCell_same' _ _ _ (by rw[yg _ _ 2 3 _ (by omega),yg _ _ 1 3 _ (by omega),yg _ _ 0 3 _ (by omega)];exact c3))
·intro j hj
 rw[yg _ _ 3 j _ (by omega),yg _ _ 2 j _ (by omega),yg _ _ 1 j _ (by omega),yg _ _ 0 j _ (by omega)])
def qaq (ops:Array Oper):Bool:=(List.range ops.size).all fun i=>match ops[i]? with
 | some o=>o.guard.isNone
 | none=>true
theorem zlv {ops:Array Oper} (h:qaq ops=true):∀ (i:Nat) (o:Oper),ops[i]? = some o→o.guard=none:=fun i o ho=>by
 have hi:i<ops.size:=(Array.getElem?_eq_some_iff.1 ho).1
 unfold qaq at h
 rw[List.all_eq_true] at h
 have h1:=h i (List.mem_range.2 hi)
 simp only[ho] at h1
 simpa using h1
theorem zso {ops:Array Oper} {ps:List (Nat × Nat)} (h:zei ops ps=true) {i:Nat} {o:Oper} (ho:ops[i]? = some o) (R:Nat→Prop) (hdep:∀ e ∈ o.after,Region.binds .any e=true→R e.on) (j:Nat) (hij:(i,j) ∈ ps):R j:=by(
obtain⟨o',ho',e,he,hb,rfl⟩:=pg h i j hij
rw[ho] at ho'
obtain rfl:=Option.some.inj ho'
exact hdep e he hb)
theorem zt {P:Program} {Q:Exit→Act→World→Prop} {K:Act→World→Prop} {a:Act} {w w':World} {o:Oper} {v:Value} (hr:(execOp a.eval o).run P w=.ok (.value v) w') (h:K (a.put o.dst v) w'):o.wp P a w K Q:=by(
unfold Oper.wp
rw[hr]
exact h)
theorem ve {P:Program} {Q:Exit→Act→World→Prop} {K:Act→World→Prop} {a:Act} {w:World} {o:Oper} {f:FuncId} {args:Array Value} (hr:(execOp a.eval o).run P w=.ok (.enter f args) w) {R:World→Value→Prop} (hc:Calls P f args w fun e w'=>∃ v,e=.returned v∧R w' v) (h:∀ v w',R w' v→K (a.put o.dst v) w'):o.wp P a w K Q:=by(
unfold Oper.wp
rw[hr]
refine hc.mono ?_
rintro e w' ⟨v,rfl,hv⟩
exact h v w' hv)
def Closed (ops:Array Oper) (d:Nat→Bool):Prop:=∀ i o,ops[i]? = some o→d i=true→∀ e ∈ o.after,Region.binds .any e=true→d e.on=true
theorem Closed.dep {ops:Array Oper} {d:Nat→Bool} (h:Closed ops d) {ps:List (Nat × Nat)} (hp:zei ops ps=true) {i j:Nat} (hij:(i,j) ∈ ps) (hd:d i=true):d j=true:=by
 obtain⟨o,ho,e,he,hb,rfl⟩:=pg hp i j hij
 exact h i o ho hd e he hb
theorem Closed.not {ops:Array Oper} {d:Nat→Bool} (h:Closed ops d) {ps:List (Nat × Nat)} (hp:zei ops ps=true) {i j:Nat} (hij:(i,j) ∈ ps) (hd:d j=false):d i=false:=by(
cases e:d i with
| false=>rfl
| true=>rw[h.dep hp hij e] at hd;simp at hd)
theorem Closed.next {ops:Array Oper} {d:Nat→Bool} (h:Closed ops d) {i:Nat} {o:Oper} (ho:ops[i]? = some o) (hdep:∀ e ∈ o.after,Region.binds .any e=true→d e.on=true):Closed ops (came d i):=fun j oj hj hd e he hbi=>by
 by_cases e1:e.on=i
 ·rw[e1];exact xg d i
 ·rw[qw d e1]
  by_cases e2:j=i
  ·subst e2
   rw[ho] at hj
   obtain rfl:=Option.some.inj hj
   exact hdep e he hbi
  ·rw[qw d e2] at hd
   exact h j oj hj hd e he hbi
structure qrn {α:Type} (ops:Array Oper) (base:Act) (H:α→(Nat→Bool)→World→Prop) (V:α→Nat→Value) (T:Nat→Nat) (m:Nat) (d:Nat→Bool) (a:Act) (w:World) (N:α):Prop where
 down:Closed ops d
 mem:H N d w
 size:a.tmps.size=base.tmps.size
 defers:a.defers=base.defers
 rest:∀ t,(∀ j,j<m→t≠T j)→a.tmps[t]? = base.tmps[t]?
 has:∀ i,i<m→d i=true→a.eval (.tmp (T i))=V N i
theorem zhs {P:Program} {id:Nat} {ops:Array Oper} {Q:Exit→Act→World→Prop} {base:Act} {W0:World} (hm:P.follows .mixedOrders=true)
  (hlow:∀ i o,ops[i]? = some o→∀ e ∈ o.after,Region.binds .any e=true→e.on<i)
  (hg:∀ (i:Nat) (o:Oper),ops[i]? = some o→o.guard=none)
  {α:Type} (H:α→(Nat→Bool)→World→Prop) (V:α→Nat→Value) (T:Nat→Nat) (m:Nat) (hsz:ops.size=m)
  (hinj:∀ i j,i<m→j<m→T i=T j→i=j) (hT:∀ i,i<m→T i<base.tmps.size) (N0:α) (h0:H N0 (fun _=>false) W0.drew)
  (hstep:∀ (N:α) (d:Nat→Bool) (i:Nat) (o:Oper) (a:Act) (w:World) (K:Act→World→Prop),i<m→ops[i]? = some o→d i=false→Closed ops d→H N d w→(∀ t,(∀ j,j<m→t≠T j)→a.eval (.tmp t)=base.eval (.tmp t))→(∀ e ∈ o.after,Region.binds .any e=true→d e.on=true∧a.eval (.tmp (T e.on))=V N e.on)→(∀ N' v w',v=V N' i→(∀ j,j<m→d j=true→V N' j=V N j)→H N' (came d i) w'→K (a.put (some (T i)) v) w')→o.wp P a w K Q)
  (hend:∀ N d w,(∀ i,i<m→d i=true)→H N d w→Q .normal (bi base ((List.range m).map fun i=>(T i,V N i))) w) :
  (Code.region id ops true).wp P Q base W0:=by(
have wpo:∀ i o a w (K:Act→World→Prop),ops[i]? = some o→o.wp P a w K Q→wpOp P ops Q i K a w:=fun i o a w K ho h=>by
 unfold wpOp
 simp only[ho,Region.wanted,hg i o ho,if_true]
 exact .inl h
refine zaf hm hlow (fun d a w=>∃ N,qrn ops base H V T m d a w N) ?_ ?_ ?_
·exact⟨N0,fun _ _ _ h=>by simp at h,h0,rfl,rfl,fun _ _=>rfl,fun _ _ h=>by simp at h⟩
·(
rintro d a w hd ⟨N,h⟩
have ea:a=bi base ((List.range m).map fun i=>(T i,V N i)):=by
 refine zdi _ base a h.defers h.size (fun p hp=>?_) (fun t ht=>?_)
 ·obtain⟨i,hi,rfl⟩:=List.mem_map.1 hp
  have hi':=List.mem_range.1 hi
  exact zhm (h.has i hi' (hd i (by omega))) (by rw[h.size];exact hT i hi')
 ·refine h.rest t (fun j hj e=>?_)
  exact ht (T j,V N j) (List.mem_map.2 ⟨j,List.mem_range.2 hj,rfl⟩) e
rw[ea]
exact hend N d w (fun i hi=>hd i (by omega)) h.mem)
·(
rintro d i o a w ho hdi hdep ⟨N,h⟩
refine wpo i o a w _ ho ?_
have hi:i<m:=by rw[← hsz];exact (Array.getElem?_eq_some_iff.1 ho).1
refine hstep N d i o a w _ hi ho hdi h.down h.mem (fun t ht=>zpm (h.rest t ht)) (fun ed he hb=>⟨hdep ed he hb,h.has _ (by have:=hlow i o ho ed he hb;omega) (hdep ed he hb)⟩) ?_
rintro N' v w' rfl hV hH
refine⟨N',h.down.next ho hdep,hH,by rw[zau];exact h.size,h.defers,fun t ht=>?_,fun j hj hd=>?_⟩
·rw[zet,if_neg (fun e=>ht i hi e.symm)];exact h.rest t ht
·(
by_cases e:j=i
·subst e
 exact at_eq a (T j) _ (by rw[h.size];exact hT j hj)
·rw[qw d e] at hd
 rw[zwj a (T i) (T j) _ (fun e2=>e (hinj j i hj hi e2)),h.has j hj hd]
 exact (hV j hj hd).symm)))
structure zbm (base:Act) (H:(Nat→Bool)→World→Prop) (C:Nat→World→Value→Prop) (T:Nat→Nat) (m:Nat) (d:Nat→Bool) (a:Act) (w:World):Prop where
 mem:H d w
 size:a.tmps.size=base.tmps.size
 defers:a.defers=base.defers
 rest:∀ t,(∀ j,j<m→t≠T j)→a.tmps[t]? = base.tmps[t]?
 has:∀ i,i<m→d i=true→C i w (a.eval (.tmp (T i)))
theorem zbm.next {base:Act} {H:(Nat→Bool)→World→Prop} {C:Nat→World→Value→Prop} {T:Nat→Nat} {m:Nat} {d:Nat→Bool} {a:Act} {w:World} (h:zbm base H C T m d a w)
  (hinj:∀ i j,i<m→j<m→T i=T j→i=j) (hT:∀ i,i<m→T i<base.tmps.size)
  (i:Nat) (hi:i<m) (v:Value) (w':World) (hH:H (came d i) w') (hC:∀ j,j<m→d j=true→∀ u,C j w u→C j w' u) (hv:C i w' v):zbm base H C T m (came d i) (a.put (some (T i)) v) w' where
 mem:=hH
 size:=by rw[zau];exact h.size
 defers:=h.defers
 rest:=fun t ht=>by rw[zet,if_neg (fun e=>ht i hi e.symm)];exact h.rest t ht
 has:=fun j hj hd=>by
  by_cases e:j=i
  ·subst e
   rw[at_eq a (T j) v (by rw[h.size];exact hT j hj)]
   exact hv
  ·rw[qw d e] at hd
   rw[zwj a (T i) (T j) v (fun e2=>e (hinj j i hj hi e2))]
   exact hC j hj hd _ (h.has j hj hd)
theorem zbm.eval {base:Act} {H:(Nat→Bool)→World→Prop} {C:Nat→World→Value→Prop} {T:Nat→Nat} {m:Nat} {d:Nat→Bool} {a:Act} {w:World} (h:zbm base H C T m d a w) (t:Nat) (ht:∀ j,j<m→t≠T j):a.eval (.tmp t)=base.eval (.tmp t):=by
 show a.tmps.getD t undef=base.tmps.getD t undef
 simp only[Array.getD_eq_getD_getElem?,h.rest t ht]
theorem zbm.puts {base:Act} {H:(Nat→Bool)→World→Prop} {C:Nat→World→Value→Prop} {T:Nat→Nat} {m:Nat} {d:Nat→Bool} {a:Act} {w:World} (h:zbm base H C T m d a w) (hT:∀ i,i<m→T i<base.tmps.size) (V:Nat→Value) (hV:∀ i,i<m→a.eval (.tmp (T i))=V i):a=bi base ((List.range m).map fun i=>(T i,V i)):=by(
refine zdi _ base a h.defers h.size (fun p hp=>?_) (fun t ht=>?_)
·obtain⟨i,hi,rfl⟩:=List.mem_map.1 hp
 have hi':=List.mem_range.1 hi
 exact zhm (hV i hi') (by rw[h.size];exact hT i hi')
·refine h.rest t (fun j hj e=>?_)
 exact ht (T j,V j) (List.mem_map.2 ⟨j,List.mem_range.2 hj,rfl⟩) e)
theorem zkg (base:Act) (l:List (Nat × Value)) (t:Nat) (v:Value):(bi base l).put (some t) v=bi base (l++[(t,v)]):=by(
unfold bi
rw[List.foldl_append]
rfl)
theorem ic {P:Program} {id:Nat} {ops:Array Oper} {Q:Exit→Act→World→Prop} {base:Act} {W0:World} (hm:P.follows .mixedOrders=true)
  (hlow:∀ i o,ops[i]? = some o→∀ e ∈ o.after,Region.binds .any e=true→e.on<i)
  (hg:∀ (i:Nat) (o:Oper),ops[i]? = some o→o.guard=none)
  (H:(Nat→Bool)→World→Prop) (C:Nat→World→Value→Prop) (T:Nat→Nat) (m:Nat) (hsz:ops.size=m+1)
  (hinj:∀ i j,i<m→j<m→T i=T j→i=j) (hT:∀ i,i<m→T i<base.tmps.size) (h0:H (fun _=>false) W0.drew)
  (hall:∀ i,i<m→∃ o,ops[m]? = some o∧∃ e ∈ o.after,Region.binds .any e=true∧e.on=i)
  (hstep:∀ (d:Nat→Bool) (i:Nat) (o:Oper) (a:Act) (w:World) (K:Act→World→Prop),i<m→ops[i]? = some o→d i=false→H d w→(∀ t,(∀ j,j<m→t≠T j)→a.eval (.tmp t)=base.eval (.tmp t))→(∀ e ∈ o.after,Region.binds .any e=true→d e.on=true∧C e.on w (a.eval (.tmp (T e.on))))→(∀ v w',H (came d i) w'→(∀ j,j<m→d j=true→∀ u,C j w u→C j w' u)→C i w' v→K (a.put (some (T i)) v) w')→o.wp P a w K Q)
  (Fin:Act→World→Prop)
  (hlast:∀ (d:Nat→Bool) (o:Oper) (a:Act) (w:World) (K:Act→World→Prop),ops[m]? = some o→(∀ i,i<m→d i=true)→zbm base H C T m d a w→(∀ a' w',Fin a' w'→K a' w')→o.wp P a w K Q)
  (hend:∀ a w,Fin a w→Q .normal a w) :
  (Code.region id ops true).wp P Q base W0:=by(
have wpo:∀ i o a w (K:Act→World→Prop),ops[i]? = some o→o.wp P a w K Q→wpOp P ops Q i K a w:=fun i o a w K ho h=>by
 unfold wpOp
 simp only[ho,Region.wanted,hg i o ho,if_true]
 exact .inl h
refine zaf hm hlow (fun d a w=>if d m=true then (Fin a w∧∀ i,i<m→d i=true) else zbm base H C T m d a w) ?_ ?_ ?_
·simp only[Bool.false_eq_true,if_false]
 exact⟨h0,rfl,rfl,fun _ _=>rfl,fun _ _ h=>by simp at h⟩
·intro d a w hd h
 rw[if_pos (hd m (by omega))] at h
 exact hend a w h.1
·(
intro d i o a w ho hdi hdep h
refine wpo i o a w _ ho ?_
have hi:i<m+1:=by rw[← hsz];exact (Array.getElem?_eq_some_iff.1 ho).1
by_cases e:i=m
·(
subst e
rw[if_neg (by rw[hdi];simp)] at h
have hd:∀ j,j<i→d j=true:=fun j hj=>by
 obtain⟨o',ho',ed,he,hb,rfl⟩:=hall j hj
 rw[ho] at ho'
 obtain rfl:=Option.some.inj ho'
 exact hdep ed he hb
refine hlast d o a w _ ho hd h (fun a' w' hf=>?_)
rw[if_pos (xg d i)]
exact⟨hf,fun j hj=>by rw[qw d (by omega)];exact hd j hj⟩)
·(
have him:i<m:=by omega
by_cases hdm:d m=true
·exfalso
 rw[if_pos hdm] at h
 rw[h.2 i him] at hdi
 simp at hdi
·rw[if_neg hdm] at h
 refine hstep d i o a w _ him ho hdi h.mem (fun t ht=>h.eval t ht) (fun ed he hb=>⟨hdep ed he hb,h.has _ (by have:=hlow i o ho ed he hb;omega) (hdep ed he hb)⟩) (fun v w' hH hC hv=>?_)
 rw[if_neg (by rw[qw d (Ne.symm e)];exact hdm)]
 exact h.next hinj hT i him v w' hH hC hv)))
def Down (ops:Array Oper) (d:Nat→Bool):Prop:=∀ i o,ops[i]? = some o→d i=true→∀ e ∈ o.after,Region.binds .any e=true→d e.on=true
structure Run (W:World) (ops:Array Oper) (base:Act) (C:Nat→World→Value→Prop) (T:Nat→Nat) (d:Nat→Bool) (a:Act) (w:World):Prop where
 down:Down ops d
 but:But [] W w
 size:a.tmps.size=base.tmps.size
 defers:a.defers=base.defers
 rest:∀ t,(∀ j,j<ops.size→d j=true→t≠T j)→a.tmps[t]? = base.tmps[t]?
 has:∀ i,i<ops.size→d i=true→C i w (a.eval (.tmp (T i)))
theorem Run.eval {W:World} {ops:Array Oper} {base:Act} {C:Nat→World→Value→Prop} {T:Nat→Nat} {d:Nat→Bool} {a:Act} {w:World} (h:Run W ops base C T d a w) (t:Nat) (ht:∀ j,j<ops.size→d j=true→t≠T j):a.eval (.tmp t)=base.eval (.tmp t):=by
 show a.tmps.getD t undef=base.tmps.getD t undef
 simp only[Array.getD_eq_getD_getElem?,h.rest t ht]
theorem Run.next {W:World} {ops:Array Oper} {base:Act} {C:Nat→World→Value→Prop} {T:Nat→Nat} {d:Nat→Bool} {a:Act} {w:World} (h:Run W ops base C T d a w)
  (hinj:∀ i j,i<ops.size→j<ops.size→T i=T j→i=j) (hT:∀ i,i<ops.size→T i<base.tmps.size) (hC:∀ i w w' v,i<ops.size→C i w v→But [] w w'→C i w' v)
  (i:Nat) (o:Oper) (ho:ops[i]? = some o) (hdep:∀ e ∈ o.after,Region.binds .any e=true→d e.on=true) (v:Value) (w':World) (hb:But [] w w') (hv:C i w' v):Run W ops base C T (came d i) (a.put (some (T i)) v) w':=by(
have hi:i<ops.size:=(Array.getElem?_eq_some_iff.1 ho).1
refine⟨fun j oj hj hd e he hbi=>?_,h.but.trans' hb,by rw[zau];exact h.size,h.defers,fun t ht=>?_,fun j hj hd=>?_⟩
·(
by_cases e1:e.on=i
·rw[e1];exact xg d i
·(
rw[qw d e1]
by_cases e2:j=i
·subst e2
 rw[ho] at hj
 obtain rfl:=Option.some.inj hj
 exact hdep e he hbi
·rw[qw d e2] at hd
 exact h.down j oj hj hd e he hbi))
·(
rw[zet,if_neg (fun e=>ht i hi (xg d i) e.symm)]
exact h.rest t (fun j hj hd=>by
 by_cases e:j=i
 ·subst e;exact ht j hj (xg d j)
 ·exact ht j hj (by rw[qw d e];exact hd)))
·(
by_cases e:j=i
·subst e
 rw[at_eq a (T j) v (by rw[h.size];exact hT j hj)]
 exact hv
·rw[qw d e] at hd
 rw[zwj a (T i) (T j) v (fun e2=>e (hinj j i hj hi e2))]
 exact hC j w w' _ hj (h.has j hj hd) hb))
def zmy (ops:Array Oper) (T:Nat→Nat):Bool:=(List.range ops.size).all fun i=>match ops[i]? with
 | some o=>(o.dst==some (T i)) && (match o.guard with | none=>true | some (j,_)=>decide (j<ops.size) && o.after.any fun e=>Region.binds .any e && e.on==j)
 | none=>true
theorem qgb {ops:Array Oper} {T:Nat→Nat} (h:zmy ops T=true):∀ (i:Nat) (o:Oper),ops[i]? = some o→o.dst=some (T i)∧∀ j want,o.guard=some (j,want)→j<ops.size∧∃ e ∈ o.after,Region.binds .any e=true∧e.on=j:=fun i o ho=>by
 have hi:i<ops.size:=(Array.getElem?_eq_some_iff.1 ho).1
 unfold zmy at h
 rw[List.all_eq_true] at h
 have h1:=h i (List.mem_range.2 hi)
 simp only[ho,Bool.and_eq_true,beq_iff_eq] at h1
 refine⟨h1.1,fun j want hg=>?_⟩
 have h2:=h1.2
 rw[hg] at h2
 simp only[Bool.and_eq_true,decide_eq_true_eq] at h2
 refine⟨h2.1,?_⟩
 have h3:=h2.2
 rw[Array.any_eq_true] at h3
 obtain⟨k,hk,h4⟩:=h3
 simp only[Bool.and_eq_true,beq_iff_eq] at h4
 exact⟨o.after[k],Array.getElem_mem hk,h4.1,h4.2⟩
theorem zfx {P:Program} {id:Nat} {ops:Array Oper} {Q:Exit→Act→World→Prop} {base:Act} {W0:World} (hm:P.follows .mixedOrders=true)
  (hlow:∀ i o,ops[i]? = some o→∀ e ∈ o.after,Region.binds .any e=true→e.on<i)
  (C:Nat→World→Value→Prop) (T:Nat→Nat) (hpl:zmy ops T=true)
  (hgd:∀ (i:Nat) (o:Oper) (j:Nat) (want:Bool),ops[i]? = some o→o.guard=some (j,want)→∀ w v,C j w v→v=.bool want)
  (hinj:∀ i j,i<ops.size→j<ops.size→T i=T j→i=j) (hT:∀ i,i<ops.size→T i<base.tmps.size) (hC:∀ i w w' v,i<ops.size→C i w v→But [] w w'→C i w' v)
  (hstep:∀ (i:Nat) (o:Oper) (a:Act) (w:World) (K:Act→World→Prop),ops[i]? = some o→But [] W0.drew w→(∀ t,(∀ j,j<ops.size→t=T j→∃ oj,ops[j]? = some oj∧∃ e ∈ oj.after,Region.binds .any e=true∧e.on=i)→a.eval (.tmp t)=base.eval (.tmp t))→(∀ e ∈ o.after,Region.binds .any e=true→C e.on w (a.eval (.tmp (T e.on))))→(∀ v w',But [] w w'→C i w' v→K (a.put o.dst v) w')→o.wp P a w K Q)
  (hend:∀ a w,Run W0.drew ops base C T (fun _=>true) a w→Q .normal a w) :
  (Code.region id ops true).wp P Q base W0:=by(
have hp:=qgb hpl
refine zaf hm hlow (fun d a w=>Run W0.drew ops base C T d a w) ?_ ?_ ?_
·exact⟨fun _ _ _ h=>by simp at h,But.refl _ _,rfl,rfl,fun _ _=>rfl,fun _ _ h=>by simp at h⟩
·intro d a w hd h
 refine hend a w ⟨fun _ _ _ _ _ _ _=>rfl,h.but,h.size,h.defers,fun t ht=>h.rest t (fun j hj _=>ht j hj rfl),fun i hi _=>h.has i hi (hd i hi)⟩
·(
intro d i o a w ho hdi hdep h
have hi:i<ops.size:=(Array.getElem?_eq_some_iff.1 ho).1
obtain⟨hdst,hg⟩:=hp i o ho
have hw:Region.wanted o (yielded ops a.tmps)=true:=by
 unfold Region.wanted
 cases hgo:o.guard with
 | none=>rfl
 | some jw =>
  obtain⟨j,want⟩:=jw
  obtain⟨hj,e,he,hbi,hon⟩:=hg j want hgo
  have hdj:d j=true:=by rw[← hon];exact hdep e he hbi
  have hv:=hgd i o j want ho hgo w _ (h.has j hj hdj)
  have hoj:=Array.getElem?_eq_getElem hj
  have hdj2:=(hp j _ hoj).1
  have hsl:=zhm hv (by rw[h.size];exact hT j hj)
  show (yielded ops a.tmps j==some want)=true
  unfold yielded
  rw[hoj,Option.bind_some,hdj2,Option.bind_some,hsl]
  simp
unfold wpOp
simp only[ho,hw,if_true]
refine .inl (hstep i o a w _ ho h.but (fun t ht=>h.eval t (fun j hj hd e=>?_)) (fun e he hb=>h.has _ (by have:=hlow i o ho e he hb;omega) (hdep e he hb)) (fun v w' hb hv=>?_))
·obtain⟨oj,hoj,ed,hed,hbi,hon⟩:=ht j hj e
 have:=h.down j oj hoj hd ed hed hbi
 rw[hon,hdi] at this
 simp at this
·rw[hdst]
 exact h.next hinj hT hC i o ho hdep v w' hb hv))
theorem Run.puts {W:World} {ops:Array Oper} {base:Act} {C:Nat→World→Value→Prop} {T:Nat→Nat} {a:Act} {w:World} (h:Run W ops base C T (fun _=>true) a w) (hT:∀ i,i<ops.size→T i<base.tmps.size) (V:Nat→Value) (hV:∀ i,i<ops.size→a.eval (.tmp (T i))=V i):a=bi base ((List.range ops.size).map fun i=>(T i,V i)):=by(
refine zdi _ base a h.defers h.size (fun p hp=>?_) (fun t ht=>?_)
·obtain⟨i,hi,rfl⟩:=List.mem_map.1 hp
 have hi':=List.mem_range.1 hi
 exact zhm (hV i hi') (by rw[h.size];exact hT i hi')
·refine h.rest t (fun j hj _ e=>?_)
 exact ht (T j,V j) (List.mem_map.2 ⟨j,List.mem_range.2 hj,rfl⟩) e)
structure qrb {α:Type} (ops:Array Oper) (base:Act) (H:α→(Nat→Bool)→World→Prop) (V:α→Nat→Value) (T:Nat→Nat) (wr:Nat→Bool) (m:Nat) (d:Nat→Bool) (a:Act) (w:World) (N:α):Prop where
 down:Closed ops d
 mem:H N d w
 size:a.tmps.size=base.tmps.size
 defers:a.defers=base.defers
 rest:∀ t,(∀ j,j<m→wr j=true→d j=true→t≠T j)→a.tmps[t]? = base.tmps[t]?
 has:∀ i,i<m→wr i=true→d i=true→a.eval (.tmp (T i))=V N i
theorem zms {P:Program} {id:Nat} {ops:Array Oper} {Q:Exit→Act→World→Prop} {base:Act} {W0:World} (hm:P.follows .mixedOrders=true)
  (hlow:∀ i o,ops[i]? = some o→∀ e ∈ o.after,Region.binds .any e=true→e.on<i)
  (hg:∀ (i:Nat) (o:Oper),ops[i]? = some o→o.guard=none)
  {α:Type} (H:α→(Nat→Bool)→World→Prop) (V:α→Nat→Value) (T:Nat→Nat) (wr:Nat→Bool) (m:Nat) (hsz:ops.size=m)
  (hinj:∀ i j,i<m→j<m→wr i=true→wr j=true→T i=T j→i=j) (hT:∀ i,i<m→wr i=true→T i<base.tmps.size) (N0:α) (h0:H N0 (fun _=>false) W0.drew)
  (hstep:∀ (N:α) (d:Nat→Bool) (i:Nat) (o:Oper) (a:Act) (w:World) (K:Act→World→Prop),i<m→ops[i]? = some o→d i=false→Closed ops d→H N d w→(∀ t,(∀ j,j<m→wr j=true→d j=true→t≠T j)→a.eval (.tmp t)=base.eval (.tmp t))→(∀ e ∈ o.after,Region.binds .any e=true→d e.on=true∧(wr e.on=true→a.eval (.tmp (T e.on))=V N e.on))→(∀ N' v w',(wr i=true→v=V N' i)→(∀ j,j<m→wr j=true→d j=true→V N' j=V N j)→H N' (came d i) w'→K (a.put (if wr i=true then some (T i) else none) v) w')→o.wp P a w K Q)
  (hend:∀ N d w,(∀ i,i<m→d i=true)→H N d w→Q .normal (bi base (((List.range m).filter wr).map fun i=>(T i,V N i))) w) :
  (Code.region id ops true).wp P Q base W0:=by(
have wpo:∀ i o a w (K:Act→World→Prop),ops[i]? = some o→o.wp P a w K Q→wpOp P ops Q i K a w:=fun i o a w K ho h=>by
 unfold wpOp
 simp only[ho,Region.wanted,hg i o ho,if_true]
 exact .inl h
refine zaf hm hlow (fun d a w=>∃ N,qrb ops base H V T wr m d a w N) ?_ ?_ ?_
·exact⟨N0,fun _ _ _ h=>by simp at h,h0,rfl,rfl,fun _ _=>rfl,fun _ _ _ h=>by simp at h⟩
·(
rintro d a w hd ⟨N,h⟩
have ea:a=bi base (((List.range m).filter wr).map fun i=>(T i,V N i)):=by
 refine zdi _ base a h.defers h.size (fun p hp=>?_) (fun t ht=>?_)
 ·obtain⟨i,hi,rfl⟩:=List.mem_map.1 hp
  obtain⟨hi1,hi2⟩:=List.mem_filter.1 hi
  have hi':=List.mem_range.1 hi1
  exact zhm (h.has i hi' hi2 (hd i (by omega))) (by rw[h.size];exact hT i hi' hi2)
 ·refine h.rest t (fun j hj hw hdj e=>?_)
  exact ht (T j,V N j) (List.mem_map.2 ⟨j,List.mem_filter.2 ⟨List.mem_range.2 hj,hw⟩,rfl⟩) e
rw[ea]
exact hend N d w (fun i hi=>hd i (by omega)) h.mem)
·(
rintro d i o a w ho hdi hdep ⟨N,h⟩
refine wpo i o a w _ ho ?_
have hi:i<m:=by rw[← hsz];exact (Array.getElem?_eq_some_iff.1 ho).1
refine hstep N d i o a w _ hi ho hdi h.down h.mem (fun t ht=>zpm (h.rest t ht)) (fun ed he hb=>⟨hdep ed he hb,fun hw=>h.has _ (by have:=hlow i o ho ed he hb;omega) hw (hdep ed he hb)⟩) ?_
rintro N' v w' hv hV hH
by_cases hw:wr i=true
·(
obtain rfl:=hv hw
rw[if_pos hw]
refine⟨N',h.down.next ho hdep,hH,by rw[zau];exact h.size,h.defers,fun t ht=>?_,fun j hj hwj hd=>?_⟩
·(
rw[zet,if_neg (fun e=>ht i hi hw (xg d i) e.symm)]
refine h.rest t (fun j hj hwj hdj=>ht j hj hwj ?_)
by_cases e:j=i
·subst e;exact xg d j
·rw[qw d e];exact hdj)
·(
by_cases e:j=i
·subst e
 exact at_eq a (T j) _ (by rw[h.size];exact hT j hj hwj)
·rw[qw d e] at hd
 rw[zwj a (T i) (T j) _ (fun e2=>e (hinj j i hj hi hwj hw e2)),h.has j hj hwj hd]
 exact (hV j hj hwj hd).symm))
·(
rw[if_neg hw]
have ne:∀ j,wr j=true→j≠i:=fun j hj e=>hw (e ▸ hj)
refine⟨N',h.down.next ho hdep,hH,h.size,h.defers,fun t ht=>h.rest t (fun j hj hwj hdj=>ht j hj hwj (by rw[qw d (ne j hwj)];exact hdj)),fun j hj hwj hd=>?_⟩
rw[qw d (ne j hwj)] at hd
rw[show a.put none v=a from rfl,h.has j hj hwj hd]
exact (hV j hj hwj hd).symm)))
theorem zgx (w:World) (g k:Nat) (v:Value):w.setCell ⟨g,k,none⟩ v=w.setCells g k [v]:=rfl
theorem qdj (z:Value) (n k:Nat) (h:k<n):(madeCells #[z] n)[k]? = some z:=by(
unfold madeCells
rw[Array.getElem?_map,Array.getElem?_eq_getElem (by simpa using h),Array.getElem_range,Option.map_some]
have e:k%(#[z]:Array Value).size=0:=by simp[Nat.mod_one]
rw[e]
rfl)
theorem zrj {P:Program} {id:Nat} {ops:Array Oper} {Q:Exit→Act→World→Prop} {base:Act} {W0:World} (hm:P.follows .mixedOrders=true)
  (hlow:∀ i o,ops[i]? = some o→∀ e ∈ o.after,Region.binds .any e=true→e.on<i)
  (hg:∀ (i:Nat) (o:Oper),ops[i]? = some o→o.guard=none)
  (H:World→Prop) (hH0:H W0.drew) (hHB:∀ w w',H w→But [] w w'→H w') (C:Nat→World→Value→Prop) (T:Nat→Nat) (m q ka:Nat) (hka:ka<m) (St:World→Value→Prop) (hsz:ops.size=m+1)
  (hinj:∀ i j,i<m→j<m→T i=T j→i=j) (hT:∀ i,i<m→T i<base.tmps.size)
  (hC:∀ i w w' v,i<m→C i w v→But [] w w'→C i w' v) (hCq:∀ w v,C q w v) (hSt:∀ w w' v,St w v→But [] w w'→St w' v)
  (hall:∀ i,i<m→∃ o,ops[m]? = some o∧∃ e ∈ o.after,Region.binds .any e=true∧e.on=i)
  (hqk:∃ o,ops[q]? = some o∧∃ e ∈ o.after,Region.binds .any e=true∧e.on=ka)
  (hstep:∀ (i:Nat) (o:Oper) (a:Act) (w:World) (K:Act→World→Prop),i<m→i≠q→ops[i]? = some o→H w→(∀ t,(∀ j,j<m→t≠T j)→a.eval (.tmp t)=base.eval (.tmp t))→(∀ e ∈ o.after,Region.binds .any e=true→C e.on w (a.eval (.tmp (T e.on))))→(∀ v w',But [] w w'→C i w' v→K (a.put (some (T i)) v) w')→o.wp P a w K Q)
  (hmute:∀ (o:Oper) (a:Act) (w:World) (K:Act→World→Prop),ops[q]? = some o→H w→(∀ t,(∀ j,j<m→t≠T j)→a.eval (.tmp t)=base.eval (.tmp t))→(∀ e ∈ o.after,Region.binds .any e=true→C e.on w (a.eval (.tmp (T e.on))))→(∀ w',H w'→(∀ j,j<m→∀ u,C j w u→C j w' u)→St w' (a.eval (.tmp (T ka)))→K a w')→o.wp P a w K Q)
  (Fin:Act→World→Prop)
  (hlast:∀ (d:Nat→Bool) (o:Oper) (a:Act) (w:World) (K:Act→World→Prop),ops[m]? = some o→(∀ i,i<m→d i=true)→zbm base (fun _ w=>H w) C T m d a w→St w (a.eval (.tmp (T ka)))→(∀ a' w',Fin a' w'→K a' w')→o.wp P a w K Q)
  (hend:∀ a w,Fin a w→Q .normal a w) (hqm:q<m) :
  (Code.region id ops true).wp P Q base W0:=by(
have wpo:∀ i o a w (K:Act→World→Prop),ops[i]? = some o→o.wp P a w K Q→wpOp P ops Q i K a w:=fun i o a w K ho h=>by
 unfold wpOp
 simp only[ho,Region.wanted,hg i o ho,if_true]
 exact .inl h
refine zaf hm hlow (fun d a w=>if d m=true then (Fin a w∧∀ i,i<m→d i=true) else (zbm base (fun _ w=>H w) C T m d a w∧(d q=true→d ka=true∧St w (a.eval (.tmp (T ka)))))) ?_ ?_ ?_
·simp only[Bool.false_eq_true,if_false]
 exact⟨⟨hH0,rfl,rfl,fun _ _=>rfl,fun _ _ h=>by simp at h⟩,fun h=>by simp at h⟩
·intro d a w hd h
 rw[if_pos (hd m (by omega))] at h
 exact hend a w h.1
·(
intro d i o a w ho hdi hdep h
refine wpo i o a w _ ho ?_
have hi:i<m+1:=by rw[← hsz];exact (Array.getElem?_eq_some_iff.1 ho).1
by_cases e:i=m
·(
subst e
rw[if_neg (by rw[hdi];simp)] at h
have hd:∀ j,j<i→d j=true:=fun j hj=>by
 obtain⟨o',ho',ed,he,hb,rfl⟩:=hall j hj
 rw[ho] at ho'
 obtain rfl:=Option.some.inj ho'
 exact hdep ed he hb
refine hlast d o a w _ ho hd h.1 (h.2 (hd q hqm)).2 (fun a' w' hf=>?_)
rw[if_pos (xg d i)]
exact⟨hf,fun j hj=>by rw[qw d (by omega)];exact hd j hj⟩)
·(
have him:i<m:=by omega
by_cases hdm:d m=true
·exfalso
 rw[if_pos hdm] at h
 rw[h.2 i him] at hdi
 simp at hdi
·(
rw[if_neg hdm] at h
obtain⟨h,hs⟩:=h
have hdp:=fun (ed:Edge) (he:ed ∈ o.after) (hb:Region.binds .any ed=true)=>h.has _ (show ed.on<m by have:=hlow i o ho ed he hb;omega) (hdep ed he hb)
by_cases eq:i=q
·(
subst eq
refine hmute o a w _ ho h.mem (fun t ht=>h.eval t ht) hdp (fun w' hB hCw hSw=>?_)
rw[if_neg (by rw[qw d (Ne.symm e)];exact hdm)]
refine⟨⟨hB,h.size,h.defers,h.rest,fun j hj hd=>?_⟩,fun _=>?_⟩
·by_cases ej:j=i
 ·rw[ej];exact hCq _ _
 ·rw[qw d ej] at hd
  exact hCw j hj _ (h.has j hj hd)
·(
obtain⟨o',ho',ed,he,hb,ek⟩:=hqk
rw[ho] at ho'
obtain rfl:=Option.some.inj ho'
have hk:=hdep ed he hb
rw[ek] at hk
have hne:ka≠i:=fun e2=>by rw[e2,hdi] at hk;simp at hk
exact⟨by rw[qw d hne];exact hk,hSw⟩))
·(
refine hstep i o a w _ him eq ho h.mem (fun t ht=>h.eval t ht) hdp (fun v w' hB hv=>?_)
rw[if_neg (by rw[qw d (Ne.symm e)];exact hdm)]
refine⟨h.next hinj hT i him v w' (hHB _ _ h.mem hB) (fun j hj _ u hu=>hC j w w' u hj hu hB) hv,fun hq=>?_⟩
rw[qw d (Ne.symm eq)] at hq
obtain⟨h1,h2⟩:=hs hq
have hne:ka≠i:=fun e2=>by rw[e2,hdi] at h1;simp at h1
refine⟨by rw[qw d hne];exact h1,?_⟩
rw[zwj a (T i) (T ka) v (fun e2=>hne (hinj ka i hka him e2))]
exact hSt w w' _ h2 hB)))))
theorem zrk {P:Program} {id:Nat} {ops:Array Oper} {Q:Exit→Act→World→Prop} {base:Act} {W0:World} (hm:P.follows .mixedOrders=true)
  (hlow:∀ i o,ops[i]? = some o→∀ e ∈ o.after,Region.binds .any e=true→e.on<i)
  (hg:∀ (i:Nat) (o:Oper),ops[i]? = some o→o.guard=none)
  (C:Nat→World→Value→Prop) (T:Nat→Nat) (m q ka:Nat) (hka:ka<m) (St:World→Value→Prop) (hsz:ops.size=m+1)
  (hinj:∀ i j,i<m→j<m→T i=T j→i=j) (hT:∀ i,i<m→T i<base.tmps.size)
  (hC:∀ i w w' v,i<m→C i w v→But [] w w'→C i w' v) (hCq:∀ w v,C q w v) (hSt:∀ w w' v,St w v→But [] w w'→St w' v)
  (hall:∀ i,i<m→∃ o,ops[m]? = some o∧∃ e ∈ o.after,Region.binds .any e=true∧e.on=i)
  (hqk:∃ o,ops[q]? = some o∧∃ e ∈ o.after,Region.binds .any e=true∧e.on=ka)
  (hstep:∀ (i:Nat) (o:Oper) (a:Act) (w:World) (K:Act→World→Prop),i<m→i≠q→ops[i]? = some o→But [] W0.drew w→(∀ t,(∀ j,j<m→t≠T j)→a.eval (.tmp t)=base.eval (.tmp t))→(∀ e ∈ o.after,Region.binds .any e=true→C e.on w (a.eval (.tmp (T e.on))))→(∀ v w',But [] w w'→C i w' v→K (a.put (some (T i)) v) w')→o.wp P a w K Q)
  (hmute:∀ (o:Oper) (a:Act) (w:World) (K:Act→World→Prop),ops[q]? = some o→But [] W0.drew w→(∀ t,(∀ j,j<m→t≠T j)→a.eval (.tmp t)=base.eval (.tmp t))→(∀ e ∈ o.after,Region.binds .any e=true→C e.on w (a.eval (.tmp (T e.on))))→(∀ w',But [] W0.drew w'→(∀ j,j<m→∀ u,C j w u→C j w' u)→St w' (a.eval (.tmp (T ka)))→K a w')→o.wp P a w K Q)
  (Fin:Act→World→Prop)
  (hlast:∀ (d:Nat→Bool) (o:Oper) (a:Act) (w:World) (K:Act→World→Prop),ops[m]? = some o→(∀ i,i<m→d i=true)→zbm base (fun _ w=>But [] W0.drew w) C T m d a w→St w (a.eval (.tmp (T ka)))→(∀ a' w',Fin a' w'→K a' w')→o.wp P a w K Q)
  (hend:∀ a w,Fin a w→Q .normal a w) (hqm:q<m) :
  (Code.region id ops true).wp P Q base W0 :=
 zrj hm hlow hg (fun w=>But [] W0.drew w) (But.refl _ _) (fun _ _ h hb=>h.trans' hb) C T m q ka hka St hsz hinj hT hC hCq hSt hall hqk hstep hmute Fin hlast hend hqm
theorem zrl {P:Program} {id:Nat} {ops:Array Oper} {Q:Exit→Act→World→Prop} {base:Act} {W0:World} (hm:P.follows .mixedOrders=true)
  (hlow:∀ i o,ops[i]? = some o→∀ e ∈ o.after,Region.binds .any e=true→e.on<i)
  (hg:∀ (i:Nat) (o:Oper),ops[i]? = some o→o.guard=none)
  (H:(Nat→Bool)→World→Prop) (C:Nat→World→Value→Prop) (T:Nat→Nat) (m:Nat) (hsz:ops.size=m+2)
  (hinj:∀ i j,i<m→j<m→T i=T j→i=j) (hT:∀ i,i<m→T i<base.tmps.size) (h0:H (fun _=>false) W0.drew)
  (hall:∀ i,i<m→∃ o,ops[m]? = some o∧∃ e ∈ o.after,Region.binds .any e=true∧e.on=i)
  (hall2:∃ o,ops[m+1]? = some o∧∃ e ∈ o.after,Region.binds .any e=true∧e.on=m)
  (hstep:∀ (d:Nat→Bool) (i:Nat) (o:Oper) (a:Act) (w:World) (K:Act→World→Prop),i<m→ops[i]? = some o→d i=false→H d w→(∀ t,(∀ j,j<m→t≠T j)→a.eval (.tmp t)=base.eval (.tmp t))→(∀ e ∈ o.after,Region.binds .any e=true→d e.on=true∧C e.on w (a.eval (.tmp (T e.on))))→(∀ v w',H (came d i) w'→(∀ j,j<m→d j=true→∀ u,C j w u→C j w' u)→C i w' v→K (a.put (some (T i)) v) w')→o.wp P a w K Q)
  (Fin Fin2:Act→World→Prop)
  (hlast:∀ (d:Nat→Bool) (o:Oper) (a:Act) (w:World) (K:Act→World→Prop),ops[m]? = some o→(∀ i,i<m→d i=true)→zbm base H C T m d a w→(∀ a' w',Fin a' w'→K a' w')→o.wp P a w K Q)
  (hlast2:∀ (o:Oper) (a:Act) (w:World) (K:Act→World→Prop),ops[m+1]? = some o→Fin a w→(∀ a' w',Fin2 a' w'→K a' w')→o.wp P a w K Q)
  (hend:∀ a w,Fin2 a w→Q .normal a w) :
  (Code.region id ops true).wp P Q base W0:=by(
have wpo:∀ i o a w (K:Act→World→Prop),ops[i]? = some o→o.wp P a w K Q→wpOp P ops Q i K a w:=fun i o a w K ho h=>by
 unfold wpOp
 simp only[ho,Region.wanted,hg i o ho,if_true]
 exact .inl h
refine zaf hm hlow (fun d a w=>if d (m+1)=true then (Fin2 a w∧∀ i,i<m+1→d i=true) else if d m=true then (Fin a w∧∀ i,i<m→d i=true) else zbm base H C T m d a w) ?_ ?_ ?_
·simp only[Bool.false_eq_true,if_false]
 exact⟨h0,rfl,rfl,fun _ _=>rfl,fun _ _ h=>by simp at h⟩
·intro d a w hd h
 rw[if_pos (hd (m+1) (by omega))] at h
 exact hend a w h.1
·(
intro d i o a w ho hdi hdep h
refine wpo i o a w _ ho ?_
have hi:i<m+2:=by rw[← hsz];exact (Array.getElem?_eq_some_iff.1 ho).1
by_cases e2:i=m+1
·(
subst e2
rw[if_neg (by rw[hdi];simp)] at h
have hdm:d m=true:=by
 obtain⟨o',ho',ed,he,hb,e⟩:=hall2
 rw[ho] at ho'
 obtain rfl:=Option.some.inj ho'
 rw[← e]
 exact hdep ed he hb
rw[if_pos hdm] at h
refine hlast2 o a w _ ho h.1 (fun a' w' hf=>?_)
rw[if_pos (xg d (m+1))]
exact⟨hf,fun j hj=>by
 rw[qw d (by omega)]
 by_cases ej:j=m
 ·rw[ej];exact hdm
 ·exact h.2 j (by omega)⟩)
by_cases hd2:d (m+1)=true
·exfalso
 rw[if_pos hd2] at h
 rw[h.2 i (by omega)] at hdi
 simp at hdi
rw[if_neg hd2] at h
by_cases e:i=m
·(
subst e
rw[if_neg (by rw[hdi];simp)] at h
have hd:∀ j,j<i→d j=true:=fun j hj=>by
 obtain⟨o',ho',ed,he,hb,rfl⟩:=hall j hj
 rw[ho] at ho'
 obtain rfl:=Option.some.inj ho'
 exact hdep ed he hb
refine hlast d o a w _ ho hd h (fun a' w' hf=>?_)
rw[if_neg (by rw[qw d (by omega)];exact hd2),if_pos (xg d i)]
exact⟨hf,fun j hj=>by rw[qw d (by omega)];exact hd j hj⟩)
·(
have him:i<m:=by omega
by_cases hdm:d m=true
·exfalso
 rw[if_pos hdm] at h
 rw[h.2 i him] at hdi
 simp at hdi
·rw[if_neg hdm] at h
 refine hstep d i o a w _ him ho hdi h.mem (fun t ht=>h.eval t ht) (fun ed he hb=>⟨hdep ed he hb,h.has _ (by have:=hlow i o ho ed he hb;omega) (hdep ed he hb)⟩) (fun v w' hH hC hv=>?_)
 rw[if_neg (by rw[qw d (Ne.symm e2)];exact hd2),if_neg (by rw[qw d (Ne.symm e)];exact hdm)]
 exact h.next hinj hT i him v w' hH hC hv)))
end Go.Proofs.YtagmkkiagjmimaaGreatDoor
