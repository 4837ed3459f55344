/- Regions that draw their order: what hold -/
import Derived.Deep.RegionHeld
import Derived.RangeFuncCalls
import Derived.OrdersIn
import Derived.Test.YtffghofheeleeaaGreatDoorKN1
import Derived.Test.YtffghofheeleeaaGreatDoorKPc
namespace Go.Proofs.YtffghofheeleeaaGreatDoor
open Go.RowKit
def came (d:Nat→Bool) (i:Nat):Nat→Bool:=fun j=>if j=i then true else d j
theorem yt (d:Nat→Bool) (i:Nat):came d i i=true:=by simp[came]
theorem jg (d:Nat→Bool) {i j:Nat} (h:j≠i):came d i j=d j:=by simp[came,h]
theorem zbs {P:Program} {id:Nat} {ops:Array Oper} {Q:Exit→Act→World→Prop} {base:Act} {W0:World} (hm:P.follows .mixedOrders=true)
  (hlow:∀ i o,ops[i]? = some o→∀ e ∈ o.after,Region.binds .any e=true→e.on<i)
  (J:(Nat→Bool)→Act→World→Prop) (h0:J (fun _=>false) base W0.drew)
  (hend:∀ d a w,(∀ i,i<ops.size→d i=true)→J d a w→Q .normal a w)
  (hstep:∀ d i o a w,ops[i]? = some o→d i=false→(∀ e ∈ o.after,Region.binds .any e=true→d e.on=true)→J d a w→wpOp P ops Q i (J (came d i)) a w) :
  (Code.region id ops true).wp P Q base W0:=by
 refine wp_region_any hm ?_
 show wpAny P .any ops Q ops.size (Array.replicate ops.size false) base W0.drew
 have none_ready:∀ (l:Array Bool),l.toList.count false=0→Region.ready .any ops l=[]:=fun l hc=>by
  refine List.eq_nil_iff_forall_not_mem.2 fun i hi=>?_
  obtain⟨hf,o,ho,hd⟩:=mem_ready.1 hi
  rw[List.count_eq_zero] at hc
  rcases Nat.lt_or_ge i l.size with h1 | h1
  ·simp only[Array.getD_eq_getD_getElem?,Array.getElem?_eq_getElem h1,Option.getD_some] at hf
   exact hc (by rw[← hf];exact Array.getElem_mem_toList h1)
  ·simp[Array.getElem?_eq_none h1] at hf
 have end_:∀ (l:Array Bool) a w,l.size=ops.size→J (fun i=>l.getD i false) a w→Region.ready .any ops l=[]→Q .normal a w:=fun l a w hs hJ hr=>by
  refine hend _ a w (fun i=>?_) hJ
  induction i using Nat.strongRecOn with
  | _ i ih =>
   intro hi
   cases e:l.getD i false with
   | true=>rfl
   | false =>
    exfalso
    have hmem:i ∈ Region.ready .any ops l:=mem_ready.2 ⟨by
     simp only[Array.getD_eq_getD_getElem?,Array.getElem?_eq_getElem (show i<l.size by omega),Option.getD_some] at e ⊢
     exact e,ops[i],Array.getElem?_eq_getElem hi,fun e he hb=>by
      have hl:=hlow i ops[i] (Array.getElem?_eq_getElem hi) e he hb
      exact ih e.on hl (by omega)⟩
    rw[hr] at hmem
    simp at hmem
 have key:∀ n (l:Array Bool) a w,l.size=ops.size∧l.toList.count false=n∧J (fun i=>l.getD i false) a w→wpAny P .any ops Q n l a w:=by
  intro n
  induction n with
  | zero=>rintro l a w ⟨hs,hc,hJ⟩;exact⟨none_ready l hc,end_ l a w hs hJ (none_ready l hc)⟩
  | succ n ih =>
   rintro l a w ⟨hs,hc,hJ⟩
   refine⟨end_ l a w hs hJ,fun i hi=>?_⟩
   obtain⟨hf,o,ho,hd⟩:=mem_ready.1 hi
   have hlt:i<l.size:=by rw[hs];exact (Array.getElem?_eq_some_iff.1 ho).1
   have hg:l[i]=false:=by simpa [hlt] using hf
   have hf':l.getD i false=false:=by simp[hlt,hg]
   refine wpOp_mono (fun a' w' h'=>ih _ a' w' ⟨by simp[hs],?_,?_⟩) (hstep _ i o a w ho hf' hd hJ)
   ·rw[Array.toList_setIfInBounds,List.count_set (by simpa using hlt)]
    simp[hg,hc]
   ·have e:(fun j=>(l.setIfInBounds i true).getD j false)=came (fun j=>l.getD j false) i:=funext fun j=>by
     by_cases hj:j=i
     ·subst hj;simp[came,hlt]
     ·simp[came,hj,Array.getElem?_setIfInBounds_ne (Ne.symm hj)]
    rw[e];exact h'
 exact key _ _ _ _ ⟨by simp,by simp,by
  have e:(fun i=>(Array.replicate ops.size false).getD i false)=fun _=>false:=funext fun i=>by
   simp only[Array.getD_eq_getD_getElem?,Array.getElem?_replicate]
   split <;> rfl
  rw[e];exact h0⟩
theorem at_ne (a:Act) (d t:Nat) (v:Value) (h:t≠d):(a.put (some d) v).eval (.tmp t)=a.eval (.tmp t):=by
 show (a.tmps.setIfInBounds d v).getD t undef=a.tmps.getD t undef
 simp only[Array.getD_eq_getD_getElem?,Array.getElem?_setIfInBounds_ne (Ne.symm h)]
theorem at_eq (a:Act) (d:Nat) (v:Value) (h:d<a.tmps.size):(a.put (some d) v).eval (.tmp d)=v:=by
 show (a.tmps.setIfInBounds d v).getD d undef=v
 simp[h]
theorem slot_is {a:Act} {t:Nat} {v:Value} (h:a.eval (.tmp t)=v) (hs:t<a.tmps.size):a.tmps[t]? = some v:=by
 have e:a.tmps.getD t undef=v:=h
 rw[Array.getD_eq_getD_getElem?,Array.getElem?_eq_getElem hs] at e
 rw[Array.getElem?_eq_getElem hs]
 exact congrArg some e
theorem slot_put (a:Act) (d t:Nat) (v:Value):(a.put (some d) v).tmps[t]? = if d=t then (if d<a.tmps.size then some v else none) else a.tmps[t]?:=by
 show (a.tmps.setIfInBounds d v)[t]? = _
 rw[Array.getElem?_setIfInBounds]
theorem zci (a:Act) (d:Nat) (v:Value):(a.put (some d) v).tmps.size=a.tmps.size:=by
 show (a.tmps.setIfInBounds d v).size=a.tmps.size
 simp
def bi (base:Act) (ps:List (Nat × Value)):Act:=ps.foldl (fun b p=>b.put (some p.1) p.2) base
theorem zgi:∀ (ps:List (Nat × Value)) (base a:Act),a.defers=base.defers→a.tmps.size=base.tmps.size→(∀ p ∈ ps,a.tmps[p.1]? = some p.2)→(∀ t,(∀ p ∈ ps,t≠p.1)→a.tmps[t]? = base.tmps[t]?)→a=bi base ps
 | [],base,a,h1,_,_,h4=>by
  cases a
  cases base
  simp only at h1 h4
  show Act.mk _ _=Act.mk _ _
  rw[Array.ext_getElem? (fun t=>h4 t (fun p hp=>by simp at hp)),h1]
 | (d,v)::ps,base,a,h1,h2,h3,h4=>by
  have hd:=h3 (d,v) (by simp)
  simp only at hd
  have hlt:d<base.tmps.size:=by
   rw[← h2]
   exact (Array.getElem?_eq_some_iff.1 hd).1
  refine zgi ps (base.put (some d) v) a h1 (by rw[zci];exact h2) (fun p hp=>h3 p (by simp[hp])) (fun t ht=>?_)
  rw[slot_put]
  by_cases e:d=t
  ·subst e
   rw[if_pos rfl,if_pos hlt]
   exact hd
  ·rw[if_neg e]
   refine h4 t (fun p hp=>?_)
   rcases List.mem_cons.1 hp with rfl | hp
   ·exact Ne.symm e
   ·exact ht p hp
theorem rest_eval {base a:Act} {t:Nat} (h:a.tmps[t]? = base.tmps[t]?):a.eval (.tmp t)=base.eval (.tmp t):=by
 show a.tmps.getD t undef=base.tmps.getD t undef
 simp only[Array.getD_eq_getD_getElem?,h]
theorem al {P:Program} {Q:Exit→Act→World→Prop} {K:Act→World→Prop} {a:Act} {w w':World} {o:Oper} {v:Value} (hr:(execOp a.eval o).run P w=.ok (.value v) w') (h:K (a.put o.dst v) w'):o.wp P a w K Q:=by
 unfold Oper.wp
 rw[hr]
 exact h
theorem ve {P:Program} {Q:Exit→Act→World→Prop} {K:Act→World→Prop} {a:Act} {w w':World} {o:Oper} (hr:(execOp a.eval o).run P w=.ok .skip w') (h:K (a.put o.dst undef) w'):o.wp P a w K Q:=by
 unfold Oper.wp
 rw[hr]
 exact h
theorem ax {P:Program} {Q:Exit→Act→World→Prop} {K:Act→World→Prop} {a:Act} {w:World} {o:Oper} {f:FuncId} {args:Array Value} (hr:(execOp a.eval o).run P w=.ok (.enter f args) w) {R:World→Value→Prop} (hc:Calls P f args w fun e w'=>∃ v,e=.returned v∧R w' v) (h:∀ v w',R w' v→K (a.put o.dst v) w'):o.wp P a w K Q:=by
 unfold Oper.wp
 rw[hr]
 refine hc.mono ?_
 rintro e w' ⟨v,rfl,hv⟩
 exact h v w' hv
def lowOps (ops:Array Oper):Bool:=(List.range ops.size).all fun i=>match ops[i]? with
 | some o=>o.after.all fun e=>!(Region.binds .any e) || decide (e.on<i)
 | none=>true
theorem ay {ops:Array Oper} (h:lowOps ops=true):∀ i o,ops[i]? = some o→∀ e ∈ o.after,Region.binds .any e=true→e.on<i:=fun i o ho e he hb=>by
 have hi:i<ops.size:=(Array.getElem?_eq_some_iff.1 ho).1
 unfold lowOps at h
 rw[List.all_eq_true] at h
 have h1:=h i (List.mem_range.2 hi)
 simp only[ho] at h1
 rw[Array.all_eq_true_iff_forall_mem] at h1
 have h2:=h1 e he
 simpa [hb] using h2
def uj (ops:Array Oper) (ps:List (Nat × Nat)):Bool:=ps.all fun p=>match ops[p.1]? with
 | some o=>o.after.any fun e=>Region.binds .any e && e.on==p.2
 | none=>false
theorem nk {ops:Array Oper} {ps:List (Nat × Nat)} (h:uj ops ps=true):∀ i j,(i,j) ∈ ps→∃ o,ops[i]? = some o∧∃ e ∈ o.after,Region.binds .any e=true∧e.on=j:=fun i j hij=>by
 unfold uj at h
 rw[List.all_eq_true] at h
 have h1:=h (i,j) hij
 cases ho:ops[i]? with
 | none=>simp[ho] at h1
 | some o =>
  simp only[ho] at h1
  rw[Array.any_eq_true] at h1
  obtain⟨k,hk,h2⟩:=h1
  simp only[Bool.and_eq_true,beq_iff_eq] at h2
  exact⟨o,rfl,o.after[k],Array.getElem_mem hk,h2.1,h2.2⟩
def P4 (w:World) (g:Nat) (s:Bool) (x y:Int) (p:Option Addr):Prop:=w.cell? ⟨g,0,none⟩=some (.bool s)∧w.cell? ⟨g,1,none⟩=some (.int .u64 x)∧w.cell? ⟨g,2,none⟩=some (.int .u64 y)∧w.cell? ⟨g,3,none⟩=some (.pointer p)
theorem P4.but {w w':World} {g:Nat} {s:Bool} {x y:Int} {p:Option Addr} {l:List Nat} (h:P4 w g s x y p) (hb:But l w w') (hn:g ∉ l):P4 w' g s x y p:=⟨hb.ag h.1 hn,hb.ag h.2.1 hn,hb.ag h.2.2.1 hn,hb.ag h.2.2.2 hn⟩
theorem yh (w:World) (b i j:Nat) (v:Value) (hij:i≠j):(w.setCell ⟨b,i,none⟩ v).cell? ⟨b,j,none⟩=w.cell? ⟨b,j,none⟩:=World.cell?_setCell_other w ⟨b,i,none⟩ ⟨b,j,none⟩ v (fun e=>hij (Addr.mk.inj e).2.1)
theorem set4_all (w:World) (b:Nat) (v0 v1 v2 v3:Value) (c0:(w.cell? ⟨b,0,none⟩).isSome=true) (c1:(w.cell? ⟨b,1,none⟩).isSome=true) (c2:(w.cell? ⟨b,2,none⟩).isSome=true) (c3:(w.cell? ⟨b,3,none⟩).isSome=true) :
  (∀ j,j<4→((((w.setCell ⟨b,0,none⟩ v0).setCell ⟨b,1,none⟩ v1).setCell ⟨b,2,none⟩ v2).setCell ⟨b,3,none⟩ v3).cell? ⟨b,j,none⟩=#[v0,v1,v2,v3][j]?)∧∀ j,4≤j→((((w.setCell ⟨b,0,none⟩ v0).setCell ⟨b,1,none⟩ v1).setCell ⟨b,2,none⟩ v2).setCell ⟨b,3,none⟩ v3).cell? ⟨b,j,none⟩=w.cell? ⟨b,j,none⟩:=by
 constructor
 ·intro j hj
  have:j=0∨j=1∨j=2∨j=3:=by omega
  rcases this with rfl|rfl|rfl|rfl
  ·rw[yh _ _ 3 0 _ (by omega),yh _ _ 2 0 _ (by omega),yh _ _ 1 0 _ (by omega)]
   exact World.cell?_setCell_same' _ _ _ c0
  ·rw[yh _ _ 3 1 _ (by omega),yh _ _ 2 1 _ (by omega)]
   exact World.cell?_setCell_same' _ _ _ (by rw[yh _ _ 0 1 _ (by omega)];exact c1)
  ·rw[yh _ _ 3 2 _ (by omega)]
   exact World.cell?_setCell_same' _ _ _ (by rw[yh _ _ 1 2 _ (by omega),yh _ _ 0 2 _ (by omega)];exact c2)
  ·exact World.cell?_setCell_same' _ _ _ (by rw[yh _ _ 2 3 _ (by omega),yh _ _ 1 3 _ (by omega),yh _ _ 0 3 _ (by omega)];exact c3)
 ·intro j hj
  rw[yh _ _ 3 j _ (by omega),yh _ _ 2 j _ (by omega),yh _ _ 1 j _ (by omega),yh _ _ 0 j _ (by omega)]
structure zcz (base:Act) (H:(Nat→Bool)→World→Prop) (C:Nat→World→Value→Prop) (T:Nat→Nat) (m:Nat) (d:Nat→Bool) (a:Act) (w:World):Prop where
 mem:H d w
 size:a.tmps.size=base.tmps.size
 defers:a.defers=base.defers
 rest:∀ t,(∀ j,j<m→t≠T j)→a.tmps[t]? = base.tmps[t]?
 has:∀ i,i<m→d i=true→C i w (a.eval (.tmp (T i)))
theorem zcz.next {base:Act} {H:(Nat→Bool)→World→Prop} {C:Nat→World→Value→Prop} {T:Nat→Nat} {m:Nat} {d:Nat→Bool} {a:Act} {w:World} (h:zcz base H C T m d a w)
  (hinj:∀ i j,i<m→j<m→T i=T j→i=j) (hT:∀ i,i<m→T i<base.tmps.size)
  (i:Nat) (hi:i<m) (v:Value) (w':World) (hH:H (came d i) w') (hC:∀ j,j<m→d j=true→∀ u,C j w u→C j w' u) (hv:C i w' v):zcz base H C T m (came d i) (a.put (some (T i)) v) w' where
 mem:=hH
 size:=by rw[zci];exact h.size
 defers:=h.defers
 rest:=fun t ht=>by rw[slot_put,if_neg (fun e=>ht i hi e.symm)];exact h.rest t ht
 has:=fun j hj hd=>by
  by_cases e:j=i
  ·subst e
   rw[at_eq a (T j) v (by rw[h.size];exact hT j hj)]
   exact hv
  ·rw[jg d e] at hd
   rw[at_ne a (T i) (T j) v (fun e2=>e (hinj j i hj hi e2))]
   exact hC j hj hd _ (h.has j hj hd)
theorem zcz.eval {base:Act} {H:(Nat→Bool)→World→Prop} {C:Nat→World→Value→Prop} {T:Nat→Nat} {m:Nat} {d:Nat→Bool} {a:Act} {w:World} (h:zcz base H C T m d a w) (t:Nat) (ht:∀ j,j<m→t≠T j):a.eval (.tmp t)=base.eval (.tmp t):=by
 show a.tmps.getD t undef=base.tmps.getD t undef
 simp only[Array.getD_eq_getD_getElem?,h.rest t ht]
theorem zcz.puts {base:Act} {H:(Nat→Bool)→World→Prop} {C:Nat→World→Value→Prop} {T:Nat→Nat} {m:Nat} {d:Nat→Bool} {a:Act} {w:World} (h:zcz base H C T m d a w) (hT:∀ i,i<m→T i<base.tmps.size) (V:Nat→Value) (hV:∀ i,i<m→a.eval (.tmp (T i))=V i):a=bi base ((List.range m).map fun i=>(T i,V i)):=by
 refine zgi _ base a h.defers h.size (fun p hp=>?_) (fun t ht=>?_)
 ·obtain⟨i,hi,rfl⟩:=List.mem_map.1 hp
  have hi':=List.mem_range.1 hi
  exact slot_is (hV i hi') (by rw[h.size];exact hT i hi')
 ·refine h.rest t (fun j hj e=>?_)
  exact ht (T j,V j) (List.mem_map.2 ⟨j,List.mem_range.2 hj,rfl⟩) e
theorem zco (base:Act) (l:List (Nat × Value)) (t:Nat) (v:Value):(bi base l).put (some t) v=bi base (l++[(t,v)]):=by
 unfold bi
 rw[List.foldl_append]
 rfl
theorem zas {P:Program} {id:Nat} {ops:Array Oper} {Q:Exit→Act→World→Prop} {base:Act} {W0:World} (hm:P.follows .mixedOrders=true)
  (hlow:∀ i o,ops[i]? = some o→∀ e ∈ o.after,Region.binds .any e=true→e.on<i)
  (hg:∀ (i:Nat) (o:Oper),ops[i]? = some o→o.guard=none)
  (H:(Nat→Bool)→World→Prop) (C:Nat→World→Value→Prop) (T:Nat→Nat) (m:Nat) (hsz:ops.size=m+1)
  (hinj:∀ i j,i<m→j<m→T i=T j→i=j) (hT:∀ i,i<m→T i<base.tmps.size) (h0:H (fun _=>false) W0.drew)
  (hall:∀ i,i<m→∃ o,ops[m]? = some o∧∃ e ∈ o.after,Region.binds .any e=true∧e.on=i)
  (hstep:∀ (d:Nat→Bool) (i:Nat) (o:Oper) (a:Act) (w:World) (K:Act→World→Prop),i<m→ops[i]? = some o→d i=false→H d w→(∀ t,(∀ j,j<m→t≠T j)→a.eval (.tmp t)=base.eval (.tmp t))→(∀ e ∈ o.after,Region.binds .any e=true→d e.on=true∧C e.on w (a.eval (.tmp (T e.on))))→(∀ v w',H (came d i) w'→(∀ j,j<m→d j=true→∀ u,C j w u→C j w' u)→C i w' v→K (a.put (some (T i)) v) w')→o.wp P a w K Q)
  (Fin:Act→World→Prop)
  (hlast:∀ (d:Nat→Bool) (o:Oper) (a:Act) (w:World) (K:Act→World→Prop),ops[m]? = some o→(∀ i,i<m→d i=true)→zcz base H C T m d a w→(∀ a' w',Fin a' w'→K a' w')→o.wp P a w K Q)
  (hend:∀ a w,Fin a w→Q .normal a w) :
  (Code.region id ops true).wp P Q base W0:=by
 have wpo:∀ i o a w (K:Act→World→Prop),ops[i]? = some o→o.wp P a w K Q→wpOp P ops Q i K a w:=fun i o a w K ho h=>by
  unfold wpOp
  simp only[ho,Region.wanted,hg i o ho,if_true]
  exact .inl h
 refine zbs hm hlow (fun d a w=>if d m=true then (Fin a w∧∀ i,i<m→d i=true) else zcz base H C T m d a w) ?_ ?_ ?_
 ·simp only[Bool.false_eq_true,if_false]
  exact⟨h0,rfl,rfl,fun _ _=>rfl,fun _ _ h=>by simp at h⟩
 ·intro d a w hd h
  rw[if_pos (hd m (by omega))] at h
  exact hend a w h.1
 ·intro d i o a w ho hdi hdep h
  refine wpo i o a w _ ho ?_
  have hi:i<m+1:=by rw[← hsz];exact (Array.getElem?_eq_some_iff.1 ho).1
  by_cases e:i=m
  ·subst e
   rw[if_neg (by rw[hdi];simp)] at h
   have hd:∀ j,j<i→d j=true:=fun j hj=>by
    obtain⟨o',ho',ed,he,hb,rfl⟩:=hall j hj
    rw[ho] at ho'
    obtain rfl:=Option.some.inj ho'
    exact hdep ed he hb
   refine hlast d o a w _ ho hd h (fun a' w' hf=>?_)
   rw[if_pos (yt d i)]
   exact⟨hf,fun j hj=>by rw[jg d (by omega)];exact hd j hj⟩
  ·have him:i<m:=by omega
   by_cases hdm:d m=true
   ·exfalso
    rw[if_pos hdm] at h
    rw[h.2 i him] at hdi
    simp at hdi
   ·rw[if_neg hdm] at h
    refine hstep d i o a w _ him ho hdi h.mem (fun t ht=>h.eval t ht) (fun ed he hb=>⟨hdep ed he hb,h.has _ (by have:=hlow i o ho ed he hb;omega) (hdep ed he hb)⟩) (fun v w' hH hC hv=>?_)
    rw[if_neg (by rw[jg d (Ne.symm e)];exact hdm)]
    exact h.next hinj hT i him v w' hH hC hv
theorem region_flow2 {P:Program} {id:Nat} {ops:Array Oper} {Q:Exit→Act→World→Prop} {base:Act} {W0:World} (hm:P.follows .mixedOrders=true)
  (hlow:∀ i o,ops[i]? = some o→∀ e ∈ o.after,Region.binds .any e=true→e.on<i)
  (hg:∀ (i:Nat) (o:Oper),ops[i]? = some o→o.guard=none)
  (H:(Nat→Bool)→World→Prop) (C:Nat→World→Value→Prop) (T:Nat→Nat) (m:Nat) (hsz:ops.size=m+2)
  (hinj:∀ i j,i<m→j<m→T i=T j→i=j) (hT:∀ i,i<m→T i<base.tmps.size) (h0:H (fun _=>false) W0.drew)
  (hall:∀ i,i<m→∃ o,ops[m]? = some o∧∃ e ∈ o.after,Region.binds .any e=true∧e.on=i)
  (hall2:∃ o,ops[m+1]? = some o∧∃ e ∈ o.after,Region.binds .any e=true∧e.on=m)
  (hstep:∀ (d:Nat→Bool) (i:Nat) (o:Oper) (a:Act) (w:World) (K:Act→World→Prop),i<m→ops[i]? = some o→d i=false→H d w→(∀ t,(∀ j,j<m→t≠T j)→a.eval (.tmp t)=base.eval (.tmp t))→(∀ e ∈ o.after,Region.binds .any e=true→d e.on=true∧C e.on w (a.eval (.tmp (T e.on))))→(∀ v w',H (came d i) w'→(∀ j,j<m→d j=true→∀ u,C j w u→C j w' u)→C i w' v→K (a.put (some (T i)) v) w')→o.wp P a w K Q)
  (Fin Fin2:Act→World→Prop)
  (hlast:∀ (d:Nat→Bool) (o:Oper) (a:Act) (w:World) (K:Act→World→Prop),ops[m]? = some o→(∀ i,i<m→d i=true)→zcz base H C T m d a w→(∀ a' w',Fin a' w'→K a' w')→o.wp P a w K Q)
  (hlast2:∀ (o:Oper) (a:Act) (w:World) (K:Act→World→Prop),ops[m+1]? = some o→Fin a w→(∀ a' w',Fin2 a' w'→K a' w')→o.wp P a w K Q)
  (hend:∀ a w,Fin2 a w→Q .normal a w) :
  (Code.region id ops true).wp P Q base W0:=by
 have wpo:∀ i o a w (K:Act→World→Prop),ops[i]? = some o→o.wp P a w K Q→wpOp P ops Q i K a w:=fun i o a w K ho h=>by
  unfold wpOp
  simp only[ho,Region.wanted,hg i o ho,if_true]
  exact .inl h
 refine zbs hm hlow (fun d a w=>if d (m+1)=true then (Fin2 a w∧∀ i,i<m+1→d i=true) else if d m=true then (Fin a w∧∀ i,i<m→d i=true) else zcz base H C T m d a w) ?_ ?_ ?_
 ·simp only[Bool.false_eq_true,if_false]
  exact⟨h0,rfl,rfl,fun _ _=>rfl,fun _ _ h=>by simp at h⟩
 ·intro d a w hd h
  rw[if_pos (hd (m+1) (by omega))] at h
  exact hend a w h.1
 ·intro d i o a w ho hdi hdep h
  refine wpo i o a w _ ho ?_
  have hi:i<m+2:=by rw[← hsz];exact (Array.getElem?_eq_some_iff.1 ho).1
  by_cases e2:i=m+1
  ·subst e2
   rw[if_neg (by rw[hdi];simp)] at h
   have hdm:d m=true:=by
    obtain⟨o',ho',ed,he,hb,e⟩:=hall2
    rw[ho] at ho'
    obtain rfl:=Option.some.inj ho'
    rw[← e]
    exact hdep ed he hb
   rw[if_pos hdm] at h
   refine hlast2 o a w _ ho h.1 (fun a' w' hf=>?_)
   rw[if_pos (yt d (m+1))]
   exact⟨hf,fun j hj=>by
    rw[jg d (by omega)]
    by_cases ej:j=m
    ·rw[ej];exact hdm
    ·exact h.2 j (by omega)⟩
  by_cases hd2:d (m+1)=true
  ·exfalso
   rw[if_pos hd2] at h
   rw[h.2 i (by omega)] at hdi
   simp at hdi
  rw[if_neg hd2] at h
  by_cases e:i=m
  ·subst e
   rw[if_neg (by rw[hdi];simp)] at h
   have hd:∀ j,j<i→d j=true:=fun j hj=>by
    obtain⟨o',ho',ed,he,hb,rfl⟩:=hall j hj
    rw[ho] at ho'
    obtain rfl:=Option.some.inj ho'
    exact hdep ed he hb
   refine hlast d o a w _ ho hd h (fun a' w' hf=>?_)
   rw[if_neg (by rw[jg d (by omega)];exact hd2),if_pos (yt d i)]
   exact⟨hf,fun j hj=>by rw[jg d (by omega)];exact hd j hj⟩
  ·have him:i<m:=by omega
   by_cases hdm:d m=true
   ·exfalso
    rw[if_pos hdm] at h
    rw[h.2 i him] at hdi
    simp at hdi
   ·rw[if_neg hdm] at h
    refine hstep d i o a w _ him ho hdi h.mem (fun t ht=>h.eval t ht) (fun ed he hb=>⟨hdep ed he hb,h.has _ (by have:=hlow i o ho ed he hb;omega) (hdep ed he hb)⟩) (fun v w' hH hC hv=>?_)
    rw[if_neg (by rw[jg d (Ne.symm e2)];exact hd2),if_neg (by rw[jg d (Ne.symm e)];exact hdm)]
    exact h.next hinj hT i him v w' hH hC hv
def bareOps (ops:Array Oper):Bool:=(List.range ops.size).all fun i=>match ops[i]? with
 | some o=>o.guard.isNone
 | none=>true
theorem zan {ops:Array Oper} (h:bareOps ops=true):∀ (i:Nat) (o:Oper),ops[i]? = some o→o.guard=none:=fun i o ho=>by
 have hi:i<ops.size:=(Array.getElem?_eq_some_iff.1 ho).1
 unfold bareOps at h
 rw[List.all_eq_true] at h
 have h1:=h i (List.mem_range.2 hi)
 simp only[ho] at h1
 simpa using h1
theorem zdd {ops:Array Oper} {ps:List (Nat × Nat)} (h:uj ops ps=true) {i:Nat} {o:Oper} (ho:ops[i]? = some o) (R:Nat→Prop) (hdep:∀ e ∈ o.after,Region.binds .any e=true→R e.on) (j:Nat) (hij:(i,j) ∈ ps):R j:=by
 obtain⟨o',ho',e,he,hb,rfl⟩:=nk h i j hij
 rw[ho] at ho'
 obtain rfl:=Option.some.inj ho'
 exact hdep e he hb
theorem zi {P:Program} {Q:Exit→Act→World→Prop} {K:Act→World→Prop} {a:Act} {w w':World} {o:Oper} {v:Value} (hr:(execOp a.eval o).run P w=.ok (.value v) w') (h:K (a.put o.dst v) w'):o.wp P a w K Q:=by
 unfold Oper.wp
 rw[hr]
 exact h
theorem jb {P:Program} {Q:Exit→Act→World→Prop} {K:Act→World→Prop} {a:Act} {w:World} {o:Oper} {f:FuncId} {args:Array Value} (hr:(execOp a.eval o).run P w=.ok (.enter f args) w) {R:World→Value→Prop} (hc:Calls P f args w fun e w'=>∃ v,e=.returned v∧R w' v) (h:∀ v w',R w' v→K (a.put o.dst v) w'):o.wp P a w K Q:=by
 unfold Oper.wp
 rw[hr]
 refine hc.mono ?_
 rintro e w' ⟨v,rfl,hv⟩
 exact h v w' hv
def Closed (ops:Array Oper) (d:Nat→Bool):Prop:=∀ i o,ops[i]? = some o→d i=true→∀ e ∈ o.after,Region.binds .any e=true→d e.on=true
theorem Closed.dep {ops:Array Oper} {d:Nat→Bool} (h:Closed ops d) {ps:List (Nat × Nat)} (hp:uj ops ps=true) {i j:Nat} (hij:(i,j) ∈ ps) (hd:d i=true):d j=true:=by
 obtain⟨o,ho,e,he,hb,rfl⟩:=nk hp i j hij
 exact h i o ho hd e he hb
theorem Closed.not {ops:Array Oper} {d:Nat→Bool} (h:Closed ops d) {ps:List (Nat × Nat)} (hp:uj ops ps=true) {i j:Nat} (hij:(i,j) ∈ ps) (hd:d j=false):d i=false:=by
 cases e:d i with
 | false=>rfl
 | true=>rw[h.dep hp hij e] at hd;simp at hd
theorem Closed.next {ops:Array Oper} {d:Nat→Bool} (h:Closed ops d) {i:Nat} {o:Oper} (ho:ops[i]? = some o) (hdep:∀ e ∈ o.after,Region.binds .any e=true→d e.on=true):Closed ops (came d i):=fun j oj hj hd e he hbi=>by
 by_cases e1:e.on=i
 ·rw[e1];exact yt d i
 ·rw[jg d e1]
  by_cases e2:j=i
  ·subst e2
   rw[ho] at hj
   obtain rfl:=Option.some.inj hj
   exact hdep e he hbi
  ·rw[jg d e2] at hd
   exact h j oj hj hd e he hbi
structure Named {α:Type} (ops:Array Oper) (base:Act) (H:α→(Nat→Bool)→World→Prop) (V:α→Nat→Value) (T:Nat→Nat) (m:Nat) (d:Nat→Bool) (a:Act) (w:World) (N:α):Prop where
 down:Closed ops d
 mem:H N d w
 size:a.tmps.size=base.tmps.size
 defers:a.defers=base.defers
 rest:∀ t,(∀ j,j<m→t≠T j)→a.tmps[t]? = base.tmps[t]?
 has:∀ i,i<m→d i=true→a.eval (.tmp (T i))=V N i
theorem zea {P:Program} {id:Nat} {ops:Array Oper} {Q:Exit→Act→World→Prop} {base:Act} {W0:World} (hm:P.follows .mixedOrders=true)
  (hlow:∀ i o,ops[i]? = some o→∀ e ∈ o.after,Region.binds .any e=true→e.on<i)
  (hg:∀ (i:Nat) (o:Oper),ops[i]? = some o→o.guard=none)
  {α:Type} (H:α→(Nat→Bool)→World→Prop) (V:α→Nat→Value) (T:Nat→Nat) (m:Nat) (hsz:ops.size=m)
  (hinj:∀ i j,i<m→j<m→T i=T j→i=j) (hT:∀ i,i<m→T i<base.tmps.size) (N0:α) (h0:H N0 (fun _=>false) W0.drew)
  (hstep:∀ (N:α) (d:Nat→Bool) (i:Nat) (o:Oper) (a:Act) (w:World) (K:Act→World→Prop),i<m→ops[i]? = some o→d i=false→Closed ops d→H N d w→(∀ t,(∀ j,j<m→t≠T j)→a.eval (.tmp t)=base.eval (.tmp t))→(∀ e ∈ o.after,Region.binds .any e=true→d e.on=true∧a.eval (.tmp (T e.on))=V N e.on)→(∀ N' v w',v=V N' i→(∀ j,j<m→d j=true→V N' j=V N j)→H N' (came d i) w'→K (a.put (some (T i)) v) w')→o.wp P a w K Q)
  (hend:∀ N d w,(∀ i,i<m→d i=true)→H N d w→Q .normal (bi base ((List.range m).map fun i=>(T i,V N i))) w) :
  (Code.region id ops true).wp P Q base W0:=by
 have wpo:∀ i o a w (K:Act→World→Prop),ops[i]? = some o→o.wp P a w K Q→wpOp P ops Q i K a w:=fun i o a w K ho h=>by
  unfold wpOp
  simp only[ho,Region.wanted,hg i o ho,if_true]
  exact .inl h
 refine zbs hm hlow (fun d a w=>∃ N,Named ops base H V T m d a w N) ?_ ?_ ?_
 ·exact⟨N0,fun _ _ _ h=>by simp at h,h0,rfl,rfl,fun _ _=>rfl,fun _ _ h=>by simp at h⟩
 ·rintro d a w hd ⟨N,h⟩
  have ea:a=bi base ((List.range m).map fun i=>(T i,V N i)):=by
   refine zgi _ base a h.defers h.size (fun p hp=>?_) (fun t ht=>?_)
   ·obtain⟨i,hi,rfl⟩:=List.mem_map.1 hp
    have hi':=List.mem_range.1 hi
    exact slot_is (h.has i hi' (hd i (by omega))) (by rw[h.size];exact hT i hi')
   ·refine h.rest t (fun j hj e=>?_)
    exact ht (T j,V N j) (List.mem_map.2 ⟨j,List.mem_range.2 hj,rfl⟩) e
  rw[ea]
  exact hend N d w (fun i hi=>hd i (by omega)) h.mem
 ·rintro d i o a w ho hdi hdep ⟨N,h⟩
  refine wpo i o a w _ ho ?_
  have hi:i<m:=by rw[← hsz];exact (Array.getElem?_eq_some_iff.1 ho).1
  refine hstep N d i o a w _ hi ho hdi h.down h.mem (fun t ht=>rest_eval (h.rest t ht)) (fun ed he hb=>⟨hdep ed he hb,h.has _ (by have:=hlow i o ho ed he hb;omega) (hdep ed he hb)⟩) ?_
  rintro N' v w' rfl hV hH
  refine⟨N',h.down.next ho hdep,hH,by rw[zci];exact h.size,h.defers,fun t ht=>?_,fun j hj hd=>?_⟩
  ·rw[slot_put,if_neg (fun e=>ht i hi e.symm)];exact h.rest t ht
  ·by_cases e:j=i
   ·subst e
    exact at_eq a (T j) _ (by rw[h.size];exact hT j hj)
   ·rw[jg d e] at hd
    rw[at_ne a (T i) (T j) _ (fun e2=>e (hinj j i hj hi e2)),h.has j hj hd]
    exact (hV j hj hd).symm
structure NamedS {α:Type} (ops:Array Oper) (base:Act) (H:α→(Nat→Bool)→World→Prop) (V:α→Nat→Value) (T:Nat→Nat) (wr:Nat→Bool) (m:Nat) (d:Nat→Bool) (a:Act) (w:World) (N:α):Prop where
 down:Closed ops d
 mem:H N d w
 size:a.tmps.size=base.tmps.size
 defers:a.defers=base.defers
 rest:∀ t,(∀ j,j<m→wr j=true→d j=true→t≠T j)→a.tmps[t]? = base.tmps[t]?
 has:∀ i,i<m→wr i=true→d i=true→a.eval (.tmp (T i))=V N i
theorem ou {P:Program} {id:Nat} {ops:Array Oper} {Q:Exit→Act→World→Prop} {base:Act} {W0:World} (hm:P.follows .mixedOrders=true)
  (hlow:∀ i o,ops[i]? = some o→∀ e ∈ o.after,Region.binds .any e=true→e.on<i)
  (hg:∀ (i:Nat) (o:Oper),ops[i]? = some o→o.guard=none)
  {α:Type} (H:α→(Nat→Bool)→World→Prop) (V:α→Nat→Value) (T:Nat→Nat) (wr:Nat→Bool) (m:Nat) (hsz:ops.size=m)
  (hinj:∀ i j,i<m→j<m→wr i=true→wr j=true→T i=T j→i=j) (hT:∀ i,i<m→wr i=true→T i<base.tmps.size) (N0:α) (h0:H N0 (fun _=>false) W0.drew)
  (hstep:∀ (N:α) (d:Nat→Bool) (i:Nat) (o:Oper) (a:Act) (w:World) (K:Act→World→Prop),i<m→ops[i]? = some o→d i=false→Closed ops d→H N d w→(∀ t,(∀ j,j<m→wr j=true→d j=true→t≠T j)→a.eval (.tmp t)=base.eval (.tmp t))→(∀ e ∈ o.after,Region.binds .any e=true→d e.on=true∧(wr e.on=true→a.eval (.tmp (T e.on))=V N e.on))→(∀ N' v w',(wr i=true→v=V N' i)→(∀ j,j<m→wr j=true→d j=true→V N' j=V N j)→H N' (came d i) w'→K (a.put (if wr i=true then some (T i) else none) v) w')→o.wp P a w K Q)
  (hend:∀ N d w,(∀ i,i<m→d i=true)→H N d w→Q .normal (bi base (((List.range m).filter wr).map fun i=>(T i,V N i))) w) :
  (Code.region id ops true).wp P Q base W0:=by
 have wpo:∀ i o a w (K:Act→World→Prop),ops[i]? = some o→o.wp P a w K Q→wpOp P ops Q i K a w:=fun i o a w K ho h=>by
  unfold wpOp
  simp only[ho,Region.wanted,hg i o ho,if_true]
  exact .inl h
 refine zbs hm hlow (fun d a w=>∃ N,NamedS ops base H V T wr m d a w N) ?_ ?_ ?_
 ·exact⟨N0,fun _ _ _ h=>by simp at h,h0,rfl,rfl,fun _ _=>rfl,fun _ _ _ h=>by simp at h⟩
 ·rintro d a w hd ⟨N,h⟩
  have ea:a=bi base (((List.range m).filter wr).map fun i=>(T i,V N i)):=by
   refine zgi _ base a h.defers h.size (fun p hp=>?_) (fun t ht=>?_)
   ·obtain⟨i,hi,rfl⟩:=List.mem_map.1 hp
    obtain⟨hi1,hi2⟩:=List.mem_filter.1 hi
    have hi':=List.mem_range.1 hi1
    exact slot_is (h.has i hi' hi2 (hd i (by omega))) (by rw[h.size];exact hT i hi' hi2)
   ·refine h.rest t (fun j hj hw hdj e=>?_)
    exact ht (T j,V N j) (List.mem_map.2 ⟨j,List.mem_filter.2 ⟨List.mem_range.2 hj,hw⟩,rfl⟩) e
  rw[ea]
  exact hend N d w (fun i hi=>hd i (by omega)) h.mem
 ·rintro d i o a w ho hdi hdep ⟨N,h⟩
  refine wpo i o a w _ ho ?_
  have hi:i<m:=by rw[← hsz];exact (Array.getElem?_eq_some_iff.1 ho).1
  refine hstep N d i o a w _ hi ho hdi h.down h.mem (fun t ht=>rest_eval (h.rest t ht)) (fun ed he hb=>⟨hdep ed he hb,fun hw=>h.has _ (by have:=hlow i o ho ed he hb;omega) hw (hdep ed he hb)⟩) ?_
  rintro N' v w' hv hV hH
  by_cases hw:wr i=true
  ·obtain rfl:=hv hw
   rw[if_pos hw]
   refine⟨N',h.down.next ho hdep,hH,by rw[zci];exact h.size,h.defers,fun t ht=>?_,fun j hj hwj hd=>?_⟩
   ·rw[slot_put,if_neg (fun e=>ht i hi hw (yt d i) e.symm)]
    refine h.rest t (fun j hj hwj hdj=>ht j hj hwj ?_)
    by_cases e:j=i
    ·subst e;exact yt d j
    ·rw[jg d e];exact hdj
   ·by_cases e:j=i
    ·subst e
     exact at_eq a (T j) _ (by rw[h.size];exact hT j hj hwj)
    ·rw[jg d e] at hd
     rw[at_ne a (T i) (T j) _ (fun e2=>e (hinj j i hj hi hwj hw e2)),h.has j hj hwj hd]
     exact (hV j hj hwj hd).symm
  ·rw[if_neg hw]
   have ne:∀ j,wr j=true→j≠i:=fun j hj e=>hw (e ▸ hj)
   refine⟨N',h.down.next ho hdep,hH,h.size,h.defers,fun t ht=>h.rest t (fun j hj hwj hdj=>ht j hj hwj (by rw[jg d (ne j hwj)];exact hdj)),fun j hj hwj hd=>?_⟩
   rw[jg d (ne j hwj)] at hd
   rw[show a.put none v=a from rfl,h.has j hj hwj hd]
   exact (hV j hj hwj hd).symm
structure zez (B:Nat) (w:World) (g:Nat) (vs:List Value):Prop where
 cells:∀ k v,vs[k]? = some v→w.cell? ⟨g,k,none⟩=some v
 loose:∀ j,w.frozen? ⟨g,j,none⟩=false
 new:B≤g
 lt:g<w.heap.size
theorem zez.but {B:Nat} {w w':World} {g:Nat} {vs:List Value} (h:zez B w g vs) (hb:But [] w w'):zez B w' g vs :=
 ⟨fun k v hv=>hb.ag (h.cells k v hv) (by simp),fun j=>(hb.frozen (p:=⟨g,j,none⟩) h.lt (by simp)).trans (h.loose j),h.new,Nat.lt_of_lt_of_le h.lt hb.size⟩
theorem zez.made (B:Nat) (w:World) (vs:List Value) (t:TypeId) (h:B≤w.heap.size):zez B (w.alloc (.cells vs.toArray t)) w.heap.size vs :=
 ⟨fun k v hv=>by rw[World.cell?_alloc_new];simpa using hv,fun j=>by simp,h,by simp⟩
theorem zez.put {B:Nat} {w:World} {g:Nat} {vs us:List Value} (h:zez B w g vs) (hl:us.length=vs.length):zez B (w.setCells g 0 us) g us:=by
 refine⟨fun k v hv=>?_,fun j=>by rw[World.frozen?_setCells];exact h.loose j,h.new,Nat.lt_of_lt_of_le h.lt (bk w g _ _).size⟩
 have hk:k<us.length:=(List.getElem?_eq_some_iff.1 hv).1
 have e:=World.cell?_setCells_in g us 0 w (fun j hj=>by
  rw[Nat.zero_add,h.cells j vs[j] (List.getElem?_eq_getElem (by omega))];rfl) k hk
 rw[Nat.zero_add] at e
 rw[e,← (List.getElem?_eq_some_iff.1 hv).2]
end Go.Proofs.YtffghofheeleeaaGreatDoor
