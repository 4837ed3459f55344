/- Regions that draw their order: what hold -/
import Derived.Deep.RegionHeld
import Derived.RangeFuncCalls
import Derived.OrdersIn
import Derived.Laws.AppendOwn
import Derived.Laws.MakeOwn
import Derived.Test.YtjlfllhedceigaaGreatDoorRF8
namespace Go.Proofs.YtjlfllhedceigaaGreatDoor
open Go.Proofs.Tryz
open Go.RowKit
set_option maxHeartbeats 4000000
def came (d:Nat→Bool) (i:Nat):Nat→Bool:=fun j=>if j=i then true else d j
theorem fw (d:Nat→Bool) (i:Nat):came d i i=true:=by simp[came]
theorem nu (d:Nat→Bool) {i j:Nat} (h:j≠i):came d i j=d j:=by simp[came,h]
theorem zbu {P:Program} {id:Nat} {ops:Array Oper} {Q:Exit→Act→World→Prop} {base:Act} {W0:World} (hm:P.follows .mixedOrders=true)
   (hlow:∀ i o,ops[i]? = some o→∀ e ∈ o.after,Region.binds .any e=true→e.on<i)
   (J:(Nat→Bool)→Act→World→Prop) (h0:J (fun _=>false) base W0.drew)
   (hend:∀ d a w,(∀ i,i<ops.size→d i=true)→J d a w→Q .normal a w)
   (hstep:∀ d i o a w,ops[i]? = some o→d i=false→(∀ e ∈ o.after,Region.binds .any e=true→d e.on=true)→J d a w→wpOp P ops Q i (J (came d i)) a w) :
   (Code.region id ops true).wp P Q base W0:=by(
 refine wp_region_any hm ?_
 show wpAny P .any ops Q ops.size (Array.replicate ops.size false) base W0.drew
 have none_ready:∀ (l:Array Bool),l.toList.count false=0→Region.ready .any ops l=[]:=fun l hc=>by
  refine List.eq_nil_iff_forall_not_mem.2 fun i hi=>?_
  obtain⟨hf,o,ho,hd⟩:=mem_ready.1 hi
  rw[List.count_eq_zero] at hc
  rcases Nat.lt_or_ge i l.size with h1 | h1
  ·simp only[Array.getD_eq_getD_getElem?,Array.getElem?_eq_getElem h1,Option.getD_some] at hf
   exact hc (by rw[← hf];exact Array.getElem_mem_toList h1)
  ·simp[Array.getElem?_eq_none h1] at hf
 have end_:∀ (l:Array Bool) a w,l.size=ops.size→J (fun i=>l.getD i false) a w→Region.ready .any ops l=[]→Q .normal a w:=fun l a w hs hJ hr=>by
  refine hend _ a w (fun i=>?_) hJ
  induction i using Nat.strongRecOn with
  | _ i ih =>
   intro hi
   cases e:l.getD i false with
   | true=>rfl
   | false =>
    exfalso
    have hmem:i ∈ Region.ready .any ops l:=mem_ready.2 ⟨by
     simp only[Array.getD_eq_getD_getElem?,Array.getElem?_eq_getElem (show i<l.size by omega),Option.getD_some] at e ⊢
     exact e,ops[i],Array.getElem?_eq_getElem hi,fun e he hb=>by
      have hl:=hlow i ops[i] (Array.getElem?_eq_getElem hi) e he hb
      exact ih e.on hl (by omega)⟩
    rw[hr] at hmem
    simp at hmem
 have key:∀ n (l:Array Bool) a w,l.size=ops.size∧l.toList.count false=n∧J (fun i=>l.getD i false) a w→wpAny P .any ops Q n l a w:=by
  intro n
  induction n with
  | zero=>rintro l a w ⟨hs,hc,hJ⟩;exact⟨none_ready l hc,end_ l a w hs hJ (none_ready l hc)⟩
  | succ n ih =>
   rintro l a w ⟨hs,hc,hJ⟩
   refine⟨end_ l a w hs hJ,fun i hi=>?_⟩
   obtain⟨hf,o,ho,hd⟩:=mem_ready.1 hi
   have hlt:i<l.size:=by rw[hs];exact (Array.getElem?_eq_some_iff.1 ho).1
   have hg:l[i]=false:=by simpa [hlt] using hf
   have hf':l.getD i false=false:=by simp[hlt,hg]
   refine wpOp_mono (fun a' w' h'=>ih _ a' w' ⟨by simp[hs],?_,?_⟩) (hstep _ i o a w ho hf' hd hJ)
   ·rw[Array.toList_setIfInBounds,List.count_set (by simpa using hlt)]
    simp[hg,hc]
   ·have e:(fun j=>(l.setIfInBounds i true).getD j false)=came (fun j=>l.getD j false) i:=funext fun j=>by
     by_cases hj:j=i
     ·subst hj;simp[came,hlt]
     ·simp[came,hj,Array.getElem?_setIfInBounds_ne (Ne.symm hj)]
    rw[e];exact h'
 exact key _ _ _ _ ⟨by simp,by simp,by
  have e:(fun i=>(Array.replicate ops.size false).getD i false)=fun _=>false:=funext fun i=>by
   simp only[Array.getD_eq_getD_getElem?,Array.getElem?_replicate]
   split <;> rfl
  rw[e];exact h0⟩)
theorem qhy (a:Act) (d t:Nat) (v:Value) (h:t≠d):(a.put (some d) v).eval (.tmp t)=a.eval (.tmp t):=by
 show (a.tmps.setIfInBounds d v).getD t undef=a.tmps.getD t undef
 simp only[Array.getD_eq_getD_getElem?,Array.getElem?_setIfInBounds_ne (Ne.symm h)]
theorem at_eq (a:Act) (d:Nat) (v:Value) (h:d<a.tmps.size):(a.put (some d) v).eval (.tmp d)=v:=by
 show (a.tmps.setIfInBounds d v).getD d undef=v
 simp[h]
theorem zbq {a:Act} {t:Nat} {v:Value} (h:a.eval (.tmp t)=v) (hs:t<a.tmps.size):a.tmps[t]? = some v:=by(
 have e:a.tmps.getD t undef=v:=h
 rw[Array.getD_eq_getD_getElem?,Array.getElem?_eq_getElem hs] at e
 rw[Array.getElem?_eq_getElem hs]
 exact congrArg some e)
theorem zjt (a:Act) (d t:Nat) (v:Value):(a.put (some d) v).tmps[t]? = if d=t then (if d<a.tmps.size then some v else none) else a.tmps[t]?:=by
 show (a.tmps.setIfInBounds d v)[t]? = _
 rw[Array.getElem?_setIfInBounds]
theorem zcj (a:Act) (d:Nat) (v:Value):(a.put (some d) v).tmps.size=a.tmps.size:=by
 show (a.tmps.setIfInBounds d v).size=a.tmps.size
 simp
def bi (base:Act) (ps:List (Nat × Value)):Act:=ps.foldl (fun b p=>b.put (some p.1) p.2) base
theorem zgk:∀ (ps:List (Nat × Value)) (base a:Act),a.defers=base.defers→a.tmps.size=base.tmps.size→(∀ p ∈ ps,a.tmps[p.1]? = some p.2)→(∀ t,(∀ p ∈ ps,t≠p.1)→a.tmps[t]? = base.tmps[t]?)→a=bi base ps
 | [],base,a,h1,_,_,h4=>by
  cases a
  cases base
  simp only at h1 h4
  show Act.mk _ _=Act.mk _ _
  rw[Array.ext_getElem? (fun t=>h4 t (fun p hp=>by simp at hp)),h1]
 | (d,v)::ps,base,a,h1,h2,h3,h4=>by
  have hd:=h3 (d,v) (by simp)
  simp only at hd
  have hlt:d<base.tmps.size:=by
   rw[← h2]
   exact (Array.getElem?_eq_some_iff.1 hd).1
  refine zgk ps (base.put (some d) v) a h1 (by rw[zcj];exact h2) (fun p hp=>h3 p (by simp[hp])) (fun t ht=>?_)
  rw[zjt]
  by_cases e:d=t
  ·subst e
   rw[if_pos rfl,if_pos hlt]
   exact hd
  ·rw[if_neg e]
   refine h4 t (fun p hp=>?_)
   rcases List.mem_cons.1 hp with rfl | hp
   ·exact Ne.symm e
   ·exact ht p hp
theorem zvx {base a:Act} {t:Nat} (h:a.tmps[t]? = base.tmps[t]?):a.eval (.tmp t)=base.eval (.tmp t):=by
 show a.tmps.getD t undef=base.tmps.getD t undef
 simp only[Array.getD_eq_getD_getElem?,h]
theorem al {P:Program} {Q:Exit→Act→World→Prop} {K:Act→World→Prop} {a:Act} {w w':World} {o:Oper} {v:Value} (hr:(execOp a.eval o).run P w=.ok (.value v) w') (h:K (a.put o.dst v) w'):o.wp P a w K Q:=by(
 unfold Oper.wp
 rw[hr]
 exact h)
theorem aw {P:Program} {Q:Exit→Act→World→Prop} {K:Act→World→Prop} {a:Act} {w:World} {o:Oper} {f:FuncId} {args:Array Value} (hr:(execOp a.eval o).run P w=.ok (.enter f args) w) {R:World→Value→Prop} (hc:Calls P f args w fun e w'=>∃ v,e=.returned v∧R w' v) (h:∀ v w',R w' v→K (a.put o.dst v) w'):o.wp P a w K Q:=by(
 unfold Oper.wp
 rw[hr]
 refine hc.mono ?_
 rintro e w' ⟨v,rfl,hv⟩
 exact h v w' hv)
def qcv (ops:Array Oper):Bool:=(List.range ops.size).all fun i=>match ops[i]? with
 | some o=>o.after.all fun e=>!(Region.binds .any e) || decide (e.on<i)
 | none=>true
theorem di {ops:Array Oper} (h:qcv ops=true):∀ i o,ops[i]? = some o→∀ e ∈ o.after,Region.binds .any e=true→e.on<i:=fun i o ho e he hb=>by
 have hi:i<ops.size:=(Array.getElem?_eq_some_iff.1 ho).1
 unfold qcv at h
 rw[List.all_eq_true] at h
 have h1:=h i (List.mem_range.2 hi)
 simp only[ho] at h1
 rw[Array.all_eq_true_iff_forall_mem] at h1
 have h2:=h1 e he
 simpa [hb] using h2
def zcz (ops:Array Oper) (ps:List (Nat × Nat)):Bool:=ps.all fun p=>match ops[p.1]? with
 | some o=>o.after.any fun e=>Region.binds .any e && e.on==p.2
 | none=>false
theorem ztl {ops:Array Oper} {ps:List (Nat × Nat)} (h:zcz ops ps=true):∀ i j,(i,j) ∈ ps→∃ o,ops[i]? = some o∧∃ e ∈ o.after,Region.binds .any e=true∧e.on=j:=fun i j hij=>by
 unfold zcz at h
 rw[List.all_eq_true] at h
 have h1:=h (i,j) hij
 cases ho:ops[i]? with
 | none=>simp[ho] at h1
 | some o =>
  simp only[ho] at h1
  rw[Array.any_eq_true] at h1
  obtain⟨k,hk,h2⟩:=h1
  simp only[Bool.and_eq_true,beq_iff_eq] at h2
  exact⟨o,rfl,o.after[k],Array.getElem_mem hk,h2.1,h2.2⟩
def Down (ops:Array Oper) (d:Nat→Bool):Prop:=∀ i o,ops[i]? = some o→d i=true→∀ e ∈ o.after,Region.binds .any e=true→d e.on=true
structure Run (W:World) (ops:Array Oper) (base:Act) (C:Nat→World→Value→Prop) (T:Nat→Nat) (d:Nat→Bool) (a:Act) (w:World):Prop where
 down:Down ops d
 but:But [] W w
 size:a.tmps.size=base.tmps.size
 defers:a.defers=base.defers
 rest:∀ t,(∀ j,j<ops.size→d j=true→t≠T j)→a.tmps[t]? = base.tmps[t]?
 has:∀ i,i<ops.size→d i=true→C i w (a.eval (.tmp (T i)))
theorem Run.eval {W:World} {ops:Array Oper} {base:Act} {C:Nat→World→Value→Prop} {T:Nat→Nat} {d:Nat→Bool} {a:Act} {w:World} (h:Run W ops base C T d a w) (t:Nat) (ht:∀ j,j<ops.size→d j=true→t≠T j):a.eval (.tmp t)=base.eval (.tmp t):=by
 show a.tmps.getD t undef=base.tmps.getD t undef
 simp only[Array.getD_eq_getD_getElem?,h.rest t ht]
theorem Run.next {W:World} {ops:Array Oper} {base:Act} {C:Nat→World→Value→Prop} {T:Nat→Nat} {d:Nat→Bool} {a:Act} {w:World} (h:Run W ops base C T d a w)
   (hinj:∀ i j,i<ops.size→j<ops.size→T i=T j→i=j) (hT:∀ i,i<ops.size→T i<base.tmps.size) (hC:∀ i w w' v,i<ops.size→C i w v→But [] w w'→C i w' v)
   (i:Nat) (o:Oper) (ho:ops[i]? = some o) (hdep:∀ e ∈ o.after,Region.binds .any e=true→d e.on=true) (v:Value) (w':World) (hb:But [] w w') (hv:C i w' v):Run W ops base C T (came d i) (a.put (some (T i)) v) w':=by(
 have hi:i<ops.size:=(Array.getElem?_eq_some_iff.1 ho).1
 refine⟨fun j oj hj hd e he hbi=>?_,h.but.trans' hb,by rw[zcj];exact h.size,h.defers,fun t ht=>?_,fun j hj hd=>?_⟩
 ·(
 by_cases e1:e.on=i
 ·rw[e1];exact fw d i
 ·(
 rw[nu d e1]
 by_cases e2:j=i
 ·subst e2
  rw[ho] at hj
  obtain rfl:=Option.some.inj hj
  exact hdep e he hbi
 ·rw[nu d e2] at hd
  exact h.down j oj hj hd e he hbi))
 ·(
 rw[zjt,if_neg (fun e=>ht i hi (fw d i) e.symm)]
 exact h.rest t (fun j hj hd=>by
  by_cases e:j=i
  ·subst e;exact ht j hj (fw d j)
  ·exact ht j hj (by rw[nu d e];exact hd)))
 ·(
 by_cases e:j=i
 ·subst e
  rw[at_eq a (T j) v (by rw[h.size];exact hT j hj)]
  exact hv
 ·rw[nu d e] at hd
  rw[qhy a (T i) (T j) v (fun e2=>e (hinj j i hj hi e2))]
  exact hC j w w' _ hj (h.has j hj hd) hb))
def zco (ops:Array Oper) (T:Nat→Nat):Bool:=(List.range ops.size).all fun i=>match ops[i]? with
 | some o=>(o.dst==some (T i)) && (match o.guard with | none=>true | some (j,_)=>decide (j<ops.size) && o.after.any fun e=>Region.binds .any e && e.on==j)
 | none=>true
theorem zkf {ops:Array Oper} {T:Nat→Nat} (h:zco ops T=true):∀ (i:Nat) (o:Oper),ops[i]? = some o→o.dst=some (T i)∧∀ j want,o.guard=some (j,want)→j<ops.size∧∃ e ∈ o.after,Region.binds .any e=true∧e.on=j:=fun i o ho=>by
 have hi:i<ops.size:=(Array.getElem?_eq_some_iff.1 ho).1
 unfold zco at h
 rw[List.all_eq_true] at h
 have h1:=h i (List.mem_range.2 hi)
 simp only[ho,Bool.and_eq_true,beq_iff_eq] at h1
 refine⟨h1.1,fun j want hg=>?_⟩
 have h2:=h1.2
 rw[hg] at h2
 simp only[Bool.and_eq_true,decide_eq_true_eq] at h2
 refine⟨h2.1,?_⟩
 have h3:=h2.2
 rw[Array.any_eq_true] at h3
 obtain⟨k,hk,h4⟩:=h3
 simp only[Bool.and_eq_true,beq_iff_eq] at h4
 exact⟨o.after[k],Array.getElem_mem hk,h4.1,h4.2⟩
theorem zbe {P:Program} {id:Nat} {ops:Array Oper} {Q:Exit→Act→World→Prop} {base:Act} {W0:World} (hm:P.follows .mixedOrders=true)
   (hlow:∀ i o,ops[i]? = some o→∀ e ∈ o.after,Region.binds .any e=true→e.on<i)
   (C:Nat→World→Value→Prop) (T:Nat→Nat) (hpl:zco ops T=true)
   (hgd:∀ (i:Nat) (o:Oper) (j:Nat) (want:Bool),ops[i]? = some o→o.guard=some (j,want)→∀ w v,C j w v→v=.bool want)
   (hinj:∀ i j,i<ops.size→j<ops.size→T i=T j→i=j) (hT:∀ i,i<ops.size→T i<base.tmps.size) (hC:∀ i w w' v,i<ops.size→C i w v→But [] w w'→C i w' v)
   (hstep:∀ (i:Nat) (o:Oper) (a:Act) (w:World) (K:Act→World→Prop),ops[i]? = some o→But [] W0.drew w→(∀ t,(∀ j,j<ops.size→t=T j→∃ oj,ops[j]? = some oj∧∃ e ∈ oj.after,Region.binds .any e=true∧e.on=i)→a.eval (.tmp t)=base.eval (.tmp t))→(∀ e ∈ o.after,Region.binds .any e=true→C e.on w (a.eval (.tmp (T e.on))))→(∀ v w',But [] w w'→C i w' v→K (a.put o.dst v) w')→o.wp P a w K Q)
   (hend:∀ a w,Run W0.drew ops base C T (fun _=>true) a w→Q .normal a w) :
   (Code.region id ops true).wp P Q base W0:=by(
 have hp:=zkf hpl
 refine zbu hm hlow (fun d a w=>Run W0.drew ops base C T d a w) ?_ ?_ ?_
 ·exact⟨fun _ _ _ h=>by simp at h,But.refl _ _,rfl,rfl,fun _ _=>rfl,fun _ _ h=>by simp at h⟩
 ·intro d a w hd h
  refine hend a w ⟨fun _ _ _ _ _ _ _=>rfl,h.but,h.size,h.defers,fun t ht=>h.rest t (fun j hj _=>ht j hj rfl),fun i hi _=>h.has i hi (hd i hi)⟩
 ·(
 intro d i o a w ho hdi hdep h
 have hi:i<ops.size:=(Array.getElem?_eq_some_iff.1 ho).1
 obtain⟨hdst,hg⟩:=hp i o ho
 have hw:Region.wanted o (yielded ops a.tmps)=true:=by
  unfold Region.wanted
  cases hgo:o.guard with
  | none=>rfl
  | some jw =>
   obtain⟨j,want⟩:=jw
   obtain⟨hj,e,he,hbi,hon⟩:=hg j want hgo
   have hdj:d j=true:=by rw[← hon];exact hdep e he hbi
   have hv:=hgd i o j want ho hgo w _ (h.has j hj hdj)
   have hoj:=Array.getElem?_eq_getElem hj
   have hdj2:=(hp j _ hoj).1
   have hsl:=zbq hv (by rw[h.size];exact hT j hj)
   show (yielded ops a.tmps j==some want)=true
   unfold yielded
   rw[hoj,Option.bind_some,hdj2,Option.bind_some,hsl]
   simp
 unfold wpOp
 simp only[ho,hw,if_true]
 refine .inl (hstep i o a w _ ho h.but (fun t ht=>h.eval t (fun j hj hd e=>?_)) (fun e he hb=>h.has _ (by have:=hlow i o ho e he hb;omega) (hdep e he hb)) (fun v w' hb hv=>?_))
 ·obtain⟨oj,hoj,ed,hed,hbi,hon⟩:=ht j hj e
  have:=h.down j oj hoj hd ed hed hbi
  rw[hon,hdi] at this
  simp at this
 ·rw[hdst]
  exact h.next hinj hT hC i o ho hdep v w' hb hv))
theorem Run.puts {W:World} {ops:Array Oper} {base:Act} {C:Nat→World→Value→Prop} {T:Nat→Nat} {a:Act} {w:World} (h:Run W ops base C T (fun _=>true) a w) (hT:∀ i,i<ops.size→T i<base.tmps.size) (V:Nat→Value) (hV:∀ i,i<ops.size→a.eval (.tmp (T i))=V i):a=bi base ((List.range ops.size).map fun i=>(T i,V i)):=by(
 refine zgk _ base a h.defers h.size (fun p hp=>?_) (fun t ht=>?_)
 ·obtain⟨i,hi,rfl⟩:=List.mem_map.1 hp
  have hi':=List.mem_range.1 hi
  exact zbq (hV i hi') (by rw[h.size];exact hT i hi')
 ·refine h.rest t (fun j hj _ e=>?_)
  exact ht (T j,V j) (List.mem_map.2 ⟨j,List.mem_range.2 hj,rfl⟩) e)
def P4o (w:World) (b o:Nat) (s:Bool) (x y:Int) (p:Option Addr):Prop:=w.cell? ⟨b,o,none⟩=some (.bool s)∧w.cell? ⟨b,o+1,none⟩=some (.int .u64 x)∧w.cell? ⟨b,o+2,none⟩=some (.int .u64 y)∧w.cell? ⟨b,o+3,none⟩=some (.pointer p)
theorem P4o.but {w w':World} {b o:Nat} {s:Bool} {x y:Int} {p:Option Addr} {l:List Nat} (h:P4o w b o s x y p) (hb:But l w w') (hn:b ∉ l):P4o w' b o s x y p:=⟨hb.ag h.1 hn,hb.ag h.2.1 hn,hb.ag h.2.2.1 hn,hb.ag h.2.2.2 hn⟩
theorem jq {ops:Array Oper} {ps:List (Nat × Nat)} (h:zcz ops ps=true) {i:Nat} {o:Oper} (ho:ops[i]? = some o) (R:Nat→Prop) (hdep:∀ e ∈ o.after,Region.binds .any e=true→R e.on) (j:Nat) (hij:(i,j) ∈ ps):R j:=by(
 obtain⟨o',ho',ed,hed,hbi,rfl⟩:=ztl h i j hij
 rw[ho] at ho'
 obtain rfl:=Option.some.inj ho'
 exact hdep ed hed hbi)
theorem br (a:Act) (w:World) (d t:Nat) (u:TypeId) (ps:String) (ed:Array Edge) (gd:Option (Nat × Bool)) (N:Value) (h:a.eval (.tmp t)=N) :
   (execOp a.eval { dst:=some d,op:=Op.move (.tmp t),type:=u,pos:=ps,after:=ed,guard:=gd }).run prog w=.ok (.value N) w:=by(
 unfold execOp
 simp only[h]
 go_simp)
theorem zat (a:Act) (w:World) (d t:Nat) (u:TypeId) (ps:String) (ed:Array Edge) (gd:Option (Nat × Bool)) (N:Value) (h:a.eval (.tmp t)=N) :
   (execOp a.eval { dst:=some d,op:=Op.assign (.tmp t),type:=u,pos:=ps,after:=ed,guard:=gd }).run prog w=.ok (.value N) w:=by(
 unfold execOp
 simp only[h]
 go_simp)
theorem au (a:Act) (w:World) (d t:Nat) (u:TypeId) (ps:String) (ed:Array Edge) (gd:Option (Nat × Bool)) (b o:Nat) (s:Bool) (x y:Int) (p:Option Addr) (h1:a.eval (.tmp t)=.pointer (some ⟨b,o,none⟩)) (hc:P4o w b o s x y p) :
   (execOp a.eval { dst:=some d,op:=Op.load 27 (.tmp t),type:=u,pos:=ps,after:=ed,guard:=gd }).run prog w=.ok (.value (.agg #[.bool s,.int .u64 x,.int .u64 y,.pointer p])) w:=by(
 obtain⟨c0,c1,c2,c3⟩:=hc
 unfold execOp
 simp only[h1]
 go_simp)
def zh (kd:Int) (s:Bool) (x y:Int) (p:Option Addr) (fr li ti pr:Int) (toB:ByteArray):Value:=.agg #[.int .i64 kd,.bool s,.int .u64 x,.int .u64 y,.pointer p,.int .i64 fr,.int .i64 li,.int .i64 ti,.int .i64 pr,.string toB]
theorem ze (n m:Int) (w:World) :
   Calls prog 142 #[.int .i64 n,.int .i64 m] w fun e w'=>e=.returned (.bool (decide (0≤n∧n≤m)))∧w'=w:=by(
 by_cases h1:0≤n
 ·(
 by_cases h2:n≤m
 ·rw[decide_eq_true ⟨h1,h2⟩]
  go_enter func142,ntmps142
  go_wp2
  exact bodyPost_ret (v:=.bool true) (by simp[results,results142,go_sem]) rfl ⟨rfl,rfl⟩
 ·rw[decide_eq_false (fun h=>h2 h.2)]
  go_enter func142,ntmps142
  go_wp2
  exact bodyPost_ret (v:=.bool false) (by simp[results,results142,go_sem]) rfl ⟨rfl,rfl⟩)
 ·rw[decide_eq_false (fun h=>h1 h.1)]
  go_enter func142,ntmps142
  go_wp2
  exact bodyPost_ret (v:=.bool false) (by simp[results,results142,go_sem]) rfl ⟨rfl,rfl⟩)
theorem zvk (x:Int) (h1:-9223372036854775808≤x) (h2:x<9223372036854775808) (w:World) :
   Calls prog 101 #[.int .i64 x] w fun e w'=>e=.returned (.agg #[.bool (decide (x<0)),.int .u64 ((x.natAbs:Nat):Int),.int .u64 (((1:Nat):Int)-1),.pointer none])∧But [] w w':=by(
 obtain⟨s,hs⟩:∃ s,s=decide (x<0):=⟨_,rfl⟩
 obtain⟨n,hn⟩:∃ n,n=x.natAbs:=⟨_,rfl⟩
 rw[← hs,← hn]
 have HS:=af hs
 have HN:=af hn
 go_enter func101,ntmps101
 go_wp2_with fail
 refine (zju x h1 h2 _).mono ?_
 rintro e w1 ⟨rfl,hw⟩
 obtain rfl:=hw.symm
 go_wp2
 exact bodyPost_ret (v:=.agg #[.bool (decide (x<0)),.int .u64 ((x.natAbs:Nat):Int),.int .u64 0,.pointer none]) (by simp[results,results101,go_sem]) rfl ⟨by rw[ae HS,ae HN];rfl,(But.refl _ _).alloc _⟩)
theorem bk (n:Int):((n:Int):Rat).num=n∧((n:Int):Rat).den=1:=⟨by simp,by simp⟩
theorem qfu (n:Int) (h:n.natAbs < 18446744073709551616):Len ((n:Int):Rat) 1:=by
 obtain⟨h1,h2⟩:=bk n
 exact qcw (m:=1) (n:=1) (by rw[h1,Nat.pow_one];exact h) (by rw[h2];decide) 1 (Nat.le_refl _) (Nat.le_refl _)
theorem zyb (x:Int) (h1:-9223372036854775808≤x) (h2:x<9223372036854775808) :
   ∃ (r:Bool) (p:Int),(∀ W,am W (.agg #[.bool r,.int .u64 p,.int .u64 0,.pointer none]) ((x:Int):Rat))∧∀ W,Calls prog 101 #[.int .i64 x] W fun e w'=>e=.returned (.agg #[.bool r,.int .u64 p,.int .u64 0,.pointer none])∧But [] W w':=by(
 obtain⟨e1,e2⟩:=bk x
 refine⟨decide (x<0),((x.natAbs:Nat):Int),fun W=>.inl ⟨by rw[e1];omega,by rw[e2];decide,by rw[e1,e2];rfl⟩,fun W=>?_⟩
 have h:=zvk x h1 h2 W
 rw[show (((1:Nat):Int)-1)=0 from rfl] at h
 exact h)
structure rf (w:World) (g:Nat) (kd:Int) (s1:Bool) (x1 y1:Int) (p1:Option Addr) (fq li ti pq:Int) (toB:ByteArray):Prop where
 cells:∀ k v,[.int .i64 kd,.bool s1,.int .u64 x1,.int .u64 y1,.pointer p1,.int .i64 fq,.int .i64 li,.int .i64 ti,.int .i64 pq,.string toB][k]? = some v→w.cell? ⟨g,k,none⟩=some v
theorem rf.but {w w':World} {g:Nat} {kd:Int} {s1:Bool} {x1 y1:Int} {p1:Option Addr} {fq li ti pq:Int} {toB:ByteArray} {l:List Nat} (h:rf w g kd s1 x1 y1 p1 fq li ti pq toB) (hb:But l w w') (hn:g ∉ l):rf w' g kd s1 x1 y1 p1 fq li ti pq toB:=⟨fun k v hv=>hb.ag (h.cells k v hv) hn⟩
theorem rf.new (w:World) (kd:Int) (s1:Bool) (x1 y1:Int) (p1:Option Addr) (fq li ti pq:Int) (toB:ByteArray):rf (w.alloc (.cells #[.int .i64 kd,.bool s1,.int .u64 x1,.int .u64 y1,.pointer p1,.int .i64 fq,.int .i64 li,.int .i64 ti,.int .i64 pq,.string toB] 77)) w.heap.size kd s1 x1 y1 p1 fq li ti pq toB :=
 ⟨fun k v h=>by rw[World.cell?_alloc_new];simpa using h⟩
theorem zpf (w:World):am w (.agg #[.bool false,.int .u64 0,.int .u64 0,.pointer none]) 0:=.inl ⟨by decide,by decide,rfl⟩
theorem zpx {P:Program} {id:Nat} {ops:Array Oper} {Q:Exit→Act→World→Prop} {base:Act} {W0:World} (hm:P.follows .mixedOrders=true)
   (hlow:∀ i o,ops[i]? = some o→∀ e ∈ o.after,Region.binds .any e=true→e.on<i)
   (C:Nat→World→Value→Prop) (T:Nat→Nat) (hpl:zco ops T=true) (sk:Nat→Bool)
   (hgd:∀ (i:Nat) (o:Oper) (j:Nat) (want:Bool),ops[i]? = some o→o.guard=some (j,want)→∀ w v,C j w v→v=.bool (if sk i then !want else want))
   (hsk:∀ (i:Nat) (o:Oper),ops[i]? = some o→sk i=true→o.guard≠none) (hCs:∀ i w,sk i=true→C i w undef)
   (hinj:∀ i j,i<ops.size→j<ops.size→T i=T j→i=j) (hT:∀ i,i<ops.size→T i<base.tmps.size) (hC:∀ i w w' v,i<ops.size→C i w v→But [] w w'→C i w' v)
   (hstep:∀ (i:Nat) (o:Oper) (a:Act) (w:World) (K:Act→World→Prop),sk i=false→ops[i]? = some o→But [] W0.drew w→(∀ t,(∀ j,j<ops.size→t=T j→∃ oj,ops[j]? = some oj∧∃ e ∈ oj.after,Region.binds .any e=true∧e.on=i)→a.eval (.tmp t)=base.eval (.tmp t))→(∀ e ∈ o.after,Region.binds .any e=true→C e.on w (a.eval (.tmp (T e.on))))→(∀ v w',But [] w w'→C i w' v→K (a.put o.dst v) w')→o.wp P a w K Q)
   (hend:∀ a w,Run W0.drew ops base C T (fun _=>true) a w→Q .normal a w) :
   (Code.region id ops true).wp P Q base W0:=by(
 have hp:=zkf hpl
 refine zbu hm hlow (fun d a w=>Run W0.drew ops base C T d a w) ?_ ?_ ?_
 ·exact⟨fun _ _ _ h=>by simp at h,But.refl _ _,rfl,rfl,fun _ _=>rfl,fun _ _ h=>by simp at h⟩
 ·intro d a w hd h
  refine hend a w ⟨fun _ _ _ _ _ _ _=>rfl,h.but,h.size,h.defers,fun t ht=>h.rest t (fun j hj _=>ht j hj rfl),fun i hi _=>h.has i hi (hd i hi)⟩
 ·(
 intro d i o a w ho hdi hdep h
 have hi:i<ops.size:=(Array.getElem?_eq_some_iff.1 ho).1
 obtain⟨hdst,hg⟩:=hp i o ho
 have hw:Region.wanted o (yielded ops a.tmps)=!sk i:=by
  unfold Region.wanted
  cases hgo:o.guard with
  | none =>
   have:sk i=false:=by
    cases e:sk i with
    | false=>rfl
    | true=>exact absurd hgo (hsk i o ho e)
   rw[this];rfl
  | some jw =>
   obtain⟨j,want⟩:=jw
   obtain⟨hj,e,he,hbi,hon⟩:=hg j want hgo
   have hdj:d j=true:=by rw[← hon];exact hdep e he hbi
   have hv:=hgd i o j want ho hgo w _ (h.has j hj hdj)
   have hoj:=Array.getElem?_eq_getElem hj
   have hdj2:=(hp j _ hoj).1
   have hsl:=zbq hv (by rw[h.size];exact hT j hj)
   show (yielded ops a.tmps j==some want)=!sk i
   unfold yielded
   rw[hoj,Option.bind_some,hdj2,Option.bind_some,hsl]
   cases sk i <;> cases want <;> rfl
 unfold wpOp
 by_cases es:sk i=true
 ·rw[es] at hw
  simp only[ho,hw,Bool.not_true,Bool.false_eq_true,if_false]
  rw[hdst]
  exact h.next hinj hT hC i o ho hdep undef w (But.refl _ _) (hCs i w es)
 ·(
 have es':sk i=false:=by simpa using es
 rw[es'] at hw
 simp only[ho,hw,Bool.not_false,if_true]
 refine .inl (hstep i o a w _ es' ho h.but (fun t ht=>h.eval t (fun j hj hd e=>?_)) (fun e he hb=>h.has _ (by have:=hlow i o ho e he hb;omega) (hdep e he hb)) (fun v w' hb hv=>?_))
 ·obtain⟨oj,hoj,ed,hed,hbi,hon⟩:=ht j hj e
  have:=h.down j oj hoj hd ed hed hbi
  rw[hon,hdi] at this
  simp at this
 ·rw[hdst]
  exact h.next hinj hT hC i o ho hdep v w' hb hv)))
def zvg (ops:Array Oper):Bool:=(List.range ops.size).all fun i=>match ops[i]? with
 | some o=>o.guard.isNone
 | none=>true
theorem zvf {ops:Array Oper} (h:zvg ops=true):∀ (i:Nat) (o:Oper),ops[i]? = some o→o.guard=none:=fun i o ho=>by
 have hi:i<ops.size:=(Array.getElem?_eq_some_iff.1 ho).1
 unfold zvg at h
 rw[List.all_eq_true] at h
 have h1:=h i (List.mem_range.2 hi)
 simp only[ho] at h1
 simpa using h1
theorem qdx {ops:Array Oper} {ps:List (Nat × Nat)} (h:zcz ops ps=true) {i:Nat} {o:Oper} (ho:ops[i]? = some o) (R:Nat→Prop) (hdep:∀ e ∈ o.after,Region.binds .any e=true→R e.on) (j:Nat) (hij:(i,j) ∈ ps):R j:=by(
 obtain⟨o',ho',e,he,hb,rfl⟩:=ztl h i j hij
 rw[ho] at ho'
 obtain rfl:=Option.some.inj ho'
 exact hdep e he hb)
def Closed (ops:Array Oper) (d:Nat→Bool):Prop:=∀ i o,ops[i]? = some o→d i=true→∀ e ∈ o.after,Region.binds .any e=true→d e.on=true
theorem Closed.dep {ops:Array Oper} {d:Nat→Bool} (h:Closed ops d) {ps:List (Nat × Nat)} (hp:zcz ops ps=true) {i j:Nat} (hij:(i,j) ∈ ps) (hd:d i=true):d j=true:=by
 obtain⟨o,ho,e,he,hb,rfl⟩:=ztl hp i j hij
 exact h i o ho hd e he hb
theorem Closed.not {ops:Array Oper} {d:Nat→Bool} (h:Closed ops d) {ps:List (Nat × Nat)} (hp:zcz ops ps=true) {i j:Nat} (hij:(i,j) ∈ ps) (hd:d j=false):d i=false:=by(
 cases e:d i with
 | false=>rfl
 | true=>rw[h.dep hp hij e] at hd;simp at hd)
theorem Closed.next {ops:Array Oper} {d:Nat→Bool} (h:Closed ops d) {i:Nat} {o:Oper} (ho:ops[i]? = some o) (hdep:∀ e ∈ o.after,Region.binds .any e=true→d e.on=true):Closed ops (came d i):=fun j oj hj hd e he hbi=>by
 by_cases e1:e.on=i
 ·rw[e1];exact fw d i
 ·rw[nu d e1]
  by_cases e2:j=i
  ·subst e2
   rw[ho] at hj
   obtain rfl:=Option.some.inj hj
   exact hdep e he hbi
  ·rw[nu d e2] at hd
   exact h j oj hj hd e he hbi
structure qjy {α:Type} (ops:Array Oper) (base:Act) (H:α→(Nat→Bool)→World→Prop) (V:α→Nat→Value) (T:Nat→Nat) (wr:Nat→Bool) (m:Nat) (d:Nat→Bool) (a:Act) (w:World) (N:α):Prop where
 down:Closed ops d
 mem:H N d w
 size:a.tmps.size=base.tmps.size
 defers:a.defers=base.defers
 rest:∀ t,(∀ j,j<m→wr j=true→d j=true→t≠T j)→a.tmps[t]? = base.tmps[t]?
 has:∀ i,i<m→wr i=true→d i=true→a.eval (.tmp (T i))=V N i
theorem zka {P:Program} {id:Nat} {ops:Array Oper} {Q:Exit→Act→World→Prop} {base:Act} {W0:World} (hm:P.follows .mixedOrders=true)
   (hlow:∀ i o,ops[i]? = some o→∀ e ∈ o.after,Region.binds .any e=true→e.on<i)
   (hg:∀ (i:Nat) (o:Oper),ops[i]? = some o→o.guard=none)
   {α:Type} (H:α→(Nat→Bool)→World→Prop) (V:α→Nat→Value) (T:Nat→Nat) (wr:Nat→Bool) (m:Nat) (hsz:ops.size=m)
   (hinj:∀ i j,i<m→j<m→wr i=true→wr j=true→T i=T j→i=j) (hT:∀ i,i<m→wr i=true→T i<base.tmps.size) (N0:α) (h0:H N0 (fun _=>false) W0.drew)
   (hstep:∀ (N:α) (d:Nat→Bool) (i:Nat) (o:Oper) (a:Act) (w:World) (K:Act→World→Prop),i<m→ops[i]? = some o→d i=false→Closed ops d→H N d w→(∀ t,(∀ j,j<m→wr j=true→d j=true→t≠T j)→a.eval (.tmp t)=base.eval (.tmp t))→(∀ e ∈ o.after,Region.binds .any e=true→d e.on=true∧(wr e.on=true→a.eval (.tmp (T e.on))=V N e.on))→(∀ N' v w',(wr i=true→v=V N' i)→(∀ j,j<m→wr j=true→d j=true→V N' j=V N j)→H N' (came d i) w'→K (a.put (if wr i=true then some (T i) else none) v) w')→o.wp P a w K Q)
   (hend:∀ N d w,(∀ i,i<m→d i=true)→H N d w→Q .normal (bi base (((List.range m).filter wr).map fun i=>(T i,V N i))) w) :
   (Code.region id ops true).wp P Q base W0:=by(
 have wpo:∀ i o a w (K:Act→World→Prop),ops[i]? = some o→o.wp P a w K Q→wpOp P ops Q i K a w:=fun i o a w K ho h=>by
  unfold wpOp
  simp only[ho,Region.wanted,hg i o ho,if_true]
  exact .inl h
 refine zbu hm hlow (fun d a w=>∃ N,qjy ops base H V T wr m d a w N) ?_ ?_ ?_
 ·exact⟨N0,fun _ _ _ h=>by simp at h,h0,rfl,rfl,fun _ _=>rfl,fun _ _ _ h=>by simp at h⟩
 ·(
 rintro d a w hd ⟨N,h⟩
 have ea:a=bi base (((List.range m).filter wr).map fun i=>(T i,V N i)):=by
  refine zgk _ base a h.defers h.size (fun p hp=>?_) (fun t ht=>?_)
  ·obtain⟨i,hi,rfl⟩:=List.mem_map.1 hp
   obtain⟨hi1,hi2⟩:=List.mem_filter.1 hi
   have hi':=List.mem_range.1 hi1
   exact zbq (h.has i hi' hi2 (hd i (by omega))) (by rw[h.size];exact hT i hi' hi2)
  ·refine h.rest t (fun j hj hw hdj e=>?_)
   exact ht (T j,V N j) (List.mem_map.2 ⟨j,List.mem_filter.2 ⟨List.mem_range.2 hj,hw⟩,rfl⟩) e
 rw[ea]
 exact hend N d w (fun i hi=>hd i (by omega)) h.mem)
 ·(
 rintro d i o a w ho hdi hdep ⟨N,h⟩
 refine wpo i o a w _ ho ?_
 have hi:i<m:=by rw[← hsz];exact (Array.getElem?_eq_some_iff.1 ho).1
 refine hstep N d i o a w _ hi ho hdi h.down h.mem (fun t ht=>zvx (h.rest t ht)) (fun ed he hb=>⟨hdep ed he hb,fun hw=>h.has _ (by have:=hlow i o ho ed he hb;omega) hw (hdep ed he hb)⟩) ?_
 rintro N' v w' hv hV hH
 by_cases hw:wr i=true
 ·(
 obtain rfl:=hv hw
 rw[if_pos hw]
 refine⟨N',h.down.next ho hdep,hH,by rw[zcj];exact h.size,h.defers,fun t ht=>?_,fun j hj hwj hd=>?_⟩
 ·(
 rw[zjt,if_neg (fun e=>ht i hi hw (fw d i) e.symm)]
 refine h.rest t (fun j hj hwj hdj=>ht j hj hwj ?_)
 by_cases e:j=i
 ·subst e;exact fw d j
 ·rw[nu d e];exact hdj)
 ·(
 by_cases e:j=i
 ·subst e
  exact at_eq a (T j) _ (by rw[h.size];exact hT j hj hwj)
 ·rw[nu d e] at hd
  rw[qhy a (T i) (T j) _ (fun e2=>e (hinj j i hj hi hwj hw e2)),h.has j hj hwj hd]
  exact (hV j hj hwj hd).symm))
 ·(
 rw[if_neg hw]
 have ne:∀ j,wr j=true→j≠i:=fun j hj e=>hw (e ▸ hj)
 refine⟨N',h.down.next ho hdep,hH,h.size,h.defers,fun t ht=>h.rest t (fun j hj hwj hdj=>ht j hj hwj (by rw[nu d (ne j hwj)];exact hdj)),fun j hj hwj hd=>?_⟩
 rw[nu d (ne j hwj)] at hd
 rw[show a.put none v=a from rfl,h.has j hj hwj hd]
 exact (hV j hj hwj hd).symm)))
structure p9 (B:Nat) (w:World) (g:Nat) (vs:List Value):Prop where
 cells:∀ k v,vs[k]? = some v→w.cell? ⟨g,k,none⟩=some v
 loose:∀ j,w.frozen? ⟨g,j,none⟩=false
 new:B≤g
 lt:g<w.heap.size
theorem p9.but {B:Nat} {w w':World} {g:Nat} {vs:List Value} (h:p9 B w g vs) (hb:But [] w w'):p9 B w' g vs :=
 ⟨fun k v hv=>hb.ag (h.cells k v hv) (by simp),fun j=>(hb.frozen (p:=⟨g,j,none⟩) h.lt (by simp)).trans (h.loose j),h.new,Nat.lt_of_lt_of_le h.lt hb.size⟩
theorem p9.made (B:Nat) (w:World) (vs:List Value) (t:TypeId) (h:B≤w.heap.size):p9 B (w.alloc (.cells vs.toArray t)) w.heap.size vs :=
 ⟨fun k v hv=>by rw[World.cell?_alloc_new];simpa using hv,fun j=>by simp,h,by simp⟩
theorem p9.putAt {B:Nat} {w:World} {g:Nat} {vs:List Value} (h:p9 B w g vs) (o:Nat) (us:List Value) (hl:o+us.length≤vs.length):p9 B (w.setCells g o us) g (vs.take o++us++vs.drop (o+us.length)):=by(
 refine⟨fun k v hv=>?_,fun j=>by rw[World.frozen?_setCells];exact h.loose j,h.new,Nat.lt_of_lt_of_le h.lt (bn w g _ _).size⟩
 have hto:(vs.take o).length=o:=by rw[List.length_take];omega
 rcases Nat.lt_or_ge k o with h1 | h1
 ·rw[World.cell?_setCells_out g _ _ _ _ (fun _ _=>.inl h1)]
  rw[List.append_assoc,List.getElem?_append_left (by omega),List.getElem?_take_of_lt h1] at hv
  exact h.cells k v hv
 ·(
 rcases Nat.lt_or_ge k (o+us.length) with h2 | h2
 ·(
 have e:=World.cell?_setCells_in g us o w (fun j hj=>by
  rw[h.cells (o+j) vs[o+j] (List.getElem?_eq_getElem (by omega))];rfl) (k-o) (by omega)
 rw[show o+(k-o)=k by omega] at e
 rw[List.append_assoc,List.getElem?_append_right (by omega),hto,List.getElem?_append_left (by omega)] at hv
 rw[e,← (List.getElem?_eq_some_iff.1 hv).2])
 ·rw[World.cell?_setCells_out g _ _ _ _ (fun _ _=>.inr h2)]
  rw[List.append_assoc,List.getElem?_append_right (by omega),hto,List.getElem?_append_right (by omega),List.getElem?_drop,show o+us.length+(k-o-us.length)=k by omega] at hv
  exact h.cells k v hv))
theorem zxn (x:Rat):x*((x.den:Int):Rat)=((x.num:Int):Rat):=by(
 obtain⟨i1,i2⟩:=bk (x.den:Int)
 obtain⟨j1,j2⟩:=bk x.num
 have h:=zxo x ((x.den:Int):Rat)
 rw[i1,i2,Nat.mul_one] at h
 have hd:=den_pos x
 obtain⟨e1,e2⟩:=zkd x.num 1 (by omega) (by simp) (x*((x.den:Int):Rat)) (by
  refine Int.eq_of_mul_eq_mul_right (show (x.den:Int)≠0 by omega) ?_
  grind)
 exact Rat.ext (by rw[e1,j1]) (by rw[e2,j2]))
theorem int_ne (z:Int) (h:z≠0):((z:Int):Rat)≠0:=fun e=>h (by
 have:=congrArg Rat.num e
 rwa [(bk z).1] at this)
def qf (q:Int × Int):Rat:=((q.1:Int):Rat)/(((if q.2=0 then 1 else q.2):Int):Rat)
theorem qgq (f:Rat) (q:Int × Int) (h:f.num*(if q.2=0 then 1 else q.2)=q.1*f.den):f=qf q:=by(
 unfold qf
 have hy:(if q.2=0 then (1:Int) else q.2)≠0:=by split <;> omega
 generalize (if q.2=0 then (1:Int) else q.2)=y at *
 have h1:=zxn f
 have h2:((f.num*y:Int):Rat)=((q.1*(f.den:Int):Int):Rat):=by rw[h]
 rw[Rat.intCast_mul,Rat.intCast_mul] at h2
 have hd:=int_ne (f.den:Int) (by have:=den_pos f;omega)
 have hy':=int_ne y hy
 generalize ((y:Int):Rat)=Y at *
 generalize ((f.den:Int):Rat)=D at *
 generalize ((f.num:Int):Rat)=M at *
 generalize ((q.1:Int):Rat)=X at *
 rw[← h1] at h2
 grind)
def Fits (q:Int × Int):Prop:=-9223372036854775808≤q.1∧q.1<9223372036854775808∧-9223372036854775808≤q.2∧q.2<9223372036854775808
theorem zmt (q:Int × Int) (h:Fits q):∃ (r:Bool) (x y:Int),Len (qf q) 1∧(∀ W,am W (.agg #[.bool r,.int .u64 x,.int .u64 y,.pointer none]) (qf q))∧∀ W,Calls prog 10 #[.agg #[.int .i64 q.1,.int .i64 q.2]] W fun e w'=>e=.returned (.agg #[.bool r,.int .u64 x,.int .u64 y,.pointer none])∧But [] W w':=by(
 obtain⟨f,r,x,y,h1,h2,h3,h4⟩:=zkg q.1 q.2 h.1 h.2.1 h.2.2.1 h.2.2.2
 have e:=qgq f q h2
 subst e
 exact⟨r,x,y,h1,h3,h4⟩)
open Go.RowKit Go.Shelf
set_option linter.unusedVariables false
attribute [local go_sem] Oper.semAt_some
theorem qdz (d:UInt8) (ls:List (List UInt8)) (k:Nat) (h:k<ls.length) (hl:∀ x ∈ ls,d ∉ x):Lib.cut (jn d (ls.drop k)) [d]=(ls[k],jn d (ls.drop (k+1)),decide (k+1<ls.length)):=by(
 have hx:=hl _ (List.getElem_mem h)
 rw[ziy d ls k h]
 unfold zae
 rw[if_neg (by omega)]
 cases e:ls.drop (k+1) with
 | nil =>
  have:ls.length≤k+1:=List.drop_eq_nil_iff.1 e
  rw[decide_eq_false (by omega)]
  show Lib.cut (ls[k]++[]) [d]=_
  rw[List.append_nil,zra d _ hx]
  rfl
 | cons y l =>
  have:k+1<ls.length:=by
   rcases Nat.lt_or_ge (k+1) ls.length with h' | h'
   ·exact h'
   ·rw[List.drop_eq_nil_iff.2 h'] at e
    simp at e
  rw[decide_eq_true this]
  exact zlf d ls[k] (jn d (y::l)) hx)
theorem qcx (d:UInt8) (ls:List (List UInt8)) (k:Nat) (h:k<ls.length):(jn d (ls.drop k)).length≤(jn d ls).length∧ls[k].length≤(jn d ls).length:=by(
 obtain⟨p,hp⟩:=tail_suffix d ls k (by omega)
 have h2:(zae d ls k).length=(jn d (ls.drop k)).length∨(zae d ls k).length=(jn d (ls.drop k)).length+1:=by
  rcases zge d ls k h with e | e <;> rw[e] <;> simp
 have hl:(jn d ls).length=p.length+(zae d ls k).length:=by rw[hp,List.length_append]
 have hd:(jn d (ls.drop k)).length=ls[k].length+(zae d ls (k+1)).length:=by rw[ziy d ls k h,List.length_append]
 omega)
def zei (q:Int):Value:=if q=0 then .nilIface else .iface 33 (.int .i64 q)
theorem ji {P:Program} {id:Nat} {ops:Array Oper} {Q:Exit→Act→World→Prop} {base:Act} {W0:World} (hm:P.follows .mixedOrders=true)
   (hlow:∀ i o,ops[i]? = some o→∀ e ∈ o.after,Region.binds .any e=true→e.on<i)
   (C:Nat→World→Value→Prop) (T:Nat→Nat) (hpl:zco ops T=true) (sk:Nat→Bool)
   (hgd:∀ (i:Nat) (o:Oper) (j:Nat) (want:Bool),ops[i]? = some o→o.guard=some (j,want)→∀ w v,C j w v→(sk i=true→v=undef∨v=.bool (!want))∧(sk i=false→v=.bool want))
   (hsk:∀ (i:Nat) (o:Oper),ops[i]? = some o→sk i=true→o.guard≠none) (hCs:∀ i w,sk i=true→C i w undef)
   (hinj:∀ i j,i<ops.size→j<ops.size→T i=T j→i=j) (hT:∀ i,i<ops.size→T i<base.tmps.size) (hC:∀ i w w' v,i<ops.size→C i w v→But [] w w'→C i w' v)
   (hstep:∀ (i:Nat) (o:Oper) (a:Act) (w:World) (K:Act→World→Prop),sk i=false→ops[i]? = some o→But [] W0.drew w→(∀ t,(∀ j,j<ops.size→t=T j→∃ oj,ops[j]? = some oj∧∃ e ∈ oj.after,Region.binds .any e=true∧e.on=i)→a.eval (.tmp t)=base.eval (.tmp t))→(∀ e ∈ o.after,Region.binds .any e=true→C e.on w (a.eval (.tmp (T e.on))))→(∀ v w',But [] w w'→C i w' v→K (a.put o.dst v) w')→o.wp P a w K Q)
   (hend:∀ a w,Run W0.drew ops base C T (fun _=>true) a w→Q .normal a w) :
   (Code.region id ops true).wp P Q base W0:=by(
 have hp:=zkf hpl
 refine zbu hm hlow (fun d a w=>Run W0.drew ops base C T d a w) ?_ ?_ ?_
 ·exact⟨fun _ _ _ h=>by simp at h,But.refl _ _,rfl,rfl,fun _ _=>rfl,fun _ _ h=>by simp at h⟩
 ·intro d a w hd h
  refine hend a w ⟨fun _ _ _ _ _ _ _=>rfl,h.but,h.size,h.defers,fun t ht=>h.rest t (fun j hj _=>ht j hj rfl),fun i hi _=>h.has i hi (hd i hi)⟩
 ·(
 intro d i o a w ho hdi hdep h
 have hi:i<ops.size:=(Array.getElem?_eq_some_iff.1 ho).1
 obtain⟨hdst,hg⟩:=hp i o ho
 have hw:Region.wanted o (yielded ops a.tmps)=!sk i:=by
  unfold Region.wanted
  cases hgo:o.guard with
  | none =>
   have:sk i=false:=by
    cases e:sk i with
    | false=>rfl
    | true=>exact absurd hgo (hsk i o ho e)
   rw[this];rfl
  | some jw =>
   obtain⟨j,want⟩:=jw
   obtain⟨hj,e,he,hbi,hon⟩:=hg j want hgo
   have hdj:d j=true:=by rw[← hon];exact hdep e he hbi
   have hv:=hgd i o j want ho hgo w _ (h.has j hj hdj)
   have hoj:=Array.getElem?_eq_getElem hj
   have hdj2:=(hp j _ hoj).1
   have hlt:T j<a.tmps.size:=by rw[h.size];exact hT j hj
   show (yielded ops a.tmps j==some want)=!sk i
   cases es:sk i with
   | false =>
    have hsl:=zbq (hv.2 es) hlt
    unfold yielded
    rw[hoj,Option.bind_some,hdj2,Option.bind_some,hsl]
    cases want <;> rfl
   | true =>
    rcases hv.1 es with hu | hu
    ·have hsl:=zbq hu hlt
     unfold yielded
     rw[hoj,Option.bind_some,hdj2,Option.bind_some,hsl]
     cases want <;> rfl
    ·have hsl:=zbq hu hlt
     unfold yielded
     rw[hoj,Option.bind_some,hdj2,Option.bind_some,hsl]
     cases want <;> rfl
 unfold wpOp
 by_cases es:sk i=true
 ·rw[es] at hw
  simp only[ho,hw,Bool.not_true,Bool.false_eq_true,if_false]
  rw[hdst]
  exact h.next hinj hT hC i o ho hdep undef w (But.refl _ _) (hCs i w es)
 ·(
 have es':sk i=false:=by simpa using es
 rw[es'] at hw
 simp only[ho,hw,Bool.not_false,if_true]
 refine .inl (hstep i o a w _ es' ho h.but (fun t ht=>h.eval t (fun j hj hd e=>?_)) (fun e he hb=>h.has _ (by have:=hlow i o ho e he hb;omega) (hdep e he hb)) (fun v w' hb hv=>?_))
 ·obtain⟨oj,hoj,ed,hed,hbi,hon⟩:=ht j hj e
  have:=h.down j oj hoj hd ed hed hbi
  rw[hon,hdi] at this
  simp at this
 ·rw[hdst]
  exact h.next hinj hT hC i o ho hdep v w' hb hv)))
end Go.Proofs.YtjlfllhedceigaaGreatDoor
