/- Regions that draw their order: what hold -/
import Derived.Deep.RegionHeld
import Derived.RangeFuncCalls
import Derived.OrdersIn
import Derived.Laws.CopyOwn
import Derived.Test.YtcgecpoedojhjaaGreatDoorProg
import Derived.Laws.MakeOwn
import Derived.Test.YtcgecpoedojhjaaGreatDoorKPBase
namespace Go.Proofs.YtcgecpoedojhjaaGreatDoor
open Go.Proofs.Tryz
open Go.RowKit
def came (d:Nat→Bool) (i:Nat):Nat→Bool:=fun j=>if j=i then true else d j
theorem q9 (d:Nat→Bool) (i:Nat):came d i i=true:=by simp[came]
theorem sj (d:Nat→Bool) {i j:Nat} (h:j≠i):came d i j=d j:=by simp[came,h]
theorem zff {P:Program} {id:Nat} {ops:Array Oper} {Q:Exit→Act→World→Prop} {base:Act} {W0:World} (hm:P.follows .mixedOrders=true)
  (hlow:∀ i o,ops[i]? = some o→∀ e ∈ o.after,Region.binds .any e=true→e.on<i)
  (J:(Nat→Bool)→Act→World→Prop) (h0:J (fun _=>false) base W0.drew)
  (hend:∀ d a w,(∀ i,i<ops.size→d i=true)→J d a w→Q .normal a w)
  (hstep:∀ d i o a w,ops[i]? = some o→d i=false→(∀ e ∈ o.after,Region.binds .any e=true→d e.on=true)→J d a w→wpOp P ops Q i (J (came d i)) a w) :
  (Code.region id ops true).wp P Q base W0:=by
 refine wp_region_any hm ?_
 show wpAny P .any ops Q ops.size (Array.replicate ops.size false) base W0.drew
 have none_ready:∀ (l:Array Bool),l.toList.count false=0→Region.ready .any ops l=[]:=fun l hc=>by
  refine List.eq_nil_iff_forall_not_mem.2 fun i hi=>?_
  obtain⟨hf,o,ho,hd⟩:=mem_ready.1 hi
  rw[List.count_eq_zero] at hc
  rcases Nat.lt_or_ge i l.size with h1 | h1
  ·simp only[Array.getD_eq_getD_getElem?,Array.getElem?_eq_getElem h1,Option.getD_some] at hf
   exact hc (by rw[← hf];exact Array.getElem_mem_toList h1)
  ·simp[Array.getElem?_eq_none h1] at hf
 have end_:∀ (l:Array Bool) a w,l.size=ops.size→J (fun i=>l.getD i false) a w→Region.ready .any ops l=[]→Q .normal a w:=fun l a w hs hJ hr=>by
  refine hend _ a w (fun i=>?_) hJ
  induction i using Nat.strongRecOn with
  | _ i ih =>
   intro hi
   cases e:l.getD i false with
   | true=>rfl
   | false =>
    exfalso
    have hmem:i ∈ Region.ready .any ops l:=mem_ready.2 ⟨by
     simp only[Array.getD_eq_getD_getElem?,Array.getElem?_eq_getElem (show i<l.size by omega),Option.getD_some] at e ⊢
     exact e,ops[i],Array.getElem?_eq_getElem hi,fun e he hb=>by
      have hl:=hlow i ops[i] (Array.getElem?_eq_getElem hi) e he hb
      exact ih e.on hl (by omega)⟩
    rw[hr] at hmem
    simp at hmem
 have key:∀ n (l:Array Bool) a w,l.size=ops.size∧l.toList.count false=n∧J (fun i=>l.getD i false) a w→wpAny P .any ops Q n l a w:=by
  intro n
  induction n with
  | zero=>rintro l a w ⟨hs,hc,hJ⟩;exact⟨none_ready l hc,end_ l a w hs hJ (none_ready l hc)⟩
  | succ n ih =>
   rintro l a w ⟨hs,hc,hJ⟩
   refine⟨end_ l a w hs hJ,fun i hi=>?_⟩
   obtain⟨hf,o,ho,hd⟩:=mem_ready.1 hi
   have hlt:i<l.size:=by rw[hs];exact (Array.getElem?_eq_some_iff.1 ho).1
   have hg:l[i]=false:=by simpa [hlt] using hf
   have hf':l.getD i false=false:=by simp[hlt,hg]
   refine wpOp_mono (fun a' w' h'=>ih _ a' w' ⟨by simp[hs],?_,?_⟩) (hstep _ i o a w ho hf' hd hJ)
   ·rw[Array.toList_setIfInBounds,List.count_set (by simpa using hlt)]
    simp[hg,hc]
   ·have e:(fun j=>(l.setIfInBounds i true).getD j false)=came (fun j=>l.getD j false) i:=funext fun j=>by
     by_cases hj:j=i
     ·subst hj;simp[came,hlt]
     ·simp[came,hj,Array.getElem?_setIfInBounds_ne (Ne.symm hj)]
    rw[e];exact h'
 exact key _ _ _ _ ⟨by simp,by simp,by
  have e:(fun i=>(Array.replicate ops.size false).getD i false)=fun _=>false:=funext fun i=>by
   simp only[Array.getD_eq_getD_getElem?,Array.getElem?_replicate]
   split <;> rfl
  rw[e];exact h0⟩
theorem qop (a:Act) (d t:Nat) (v:Value) (h:t≠d):(a.put (some d) v).eval (.tmp t)=a.eval (.tmp t):=by
 show (a.tmps.setIfInBounds d v).getD t undef=a.tmps.getD t undef
 simp only[Array.getD_eq_getD_getElem?,Array.getElem?_setIfInBounds_ne (Ne.symm h)]
theorem at_eq (a:Act) (d:Nat) (v:Value) (h:d<a.tmps.size):(a.put (some d) v).eval (.tmp d)=v:=by
 show (a.tmps.setIfInBounds d v).getD d undef=v
 simp[h]
theorem zfq {a:Act} {t:Nat} {v:Value} (h:a.eval (.tmp t)=v) (hs:t<a.tmps.size):a.tmps[t]? = some v:=by
 have e:a.tmps.getD t undef=v:=h
 rw[Array.getD_eq_getD_getElem?,Array.getElem?_eq_getElem hs] at e
 rw[Array.getElem?_eq_getElem hs]
 exact congrArg some e
theorem zkn (a:Act) (d t:Nat) (v:Value):(a.put (some d) v).tmps[t]? = if d=t then (if d<a.tmps.size then some v else none) else a.tmps[t]?:=by
 show (a.tmps.setIfInBounds d v)[t]? = _
 rw[Array.getElem?_setIfInBounds]
theorem zdc (a:Act) (d:Nat) (v:Value):(a.put (some d) v).tmps.size=a.tmps.size:=by
 show (a.tmps.setIfInBounds d v).size=a.tmps.size
 simp
def qx (base:Act) (ps:List (Nat × Value)):Act:=ps.foldl (fun b p=>b.put (some p.1) p.2) base
theorem zgs:∀ (ps:List (Nat × Value)) (base a:Act),a.defers=base.defers→a.tmps.size=base.tmps.size→(∀ p ∈ ps,a.tmps[p.1]? = some p.2)→(∀ t,(∀ p ∈ ps,t≠p.1)→a.tmps[t]? = base.tmps[t]?)→a=qx base ps
 | [],base,a,h1,_,_,h4=>by
  cases a
  cases base
  simp only at h1 h4
  show Act.mk _ _=Act.mk _ _
  rw[Array.ext_getElem? (fun t=>h4 t (fun p hp=>by simp at hp)),h1]
 | (d,v)::ps,base,a,h1,h2,h3,h4=>by
  have hd:=h3 (d,v) (by simp)
  simp only at hd
  have hlt:d<base.tmps.size:=by
   rw[← h2]
   exact (Array.getElem?_eq_some_iff.1 hd).1
  refine zgs ps (base.put (some d) v) a h1 (by rw[zdc];exact h2) (fun p hp=>h3 p (by simp[hp])) (fun t ht=>?_)
  rw[zkn]
  by_cases e:d=t
  ·subst e
   rw[if_pos rfl,if_pos hlt]
   exact hd
  ·rw[if_neg e]
   refine h4 t (fun p hp=>?_)
   rcases List.mem_cons.1 hp with rfl | hp
   ·exact Ne.symm e
   ·exact ht p hp
theorem zyx {base a:Act} {t:Nat} (h:a.tmps[t]? = base.tmps[t]?):a.eval (.tmp t)=base.eval (.tmp t):=by
 show a.tmps.getD t undef=base.tmps.getD t undef
 simp only[Array.getD_eq_getD_getElem?,h]
theorem zh {P:Program} {Q:Exit→Act→World→Prop} {K:Act→World→Prop} {a:Act} {w w':World} {o:Oper} {v:Value} (hr:(execOp a.eval o).run P w=.ok (.value v) w') (h:K (a.put o.dst v) w'):o.wp P a w K Q:=by
 unfold Oper.wp
 rw[hr]
 exact h
theorem xg {P:Program} {Q:Exit→Act→World→Prop} {K:Act→World→Prop} {a:Act} {w w':World} {o:Oper} (hr:(execOp a.eval o).run P w=.ok .skip w') (h:K (a.put o.dst undef) w'):o.wp P a w K Q:=by
 unfold Oper.wp
 rw[hr]
 exact h
theorem jd {P:Program} {Q:Exit→Act→World→Prop} {K:Act→World→Prop} {a:Act} {w:World} {o:Oper} {f:FuncId} {args:Array Value} (hr:(execOp a.eval o).run P w=.ok (.enter f args) w) {R:World→Value→Prop} (hc:Calls P f args w fun e w'=>∃ v,e=.returned v∧R w' v) (h:∀ v w',R w' v→K (a.put o.dst v) w'):o.wp P a w K Q:=by
 unfold Oper.wp
 rw[hr]
 refine hc.mono ?_
 rintro e w' ⟨v,rfl,hv⟩
 exact h v w' hv
def qff (ops:Array Oper):Bool:=(List.range ops.size).all fun i=>match ops[i]? with
 | some o=>o.after.all fun e=>!(Region.binds .any e) || decide (e.on<i)
 | none=>true
theorem wh {ops:Array Oper} (h:qff ops=true):∀ i o,ops[i]? = some o→∀ e ∈ o.after,Region.binds .any e=true→e.on<i:=fun i o ho e he hb=>by
 have hi:i<ops.size:=(Array.getElem?_eq_some_iff.1 ho).1
 unfold qff at h
 rw[List.all_eq_true] at h
 have h1:=h i (List.mem_range.2 hi)
 simp only[ho] at h1
 rw[Array.all_eq_true_iff_forall_mem] at h1
 have h2:=h1 e he
 simpa [hb] using h2
def wu (ops:Array Oper) (ps:List (Nat × Nat)):Bool:=ps.all fun p=>match ops[p.1]? with
 | some o=>o.after.any fun e=>Region.binds .any e && e.on==p.2
 | none=>false
theorem zwj {ops:Array Oper} {ps:List (Nat × Nat)} (h:wu ops ps=true):∀ i j,(i,j) ∈ ps→∃ o,ops[i]? = some o∧∃ e ∈ o.after,Region.binds .any e=true∧e.on=j:=fun i j hij=>by
 unfold wu at h
 rw[List.all_eq_true] at h
 have h1:=h (i,j) hij
 cases ho:ops[i]? with
 | none=>simp[ho] at h1
 | some o =>
  simp only[ho] at h1
  rw[Array.any_eq_true] at h1
  obtain⟨k,hk,h2⟩:=h1
  simp only[Bool.and_eq_true,beq_iff_eq] at h2
  exact⟨o,rfl,o.after[k],Array.getElem_mem hk,h2.1,h2.2⟩
theorem zgf (xs:List Nat) (j:Nat) (v:Value) (h:(xs.map fun (x:Nat)=>Value.int .u64 (x:Int))[j]? = some v):j<xs.length∧v=.int .u64 (xs[j]?.getD 0:Nat):=by
 simp only[List.getElem?_map,Option.map_eq_some_iff] at h
 obtain⟨x,hx,rfl⟩:=h
 exact⟨(List.getElem?_eq_some_iff.1 hx).1,by rw[hx];rfl⟩
theorem addr_add (b off j:Nat):(⟨b,off,none⟩:Addr).add j=⟨b,off+j,none⟩:=by by_cases h:j=0 <;> simp[Addr.add,h]
theorem zy (w:World) (g:Nat):∀ (vs:List Value) (o:Nat),But [g] w (w.setCells g o vs)
 | [],_=>But.refl _ _
 | v::vs,o=>by
  rw[World.setCells]
  exact ((But.refl [g] w).setCell (p:=⟨g,o,none⟩) (by simp) v).trans (zy _ g vs (o+1)) (fun _ h=>.inl h)
theorem zey (g:Nat):∀ (xs:List Nat) (o:Nat) (w:World),Ints .u64 w g→Ints .u64 (w.setCells g o (xs.map fun (x:Nat)=>Value.int .u64 (x:Int))) g
 | [],_,_,h=>h
 | x::xs,o,w,h=>by
  rw[List.map_cons,World.setCells]
  exact zey g xs (o+1) _ (h.set o x)
theorem qbp {w:World} {g o:Nat} {rs:List Nat} (h:Seg w g o rs) (xs:List Nat) (hl:xs.length≤rs.length) :
  Seg (w.setCells g o (xs.map fun (x:Nat)=>Value.int .u64 (x:Int))) g o (xs++rs.drop xs.length)∧Part g o xs.length w (w.setCells g o (xs.map fun (x:Nat)=>Value.int .u64 (x:Int))):=by
 refine⟨⟨fun i hi=>⟨?_,?_⟩,fun h0=>zey _ _ _ _ (h.ints (by simp only[List.length_append,List.length_drop] at h0;omega))⟩,zy _ _ _ _,fun i hi=>?_,fun i=>World.frozen?_setCells _ _ _ _ _⟩
 ·simp only[List.length_append,List.length_drop] at hi
  rcases Nat.lt_or_ge i xs.length with h1 | h1
  ·have:=World.cell?_setCells_in g (xs.map fun (x:Nat)=>Value.int .u64 (x:Int)) o w (fun j hj=>by rw[(h j (by simp at hj;omega)).1];rfl) i (by simpa using h1)
   rw[this,List.getElem?_append_left h1]
   simp[List.getElem?_eq_getElem h1]
  ·rw[World.cell?_setCells_out g _ o w _ (fun _ _=>.inr (by simp;omega)),(h i (by omega)).1,List.getElem?_append_right h1,List.getElem?_drop,show xs.length+(i-xs.length)=i from by omega]
 ·simp only[List.length_append,List.length_drop] at hi
  rw[World.frozen?_setCells];exact (h i (by omega)).2
 ·exact World.cell?_setCells_out g _ o w _ (fun _ _=>by simp;omega)
theorem jr {P:Program} (w:World) (dT sT elem:TypeId) (hu:P.underlying dT=some (.slice elem)) (hsz:(P.info? elem).map (·.size)=some 1)
  (g off dLen dCap:Nat) (vs:Value) (rs xs:List Nat) (hg:Seg w g off rs) (hr:dLen=rs.length) (hx:Sl .u64 w vs xs) (hl:xs.length≤rs.length) :
  ∃ w',(∀ ty,(Builtin.copy_ #[dT,sT] ty #[.slice (some ⟨g,off,none⟩) dLen dCap,vs]).run P w=.ok (goInt xs.length) w')∧Hid (Seg w' g off (xs++rs.drop xs.length)∧Part g off xs.length w w'):=by
 obtain⟨ad,cap,rfl,-,hc,-⟩:=hx
 subst hr
 rcases Nat.eq_zero_or_pos xs.length with h0 | h0
 ·have e:xs=[]:=List.length_eq_zero_iff.1 h0
  subst e
  exact⟨w,fun ty=>run_copy_none w dT sT ty elem _ _ _ _ _ _ hu hsz (by simp),by simpa using hg,Part.refl _ _ _ _⟩
 ·obtain⟨b,off',rfl,-⟩:=hc 0 h0
  refine⟨_,fun ty=>?_,qbp hg xs hl⟩
  have hrun:=run_copy_cells (P:=P) w dT sT ty elem g off rs.length dCap ⟨b,off',none⟩ xs.length cap (xs.map fun (x:Nat)=>Value.int .u64 (x:Int)) hu hsz (by rw[List.length_map];exact (Nat.min_eq_left hl).symm)
   (fun j v hj=>by
    obtain⟨h1,rfl⟩:=zgf xs j v hj
    obtain⟨b2,off2,e,h2⟩:=hc j h1
    simp only[Option.some.injEq,Addr.mk.injEq] at e
    obtain⟨rfl,rfl,-⟩:=e
    rw[addr_add];exact h2)
   (fun j hj=>by rw[(hg j (by simp at hj;omega)).1];rfl) (fun j hj=>(hg j (by simp at hj;omega)).2) (fun v hv=>by
    simp only[List.mem_map] at hv
    obtain⟨x,-,rfl⟩:=hv
    rfl)
  rw[List.length_map] at hrun
  exact hrun
def zxx (ops:Array Oper):Bool:=(List.range ops.size).all fun i=>match ops[i]? with
 | some o=>o.guard.isNone
 | none=>true
theorem iy {ops:Array Oper} (h:zxx ops=true):∀ (i:Nat) (o:Oper),ops[i]? = some o→o.guard=none:=fun i o ho=>by
 have hi:i<ops.size:=(Array.getElem?_eq_some_iff.1 ho).1
 unfold zxx at h
 rw[List.all_eq_true] at h
 have h1:=h i (List.mem_range.2 hi)
 simp only[ho] at h1
 simpa using h1
theorem pz {ops:Array Oper} {ps:List (Nat × Nat)} (h:wu ops ps=true) {i:Nat} {o:Oper} (ho:ops[i]? = some o) (R:Nat→Prop) (hdep:∀ e ∈ o.after,Region.binds .any e=true→R e.on) (j:Nat) (hij:(i,j) ∈ ps):R j:=by
 obtain⟨o',ho',e,he,hb,rfl⟩:=zwj h i j hij
 rw[ho] at ho'
 obtain rfl:=Option.some.inj ho'
 exact hdep e he hb
def Closed (ops:Array Oper) (d:Nat→Bool):Prop:=∀ i o,ops[i]? = some o→d i=true→∀ e ∈ o.after,Region.binds .any e=true→d e.on=true
theorem Closed.dep {ops:Array Oper} {d:Nat→Bool} (h:Closed ops d) {ps:List (Nat × Nat)} (hp:wu ops ps=true) {i j:Nat} (hij:(i,j) ∈ ps) (hd:d i=true):d j=true:=by
 obtain⟨o,ho,e,he,hb,rfl⟩:=zwj hp i j hij
 exact h i o ho hd e he hb
theorem Closed.not {ops:Array Oper} {d:Nat→Bool} (h:Closed ops d) {ps:List (Nat × Nat)} (hp:wu ops ps=true) {i j:Nat} (hij:(i,j) ∈ ps) (hd:d j=false):d i=false:=by
 cases e:d i with
 | false=>rfl
 | true=>rw[h.dep hp hij e] at hd;simp at hd
theorem Closed.next {ops:Array Oper} {d:Nat→Bool} (h:Closed ops d) {i:Nat} {o:Oper} (ho:ops[i]? = some o) (hdep:∀ e ∈ o.after,Region.binds .any e=true→d e.on=true):Closed ops (came d i):=fun j oj hj hd e he hbi=>by
 by_cases e1:e.on=i
 ·rw[e1];exact q9 d i
 ·rw[sj d e1]
  by_cases e2:j=i
  ·subst e2
   rw[ho] at hj
   obtain rfl:=Option.some.inj hj
   exact hdep e he hbi
  ·rw[sj d e2] at hd
   exact h j oj hj hd e he hbi
structure qtl {α:Type} (ops:Array Oper) (base:Act) (H:α→(Nat→Bool)→World→Prop) (V:α→Nat→Value) (T:Nat→Nat) (wr:Nat→Bool) (m:Nat) (d:Nat→Bool) (a:Act) (w:World) (N:α):Prop where
 down:Closed ops d
 mem:H N d w
 size:a.tmps.size=base.tmps.size
 defers:a.defers=base.defers
 rest:∀ t,(∀ j,j<m→wr j=true→d j=true→t≠T j)→a.tmps[t]? = base.tmps[t]?
 has:∀ i,i<m→wr i=true→d i=true→a.eval (.tmp (T i))=V N i
theorem jm {P:Program} {id:Nat} {ops:Array Oper} {Q:Exit→Act→World→Prop} {base:Act} {W0:World} (hm:P.follows .mixedOrders=true)
  (hlow:∀ i o,ops[i]? = some o→∀ e ∈ o.after,Region.binds .any e=true→e.on<i)
  (hg:∀ (i:Nat) (o:Oper),ops[i]? = some o→o.guard=none)
  {α:Type} (H:α→(Nat→Bool)→World→Prop) (V:α→Nat→Value) (T:Nat→Nat) (wr:Nat→Bool) (m:Nat) (hsz:ops.size=m)
  (hinj:∀ i j,i<m→j<m→wr i=true→wr j=true→T i=T j→i=j) (hT:∀ i,i<m→wr i=true→T i<base.tmps.size) (N0:α) (h0:H N0 (fun _=>false) W0.drew)
  (hstep:∀ (N:α) (d:Nat→Bool) (i:Nat) (o:Oper) (a:Act) (w:World) (K:Act→World→Prop),i<m→ops[i]? = some o→d i=false→Closed ops d→H N d w→(∀ t,(∀ j,j<m→wr j=true→d j=true→t≠T j)→a.eval (.tmp t)=base.eval (.tmp t))→(∀ e ∈ o.after,Region.binds .any e=true→d e.on=true∧(wr e.on=true→a.eval (.tmp (T e.on))=V N e.on))→(∀ N' v w',(wr i=true→v=V N' i)→(∀ j,j<m→wr j=true→d j=true→V N' j=V N j)→H N' (came d i) w'→K (a.put (if wr i=true then some (T i) else none) v) w')→o.wp P a w K Q)
  (hend:∀ N d w,(∀ i,i<m→d i=true)→H N d w→Q .normal (qx base (((List.range m).filter wr).map fun i=>(T i,V N i))) w) :
  (Code.region id ops true).wp P Q base W0:=by
 have wpo:∀ i o a w (K:Act→World→Prop),ops[i]? = some o→o.wp P a w K Q→wpOp P ops Q i K a w:=fun i o a w K ho h=>by
  unfold wpOp
  simp only[ho,Region.wanted,hg i o ho,if_true]
  exact .inl h
 refine zff hm hlow (fun d a w=>∃ N,qtl ops base H V T wr m d a w N) ?_ ?_ ?_
 ·exact⟨N0,fun _ _ _ h=>by simp at h,h0,rfl,rfl,fun _ _=>rfl,fun _ _ _ h=>by simp at h⟩
 ·rintro d a w hd ⟨N,h⟩
  have ea:a=qx base (((List.range m).filter wr).map fun i=>(T i,V N i)):=by
   refine zgs _ base a h.defers h.size (fun p hp=>?_) (fun t ht=>?_)
   ·obtain⟨i,hi,rfl⟩:=List.mem_map.1 hp
    obtain⟨hi1,hi2⟩:=List.mem_filter.1 hi
    have hi':=List.mem_range.1 hi1
    exact zfq (h.has i hi' hi2 (hd i (by omega))) (by rw[h.size];exact hT i hi' hi2)
   ·refine h.rest t (fun j hj hw hdj e=>?_)
    exact ht (T j,V N j) (List.mem_map.2 ⟨j,List.mem_filter.2 ⟨List.mem_range.2 hj,hw⟩,rfl⟩) e
  rw[ea]
  exact hend N d w (fun i hi=>hd i (by omega)) h.mem
 ·rintro d i o a w ho hdi hdep ⟨N,h⟩
  refine wpo i o a w _ ho ?_
  have hi:i<m:=by rw[← hsz];exact (Array.getElem?_eq_some_iff.1 ho).1
  refine hstep N d i o a w _ hi ho hdi h.down h.mem (fun t ht=>zyx (h.rest t ht)) (fun ed he hb=>⟨hdep ed he hb,fun hw=>h.has _ (by have:=hlow i o ho ed he hb;omega) hw (hdep ed he hb)⟩) ?_
  rintro N' v w' hv hV hH
  by_cases hw:wr i=true
  ·obtain rfl:=hv hw
   rw[if_pos hw]
   refine⟨N',h.down.next ho hdep,hH,by rw[zdc];exact h.size,h.defers,fun t ht=>?_,fun j hj hwj hd=>?_⟩
   ·rw[zkn,if_neg (fun e=>ht i hi hw (q9 d i) e.symm)]
    refine h.rest t (fun j hj hwj hdj=>ht j hj hwj ?_)
    by_cases e:j=i
    ·subst e;exact q9 d j
    ·rw[sj d e];exact hdj
   ·by_cases e:j=i
    ·subst e
     exact at_eq a (T j) _ (by rw[h.size];exact hT j hj hwj)
    ·rw[sj d e] at hd
     rw[qop a (T i) (T j) _ (fun e2=>e (hinj j i hj hi hwj hw e2)),h.has j hj hwj hd]
     exact (hV j hj hwj hd).symm
  ·rw[if_neg hw]
   have ne:∀ j,wr j=true→j≠i:=fun j hj e=>hw (e ▸ hj)
   refine⟨N',h.down.next ho hdep,hH,h.size,h.defers,fun t ht=>h.rest t (fun j hj hwj hdj=>ht j hj hwj (by rw[sj d (ne j hwj)];exact hdj)),fun j hj hwj hd=>?_⟩
   rw[sj d (ne j hwj)] at hd
   rw[show a.put none v=a from rfl,h.has j hj hwj hd]
   exact (hV j hj hwj hd).symm
theorem o9 (w:World) (g k:Nat) (v:Value):w.setCell ⟨g,k,none⟩ v=w.setCells g k [v]:=rfl
structure ah (w:World) (g n:Nat) (F:Nat→Int):Prop where
 cells:∀ k,k<n→w.cell? ⟨g,k,none⟩=some (.int .i64 (F k))
 loose:∀ j,w.frozen? ⟨g,j,none⟩=false
 lt:g<w.heap.size
theorem ah.but {w w':World} {g n:Nat} {F:Nat→Int} {l:List Nat} (h:ah w g n F) (hb:But l w w') (hn:g ∉ l):ah w' g n F :=
 ⟨fun k hk=>hb.zb (h.cells k hk) hn,fun j=>(hb.frozen (p:=⟨g,j,none⟩) h.lt hn).trans (h.loose j),Nat.lt_of_lt_of_le h.lt hb.size⟩
def zcz (F:Nat→Int) (k:Nat) (z:Int):Nat→Int:=fun i=>if i=k then z else F i
theorem zec (F:Nat→Int) (k:Nat) (z:Int):zcz F k z k=z:=by simp[zcz]
theorem zpr (F:Nat→Int) {k i:Nat} (z:Int) (h:i≠k):zcz F k z i=F i:=by simp[zcz,h]
theorem ah.put {w:World} {g n:Nat} {F:Nat→Int} (h:ah w g n F) (k:Nat) (hk:k<n) (z:Int):ah (w.setCell ⟨g,k,none⟩ (.int .i64 z)) g n (zcz F k z):=by
 rw[o9]
 refine⟨fun i hi=>?_,fun j=>by rw[World.frozen?_setCells];exact h.loose j,Nat.lt_of_lt_of_le h.lt (zy w g _ k).size⟩
 by_cases e:i=k
 ·subst e
  have e1:=World.cell?_setCells_in g [.int .i64 z] i w (fun j hj=>by
   obtain rfl:j=0:=by simpa using hj
   rw[Nat.add_zero,h.cells i hi];rfl) 0 (by simp)
  rw[Nat.add_zero] at e1
  rw[e1,zec]
  rfl
 ·rw[World.cell?_setCells_out g _ _ _ _ (fun _ _=>by simp only[List.length_cons,List.length_nil];omega),zpr F z e]
  exact h.cells i hi
theorem ah.zch (w:World) (g k:Nat) (z:Int):But [g] w (w.setCell ⟨g,k,none⟩ (.int .i64 z)):=by rw[o9];exact zy w g _ k
theorem qaa (z:Value) (n k:Nat) (h:k<n):(madeCells #[z] n)[k]? = some z:=by
 unfold madeCells
 rw[Array.getElem?_map,Array.getElem?_eq_getElem (by simpa using h),Array.getElem_range,Option.map_some]
 have e:k%(#[z]:Array Value).size=0:=by simp[Nat.mod_one]
 rw[e]
 rfl
theorem ah.made (w:World) (n:Nat) (t:TypeId):ah (w.alloc (.cells (madeCells #[.int .i64 0] n) t)) w.heap.size n (fun _=>0) :=
 ⟨fun k hk=>by rw[World.cell?_alloc_new,qaa _ n k hk],fun j=>by simp,by simp⟩
theorem qam:∃ i,prog.info? 3 = some i∧i.zero=some (.int .i64 0)∧i.size=1∧i.bytes=8:=by
 have h:(prog.info? 3).map (fun i=>(i.zero,i.size,i.bytes))=some (some (.int .i64 0),1,8):=by kernel_rfl
 cases e:prog.info? 3 with
 | none=>rw[e] at h;simp at h
 | some i =>
  rw[e] at h
  simp only[Option.map_some,Option.some.injEq,Prod.mk.injEq] at h
  exact⟨i,rfl,h.1,h.2.1,h.2.2⟩
theorem zot (wx:World) (n:Nat) (h:n<1000000):(Instr.makeSlice 56 (.int .i64 (n:Int)) (.int .i64 (n:Int))).run prog wx=.ok (.slice (some ⟨wx.heap.size,0,none⟩) n n) (wx.alloc (.cells (madeCells #[.int .i64 0] n) 3)):=by
 obtain⟨ti,hi,hz,hs,hbt⟩:=qam
 have hmk:=run_make (P:=prog) wx 56 3 ti _ underlying56 hi hz .i64 .i64 (n:Int) (n:Int) (by omega) (by omega) (by rw[hbt];omega) (by omega)
 rw[hs,Int.toNat_natCast,Nat.mul_one] at hmk
 exact hmk
structure znj (B:Nat) (w:World) (g n:Nat):Prop where
 row:ah w g n (fun _=>0)
 new:B≤g
theorem znj.but {B:Nat} {w w':World} {g n:Nat} (h:znj B w g n) (hb:But [] w w'):znj B w' g n:=⟨h.row.but hb (by simp),h.new⟩
theorem znj.lt {B:Nat} {w:World} {g n:Nat} (h:znj B w g n):g<w.heap.size:=h.row.lt
structure jy (B:Nat) (w:World) (g:Nat) (vs:List Value):Prop where
 cells:∀ k v,vs[k]? = some v→w.cell? ⟨g,k,none⟩=some v
 loose:∀ j,w.frozen? ⟨g,j,none⟩=false
 new:B≤g
 lt:g<w.heap.size
theorem jy.but {B:Nat} {w w':World} {g:Nat} {vs:List Value} (h:jy B w g vs) (hb:But [] w w'):jy B w' g vs :=
 ⟨fun k v hv=>hb.zb (h.cells k v hv) (by simp),fun j=>(hb.frozen (p:=⟨g,j,none⟩) h.lt (by simp)).trans (h.loose j),h.new,Nat.lt_of_lt_of_le h.lt hb.size⟩
theorem jy.made (B:Nat) (w:World) (vs:List Value) (t:TypeId) (h:B≤w.heap.size):jy B (w.alloc (.cells vs.toArray t)) w.heap.size vs :=
 ⟨fun k v hv=>by rw[World.cell?_alloc_new];simpa using hv,fun j=>by simp,h,by simp⟩
structure zjk (w:World) (g n:Nat) (V:Nat→Value) (F:Nat→Int):Prop where
 one:∀ k,k<n→w.cell? ⟨g,k*2,none⟩=some (V k)
 two:∀ k,k<n→w.cell? ⟨g,k*2+1,none⟩=some (.int .i64 (F k))
 loose:∀ j,w.frozen? ⟨g,j,none⟩=false
 lt:g<w.heap.size
theorem zjk.but {w w':World} {g n:Nat} {V:Nat→Value} {F:Nat→Int} {l:List Nat} (h:zjk w g n V F) (hb:But l w w') (hn:g ∉ l):zjk w' g n V F :=
 ⟨fun k hk=>hb.zb (h.one k hk) hn,fun k hk=>hb.zb (h.two k hk) hn,fun j=>(hb.frozen (p:=⟨g,j,none⟩) h.lt hn).trans (h.loose j),Nat.lt_of_lt_of_le h.lt hb.size⟩
def zrt (F:Nat→Value) (k:Nat) (z:Value):Nat→Value:=fun i=>if i=k then z else F i
theorem zjk.put {w:World} {g n:Nat} {V:Nat→Value} {F:Nat→Int} (h:zjk w g n V F) (k:Nat) (hk:k<n) (v:Value) (z:Int):zjk (w.setCells g (k*2) [v,.int .i64 z]) g n (zrt V k v) (zcz F k z):=by
 have inn:=World.cell?_setCells_in g [v,.int .i64 z] (k*2) w (fun j hj=>by
  have:j=0∨j=1:=by simp at hj;omega
  rcases this with rfl|rfl
  ·rw[Nat.add_zero,h.one k hk];rfl
  ·rw[h.two k hk];rfl)
 refine⟨fun i hi=>?_,fun i hi=>?_,fun j=>by rw[World.frozen?_setCells];exact h.loose j,Nat.lt_of_lt_of_le h.lt (zy w g _ _).size⟩
 ·by_cases e:i=k
  ·subst e
   have e1:=inn 0 (by simp)
   rw[Nat.add_zero] at e1
   rw[e1]
   simp[zrt]
  ·rw[World.cell?_setCells_out g _ _ _ _ (fun _ _=>by simp only[List.length_cons,List.length_nil];omega),h.one i hi]
   simp[zrt,e]
 ·by_cases e:i=k
  ·subst e
   have e1:=inn 1 (by simp)
   rw[e1]
   simp[zcz]
  ·rw[World.cell?_setCells_out g _ _ _ _ (fun _ _=>by simp only[List.length_cons,List.length_nil];omega),h.two i hi]
   simp[zcz,e]
theorem ztd (a b:Value) (n:Nat) (k:Nat) (h:k<n):(madeCells #[a,b] (n*2))[k*2]? = some a∧(madeCells #[a,b] (n*2))[k*2+1]? = some b:=by
 unfold madeCells
 refine⟨?_,?_⟩
 ·rw[Array.getElem?_map,Array.getElem?_eq_getElem (by simp <;> omega),Array.getElem_range,Option.map_some]
  have e:k*2%(#[a,b]:Array Value).size=0:=by simp
  rw[e]
  rfl
 ·rw[Array.getElem?_map,Array.getElem?_eq_getElem (by simp <;> omega),Array.getElem_range,Option.map_some]
  have e:(k*2+1)%(#[a,b]:Array Value).size=1:=by simp <;> omega
  rw[e]
  rfl
theorem zjk.made (w:World) (n:Nat) (t:TypeId):zjk (w.alloc (.cells (madeCells #[.slice none 0 0,.int .i64 0] (n*2)) t)) w.heap.size n (fun _=>.slice none 0 0) (fun _=>0) :=
 ⟨fun k hk=>by rw[World.cell?_alloc_new,(ztd _ _ n k hk).1],fun k hk=>by rw[World.cell?_alloc_new,(ztd _ _ n k hk).2],fun j=>by simp,by simp⟩
theorem qal:∃ i,prog.info? 65 = some i∧i.zero=some (.agg #[.slice none 0 0,.int .i64 0])∧i.size=2∧i.bytes=32:=by
 have h:(prog.info? 65).map (fun i=>(i.zero,i.size,i.bytes))=some (some (.agg #[.slice none 0 0,.int .i64 0]),2,32):=by kernel_rfl
 cases e:prog.info? 65 with
 | none=>rw[e] at h;simp at h
 | some i =>
  rw[e] at h
  simp only[Option.map_some,Option.some.injEq,Prod.mk.injEq] at h
  exact⟨i,rfl,h.1,h.2.1,h.2.2⟩
theorem zys (wx:World) (n:Nat) (h:n<1000000):(Instr.makeSlice 55 (.int .i64 (n:Int)) (.int .i64 (n:Int))).run prog wx=.ok (.slice (some ⟨wx.heap.size,0,none⟩) n n) (wx.alloc (.cells (madeCells #[.slice none 0 0,.int .i64 0] (n*2)) 65)):=by
 obtain⟨ti,hi,hz,hs,hbt⟩:=qal
 have hmk:=run_make (P:=prog) wx 55 65 ti _ underlying55 hi hz .i64 .i64 (n:Int) (n:Int) (by omega) (by omega) (by rw[hbt];omega) (by omega)
 rw[hs,Int.toNat_natCast] at hmk
 exact hmk
structure zww (B:Nat) (w:World) (g n:Nat):Prop where
 row:zjk w g n (fun _=>.slice none 0 0) (fun _=>0)
 new:B≤g
theorem zww.but {B:Nat} {w w':World} {g n:Nat} (h:zww B w g n) (hb:But [] w w'):zww B w' g n:=⟨h.row.but hb (by simp),h.new⟩
theorem zww.lt {B:Nat} {w:World} {g n:Nat} (h:zww B w g n):g<w.heap.size:=h.row.lt
structure zng (B:Nat) (w:World) (sh gb n:Nat) (ss bs:Nat→Int):Prop where
 share:ah w sh n ss
 new:B≤sh
 borne:ah w gb n bs
theorem jy.put {B:Nat} {w:World} {g:Nat} {vs us:List Value} (h:jy B w g vs) (hl:us.length=vs.length):jy B (w.setCells g 0 us) g us:=by
 refine⟨fun k v hv=>?_,fun j=>by rw[World.frozen?_setCells];exact h.loose j,h.new,Nat.lt_of_lt_of_le h.lt (zy w g _ _).size⟩
 have hk:k<us.length:=(List.getElem?_eq_some_iff.1 hv).1
 have e:=World.cell?_setCells_in g us 0 w (fun j hj=>by
  rw[Nat.zero_add,h.cells j vs[j] (List.getElem?_eq_getElem (by omega))];rfl) k hk
 rw[Nat.zero_add] at e
 rw[e,← (List.getElem?_eq_some_iff.1 hv).2]
theorem jy.putAt {B:Nat} {w:World} {g:Nat} {vs:List Value} (h:jy B w g vs) (o:Nat) (us:List Value) (hl:o+us.length≤vs.length):jy B (w.setCells g o us) g (vs.take o++us++vs.drop (o+us.length)):=by
 refine⟨fun k v hv=>?_,fun j=>by rw[World.frozen?_setCells];exact h.loose j,h.new,Nat.lt_of_lt_of_le h.lt (zy w g _ _).size⟩
 have hto:(vs.take o).length=o:=by rw[List.length_take];omega
 rcases Nat.lt_or_ge k o with h1 | h1
 ·rw[World.cell?_setCells_out g _ _ _ _ (fun _ _=>.inl h1)]
  rw[List.append_assoc,List.getElem?_append_left (by omega),List.getElem?_take_of_lt h1] at hv
  exact h.cells k v hv
 ·rcases Nat.lt_or_ge k (o+us.length) with h2 | h2
  ·have e:=World.cell?_setCells_in g us o w (fun j hj=>by
    rw[h.cells (o+j) vs[o+j] (List.getElem?_eq_getElem (by omega))];rfl) (k-o) (by omega)
   rw[show o+(k-o)=k by omega] at e
   rw[List.append_assoc,List.getElem?_append_right (by omega),hto,List.getElem?_append_left (by omega)] at hv
   rw[e,← (List.getElem?_eq_some_iff.1 hv).2]
  ·rw[World.cell?_setCells_out g _ _ _ _ (fun _ _=>.inr h2)]
   rw[List.append_assoc,List.getElem?_append_right (by omega),hto,List.getElem?_append_right (by omega),List.getElem?_drop,show o+us.length+(k-o-us.length)=k by omega] at hv
   exact h.cells k v hv
theorem jy.beside {B:Nat} {w w':World} {g:Nat} {vs:List Value} {l:List Nat} (h:jy B w g vs) (hb:But l w w') (hn:g ∉ l):jy B w' g vs :=
 ⟨fun k v hv=>hb.zb (h.cells k v hv) hn,fun j=>(hb.frozen (p:=⟨g,j,none⟩) h.lt hn).trans (h.loose j),h.new,Nat.lt_of_lt_of_le h.lt hb.size⟩
end Go.Proofs.YtcgecpoedojhjaaGreatDoor
