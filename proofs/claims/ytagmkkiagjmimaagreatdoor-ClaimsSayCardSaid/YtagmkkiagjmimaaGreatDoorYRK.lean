/- A region that draws its order: values ma -/
import Derived.Test.YtagmkkiagjmimaaGreatDoorYRJ
namespace Go.Proofs.YtagmkkiagjmimaaGreatDoor
set_option linter.unusedVariables false
open Go.RowKit
structure zil (base:Act) (H:(Nat→Bool)→World→Prop) (C:Nat→World→Value→Prop) (T:Nat→Nat) (m:Nat) (d:Nat→Bool) (a:Act) (w:World):Prop where
 mem:H d w
 size:a.tmps.size=base.tmps.size
 defers:a.defers=base.defers
 rest:∀ t,(∀ j,j<m→t≠T j)→a.tmps[t]? = base.tmps[t]?
 has:∀ i,i<m→d i=true→C i w (a.eval (.tmp (T i)))
theorem zil.next {base:Act} {H:(Nat→Bool)→World→Prop} {C:Nat→World→Value→Prop} {T:Nat→Nat} {m:Nat} {d:Nat→Bool} {a:Act} {w:World} (h:zil base H C T m d a w)
  (hinj:∀ i j,i<m→j<m→T i=T j→i=j) (hT:∀ i,i<m→T i<base.tmps.size)
  (i:Nat) (hi:i<m) (v:Value) (w':World) (hH:H (came d i) w') (hC:∀ j,j<m→d j=true→∀ u,C j w u→C j w' u) (hv:C i w' v):zil base H C T m (came d i) (a.put (some (T i)) v) w' where
 mem:=hH
 size:=by rw[o9];exact h.size
 defers:=h.defers
 rest:=fun t ht=>by rw[zde,if_neg (fun e=>ht i hi e.symm)];exact h.rest t ht
 has:=fun j hj hd=>by
  by_cases e:j=i
  ·subst e
   rw[at_eq a (T j) v (by rw[h.size];exact hT j hj)]
   exact hv
  ·rw[kr d e] at hd
   rw[zuj a (T i) (T j) v (fun e2=>e (hinj j i hj hi e2))]
   exact hC j hj hd _ (h.has j hj hd)
theorem zil.eval {base:Act} {H:(Nat→Bool)→World→Prop} {C:Nat→World→Value→Prop} {T:Nat→Nat} {m:Nat} {d:Nat→Bool} {a:Act} {w:World} (h:zil base H C T m d a w) (t:Nat) (ht:∀ j,j<m→t≠T j):a.eval (.tmp t)=base.eval (.tmp t):=by
 show a.tmps.getD t undef=base.tmps.getD t undef
 simp only[Array.getD_eq_getD_getElem?,h.rest t ht]
theorem zil.puts {base:Act} {H:(Nat→Bool)→World→Prop} {C:Nat→World→Value→Prop} {T:Nat→Nat} {m:Nat} {d:Nat→Bool} {a:Act} {w:World} (h:zil base H C T m d a w) (hT:∀ i,i<m→T i<base.tmps.size) (V:Nat→Value) (hV:∀ i,i<m→a.eval (.tmp (T i))=V i):a=bj base ((List.range m).map fun i=>(T i,V i)):=by(
 refine zdi _ base a h.defers h.size (fun p hp=>?_) (fun t ht=>?_)
 ·obtain⟨i,hi,rfl⟩:=List.mem_map.1 hp
  have hi':=List.mem_range.1 hi
  exact zfv (hV i hi') (by rw[h.size];exact hT i hi')
 ·refine h.rest t (fun j hj e=>?_)
  exact ht (T j,V j) (List.mem_map.2 ⟨j,List.mem_range.2 hj,rfl⟩) e)
theorem zas {P:Program} {id:Nat} {ops:Array Oper} {Q:Exit→Act→World→Prop} {base:Act} {W0:World} (hm:P.follows .mixedOrders=true)
   (hlow:∀ i o,ops[i]? = some o→∀ e ∈ o.after,Region.binds .any e=true→e.on<i)
   (hg:∀ (i:Nat) (o:Oper),ops[i]? = some o→o.guard=none)
   (H:(Nat→Bool)→World→Prop) (C:Nat→World→Value→Prop) (T:Nat→Nat) (m:Nat) (hsz:ops.size=m+1)
   (hinj:∀ i j,i<m→j<m→T i=T j→i=j) (hT:∀ i,i<m→T i<base.tmps.size) (h0:H (fun _=>false) W0.drew)
   (hall:∀ i,i<m→∃ o,ops[m]? = some o∧∃ e ∈ o.after,Region.binds .any e=true∧e.on=i)
   (hstep:∀ (d:Nat→Bool) (i:Nat) (o:Oper) (a:Act) (w:World) (K:Act→World→Prop),i<m→ops[i]? = some o→d i=false→H d w→(∀ t,(∀ j,j<m→t≠T j)→a.eval (.tmp t)=base.eval (.tmp t))→(∀ e ∈ o.after,Region.binds .any e=true→d e.on=true∧C e.on w (a.eval (.tmp (T e.on))))→(∀ v w',H (came d i) w'→(∀ j,j<m→d j=true→∀ u,C j w u→C j w' u)→C i w' v→K (a.put (some (T i)) v) w')→o.wp P a w K Q)
   (Fin:Act→World→Prop)
   (hlast:∀ (d:Nat→Bool) (o:Oper) (a:Act) (w:World) (K:Act→World→Prop),ops[m]? = some o→(∀ i,i<m→d i=true)→zil base H C T m d a w→(∀ a' w',Fin a' w'→K a' w')→o.wp P a w K Q)
   (hend:∀ a w,Fin a w→Q .normal a w) :
   (Code.region id ops true).wp P Q base W0:=by(
 have wpo:∀ i o a w (K:Act→World→Prop),ops[i]? = some o→o.wp P a w K Q→wpOp P ops Q i K a w:=fun i o a w K ho h=>by
  unfold wpOp
  simp only[ho,Region.wanted,hg i o ho,if_true]
  exact .inl h
 refine zbw hm hlow (fun d a w=>if d m=true then (Fin a w∧∀ i,i<m→d i=true) else zil base H C T m d a w) ?_ ?_ ?_
 ·simp only[Bool.false_eq_true,if_false]
  exact⟨h0,rfl,rfl,fun _ _=>rfl,fun _ _ h=>by simp at h⟩
 ·intro d a w hd h
  rw[if_pos (hd m (by omega))] at h
  exact hend a w h.1
 ·(
 intro d i o a w ho hdi hdep h
 refine wpo i o a w _ ho ?_
 have hi:i<m+1:=by rw[← hsz];exact (Array.getElem?_eq_some_iff.1 ho).1
 by_cases e:i=m
 ·(
 subst e
 rw[if_neg (by rw[hdi];simp)] at h
 have hd:∀ j,j<i→d j=true:=fun j hj=>by
  obtain⟨o',ho',ed,he,hb,rfl⟩:=hall j hj
  rw[ho] at ho'
  obtain rfl:=Option.some.inj ho'
  exact hdep ed he hb
 refine hlast d o a w _ ho hd h (fun a' w' hf=>?_)
 rw[if_pos (ek d i)]
 exact⟨hf,fun j hj=>by rw[kr d (by omega)];exact hd j hj⟩)
 ·(
 have him:i<m:=by omega
 by_cases hdm:d m=true
 ·exfalso
  rw[if_pos hdm] at h
  rw[h.2 i him] at hdi
  simp at hdi
 ·rw[if_neg hdm] at h
  refine hstep d i o a w _ him ho hdi h.mem (fun t ht=>h.eval t ht) (fun ed he hb=>⟨hdep ed he hb,h.has _ (by have:=hlow i o ho ed he hb;omega) (hdep ed he hb)⟩) (fun v w' hH hC hv=>?_)
  rw[if_neg (by rw[kr d (Ne.symm e)];exact hdm)]
  exact h.next hinj hT i him v w' hH hC hv)))
def Down (ops:Array Oper) (d:Nat→Bool):Prop:=∀ i o,ops[i]? = some o→d i=true→∀ e ∈ o.after,Region.binds .any e=true→d e.on=true
structure Run (W:World) (ops:Array Oper) (base:Act) (C:Nat→World→Value→Prop) (T:Nat→Nat) (d:Nat→Bool) (a:Act) (w:World):Prop where
 down:Down ops d
 but:But [] W w
 size:a.tmps.size=base.tmps.size
 defers:a.defers=base.defers
 rest:∀ t,(∀ j,j<ops.size→d j=true→t≠T j)→a.tmps[t]? = base.tmps[t]?
 has:∀ i,i<ops.size→d i=true→C i w (a.eval (.tmp (T i)))
theorem Run.eval {W:World} {ops:Array Oper} {base:Act} {C:Nat→World→Value→Prop} {T:Nat→Nat} {d:Nat→Bool} {a:Act} {w:World} (h:Run W ops base C T d a w) (t:Nat) (ht:∀ j,j<ops.size→d j=true→t≠T j):a.eval (.tmp t)=base.eval (.tmp t):=by
 show a.tmps.getD t undef=base.tmps.getD t undef
 simp only[Array.getD_eq_getD_getElem?,h.rest t ht]
theorem Run.next {W:World} {ops:Array Oper} {base:Act} {C:Nat→World→Value→Prop} {T:Nat→Nat} {d:Nat→Bool} {a:Act} {w:World} (h:Run W ops base C T d a w)
   (hinj:∀ i j,i<ops.size→j<ops.size→T i=T j→i=j) (hT:∀ i,i<ops.size→T i<base.tmps.size) (hC:∀ i w w' v,i<ops.size→C i w v→But [] w w'→C i w' v)
   (i:Nat) (o:Oper) (ho:ops[i]? = some o) (hdep:∀ e ∈ o.after,Region.binds .any e=true→d e.on=true) (v:Value) (w':World) (hb:But [] w w') (hv:C i w' v):Run W ops base C T (came d i) (a.put (some (T i)) v) w':=by(
 have hi:i<ops.size:=(Array.getElem?_eq_some_iff.1 ho).1
 refine⟨fun j oj hj hd e he hbi=>?_,h.but.trans' hb,by rw[o9];exact h.size,h.defers,fun t ht=>?_,fun j hj hd=>?_⟩
 ·(
 by_cases e1:e.on=i
 ·rw[e1];exact ek d i
 ·(
 rw[kr d e1]
 by_cases e2:j=i
 ·subst e2
  rw[ho] at hj
  obtain rfl:=Option.some.inj hj
  exact hdep e he hbi
 ·rw[kr d e2] at hd
  exact h.down j oj hj hd e he hbi))
 ·(
 rw[zde,if_neg (fun e=>ht i hi (ek d i) e.symm)]
 exact h.rest t (fun j hj hd=>by
  by_cases e:j=i
  ·subst e;exact ht j hj (ek d j)
  ·exact ht j hj (by rw[kr d e];exact hd)))
 ·(
 by_cases e:j=i
 ·subst e
  rw[at_eq a (T j) v (by rw[h.size];exact hT j hj)]
  exact hv
 ·rw[kr d e] at hd
  rw[zuj a (T i) (T j) v (fun e2=>e (hinj j i hj hi e2))]
  exact hC j w w' _ hj (h.has j hj hd) hb))
def zhi (ops:Array Oper) (T:Nat→Nat):Bool:=(List.range ops.size).all fun i=>match ops[i]? with
 | some o=>(o.dst==some (T i)) && (match o.guard with | none=>true | some (j,_)=>decide (j<ops.size) && o.after.any fun e=>Region.binds .any e && e.on==j)
 | none=>true
theorem zst {ops:Array Oper} {T:Nat→Nat} (h:zhi ops T=true):∀ (i:Nat) (o:Oper),ops[i]? = some o→o.dst=some (T i)∧∀ j want,o.guard=some (j,want)→j<ops.size∧∃ e ∈ o.after,Region.binds .any e=true∧e.on=j:=fun i o ho=>by
 have hi:i<ops.size:=(Array.getElem?_eq_some_iff.1 ho).1
 unfold zhi at h
 rw[List.all_eq_true] at h
 have h1:=h i (List.mem_range.2 hi)
 simp only[ho,Bool.and_eq_true,beq_iff_eq] at h1
 refine⟨h1.1,fun j want hg=>?_⟩
 have h2:=h1.2
 rw[hg] at h2
 simp only[Bool.and_eq_true,decide_eq_true_eq] at h2
 refine⟨h2.1,?_⟩
 have h3:=h2.2
 rw[Array.any_eq_true] at h3
 obtain⟨k,hk,h4⟩:=h3
 simp only[Bool.and_eq_true,beq_iff_eq] at h4
 exact⟨o.after[k],Array.getElem_mem hk,h4.1,h4.2⟩
theorem ziw {P:Program} {id:Nat} {ops:Array Oper} {Q:Exit→Act→World→Prop} {base:Act} {W0:World} (hm:P.follows .mixedOrders=true)
   (hlow:∀ i o,ops[i]? = some o→∀ e ∈ o.after,Region.binds .any e=true→e.on<i)
   (C:Nat→World→Value→Prop) (T:Nat→Nat) (hpl:zhi ops T=true)
   (hgd:∀ (i:Nat) (o:Oper) (j:Nat) (want:Bool),ops[i]? = some o→o.guard=some (j,want)→∀ w v,C j w v→v=.bool want)
   (hinj:∀ i j,i<ops.size→j<ops.size→T i=T j→i=j) (hT:∀ i,i<ops.size→T i<base.tmps.size) (hC:∀ i w w' v,i<ops.size→C i w v→But [] w w'→C i w' v)
   (hstep:∀ (i:Nat) (o:Oper) (a:Act) (w:World) (K:Act→World→Prop),ops[i]? = some o→But [] W0.drew w→(∀ t,(∀ j,j<ops.size→t=T j→∃ oj,ops[j]? = some oj∧∃ e ∈ oj.after,Region.binds .any e=true∧e.on=i)→a.eval (.tmp t)=base.eval (.tmp t))→(∀ e ∈ o.after,Region.binds .any e=true→C e.on w (a.eval (.tmp (T e.on))))→(∀ v w',But [] w w'→C i w' v→K (a.put o.dst v) w')→o.wp P a w K Q)
   (hend:∀ a w,Run W0.drew ops base C T (fun _=>true) a w→Q .normal a w) :
   (Code.region id ops true).wp P Q base W0:=by(
 have hp:=zst hpl
 refine zbw hm hlow (fun d a w=>Run W0.drew ops base C T d a w) ?_ ?_ ?_
 ·exact⟨fun _ _ _ h=>by simp at h,But.refl _ _,rfl,rfl,fun _ _=>rfl,fun _ _ h=>by simp at h⟩
 ·intro d a w hd h
  refine hend a w ⟨fun _ _ _ _ _ _ _=>rfl,h.but,h.size,h.defers,fun t ht=>h.rest t (fun j hj _=>ht j hj rfl),fun i hi _=>h.has i hi (hd i hi)⟩
 ·(
 intro d i o a w ho hdi hdep h
 have hi:i<ops.size:=(Array.getElem?_eq_some_iff.1 ho).1
 obtain⟨hdst,hg⟩:=hp i o ho
 have hw:Region.wanted o (yielded ops a.tmps)=true:=by
  unfold Region.wanted
  cases hgo:o.guard with
  | none=>rfl
  | some jw =>
   obtain⟨j,want⟩:=jw
   obtain⟨hj,e,he,hbi,hon⟩:=hg j want hgo
   have hdj:d j=true:=by rw[← hon];exact hdep e he hbi
   have hv:=hgd i o j want ho hgo w _ (h.has j hj hdj)
   have hoj:=Array.getElem?_eq_getElem hj
   have hdj2:=(hp j _ hoj).1
   have hsl:=zfv hv (by rw[h.size];exact hT j hj)
   show (yielded ops a.tmps j==some want)=true
   unfold yielded
   rw[hoj,Option.bind_some,hdj2,Option.bind_some,hsl]
   simp
 unfold wpOp
 simp only[ho,hw,if_true]
 refine .inl (hstep i o a w _ ho h.but (fun t ht=>h.eval t (fun j hj hd e=>?_)) (fun e he hb=>h.has _ (by have:=hlow i o ho e he hb;omega) (hdep e he hb)) (fun v w' hb hv=>?_))
 ·obtain⟨oj,hoj,ed,hed,hbi,hon⟩:=ht j hj e
  have:=h.down j oj hoj hd ed hed hbi
  rw[hon,hdi] at this
  simp at this
 ·rw[hdst]
  exact h.next hinj hT hC i o ho hdep v w' hb hv))
theorem Run.puts {W:World} {ops:Array Oper} {base:Act} {C:Nat→World→Value→Prop} {T:Nat→Nat} {a:Act} {w:World} (h:Run W ops base C T (fun _=>true) a w) (hT:∀ i,i<ops.size→T i<base.tmps.size) (V:Nat→Value) (hV:∀ i,i<ops.size→a.eval (.tmp (T i))=V i):a=bj base ((List.range ops.size).map fun i=>(T i,V i)):=by(
 refine zdi _ base a h.defers h.size (fun p hp=>?_) (fun t ht=>?_)
 ·obtain⟨i,hi,rfl⟩:=List.mem_map.1 hp
  have hi':=List.mem_range.1 hi
  exact zfv (hV i hi') (by rw[h.size];exact hT i hi')
 ·refine h.rest t (fun j hj _ e=>?_)
  exact ht (T j,V j) (List.mem_map.2 ⟨j,List.mem_range.2 hj,rfl⟩) e)
theorem zjz {P:Program} {id:Nat} {ops:Array Oper} {Q:Exit→Act→World→Prop} {base:Act} {W0:World} (hm:P.follows .mixedOrders=true)
   (hlow:∀ i o,ops[i]? = some o→∀ e ∈ o.after,Region.binds .any e=true→e.on<i)
   (C:Nat→World→Value→Prop) (T:Nat→Nat) (hpl:zhi ops T=true) (sk:Nat→Bool)
   (hgd:∀ (i:Nat) (o:Oper) (j:Nat) (want:Bool),ops[i]? = some o→o.guard=some (j,want)→∀ w v,C j w v→v=.bool (if sk i then !want else want))
   (hsk:∀ (i:Nat) (o:Oper),ops[i]? = some o→sk i=true→o.guard≠none) (hCs:∀ i w,sk i=true→C i w undef)
   (hinj:∀ i j,i<ops.size→j<ops.size→T i=T j→i=j) (hT:∀ i,i<ops.size→T i<base.tmps.size) (hC:∀ i w w' v,i<ops.size→C i w v→But [] w w'→C i w' v)
   (hstep:∀ (i:Nat) (o:Oper) (a:Act) (w:World) (K:Act→World→Prop),sk i=false→ops[i]? = some o→But [] W0.drew w→(∀ t,(∀ j,j<ops.size→t=T j→∃ oj,ops[j]? = some oj∧∃ e ∈ oj.after,Region.binds .any e=true∧e.on=i)→a.eval (.tmp t)=base.eval (.tmp t))→(∀ e ∈ o.after,Region.binds .any e=true→C e.on w (a.eval (.tmp (T e.on))))→(∀ v w',But [] w w'→C i w' v→K (a.put o.dst v) w')→o.wp P a w K Q)
   (hend:∀ a w,Run W0.drew ops base C T (fun _=>true) a w→Q .normal a w) :
   (Code.region id ops true).wp P Q base W0:=by(
 have hp:=zst hpl
 refine zbw hm hlow (fun d a w=>Run W0.drew ops base C T d a w) ?_ ?_ ?_
 ·exact⟨fun _ _ _ h=>by simp at h,But.refl _ _,rfl,rfl,fun _ _=>rfl,fun _ _ h=>by simp at h⟩
 ·intro d a w hd h
  refine hend a w ⟨fun _ _ _ _ _ _ _=>rfl,h.but,h.size,h.defers,fun t ht=>h.rest t (fun j hj _=>ht j hj rfl),fun i hi _=>h.has i hi (hd i hi)⟩
 ·(
 intro d i o a w ho hdi hdep h
 have hi:i<ops.size:=(Array.getElem?_eq_some_iff.1 ho).1
 obtain⟨hdst,hg⟩:=hp i o ho
 have hw:Region.wanted o (yielded ops a.tmps)=!sk i:=by
  unfold Region.wanted
  cases hgo:o.guard with
  | none =>
   have:sk i=false:=by
    cases e:sk i with
    | false=>rfl
    | true=>exact absurd hgo (hsk i o ho e)
   rw[this];rfl
  | some jw =>
   obtain⟨j,want⟩:=jw
   obtain⟨hj,e,he,hbi,hon⟩:=hg j want hgo
   have hdj:d j=true:=by rw[← hon];exact hdep e he hbi
   have hv:=hgd i o j want ho hgo w _ (h.has j hj hdj)
   have hoj:=Array.getElem?_eq_getElem hj
   have hdj2:=(hp j _ hoj).1
   have hsl:=zfv hv (by rw[h.size];exact hT j hj)
   show (yielded ops a.tmps j==some want)=!sk i
   unfold yielded
   rw[hoj,Option.bind_some,hdj2,Option.bind_some,hsl]
   cases sk i <;> cases want <;> rfl
 unfold wpOp
 by_cases es:sk i=true
 ·rw[es] at hw
  simp only[ho,hw,Bool.not_true,Bool.false_eq_true,if_false]
  rw[hdst]
  exact h.next hinj hT hC i o ho hdep undef w (But.refl _ _) (hCs i w es)
 ·(
 have es':sk i=false:=by simpa using es
 rw[es'] at hw
 simp only[ho,hw,Bool.not_false,if_true]
 refine .inl (hstep i o a w _ es' ho h.but (fun t ht=>h.eval t (fun j hj hd e=>?_)) (fun e he hb=>h.has _ (by have:=hlow i o ho e he hb;omega) (hdep e he hb)) (fun v w' hb hv=>?_))
 ·obtain⟨oj,hoj,ed,hed,hbi,hon⟩:=ht j hj e
  have:=h.down j oj hoj hd ed hed hbi
  rw[hon,hdi] at this
  simp at this
 ·rw[hdst]
  exact h.next hinj hT hC i o ho hdep v w' hb hv)))
end Go.Proofs.YtagmkkiagjmimaaGreatDoor
