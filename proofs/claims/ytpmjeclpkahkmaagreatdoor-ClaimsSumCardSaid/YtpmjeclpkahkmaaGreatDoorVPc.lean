/- What single operations do, as the Go tex -/
import Derived.Laws.CopyOwn
import Derived.Laws.MakeOwn
import Derived.Test.YtpmjeclpkahkmaaGreatDoorVN1
import Derived.Test.YtpmjeclpkahkmaaGreatDoorVSB
namespace Go.Proofs.YtpmjeclpkahkmaaGreatDoor
set_option linter.unusedVariables false
open Go.RowKit
def qft (ops:Array Oper):Bool:=(List.range ops.size).all fun i=>match ops[i]? with
 | some o=>o.after.all fun e=>!(Region.binds .any e) || decide (e.on<i)
 | none=>true
theorem zco {ops:Array Oper} (h:qft ops=true):∀ i o,ops[i]? = some o→∀ e ∈ o.after,Region.binds .any e=true→e.on<i:=fun i o ho e he hb=>by
 have hi:i<ops.size:=(Array.getElem?_eq_some_iff.1 ho).1
 unfold qft at h
 rw[List.all_eq_true] at h
 have h1:=h i (List.mem_range.2 hi)
 simp only[ho] at h1
 rw[Array.all_eq_true_iff_forall_mem] at h1
 have h2:=h1 e he
 simpa [hb] using h2
def zev (ops:Array Oper) (ps:List (Nat × Nat)):Bool:=ps.all fun p=>match ops[p.1]? with
 | some o=>o.after.any fun e=>Region.binds .any e && e.on==p.2
 | none=>false
theorem zga {ops:Array Oper} {ps:List (Nat × Nat)} (h:zev ops ps=true):∀ i j,(i,j) ∈ ps→∃ o,ops[i]? = some o∧∃ e ∈ o.after,Region.binds .any e=true∧e.on=j:=fun i j hij=>by
 unfold zev at h
 rw[List.all_eq_true] at h
 have h1:=h (i,j) hij
 cases ho:ops[i]? with
 | none=>simp[ho] at h1
 | some o =>
  simp only[ho] at h1
  rw[Array.any_eq_true] at h1
  obtain⟨k,hk,h2⟩:=h1
  simp only[Bool.and_eq_true,beq_iff_eq] at h2
  exact⟨o,rfl,o.after[k],Array.getElem_mem hk,h2.1,h2.2⟩
def P4 (w:World) (g:Nat) (s:Bool) (x y:Int) (p:Option Addr):Prop:=w.cell? ⟨g,0,none⟩=some (.bool s)∧w.cell? ⟨g,1,none⟩=some (.int .u64 x)∧w.cell? ⟨g,2,none⟩=some (.int .u64 y)∧w.cell? ⟨g,3,none⟩=some (.pointer p)
theorem P4.but {w w':World} {g:Nat} {s:Bool} {x y:Int} {p:Option Addr} {l:List Nat} (h:P4 w g s x y p) (hb:But l w w') (hn:g ∉ l):P4 w' g s x y p:=⟨hb.ag h.1 hn,hb.ag h.2.1 hn,hb.ag h.2.2.1 hn,hb.ag h.2.2.2 hn⟩
theorem yj (w:World) (b i j:Nat) (v:Value) (hij:i≠j):(w.setCell ⟨b,i,none⟩ v).cell? ⟨b,j,none⟩=w.cell? ⟨b,j,none⟩:=World.cell?_setCell_other w ⟨b,i,none⟩ ⟨b,j,none⟩ v (fun e=>hij (Addr.mk.inj e).2.1)
theorem qdn (w:World) (b:Nat) (v0 v1 v2 v3:Value) (c0:(w.cell? ⟨b,0,none⟩).isSome=true) (c1:(w.cell? ⟨b,1,none⟩).isSome=true) (c2:(w.cell? ⟨b,2,none⟩).isSome=true) (c3:(w.cell? ⟨b,3,none⟩).isSome=true) :
  (∀ j,j<4→((((w.setCell ⟨b,0,none⟩ v0).setCell ⟨b,1,none⟩ v1).setCell ⟨b,2,none⟩ v2).setCell ⟨b,3,none⟩ v3).cell? ⟨b,j,none⟩=#[v0,v1,v2,v3][j]?)∧∀ j,4≤j→((((w.setCell ⟨b,0,none⟩ v0).setCell ⟨b,1,none⟩ v1).setCell ⟨b,2,none⟩ v2).setCell ⟨b,3,none⟩ v3).cell? ⟨b,j,none⟩=w.cell? ⟨b,j,none⟩:=by(
constructor
·(
intro j hj
have:j=0∨j=1∨j=2∨j=3:=by omega
rcases this with rfl|rfl|rfl|rfl
·rw[yj _ _ 3 0 _ (by omega),yj _ _ 2 0 _ (by omega),yj _ _ 1 0 _ (by omega)]
 exact World.cell?_setCell_same' _ _ _ c0
·rw[yj _ _ 3 1 _ (by omega),yj _ _ 2 1 _ (by omega)]
 exact World.cell?_setCell_same' _ _ _ (by rw[yj _ _ 0 1 _ (by omega)];exact c1)
·rw[yj _ _ 3 2 _ (by omega)]
 exact World.cell?_setCell_same' _ _ _ (by rw[yj _ _ 1 2 _ (by omega),yj _ _ 0 2 _ (by omega)];exact c2)
·exact World.cell?_setCell_same' _ _ _ (by rw[yj _ _ 2 3 _ (by omega),yj _ _ 1 3 _ (by omega),yj _ _ 0 3 _ (by omega)];exact c3))
·intro j hj
 rw[yj _ _ 3 j _ (by omega),yj _ _ 2 j _ (by omega),yj _ _ 1 j _ (by omega),yj _ _ 0 j _ (by omega)])
theorem ziv (xs:List Nat) (j:Nat) (v:Value) (h:(xs.map fun (x:Nat)=>Value.int .u64 (x:Int))[j]? = some v):j<xs.length∧v=.int .u64 (xs[j]?.getD 0:Nat):=by(
simp only[List.getElem?_map,Option.map_eq_some_iff] at h
obtain⟨x,hx,rfl⟩:=h
exact⟨(List.getElem?_eq_some_iff.1 hx).1,by rw[hx];rfl⟩)
theorem addr_add (b off j:Nat):(⟨b,off,none⟩:Addr).add j=⟨b,off+j,none⟩:=by by_cases h:j=0 <;> simp[Addr.add,h]
theorem bp (w:World) (g:Nat):∀ (vs:List Value) (o:Nat),But [g] w (w.setCells g o vs)
 | [],_=>But.refl _ _
 | v::vs,o=>by
  rw[World.setCells]
  exact ((But.refl [g] w).setCell (p:=⟨g,o,none⟩) (by simp) v).trans (bp _ g vs (o+1)) (fun _ h=>.inl h)
theorem zgz (g:Nat):∀ (xs:List Nat) (o:Nat) (w:World),Ints .u64 w g→Ints .u64 (w.setCells g o (xs.map fun (x:Nat)=>Value.int .u64 (x:Int))) g
 | [],_,_,h=>h
 | x::xs,o,w,h=>by
  rw[List.map_cons,World.setCells]
  exact zgz g xs (o+1) _ (h.set o x)
theorem qdo {w:World} {g o:Nat} {rs:List Nat} (h:Seg w g o rs) (xs:List Nat) (hl:xs.length≤rs.length) :
  Seg (w.setCells g o (xs.map fun (x:Nat)=>Value.int .u64 (x:Int))) g o (xs++rs.drop xs.length)∧Part g o xs.length w (w.setCells g o (xs.map fun (x:Nat)=>Value.int .u64 (x:Int))):=by(
refine⟨⟨fun i hi=>⟨?_,?_⟩,fun h0=>zgz _ _ _ _ (h.ints (by simp only[List.length_append,List.length_drop] at h0;omega))⟩,bp _ _ _ _,fun i hi=>?_,fun i=>World.frozen?_setCells _ _ _ _ _⟩
·(
simp only[List.length_append,List.length_drop] at hi
rcases Nat.lt_or_ge i xs.length with h1 | h1
·have:=World.cell?_setCells_in g (xs.map fun (x:Nat)=>Value.int .u64 (x:Int)) o w (fun j hj=>by rw[(h j (by simp at hj;omega)).1];rfl) i (by simpa using h1)
 rw[this,List.getElem?_append_left h1]
 simp[List.getElem?_eq_getElem h1]
·rw[World.cell?_setCells_out g _ o w _ (fun _ _=>.inr (by simp;omega)),(h i (by omega)).1,List.getElem?_append_right h1,List.getElem?_drop,show xs.length+(i-xs.length)=i from by omega])
·simp only[List.length_append,List.length_drop] at hi
 rw[World.frozen?_setCells];exact (h i (by omega)).2
·exact World.cell?_setCells_out g _ o w _ (fun _ _=>by simp;omega))
theorem jl {P:Program} (w:World) (dT sT elem:TypeId) (hu:P.underlying dT=some (.slice elem)) (hsz:(P.info? elem).map (·.size)=some 1)
  (g off dLen dCap:Nat) (vs:Value) (rs xs:List Nat) (hg:Seg w g off rs) (hr:dLen=rs.length) (hx:Sl .u64 w vs xs) (hl:xs.length≤rs.length) :
  ∃ w',(∀ ty,(Builtin.copy_ #[dT,sT] ty #[.slice (some ⟨g,off,none⟩) dLen dCap,vs]).run P w=.ok (goInt xs.length) w')∧Hid (Seg w' g off (xs++rs.drop xs.length)∧Part g off xs.length w w'):=by(
obtain⟨ad,cap,rfl,-,hc,-⟩:=hx
subst hr
rcases Nat.eq_zero_or_pos xs.length with h0 | h0
·have e:xs=[]:=List.length_eq_zero_iff.1 h0
 subst e
 exact⟨w,fun ty=>run_copy_none w dT sT ty elem _ _ _ _ _ _ hu hsz (by simp),by simpa using hg,Part.refl _ _ _ _⟩
·(
obtain⟨b,off',rfl,-⟩:=hc 0 h0
refine⟨_,fun ty=>?_,qdo hg xs hl⟩
have hrun:=run_copy_cells (P:=P) w dT sT ty elem g off rs.length dCap ⟨b,off',none⟩ xs.length cap (xs.map fun (x:Nat)=>Value.int .u64 (x:Int)) hu hsz (by rw[List.length_map];exact (Nat.min_eq_left hl).symm)
 (fun j v hj=>by
  obtain⟨h1,rfl⟩:=ziv xs j v hj
  obtain⟨b2,off2,e,h2⟩:=hc j h1
  simp only[Option.some.injEq,Addr.mk.injEq] at e
  obtain⟨rfl,rfl,-⟩:=e
  rw[addr_add];exact h2)
 (fun j hj=>by rw[(hg j (by simp at hj;omega)).1];rfl) (fun j hj=>(hg j (by simp at hj;omega)).2) (fun v hv=>by
  simp only[List.mem_map] at hv
  obtain⟨x,-,rfl⟩:=hv
  rfl)
rw[List.length_map] at hrun
exact hrun))
def zzg (ops:Array Oper):Bool:=(List.range ops.size).all fun i=>match ops[i]? with
 | some o=>o.guard.isNone
 | none=>true
theorem zmb {ops:Array Oper} (h:zzg ops=true):∀ (i:Nat) (o:Oper),ops[i]? = some o→o.guard=none:=fun i o ho=>by
 have hi:i<ops.size:=(Array.getElem?_eq_some_iff.1 ho).1
 unfold zzg at h
 rw[List.all_eq_true] at h
 have h1:=h i (List.mem_range.2 hi)
 simp only[ho] at h1
 simpa using h1
theorem zrt {ops:Array Oper} {ps:List (Nat × Nat)} (h:zev ops ps=true) {i:Nat} {o:Oper} (ho:ops[i]? = some o) (R:Nat→Prop) (hdep:∀ e ∈ o.after,Region.binds .any e=true→R e.on) (j:Nat) (hij:(i,j) ∈ ps):R j:=by(
obtain⟨o',ho',e,he,hb,rfl⟩:=zga h i j hij
rw[ho] at ho'
obtain rfl:=Option.some.inj ho'
exact hdep e he hb)
theorem zu {P:Program} {Q:Exit→Act→World→Prop} {K:Act→World→Prop} {a:Act} {w w':World} {o:Oper} {v:Value} (hr:(execOp a.eval o).run P w=.ok (.value v) w') (h:K (a.put o.dst v) w'):o.wp P a w K Q:=by(
unfold Oper.wp
rw[hr]
exact h)
theorem vw {P:Program} {Q:Exit→Act→World→Prop} {K:Act→World→Prop} {a:Act} {w:World} {o:Oper} {f:FuncId} {args:Array Value} (hr:(execOp a.eval o).run P w=.ok (.enter f args) w) {R:World→Value→Prop} (hc:Calls P f args w fun e w'=>∃ v,e=.returned v∧R w' v) (h:∀ v w',R w' v→K (a.put o.dst v) w'):o.wp P a w K Q:=by(
unfold Oper.wp
rw[hr]
refine hc.mono ?_
rintro e w' ⟨v,rfl,hv⟩
exact h v w' hv)
def Closed (ops:Array Oper) (d:Nat→Bool):Prop:=∀ i o,ops[i]? = some o→d i=true→∀ e ∈ o.after,Region.binds .any e=true→d e.on=true
theorem Closed.dep {ops:Array Oper} {d:Nat→Bool} (h:Closed ops d) {ps:List (Nat × Nat)} (hp:zev ops ps=true) {i j:Nat} (hij:(i,j) ∈ ps) (hd:d i=true):d j=true:=by
 obtain⟨o,ho,e,he,hb,rfl⟩:=zga hp i j hij
 exact h i o ho hd e he hb
theorem Closed.not {ops:Array Oper} {d:Nat→Bool} (h:Closed ops d) {ps:List (Nat × Nat)} (hp:zev ops ps=true) {i j:Nat} (hij:(i,j) ∈ ps) (hd:d j=false):d i=false:=by(
cases e:d i with
| false=>rfl
| true=>rw[h.dep hp hij e] at hd;simp at hd)
theorem Closed.next {ops:Array Oper} {d:Nat→Bool} (h:Closed ops d) {i:Nat} {o:Oper} (ho:ops[i]? = some o) (hdep:∀ e ∈ o.after,Region.binds .any e=true→d e.on=true):Closed ops (came d i):=fun j oj hj hd e he hbi=>by
 by_cases e1:e.on=i
 ·rw[e1];exact oq d i
 ·rw[iw d e1]
  by_cases e2:j=i
  ·subst e2
   rw[ho] at hj
   obtain rfl:=Option.some.inj hj
   exact hdep e he hbi
  ·rw[iw d e2] at hd
   exact h j oj hj hd e he hbi
structure qnq {α:Type} (ops:Array Oper) (base:Act) (H:α→(Nat→Bool)→World→Prop) (V:α→Nat→Value) (T:Nat→Nat) (m:Nat) (d:Nat→Bool) (a:Act) (w:World) (N:α):Prop where
 down:Closed ops d
 mem:H N d w
 size:a.tmps.size=base.tmps.size
 defers:a.defers=base.defers
 rest:∀ t,(∀ j,j<m→t≠T j)→a.tmps[t]? = base.tmps[t]?
 has:∀ i,i<m→d i=true→a.eval (.tmp (T i))=V N i
theorem zhz {P:Program} {id:Nat} {ops:Array Oper} {Q:Exit→Act→World→Prop} {base:Act} {W0:World} (hm:P.follows .mixedOrders=true)
  (hlow:∀ i o,ops[i]? = some o→∀ e ∈ o.after,Region.binds .any e=true→e.on<i)
  (hg:∀ (i:Nat) (o:Oper),ops[i]? = some o→o.guard=none)
  {α:Type} (H:α→(Nat→Bool)→World→Prop) (V:α→Nat→Value) (T:Nat→Nat) (m:Nat) (hsz:ops.size=m)
  (hinj:∀ i j,i<m→j<m→T i=T j→i=j) (hT:∀ i,i<m→T i<base.tmps.size) (N0:α) (h0:H N0 (fun _=>false) W0.drew)
  (hstep:∀ (N:α) (d:Nat→Bool) (i:Nat) (o:Oper) (a:Act) (w:World) (K:Act→World→Prop),i<m→ops[i]? = some o→d i=false→Closed ops d→H N d w→(∀ t,(∀ j,j<m→t≠T j)→a.eval (.tmp t)=base.eval (.tmp t))→(∀ e ∈ o.after,Region.binds .any e=true→d e.on=true∧a.eval (.tmp (T e.on))=V N e.on)→(∀ N' v w',v=V N' i→(∀ j,j<m→d j=true→V N' j=V N j)→H N' (came d i) w'→K (a.put (some (T i)) v) w')→o.wp P a w K Q)
  (hend:∀ N d w,(∀ i,i<m→d i=true)→H N d w→Q .normal (bj base ((List.range m).map fun i=>(T i,V N i))) w) :
  (Code.region id ops true).wp P Q base W0:=by(
have wpo:∀ i o a w (K:Act→World→Prop),ops[i]? = some o→o.wp P a w K Q→wpOp P ops Q i K a w:=fun i o a w K ho h=>by
 unfold wpOp
 simp only[ho,Region.wanted,hg i o ho,if_true]
 exact .inl h
refine zen hm hlow (fun d a w=>∃ N,qnq ops base H V T m d a w N) ?_ ?_ ?_
·exact⟨N0,fun _ _ _ h=>by simp at h,h0,rfl,rfl,fun _ _=>rfl,fun _ _ h=>by simp at h⟩
·(
rintro d a w hd ⟨N,h⟩
have ea:a=bj base ((List.range m).map fun i=>(T i,V N i)):=by
 refine zdx _ base a h.defers h.size (fun p hp=>?_) (fun t ht=>?_)
 ·obtain⟨i,hi,rfl⟩:=List.mem_map.1 hp
  have hi':=List.mem_range.1 hi
  exact zht (h.has i hi' (hd i (by omega))) (by rw[h.size];exact hT i hi')
 ·refine h.rest t (fun j hj e=>?_)
  exact ht (T j,V N j) (List.mem_map.2 ⟨j,List.mem_range.2 hj,rfl⟩) e
rw[ea]
exact hend N d w (fun i hi=>hd i (by omega)) h.mem)
·(
rintro d i o a w ho hdi hdep ⟨N,h⟩
refine wpo i o a w _ ho ?_
have hi:i<m:=by rw[← hsz];exact (Array.getElem?_eq_some_iff.1 ho).1
refine hstep N d i o a w _ hi ho hdi h.down h.mem (fun t ht=>zpi (h.rest t ht)) (fun ed he hb=>⟨hdep ed he hb,h.has _ (by have:=hlow i o ho ed he hb;omega) (hdep ed he hb)⟩) ?_
rintro N' v w' rfl hV hH
refine⟨N',h.down.next ho hdep,hH,by rw[zba];exact h.size,h.defers,fun t ht=>?_,fun j hj hd=>?_⟩
·rw[zfj,if_neg (fun e=>ht i hi e.symm)];exact h.rest t ht
·(
by_cases e:j=i
·subst e
 exact at_eq a (T j) _ (by rw[h.size];exact hT j hj)
·rw[iw d e] at hd
 rw[zzh a (T i) (T j) _ (fun e2=>e (hinj j i hj hi e2)),h.has j hj hd]
 exact (hV j hj hd).symm)))
def Down (ops:Array Oper) (d:Nat→Bool):Prop:=∀ i o,ops[i]? = some o→d i=true→∀ e ∈ o.after,Region.binds .any e=true→d e.on=true
structure Run (W:World) (ops:Array Oper) (base:Act) (C:Nat→World→Value→Prop) (T:Nat→Nat) (d:Nat→Bool) (a:Act) (w:World):Prop where
 down:Down ops d
 but:But [] W w
 size:a.tmps.size=base.tmps.size
 defers:a.defers=base.defers
 rest:∀ t,(∀ j,j<ops.size→d j=true→t≠T j)→a.tmps[t]? = base.tmps[t]?
 has:∀ i,i<ops.size→d i=true→C i w (a.eval (.tmp (T i)))
theorem Run.eval {W:World} {ops:Array Oper} {base:Act} {C:Nat→World→Value→Prop} {T:Nat→Nat} {d:Nat→Bool} {a:Act} {w:World} (h:Run W ops base C T d a w) (t:Nat) (ht:∀ j,j<ops.size→d j=true→t≠T j):a.eval (.tmp t)=base.eval (.tmp t):=by
 show a.tmps.getD t undef=base.tmps.getD t undef
 simp only[Array.getD_eq_getD_getElem?,h.rest t ht]
theorem Run.next {W:World} {ops:Array Oper} {base:Act} {C:Nat→World→Value→Prop} {T:Nat→Nat} {d:Nat→Bool} {a:Act} {w:World} (h:Run W ops base C T d a w)
  (hinj:∀ i j,i<ops.size→j<ops.size→T i=T j→i=j) (hT:∀ i,i<ops.size→T i<base.tmps.size) (hC:∀ i w w' v,i<ops.size→C i w v→But [] w w'→C i w' v)
  (i:Nat) (o:Oper) (ho:ops[i]? = some o) (hdep:∀ e ∈ o.after,Region.binds .any e=true→d e.on=true) (v:Value) (w':World) (hb:But [] w w') (hv:C i w' v):Run W ops base C T (came d i) (a.put (some (T i)) v) w':=by(
have hi:i<ops.size:=(Array.getElem?_eq_some_iff.1 ho).1
refine⟨fun j oj hj hd e he hbi=>?_,h.but.trans' hb,by rw[zba];exact h.size,h.defers,fun t ht=>?_,fun j hj hd=>?_⟩
·(
by_cases e1:e.on=i
·rw[e1];exact oq d i
·(
rw[iw d e1]
by_cases e2:j=i
·subst e2
 rw[ho] at hj
 obtain rfl:=Option.some.inj hj
 exact hdep e he hbi
·rw[iw d e2] at hd
 exact h.down j oj hj hd e he hbi))
·(
rw[zfj,if_neg (fun e=>ht i hi (oq d i) e.symm)]
exact h.rest t (fun j hj hd=>by
 by_cases e:j=i
 ·subst e;exact ht j hj (oq d j)
 ·exact ht j hj (by rw[iw d e];exact hd)))
·(
by_cases e:j=i
·subst e
 rw[at_eq a (T j) v (by rw[h.size];exact hT j hj)]
 exact hv
·rw[iw d e] at hd
 rw[zzh a (T i) (T j) v (fun e2=>e (hinj j i hj hi e2))]
 exact hC j w w' _ hj (h.has j hj hd) hb))
def znb (ops:Array Oper) (T:Nat→Nat):Bool:=(List.range ops.size).all fun i=>match ops[i]? with
 | some o=>(o.dst==some (T i)) && (match o.guard with | none=>true | some (j,_)=>decide (j<ops.size) && o.after.any fun e=>Region.binds .any e && e.on==j)
 | none=>true
theorem qef {ops:Array Oper} {T:Nat→Nat} (h:znb ops T=true):∀ (i:Nat) (o:Oper),ops[i]? = some o→o.dst=some (T i)∧∀ j want,o.guard=some (j,want)→j<ops.size∧∃ e ∈ o.after,Region.binds .any e=true∧e.on=j:=fun i o ho=>by
 have hi:i<ops.size:=(Array.getElem?_eq_some_iff.1 ho).1
 unfold znb at h
 rw[List.all_eq_true] at h
 have h1:=h i (List.mem_range.2 hi)
 simp only[ho,Bool.and_eq_true,beq_iff_eq] at h1
 refine⟨h1.1,fun j want hg=>?_⟩
 have h2:=h1.2
 rw[hg] at h2
 simp only[Bool.and_eq_true,decide_eq_true_eq] at h2
 refine⟨h2.1,?_⟩
 have h3:=h2.2
 rw[Array.any_eq_true] at h3
 obtain⟨k,hk,h4⟩:=h3
 simp only[Bool.and_eq_true,beq_iff_eq] at h4
 exact⟨o.after[k],Array.getElem_mem hk,h4.1,h4.2⟩
theorem zpj {P:Program} {id:Nat} {ops:Array Oper} {Q:Exit→Act→World→Prop} {base:Act} {W0:World} (hm:P.follows .mixedOrders=true)
  (hlow:∀ i o,ops[i]? = some o→∀ e ∈ o.after,Region.binds .any e=true→e.on<i)
  (C:Nat→World→Value→Prop) (T:Nat→Nat) (hpl:znb ops T=true)
  (hgd:∀ (i:Nat) (o:Oper) (j:Nat) (want:Bool),ops[i]? = some o→o.guard=some (j,want)→∀ w v,C j w v→v=.bool want)
  (hinj:∀ i j,i<ops.size→j<ops.size→T i=T j→i=j) (hT:∀ i,i<ops.size→T i<base.tmps.size) (hC:∀ i w w' v,i<ops.size→C i w v→But [] w w'→C i w' v)
  (hstep:∀ (i:Nat) (o:Oper) (a:Act) (w:World) (K:Act→World→Prop),ops[i]? = some o→But [] W0.drew w→(∀ t,(∀ j,j<ops.size→t=T j→∃ oj,ops[j]? = some oj∧∃ e ∈ oj.after,Region.binds .any e=true∧e.on=i)→a.eval (.tmp t)=base.eval (.tmp t))→(∀ e ∈ o.after,Region.binds .any e=true→C e.on w (a.eval (.tmp (T e.on))))→(∀ v w',But [] w w'→C i w' v→K (a.put o.dst v) w')→o.wp P a w K Q)
  (hend:∀ a w,Run W0.drew ops base C T (fun _=>true) a w→Q .normal a w) :
  (Code.region id ops true).wp P Q base W0:=by(
have hp:=qef hpl
refine zen hm hlow (fun d a w=>Run W0.drew ops base C T d a w) ?_ ?_ ?_
·exact⟨fun _ _ _ h=>by simp at h,But.refl _ _,rfl,rfl,fun _ _=>rfl,fun _ _ h=>by simp at h⟩
·intro d a w hd h
 refine hend a w ⟨fun _ _ _ _ _ _ _=>rfl,h.but,h.size,h.defers,fun t ht=>h.rest t (fun j hj _=>ht j hj rfl),fun i hi _=>h.has i hi (hd i hi)⟩
·(
intro d i o a w ho hdi hdep h
have hi:i<ops.size:=(Array.getElem?_eq_some_iff.1 ho).1
obtain⟨hdst,hg⟩:=hp i o ho
have hw:Region.wanted o (yielded ops a.tmps)=true:=by
 unfold Region.wanted
 cases hgo:o.guard with
 | none=>rfl
 | some jw =>
  obtain⟨j,want⟩:=jw
  obtain⟨hj,e,he,hbi,hon⟩:=hg j want hgo
  have hdj:d j=true:=by rw[← hon];exact hdep e he hbi
  have hv:=hgd i o j want ho hgo w _ (h.has j hj hdj)
  have hoj:=Array.getElem?_eq_getElem hj
  have hdj2:=(hp j _ hoj).1
  have hsl:=zht hv (by rw[h.size];exact hT j hj)
  show (yielded ops a.tmps j==some want)=true
  unfold yielded
  rw[hoj,Option.bind_some,hdj2,Option.bind_some,hsl]
  simp
unfold wpOp
simp only[ho,hw,if_true]
refine .inl (hstep i o a w _ ho h.but (fun t ht=>h.eval t (fun j hj hd e=>?_)) (fun e he hb=>h.has _ (by have:=hlow i o ho e he hb;omega) (hdep e he hb)) (fun v w' hb hv=>?_))
·obtain⟨oj,hoj,ed,hed,hbi,hon⟩:=ht j hj e
 have:=h.down j oj hoj hd ed hed hbi
 rw[hon,hdi] at this
 simp at this
·rw[hdst]
 exact h.next hinj hT hC i o ho hdep v w' hb hv))
theorem Run.puts {W:World} {ops:Array Oper} {base:Act} {C:Nat→World→Value→Prop} {T:Nat→Nat} {a:Act} {w:World} (h:Run W ops base C T (fun _=>true) a w) (hT:∀ i,i<ops.size→T i<base.tmps.size) (V:Nat→Value) (hV:∀ i,i<ops.size→a.eval (.tmp (T i))=V i):a=bj base ((List.range ops.size).map fun i=>(T i,V i)):=by(
refine zdx _ base a h.defers h.size (fun p hp=>?_) (fun t ht=>?_)
·obtain⟨i,hi,rfl⟩:=List.mem_map.1 hp
 have hi':=List.mem_range.1 hi
 exact zht (hV i hi') (by rw[h.size];exact hT i hi')
·refine h.rest t (fun j hj _ e=>?_)
 exact ht (T j,V j) (List.mem_map.2 ⟨j,List.mem_range.2 hj,rfl⟩) e)
structure qnd {α:Type} (ops:Array Oper) (base:Act) (H:α→(Nat→Bool)→World→Prop) (V:α→Nat→Value) (T:Nat→Nat) (wr:Nat→Bool) (m:Nat) (d:Nat→Bool) (a:Act) (w:World) (N:α):Prop where
 down:Closed ops d
 mem:H N d w
 size:a.tmps.size=base.tmps.size
 defers:a.defers=base.defers
 rest:∀ t,(∀ j,j<m→wr j=true→d j=true→t≠T j)→a.tmps[t]? = base.tmps[t]?
 has:∀ i,i<m→wr i=true→d i=true→a.eval (.tmp (T i))=V N i
theorem zmu {P:Program} {id:Nat} {ops:Array Oper} {Q:Exit→Act→World→Prop} {base:Act} {W0:World} (hm:P.follows .mixedOrders=true)
  (hlow:∀ i o,ops[i]? = some o→∀ e ∈ o.after,Region.binds .any e=true→e.on<i)
  (hg:∀ (i:Nat) (o:Oper),ops[i]? = some o→o.guard=none)
  {α:Type} (H:α→(Nat→Bool)→World→Prop) (V:α→Nat→Value) (T:Nat→Nat) (wr:Nat→Bool) (m:Nat) (hsz:ops.size=m)
  (hinj:∀ i j,i<m→j<m→wr i=true→wr j=true→T i=T j→i=j) (hT:∀ i,i<m→wr i=true→T i<base.tmps.size) (N0:α) (h0:H N0 (fun _=>false) W0.drew)
  (hstep:∀ (N:α) (d:Nat→Bool) (i:Nat) (o:Oper) (a:Act) (w:World) (K:Act→World→Prop),i<m→ops[i]? = some o→d i=false→Closed ops d→H N d w→(∀ t,(∀ j,j<m→wr j=true→d j=true→t≠T j)→a.eval (.tmp t)=base.eval (.tmp t))→(∀ e ∈ o.after,Region.binds .any e=true→d e.on=true∧(wr e.on=true→a.eval (.tmp (T e.on))=V N e.on))→(∀ N' v w',(wr i=true→v=V N' i)→(∀ j,j<m→wr j=true→d j=true→V N' j=V N j)→H N' (came d i) w'→K (a.put (if wr i=true then some (T i) else none) v) w')→o.wp P a w K Q)
  (hend:∀ N d w,(∀ i,i<m→d i=true)→H N d w→Q .normal (bj base (((List.range m).filter wr).map fun i=>(T i,V N i))) w) :
  (Code.region id ops true).wp P Q base W0:=by(
have wpo:∀ i o a w (K:Act→World→Prop),ops[i]? = some o→o.wp P a w K Q→wpOp P ops Q i K a w:=fun i o a w K ho h=>by
 unfold wpOp
 simp only[ho,Region.wanted,hg i o ho,if_true]
 exact .inl h
refine zen hm hlow (fun d a w=>∃ N,qnd ops base H V T wr m d a w N) ?_ ?_ ?_
·exact⟨N0,fun _ _ _ h=>by simp at h,h0,rfl,rfl,fun _ _=>rfl,fun _ _ _ h=>by simp at h⟩
·(
rintro d a w hd ⟨N,h⟩
have ea:a=bj base (((List.range m).filter wr).map fun i=>(T i,V N i)):=by
 refine zdx _ base a h.defers h.size (fun p hp=>?_) (fun t ht=>?_)
 ·obtain⟨i,hi,rfl⟩:=List.mem_map.1 hp
  obtain⟨hi1,hi2⟩:=List.mem_filter.1 hi
  have hi':=List.mem_range.1 hi1
  exact zht (h.has i hi' hi2 (hd i (by omega))) (by rw[h.size];exact hT i hi' hi2)
 ·refine h.rest t (fun j hj hw hdj e=>?_)
  exact ht (T j,V N j) (List.mem_map.2 ⟨j,List.mem_filter.2 ⟨List.mem_range.2 hj,hw⟩,rfl⟩) e
rw[ea]
exact hend N d w (fun i hi=>hd i (by omega)) h.mem)
·(
rintro d i o a w ho hdi hdep ⟨N,h⟩
refine wpo i o a w _ ho ?_
have hi:i<m:=by rw[← hsz];exact (Array.getElem?_eq_some_iff.1 ho).1
refine hstep N d i o a w _ hi ho hdi h.down h.mem (fun t ht=>zpi (h.rest t ht)) (fun ed he hb=>⟨hdep ed he hb,fun hw=>h.has _ (by have:=hlow i o ho ed he hb;omega) hw (hdep ed he hb)⟩) ?_
rintro N' v w' hv hV hH
by_cases hw:wr i=true
·(
obtain rfl:=hv hw
rw[if_pos hw]
refine⟨N',h.down.next ho hdep,hH,by rw[zba];exact h.size,h.defers,fun t ht=>?_,fun j hj hwj hd=>?_⟩
·(
rw[zfj,if_neg (fun e=>ht i hi hw (oq d i) e.symm)]
refine h.rest t (fun j hj hwj hdj=>ht j hj hwj ?_)
by_cases e:j=i
·subst e;exact oq d j
·rw[iw d e];exact hdj)
·(
by_cases e:j=i
·subst e
 exact at_eq a (T j) _ (by rw[h.size];exact hT j hj hwj)
·rw[iw d e] at hd
 rw[zzh a (T i) (T j) _ (fun e2=>e (hinj j i hj hi hwj hw e2)),h.has j hj hwj hd]
 exact (hV j hj hwj hd).symm))
·(
rw[if_neg hw]
have ne:∀ j,wr j=true→j≠i:=fun j hj e=>hw (e ▸ hj)
refine⟨N',h.down.next ho hdep,hH,h.size,h.defers,fun t ht=>h.rest t (fun j hj hwj hdj=>ht j hj hwj (by rw[iw d (ne j hwj)];exact hdj)),fun j hj hwj hd=>?_⟩
rw[iw d (ne j hwj)] at hd
rw[show a.put none v=a from rfl,h.has j hj hwj hd]
exact (hV j hj hwj hd).symm)))
theorem zhe (w:World) (g k:Nat) (v:Value):w.setCell ⟨g,k,none⟩ v=w.setCells g k [v]:=rfl
theorem qbj (z:Value) (n k:Nat) (h:k<n):(madeCells #[z] n)[k]? = some z:=by(
unfold madeCells
rw[Array.getElem?_map,Array.getElem?_eq_getElem (by simpa using h),Array.getElem_range,Option.map_some]
have e:k%(#[z]:Array Value).size=0:=by simp[Nat.mod_one]
rw[e]
rfl)
end Go.Proofs.YtpmjeclpkahkmaaGreatDoor
