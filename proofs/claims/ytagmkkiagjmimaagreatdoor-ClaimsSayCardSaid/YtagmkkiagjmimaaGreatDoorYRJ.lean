/- A region that draws its order, in a roun -/
import Derived.Test.YtagmkkiagjmimaaGreatDoorYF2
namespace Go.Proofs.YtagmkkiagjmimaaGreatDoor
set_option linter.unusedVariables false
open Go.Proofs.Tryz
open Go.RowKit
structure qbn (W:World) (base:Act) (C:Nat→World→Value→Prop) (T:Nat→Nat) (m:Nat) (d:Nat→Bool) (a:Act) (w:World):Prop where
 but:But [] W w
 size:a.tmps.size=base.tmps.size
 defers:a.defers=base.defers
 rest:∀ t,(∀ j,j<m→t≠T j)→a.tmps[t]? = base.tmps[t]?
 has:∀ i,i<m→d i=true→C i w (a.eval (.tmp (T i)))
theorem qbn.next {W:World} {base:Act} {C:Nat→World→Value→Prop} {T:Nat→Nat} {m:Nat} {d:Nat→Bool} {a:Act} {w:World} (h:qbn W base C T m d a w)
  (hinj:∀ i j,i<m→j<m→T i=T j→i=j) (hT:∀ i,i<m→T i<base.tmps.size) (hC:∀ i w w' v,i<m→C i w v→But [] w w'→C i w' v)
  (i:Nat) (hi:i<m) (v:Value) (w':World) (hb:But [] w w') (hv:C i w' v):qbn W base C T m (came d i) (a.put (some (T i)) v) w' where
 but:=h.but.trans' hb
 size:=by rw[o9];exact h.size
 defers:=h.defers
 rest:=fun t ht=>by rw[zde,if_neg (fun e=>ht i hi e.symm)];exact h.rest t ht
 has:=fun j hj hd=>by
  by_cases e:j=i
  ·subst e
   rw[at_eq a (T j) v (by rw[h.size];exact hT j hj)]
   exact hv
  ·rw[kr d e] at hd
   rw[zuj a (T i) (T j) v (fun e2=>e (hinj j i hj hi e2))]
   exact hC j w w' _ hj (h.has j hj hd) hb
theorem qbn.eval {W:World} {base:Act} {C:Nat→World→Value→Prop} {T:Nat→Nat} {m:Nat} {d:Nat→Bool} {a:Act} {w:World} (h:qbn W base C T m d a w) (t:Nat) (ht:∀ j,j<m→t≠T j):a.eval (.tmp t)=base.eval (.tmp t):=by
 show a.tmps.getD t undef=base.tmps.getD t undef
 simp only[Array.getD_eq_getD_getElem?,h.rest t ht]
theorem zpu {P:Program} {id l0 n0:Nat} {ops:Array Oper} {Q:Exit→Act→World→Prop} {base:Act} {W0:World} (hm:P.follows .mixedOrders=true)
   (hnd:∀ (i:Nat) (o:Oper),ops[i]? = some o→o.guard=none∧∀ c,o.op≠.defer c)
   (hlow:∀ i o,ops[i]? = some o→∀ e ∈ o.after,Region.binds .any e=true→e.on<i)
   (C:Nat→World→Value→Prop) (T:Nat→Nat) (m:Nat) (hsz:ops.size=m+1)
   (hinj:∀ i j,i<m→j<m→T i=T j→i=j) (hT:∀ i,i<m→T i<base.tmps.size) (hC:∀ i w w' v,i<m→C i w v→But [] w w'→C i w' v)
   (hall:∀ i,i<m→∃ o,ops[m]? = some o∧∃ e ∈ o.after,Region.binds .any e=true∧e.on=i)
   (hstep:∀ (i:Nat) (o:Oper) (a:Act) (w:World) (K:Act→World→Prop),i<m→ops[i]? = some o→But [] W0.drew w→(∀ t,(∀ j,j<m→t≠T j)→a.eval (.tmp t)=base.eval (.tmp t))→(∀ e ∈ o.after,Region.binds .any e=true→C e.on w (a.eval (.tmp (T e.on))))→(∀ v w',But [] w w'→C i w' v→K (a.put (some (T i)) v) w')→o.wp P a w K Q)
   (Fin:World→Prop)
   (hstore:∀ (o:Oper) (a:Act) (w:World) (K:Act→World→Prop),ops[m]? = some o→But [] W0.drew w→(∀ t,(∀ j,j<m→t≠T j)→a.eval (.tmp t)=base.eval (.tmp t))→(∀ i,i<m→C i w (a.eval (.tmp (T i))))→(∀ a' w',Fin w'→K a' w')→o.wp P a w K Q)
   (hend:∀ a w,Fin w→Q .normal a w) :
   (Code.region id ops true).wpIn (Fence.wide.inRound l0) n0 P Q base W0:=by(
 refine zsh hm hnd hlow (fun d a w=>if d m=true then (Fin w∧∀ i,i<m→d i=true) else qbn W0.drew base C T m d a w) ?_ ?_ ?_
 ·simp only[Bool.false_eq_true,if_false]
  exact⟨But.refl _ _,rfl,rfl,fun _ _=>rfl,fun _ _ h=>by simp at h⟩
 ·intro d a w hd h
  rw[if_pos (hd m (by omega))] at h
  exact hend a w h.1
 ·(
 intro d i o a w ho hdi hdep h
 have hi:i<m+1:=by rw[← hsz];exact (Array.getElem?_eq_some_iff.1 ho).1
 by_cases e:i=m
 ·(
 subst e
 rw[if_neg (by rw[hdi];simp)] at h
 have hd:∀ j,j<i→d j=true:=fun j hj=>by
  obtain⟨o',ho',ed,he,hb,rfl⟩:=hall j hj
  rw[ho] at ho'
  obtain rfl:=Option.some.inj ho'
  exact hdep ed he hb
 refine hstore o a w _ ho h.but (fun t ht=>h.eval t ht) (fun j hj=>h.has j hj (hd j hj)) (fun a' w' hf=>?_)
 rw[if_pos (ek d i)]
 exact⟨hf,fun j hj=>by rw[kr d (by omega)];exact hd j hj⟩)
 ·(
 have him:i<m:=by omega
 by_cases hdm:d m=true
 ·exfalso
  rw[if_pos hdm] at h
  rw[h.2 i him] at hdi
  simp at hdi
 ·rw[if_neg hdm] at h
  refine hstep i o a w _ him ho h.but (fun t ht=>h.eval t ht) (fun ed he hb=>h.has _ (by have:=hlow i o ho ed he hb;omega) (hdep ed he hb)) (fun v w' hb hv=>?_)
  rw[if_neg (by rw[kr d (Ne.symm e)];exact hdm)]
  exact h.next hinj hT hC i him v w' hb hv)))
theorem zbv (a:Act) (w:World) (t1 t2:Nat) (u:TypeId) (ps:String) (ed:Array Edge) (g:Nat) (s:Bool) (x y:Int) (p:Option Addr) {s':Bool} {x' y':Int} {p':Option Addr} (h1:a.eval (.tmp t1)=.pointer (some ⟨g,0,none⟩)) (h2:a.eval (.tmp t2)=.agg #[.bool s,.int .u64 x,.int .u64 y,.pointer p]) (hc:P4 w g s' x' y' p') (fz:∀ j,w.frozen? ⟨g,j,none⟩=false) :
   (execOp a.eval { dst:=none,op:=Op.store 27 (.tmp t1) (.tmp t2),type:=u,pos:=ps,after:=ed,guard:=none }).run prog w=.ok .skip ((((w.setCell ⟨g,0,none⟩ (.bool s)).setCell ⟨g,1,none⟩ (.int .u64 x)).setCell ⟨g,2,none⟩ (.int .u64 y)).setCell ⟨g,3,none⟩ (.pointer p)):=by(
 obtain⟨c0,c1,c2,c3⟩:=hc
 unfold execOp
 simp only[h1,h2]
 go_simp)
def qw (w:World) (g:Nat) (s:Bool) (x y:Int) (p:Option Addr):World:=(((w.setCell ⟨g,0,none⟩ (.bool s)).setCell ⟨g,1,none⟩ (.int .u64 x)).setCell ⟨g,2,none⟩ (.int .u64 y)).setCell ⟨g,3,none⟩ (.pointer p)
theorem ax (w:World) (g:Nat) (s:Bool) (x y:Int) (p:Option Addr):But [g] w (qw w g s x y p):=(((((But.refl [g] w).setCell (.inl (by simp)) _).setCell (.inl (by simp)) _).setCell (.inl (by simp)) _).setCell (.inl (by simp)) _)
theorem j6 (w:World) (g:Nat) (s:Bool) (x y:Int) (p:Option Addr) {s':Bool} {x' y':Int} {p':Option Addr} (hc:P4 w g s' x' y' p'):P4 (qw w g s x y p) g s x y p:=by
 obtain⟨h1,-⟩:=qck w g (.bool s) (.int .u64 x) (.int .u64 y) (.pointer p) (by rw[hc.1];rfl) (by rw[hc.2.1];rfl) (by rw[hc.2.2.1];rfl) (by rw[hc.2.2.2];rfl)
 exact⟨h1 0 (by omega),h1 1 (by omega),h1 2 (by omega),h1 3 (by omega)⟩
theorem qhq (w:World) (g:Nat) (s:Bool) (x y:Int) (p:Option Addr) (b j:Nat):(qw w g s x y p).frozen? ⟨b,j,none⟩=w.frozen? ⟨b,j,none⟩:=by
 unfold qw
 simp only[World.frozen?_setCell]
def zyl (ops:Array Oper):Bool:=(List.range ops.size).all fun i=>match ops[i]? with
 | some o=>o.guard.isNone && (match o.op with | .defer _=>false | _=>true)
 | none=>true
theorem zgf {ops:Array Oper} (h:zyl ops=true):∀ (i:Nat) (o:Oper),ops[i]? = some o→o.guard=none∧∀ c,o.op≠.defer c:=fun i o ho=>by
 have hi:i<ops.size:=(Array.getElem?_eq_some_iff.1 ho).1
 unfold zyl at h
 rw[List.all_eq_true] at h
 have h1:=h i (List.mem_range.2 hi)
 simp only[ho,Bool.and_eq_true,Option.isNone_iff_eq_none] at h1
 exact⟨h1.1,fun c e=>by rw[e] at h1;simp at h1⟩
theorem mh {ops:Array Oper} {ps:List (Nat × Nat)} (h:zfm ops ps=true) {i:Nat} {o:Oper} (ho:ops[i]? = some o) (R:Nat→Prop) (hdep:∀ e ∈ o.after,Region.binds .any e=true→R e.on) (j:Nat) (hij:(i,j) ∈ ps):R j:=by(
 obtain⟨o',ho',ed,hed,hbi,rfl⟩:=zed h i j hij
 rw[ho] at ho'
 obtain rfl:=Option.some.inj ho'
 exact hdep ed hed hbi)
structure Calm (A B:World):Prop where
 size:A.heap.size≤B.heap.size
 block:∀ k i v,A.cell? ⟨k,i,none⟩=some v→B.heap[k]? = A.heap[k]?
theorem Calm.cell {A B:World} (h:Calm A B) {k i:Nat} {v:Value} (hc:A.cell? ⟨k,i,none⟩=some v):B.cell? ⟨k,i,none⟩=some v:=(World.cell?_of_block (w:=A) (h.block k i v hc)).trans hc
theorem Calm.frozen {A B:World} (h:Calm A B) {k i j:Nat} {v:Value} (hc:A.cell? ⟨k,i,none⟩=some v):B.frozen? ⟨k,j,none⟩=A.frozen? ⟨k,j,none⟩:=World.frozen?_of_block (w:=A) (a:=⟨k,j,none⟩) (h.block k i v hc)
theorem Sl.calm {k:IntKind} {A B:World} {v:Value} {xs:List Nat} (h:Sl k A v xs) (hb:Calm A B):Sl k B v xs:=by(
 obtain⟨a,cap,rfl,hc,h,hi⟩:=h
 refine⟨a,cap,rfl,hc,fun i hi=>?_,fun b off e h0=>?_⟩
 ·obtain⟨b,off,rfl,h2⟩:=h i hi
  exact⟨b,off,rfl,hb.cell h2⟩
 ·(
 subst e
 obtain⟨b2,off2,e2,h2⟩:=h 0 h0
 simp only[Option.some.injEq,Addr.mk.injEq] at e2
 obtain⟨rfl,rfl,-⟩:=e2
 have hbl:=hb.block _ _ _ h2
 exact fun i v hv=>hi _ _ rfl h0 i v (by rw[← World.cell?_of_block (w:=A) (w':=B) (a:=⟨_,i,none⟩) hbl];exact hv)))
theorem aq.calm {A B:World} {v:Value} {f:Rat} (h:aq A v f) (hb:Calm A B):aq B v f:=by(
 rcases h with h|⟨h1,b,v1,v2,h2,h3,h4,h5,h6⟩
 ·exact .inl h
 ·exact .inr ⟨h1,b,v1,v2,h2,hb.cell h3,hb.cell h4,h5.calm hb,h6.calm hb⟩)
theorem P4.calm {A B:World} {b:Nat} {s:Bool} {x y:Int} {p:Option Addr} (h:P4 A b s x y p) (hb:Calm A B):P4 B b s x y p:=⟨hb.cell h.1,hb.cell h.2.1,hb.cell h.2.2.1,hb.cell h.2.2.2⟩
def bf (w:World) (g:Nat) (f:Rat):Prop:=(∃ s x y p,P4 w g s x y p∧aq w (.agg #[.bool s,.int .u64 x,.int .u64 y,.pointer p]) f)∧∀ j,w.frozen? ⟨g,j,none⟩=false
theorem bf.calm {A B:World} {g:Nat} {f:Rat} (h:bf A g f) (hb:Calm A B):bf B g f:=by
 obtain⟨⟨s,x,y,p,h1,h2⟩,h3⟩:=h
 exact⟨⟨s,x,y,p,h1.calm hb,h2.calm hb⟩,fun j=>(hb.frozen h1.1).trans (h3 j)⟩
theorem bf.but {A B:World} {g:Nat} {f:Rat} (h:bf A g f) (hb:But [] A B):bf B g f:=by(
 obtain⟨⟨s,x,y,p,h1,h2⟩,h3⟩:=h
 have hl:g<A.heap.size:=ai h1.1
 exact⟨⟨s,x,y,p,h1.but hb (by simp),h2.but hb⟩,fun j=>(hb.frozen (p:=⟨g,j,none⟩) hl (by simp)).trans (h3 j)⟩)
theorem bf.beside {A B:World} {g:Nat} {f:Rat} {l:List Nat} (h:bf A g f) (hb:But l A B) (hn:g ∉ l) (hc:∀ g ∈ l,∃ s,A.cell? ⟨g,0,none⟩=some (.bool s)):bf B g f:=by(
 obtain⟨⟨s,x,y,p,h1,h2⟩,h3⟩:=h
 have hl:g<A.heap.size:=ai h1.1
 exact⟨⟨s,x,y,p,h1.but hb hn,h2.beside hb hc⟩,fun j=>(hb.frozen (p:=⟨g,j,none⟩) hl hn).trans (h3 j)⟩)
theorem bf.put {w:World} {g:Nat} {f f':Rat} (h:bf w g f) {s:Bool} {x y:Int} {p:Option Addr} (hf:aq w (.agg #[.bool s,.int .u64 x,.int .u64 y,.pointer p]) f'):bf (qw w g s x y p) g f':=by
 obtain⟨⟨s0,x0,y0,p0,h1,h2⟩,h3⟩:=h
 exact⟨⟨s,x,y,p,j6 w g s x y p h1,hf.over h1.1 (ax w g s x y p)⟩,fun j=>(qhq w g s x y p g j).trans (h3 j)⟩
theorem bf.new (w:World) (s:Bool) (x y:Int) (p:Option Addr) (f:Rat) (t:TypeId) (h:aq w (.agg #[.bool s,.int .u64 x,.int .u64 y,.pointer p]) f):bf (w.alloc (.cells #[.bool s,.int .u64 x,.int .u64 y,.pointer p] t)) w.heap.size f :=
 ⟨⟨s,x,y,p,⟨by simp,by simp,by simp,by simp⟩,h.but ((But.refl _ _).alloc _)⟩,fun j=>by simp⟩
theorem bf.lt {w:World} {g:Nat} {f:Rat} (h:bf w g f):g<w.heap.size:=by
 obtain⟨⟨s,x,y,p,h1,-⟩,-⟩:=h
 exact ai h1.1
theorem bf.bool {w:World} {g:Nat} {f:Rat} (h:bf w g f):∃ s,w.cell? ⟨g,0,none⟩=some (.bool s):=by
 obtain⟨⟨s,x,y,p,h1,-⟩,-⟩:=h
 exact⟨s,h1.1⟩
theorem au.get {w:World} {b off n cap:Nat} {fs:List Rat} (h:au w (.slice (some ⟨b,off,none⟩) n cap) fs) (i:Nat) (hi:i<n):∃ s x y p,P4o w b (off+i*4) s x y p∧aq w (.agg #[.bool s,.int .u64 x,.int .u64 y,.pointer p]) (fs[i]?.getD 0):=by(
 obtain⟨a,cap',e,-,h⟩:=h
 simp only[Value.slice.injEq] at e
 obtain⟨rfl,rfl,-⟩:=e
 obtain⟨b',off',e2,s,x,y,p,h1,h2⟩:=h i fs[i] (List.getElem?_eq_getElem hi)
 simp only[Option.some.injEq,Addr.mk.injEq] at e2
 obtain⟨rfl,rfl,-⟩:=e2
 exact⟨s,x,y,p,h1,by rw[List.getElem?_eq_getElem hi];exact h2⟩)
theorem zfl {P:Program} {f:FuncId} {args:Array Value} {w:World} {r:Rat} (h:Calls P f args w fun e w'=>∃ v,e=.returned v∧aq w' v r∧But [] w w') :
  Calls P f args w fun e w'=>∃ s x y p,e=.returned (.agg #[.bool s,.int .u64 x,.int .u64 y,.pointer p])∧aq w' (.agg #[.bool s,.int .u64 x,.int .u64 y,.pointer p]) r∧But [] w w' :=
 h.mono fun e w' ⟨v,he,hv,hb⟩=>by
  obtain⟨x,y,p,rfl,-⟩:=hv.agg
  exact⟨_,x,y,p,he,hv,hb⟩
theorem yw (w:World):aq w (.agg #[.bool false,.int .u64 0,.int .u64 0,.pointer none]) 0:=.inl ⟨by decide,by decide,rfl⟩
theorem zoz:∃ i,prog.info? 27 = some i∧i.zero=some (.agg #[.bool false,.int .u64 0,.int .u64 0,.pointer none])∧i.size=4∧i.bytes=32:=by(
 have h:(prog.info? 27).map (fun i=>(i.zero,i.size,i.bytes))=some (some (.agg #[.bool false,.int .u64 0,.int .u64 0,.pointer none]),4,32):=by kernel_rfl
 cases e:prog.info? 27 with
 | none=>rw[e] at h;simp at h
 | some i =>
  rw[e] at h
  simp only[Option.map_some,Option.some.injEq,Prod.mk.injEq] at h
  exact⟨i,rfl,h.1,h.2.1,h.2.2⟩)
theorem qaj (n o:Nat) (h:o<n*4):(madeCells #[Value.bool false,.int .u64 0,.int .u64 0,.pointer none] (n*4))[o]? = (#[Value.bool false,.int .u64 0,.int .u64 0,.pointer none]:Array Value)[o%4]?:=by(
 unfold madeCells
 rw[Array.getElem?_map,Array.getElem?_eq_getElem (by simpa using h),Array.getElem_range,Option.map_some]
 have:o%4=0∨o%4=1∨o%4=2∨o%4=3:=by omega
 show some ((#[Value.bool false,.int .u64 0,.int .u64 0,.pointer none]:Array Value)[o%4]!)=_
 rcases this with e | e | e | e <;> (rw[e];rfl))
def zcm (q:Int):Value:=if q=0 then .nilIface else .iface 33 (.int .i64 q)
end Go.Proofs.YtagmkkiagjmimaaGreatDoor
