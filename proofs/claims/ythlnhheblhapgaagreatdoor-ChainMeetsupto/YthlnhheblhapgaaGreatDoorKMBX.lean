/- Single operations, boxes that hold fract -/
import Derived.Test.YthlnhheblhapgaaGreatDoorKMF2
namespace Go.Proofs.YthlnhheblhapgaaGreatDoor
open Go.RowKit
theorem run_store4 (a:Act) (w:World) (t1 t2:Nat) (u:TypeId) (ps:String) (ed:Array Edge) (g:Nat) (s:Bool) (x y:Int) (p:Option Addr) {s':Bool} {x' y':Int} {p':Option Addr} (h1:a.eval (.tmp t1)=.pointer (some ⟨g,0,none⟩)) (h2:a.eval (.tmp t2)=.agg #[.bool s,.int .u64 x,.int .u64 y,.pointer p]) (hc:P4 w g s' x' y' p') (fz:∀ j,w.frozen? ⟨g,j,none⟩=false) :
  (execOp a.eval { dst:=none,op:=Op.store 41 (.tmp t1) (.tmp t2),type:=u,pos:=ps,after:=ed,guard:=none }).run Tryz.prog w=.ok .skip ((((w.setCell ⟨g,0,none⟩ (.bool s)).setCell ⟨g,1,none⟩ (.int .u64 x)).setCell ⟨g,2,none⟩ (.int .u64 y)).setCell ⟨g,3,none⟩ (.pointer p)):=by
 obtain ⟨c0,c1,c2,c3⟩:=hc
 unfold execOp
 simp only [h1,h2]
 go_simp
def put4 (w:World) (g:Nat) (s:Bool) (x y:Int) (p:Option Addr):World:=(((w.setCell ⟨g,0,none⟩ (.bool s)).setCell ⟨g,1,none⟩ (.int .u64 x)).setCell ⟨g,2,none⟩ (.int .u64 y)).setCell ⟨g,3,none⟩ (.pointer p)
theorem put4_but (w:World) (g:Nat) (s:Bool) (x y:Int) (p:Option Addr):But [g] w (put4 w g s x y p):=(((((But.refl [g] w).setCell (.inl (by simp)) _).setCell (.inl (by simp)) _).setCell (.inl (by simp)) _).setCell (.inl (by simp)) _)
theorem put4_p4 (w:World) (g:Nat) (s:Bool) (x y:Int) (p:Option Addr) {s':Bool} {x' y':Int} {p':Option Addr} (hc:P4 w g s' x' y' p'):P4 (put4 w g s x y p) g s x y p:=by
 obtain ⟨h1,-⟩:=set4_all w g (.bool s) (.int .u64 x) (.int .u64 y) (.pointer p) (by rw [hc.1];rfl) (by rw [hc.2.1];rfl) (by rw [hc.2.2.1];rfl) (by rw [hc.2.2.2];rfl)
 exact ⟨h1 0 (by omega),h1 1 (by omega),h1 2 (by omega),h1 3 (by omega)⟩
theorem put4_fz (w:World) (g:Nat) (s:Bool) (x y:Int) (p:Option Addr) (b j:Nat):(put4 w g s x y p).frozen? ⟨b,j,none⟩=w.frozen? ⟨b,j,none⟩:=by
 unfold put4
 simp only [World.frozen?_setCell]
def calmOps (ops:Array Oper):Bool:=(List.range ops.size).all fun i=>match ops[i]? with
 | some o=>o.guard.isNone && (match o.op with | .defer _=>false | _=>true)
 | none=>true
theorem calm_of {ops:Array Oper} (h:calmOps ops=true):∀ (i:Nat) (o:Oper),ops[i]? = some o→o.guard=none∧∀ c,o.op≠.defer c:=fun i o ho=>by
 have hi:i<ops.size:=(Array.getElem?_eq_some_iff.1 ho).1
 unfold calmOps at h
 rw [List.all_eq_true] at h
 have h1:=h i (List.mem_range.2 hi)
 simp only [ho,Bool.and_eq_true,Option.isNone_iff_eq_none] at h1
 exact ⟨h1.1,fun c e=>by rw [e] at h1;simp at h1⟩
theorem dep_have {ops:Array Oper} {ps:List (Nat × Nat)} (h:depOps ops ps=true) {i:Nat} {o:Oper} (ho:ops[i]? = some o) (R:Nat→Prop) (hdep:∀ e ∈ o.after,Region.binds .any e=true→R e.on) (j:Nat) (hij:(i,j) ∈ ps):R j:=by
 obtain ⟨o',ho',ed,hed,hbi,rfl⟩:=dep_of h i j hij
 rw [ho] at ho'
 obtain rfl:=Option.some.inj ho'
 exact hdep ed hed hbi
def BoxAt (w:World) (g:Nat) (f:Rat):Prop:=(∃ s x y p,P4 w g s x y p∧FracAt w (.agg #[.bool s,.int .u64 x,.int .u64 y,.pointer p]) f)∧∀ j,w.frozen? ⟨g,j,none⟩=false
theorem BoxAt.but {A B:World} {g:Nat} {f:Rat} (h:BoxAt A g f) (hb:But [] A B):BoxAt B g f:=by
 obtain ⟨⟨s,x,y,p,h1,h2⟩,h3⟩:=h
 have hl:g<A.heap.size:=lt_of_cell h1.1
 exact ⟨⟨s,x,y,p,h1.but hb (by simp),h2.but hb⟩,fun j=>(hb.frozen (p:=⟨g,j,none⟩) hl (by simp)).trans (h3 j)⟩
theorem BoxAt.beside {A B:World} {g:Nat} {f:Rat} {l:List Nat} (h:BoxAt A g f) (hb:But l A B) (hn:g ∉ l) (hc:∀ g ∈ l,∃ s,A.cell? ⟨g,0,none⟩=some (.bool s)):BoxAt B g f:=by
 obtain ⟨⟨s,x,y,p,h1,h2⟩,h3⟩:=h
 have hl:g<A.heap.size:=lt_of_cell h1.1
 exact ⟨⟨s,x,y,p,h1.but hb hn,h2.beside hb hc⟩,fun j=>(hb.frozen (p:=⟨g,j,none⟩) hl hn).trans (h3 j)⟩
theorem BoxAt.put {w:World} {g:Nat} {f f':Rat} (h:BoxAt w g f) {s:Bool} {x y:Int} {p:Option Addr} (hf:FracAt w (.agg #[.bool s,.int .u64 x,.int .u64 y,.pointer p]) f'):BoxAt (put4 w g s x y p) g f':=by
 obtain ⟨⟨s0,x0,y0,p0,h1,h2⟩,h3⟩:=h
 exact ⟨⟨s,x,y,p,put4_p4 w g s x y p h1,hf.over h1.1 (put4_but w g s x y p)⟩,fun j=>(put4_fz w g s x y p g j).trans (h3 j)⟩
theorem BoxAt.new (w:World) (s:Bool) (x y:Int) (p:Option Addr) (f:Rat) (t:TypeId) (h:FracAt w (.agg #[.bool s,.int .u64 x,.int .u64 y,.pointer p]) f):BoxAt (w.alloc (.cells #[.bool s,.int .u64 x,.int .u64 y,.pointer p] t)) w.heap.size f :=
 ⟨⟨s,x,y,p,⟨by simp,by simp,by simp,by simp⟩,h.but ((But.refl _ _).alloc _)⟩,fun j=>by simp⟩
theorem BoxAt.lt {w:World} {g:Nat} {f:Rat} (h:BoxAt w g f):g<w.heap.size:=by
 obtain ⟨⟨s,x,y,p,h1,-⟩,-⟩:=h
 exact lt_of_cell h1.1
theorem BoxAt.bool {w:World} {g:Nat} {f:Rat} (h:BoxAt w g f):∃ s,w.cell? ⟨g,0,none⟩=some (.bool s):=by
 obtain ⟨⟨s,x,y,p,h1,-⟩,-⟩:=h
 exact ⟨s,h1.1⟩
theorem FracsAt.get {w:World} {b off n cap:Nat} {fs:List Rat} (h:FracsAt w (.slice (some ⟨b,off,none⟩) n cap) fs) (i:Nat) (hi:i<n):∃ s x y p,P4o w b (off+i*4) s x y p∧FracAt w (.agg #[.bool s,.int .u64 x,.int .u64 y,.pointer p]) (fs[i]?.getD 0):=by
 obtain ⟨a,cap',e,-,h⟩:=h
 simp only [Value.slice.injEq] at e
 obtain ⟨rfl,rfl,-⟩:=e
 obtain ⟨b',off',e2,s,x,y,p,h1,h2⟩:=h i fs[i] (List.getElem?_eq_getElem hi)
 simp only [Option.some.injEq,Addr.mk.injEq] at e2
 obtain ⟨rfl,rfl,-⟩:=e2
 exact ⟨s,x,y,p,h1,by rw [List.getElem?_eq_getElem hi];exact h2⟩
theorem in_parts {P:Program} {f:FuncId} {args:Array Value} {w:World} {r:Rat} (h:Calls P f args w fun e w'=>∃ v,e=.returned v∧FracAt w' v r∧But [] w w') :
  Calls P f args w fun e w'=>∃ s x y p,e=.returned (.agg #[.bool s,.int .u64 x,.int .u64 y,.pointer p])∧FracAt w' (.agg #[.bool s,.int .u64 x,.int .u64 y,.pointer p]) r∧But [] w w' :=
 h.mono fun e w' ⟨v,he,hv,hb⟩=>by
  obtain ⟨x,y,p,rfl,-⟩:=hv.agg
  exact ⟨_,x,y,p,he,hv,hb⟩
theorem zero_at (w:World):FracAt w (.agg #[.bool false,.int .u64 0,.int .u64 0,.pointer none]) 0:=.inl ⟨by decide,by decide,rfl⟩
theorem FracsAt.behind {w0 w w':World} {v:Value} {fs:List Rat} {g:Nat} (h0:FracsAt w0 v fs) (h:FracsAt w v fs) (hb:But [g] w w') (hg:w0.heap.size≤g) (hc:∃ s,w.cell? ⟨g,0,none⟩=some (.bool s)):FracsAt w' v fs:=by
 obtain ⟨a0,cap0,e0,-,k0⟩:=h0
 obtain ⟨a,cap,rfl,hcp,k⟩:=h
 simp only [Value.slice.injEq] at e0
 obtain ⟨rfl,-,-⟩:=e0
 refine ⟨a,cap,rfl,hcp,fun i f hf=>?_⟩
 obtain ⟨b,off,rfl,h1⟩:=k i f hf
 obtain ⟨b',off',e',s,x,y,p,h2,-⟩:=k0 i f hf
 simp only [Option.some.injEq,Addr.mk.injEq] at e'
 obtain ⟨rfl,-,-⟩:=e'
 have hlt:b<w0.heap.size:=lt_of_cell h2.1
 exact ⟨b,off,rfl,h1.beside hb (by simp;omega) (fun g' hg'=>by simp at hg';subst hg';exact hc)⟩
theorem info_frac:∃ i,Tryz.prog.info? 41 = some i∧i.zero=some (.agg #[.bool false,.int .u64 0,.int .u64 0,.pointer none])∧i.size=4∧i.bytes=32:=by
 have h:(Tryz.prog.info? 41).map (fun i=>(i.zero,i.size,i.bytes))=some (some (.agg #[.bool false,.int .u64 0,.int .u64 0,.pointer none]),4,32):=by kernel_rfl
 cases e:Tryz.prog.info? 41 with
 | none=>rw [e] at h;simp at h
 | some i =>
  rw [e] at h
  simp only [Option.map_some,Option.some.injEq,Prod.mk.injEq] at h
  exact ⟨i,rfl,h.1,h.2.1,h.2.2⟩
theorem run_makeF (wx:World) (n:Nat) (h:n<1000000):(Instr.makeSlice 32 (.int .i64 (n:Int)) (.int .i64 (n:Int))).run Tryz.prog wx=.ok (.slice (some ⟨wx.heap.size,0,none⟩) n n) (wx.alloc (.cells (madeCells #[.bool false,.int .u64 0,.int .u64 0,.pointer none] (n*4)) 41)):=by
 obtain ⟨ti,hi,hz,hs,hbt⟩:=info_frac
 have hmk:=run_make (P:=Tryz.prog) wx 32 41 ti _ Tryz.underlying32 hi hz .i64 .i64 (n:Int) (n:Int) (by omega) (by omega) (by rw [hbt];omega) (by omega)
 rw [hs,Int.toNat_natCast] at hmk
 exact hmk
theorem made_four (n o:Nat) (h:o<n*4):(madeCells #[Value.bool false,.int .u64 0,.int .u64 0,.pointer none] (n*4))[o]? = (#[Value.bool false,.int .u64 0,.int .u64 0,.pointer none]:Array Value)[o%4]?:=by
 unfold madeCells
 rw [Array.getElem?_map,Array.getElem?_eq_getElem (by simpa using h),Array.getElem_range,Option.map_some]
 have:o%4=0∨o%4=1∨o%4=2∨o%4=3:=by omega
 show some ((#[Value.bool false,.int .u64 0,.int .u64 0,.pointer none]:Array Value)[o%4]!)=_
 rcases this with e | e | e | e <;> (rw [e];rfl)
end Go.Proofs.YthlnhheblhapgaaGreatDoor

namespace Go.Proofs.YthlnhheblhapgaaGreatDoor
open Go.RowKit
structure Flow2 (base:Act) (H:(Nat→Bool)→World→Prop) (C:Nat→World→Value→Prop) (T:Nat→Nat) (m:Nat) (d:Nat→Bool) (a:Act) (w:World):Prop where
 mem:H d w
 size:a.tmps.size=base.tmps.size
 defers:a.defers=base.defers
 rest:∀ t,(∀ j,j<m→t≠T j)→a.tmps[t]? = base.tmps[t]?
 has:∀ i,i<m→d i=true→C i w (a.eval (.tmp (T i)))
theorem Flow2.next {base:Act} {H:(Nat→Bool)→World→Prop} {C:Nat→World→Value→Prop} {T:Nat→Nat} {m:Nat} {d:Nat→Bool} {a:Act} {w:World} (h:Flow2 base H C T m d a w)
  (hinj:∀ i j,i<m→j<m→T i=T j→i=j) (hT:∀ i,i<m→T i<base.tmps.size)
  (i:Nat) (hi:i<m) (v:Value) (w':World) (hH:H (came d i) w') (hC:∀ j,j<m→d j=true→∀ u,C j w u→C j w' u) (hv:C i w' v):Flow2 base H C T m (came d i) (a.put (some (T i)) v) w' where
 mem:=hH
 size:=by rw [size_putted];exact h.size
 defers:=h.defers
 rest:=fun t ht=>by rw [slot_put,if_neg (fun e=>ht i hi e.symm)];exact h.rest t ht
 has:=fun j hj hd=>by
  by_cases e:j=i
  ·subst e
   rw [at_eq a (T j) v (by rw [h.size];exact hT j hj)]
   exact hv
  ·rw [came_ne d e] at hd
   rw [at_ne a (T i) (T j) v (fun e2=>e (hinj j i hj hi e2))]
   exact hC j hj hd _ (h.has j hj hd)
theorem Flow2.eval {base:Act} {H:(Nat→Bool)→World→Prop} {C:Nat→World→Value→Prop} {T:Nat→Nat} {m:Nat} {d:Nat→Bool} {a:Act} {w:World} (h:Flow2 base H C T m d a w) (t:Nat) (ht:∀ j,j<m→t≠T j):a.eval (.tmp t)=base.eval (.tmp t):=by
 show a.tmps.getD t undef=base.tmps.getD t undef
 simp only [Array.getD_eq_getD_getElem?,h.rest t ht]
theorem Flow2.puts {base:Act} {H:(Nat→Bool)→World→Prop} {C:Nat→World→Value→Prop} {T:Nat→Nat} {m:Nat} {d:Nat→Bool} {a:Act} {w:World} (h:Flow2 base H C T m d a w) (hT:∀ i,i<m→T i<base.tmps.size) (V:Nat→Value) (hV:∀ i,i<m→a.eval (.tmp (T i))=V i):a=putted base ((List.range m).map fun i=>(T i,V i)):=by
 refine putted_eq _ base a h.defers h.size (fun p hp=>?_) (fun t ht=>?_)
 ·obtain ⟨i,hi,rfl⟩:=List.mem_map.1 hp
  have hi':=List.mem_range.1 hi
  exact slot_is (hV i hi') (by rw [h.size];exact hT i hi')
 ·refine h.rest t (fun j hj e=>?_)
  exact ht (T j,V j) (List.mem_map.2 ⟨j,List.mem_range.2 hj,rfl⟩) e
theorem region_flow {P:Program} {id:Nat} {ops:Array Oper} {Q:Exit→Act→World→Prop} {base:Act} {W0:World} (hm:P.follows .mixedOrders=true)
  (hlow:∀ i o,ops[i]? = some o→∀ e ∈ o.after,Region.binds .any e=true→e.on<i)
  (hg:∀ (i:Nat) (o:Oper),ops[i]? = some o→o.guard=none)
  (H:(Nat→Bool)→World→Prop) (C:Nat→World→Value→Prop) (T:Nat→Nat) (m:Nat) (hsz:ops.size=m+1)
  (hinj:∀ i j,i<m→j<m→T i=T j→i=j) (hT:∀ i,i<m→T i<base.tmps.size) (h0:H (fun _=>false) W0.drew)
  (hall:∀ i,i<m→∃ o,ops[m]? = some o∧∃ e ∈ o.after,Region.binds .any e=true∧e.on=i)
  (hstep:∀ (d:Nat→Bool) (i:Nat) (o:Oper) (a:Act) (w:World) (K:Act→World→Prop),i<m→ops[i]? = some o→d i=false→H d w→(∀ t,(∀ j,j<m→t≠T j)→a.eval (.tmp t)=base.eval (.tmp t))→(∀ e ∈ o.after,Region.binds .any e=true→d e.on=true∧C e.on w (a.eval (.tmp (T e.on))))→(∀ v w',H (came d i) w'→(∀ j,j<m→d j=true→∀ u,C j w u→C j w' u)→C i w' v→K (a.put (some (T i)) v) w')→o.wp P a w K Q)
  (Fin:Act→World→Prop)
  (hlast:∀ (d:Nat→Bool) (o:Oper) (a:Act) (w:World) (K:Act→World→Prop),ops[m]? = some o→(∀ i,i<m→d i=true)→Flow2 base H C T m d a w→(∀ a' w',Fin a' w'→K a' w')→o.wp P a w K Q)
  (hend:∀ a w,Fin a w→Q .normal a w) :
  (Code.region id ops true).wp P Q base W0:=by
 have wpo:∀ i o a w (K:Act→World→Prop),ops[i]? = some o→o.wp P a w K Q→wpOp P ops Q i K a w:=fun i o a w K ho h=>by
  unfold wpOp
  simp only [ho,Region.wanted,hg i o ho,if_true]
  exact .inl h
 refine region_inv hm hlow (fun d a w=>if d m=true then (Fin a w∧∀ i,i<m→d i=true) else Flow2 base H C T m d a w) ?_ ?_ ?_
 ·simp only [Bool.false_eq_true,if_false]
  exact ⟨h0,rfl,rfl,fun _ _=>rfl,fun _ _ h=>by simp at h⟩
 ·intro d a w hd h
  rw [if_pos (hd m (by omega))] at h
  exact hend a w h.1
 ·intro d i o a w ho hdi hdep h
  refine wpo i o a w _ ho ?_
  have hi:i<m+1:=by rw [← hsz];exact (Array.getElem?_eq_some_iff.1 ho).1
  by_cases e:i=m
  ·subst e
   rw [if_neg (by rw [hdi];simp)] at h
   have hd:∀ j,j<i→d j=true:=fun j hj=>by
    obtain ⟨o',ho',ed,he,hb,rfl⟩:=hall j hj
    rw [ho] at ho'
    obtain rfl:=Option.some.inj ho'
    exact hdep ed he hb
   refine hlast d o a w _ ho hd h (fun a' w' hf=>?_)
   rw [if_pos (came_self d i)]
   exact ⟨hf,fun j hj=>by rw [came_ne d (by omega)];exact hd j hj⟩
  ·have him:i<m:=by omega
   by_cases hdm:d m=true
   ·exfalso
    rw [if_pos hdm] at h
    rw [h.2 i him] at hdi
    simp at hdi
   ·rw [if_neg hdm] at h
    refine hstep d i o a w _ him ho hdi h.mem (fun t ht=>h.eval t ht) (fun ed he hb=>⟨hdep ed he hb,h.has _ (by have:=hlow i o ho ed he hb;omega) (hdep ed he hb)⟩) (fun v w' hH hC hv=>?_)
    rw [if_neg (by rw [came_ne d (Ne.symm e)];exact hdm)]
    exact h.next hinj hT i him v w' hH hC hv
end Go.Proofs.YthlnhheblhapgaaGreatDoor

namespace Go.Proofs.YthlnhheblhapgaaGreatDoor
open Go.RowKit
def Down (ops:Array Oper) (d:Nat→Bool):Prop:=∀ i o,ops[i]? = some o→d i=true→∀ e ∈ o.after,Region.binds .any e=true→d e.on=true
structure Run (W:World) (ops:Array Oper) (base:Act) (C:Nat→World→Value→Prop) (T:Nat→Nat) (d:Nat→Bool) (a:Act) (w:World):Prop where
 down:Down ops d
 but:But [] W w
 size:a.tmps.size=base.tmps.size
 defers:a.defers=base.defers
 rest:∀ t,(∀ j,j<ops.size→d j=true→t≠T j)→a.tmps[t]? = base.tmps[t]?
 has:∀ i,i<ops.size→d i=true→C i w (a.eval (.tmp (T i)))
theorem Run.eval {W:World} {ops:Array Oper} {base:Act} {C:Nat→World→Value→Prop} {T:Nat→Nat} {d:Nat→Bool} {a:Act} {w:World} (h:Run W ops base C T d a w) (t:Nat) (ht:∀ j,j<ops.size→d j=true→t≠T j):a.eval (.tmp t)=base.eval (.tmp t):=by
 show a.tmps.getD t undef=base.tmps.getD t undef
 simp only [Array.getD_eq_getD_getElem?,h.rest t ht]
theorem Run.next {W:World} {ops:Array Oper} {base:Act} {C:Nat→World→Value→Prop} {T:Nat→Nat} {d:Nat→Bool} {a:Act} {w:World} (h:Run W ops base C T d a w)
  (hinj:∀ i j,i<ops.size→j<ops.size→T i=T j→i=j) (hT:∀ i,i<ops.size→T i<base.tmps.size) (hC:∀ i w w' v,i<ops.size→C i w v→But [] w w'→C i w' v)
  (i:Nat) (o:Oper) (ho:ops[i]? = some o) (hdep:∀ e ∈ o.after,Region.binds .any e=true→d e.on=true) (v:Value) (w':World) (hb:But [] w w') (hv:C i w' v):Run W ops base C T (came d i) (a.put (some (T i)) v) w':=by
 have hi:i<ops.size:=(Array.getElem?_eq_some_iff.1 ho).1
 refine ⟨fun j oj hj hd e he hbi=>?_,h.but.trans' hb,by rw [size_putted];exact h.size,h.defers,fun t ht=>?_,fun j hj hd=>?_⟩
 ·by_cases e1:e.on=i
  ·rw [e1];exact came_self d i
  ·rw [came_ne d e1]
   by_cases e2:j=i
   ·subst e2
    rw [ho] at hj
    obtain rfl:=Option.some.inj hj
    exact hdep e he hbi
   ·rw [came_ne d e2] at hd
    exact h.down j oj hj hd e he hbi
 ·rw [slot_put,if_neg (fun e=>ht i hi (came_self d i) e.symm)]
  exact h.rest t (fun j hj hd=>by
   by_cases e:j=i
   ·subst e;exact ht j hj (came_self d j)
   ·exact ht j hj (by rw [came_ne d e];exact hd))
 ·by_cases e:j=i
  ·subst e
   rw [at_eq a (T j) v (by rw [h.size];exact hT j hj)]
   exact hv
  ·rw [came_ne d e] at hd
   rw [at_ne a (T i) (T j) v (fun e2=>e (hinj j i hj hi e2))]
   exact hC j w w' _ hj (h.has j hj hd) hb
def plainOps (ops:Array Oper) (T:Nat→Nat):Bool:=(List.range ops.size).all fun i=>match ops[i]? with
 | some o=>(o.dst==some (T i)) && (match o.guard with | none=>true | some (j,_)=>decide (j<ops.size) && o.after.any fun e=>Region.binds .any e && e.on==j)
 | none=>true
theorem plain_of {ops:Array Oper} {T:Nat→Nat} (h:plainOps ops T=true):∀ (i:Nat) (o:Oper),ops[i]? = some o→o.dst=some (T i)∧∀ j want,o.guard=some (j,want)→j<ops.size∧∃ e ∈ o.after,Region.binds .any e=true∧e.on=j:=fun i o ho=>by
 have hi:i<ops.size:=(Array.getElem?_eq_some_iff.1 ho).1
 unfold plainOps at h
 rw [List.all_eq_true] at h
 have h1:=h i (List.mem_range.2 hi)
 simp only [ho,Bool.and_eq_true,beq_iff_eq] at h1
 refine ⟨h1.1,fun j want hg=>?_⟩
 have h2:=h1.2
 rw [hg] at h2
 simp only [Bool.and_eq_true,decide_eq_true_eq] at h2
 refine ⟨h2.1,?_⟩
 have h3:=h2.2
 rw [Array.any_eq_true] at h3
 obtain ⟨k,hk,h4⟩:=h3
 simp only [Bool.and_eq_true,beq_iff_eq] at h4
 exact ⟨o.after[k],Array.getElem_mem hk,h4.1,h4.2⟩
theorem region_go {P:Program} {id:Nat} {ops:Array Oper} {Q:Exit→Act→World→Prop} {base:Act} {W0:World} (hm:P.follows .mixedOrders=true)
  (hlow:∀ i o,ops[i]? = some o→∀ e ∈ o.after,Region.binds .any e=true→e.on<i)
  (C:Nat→World→Value→Prop) (T:Nat→Nat) (hpl:plainOps ops T=true)
  (hgd:∀ (i:Nat) (o:Oper) (j:Nat) (want:Bool),ops[i]? = some o→o.guard=some (j,want)→∀ w v,C j w v→v=.bool want)
  (hinj:∀ i j,i<ops.size→j<ops.size→T i=T j→i=j) (hT:∀ i,i<ops.size→T i<base.tmps.size) (hC:∀ i w w' v,i<ops.size→C i w v→But [] w w'→C i w' v)
  (hstep:∀ (i:Nat) (o:Oper) (a:Act) (w:World) (K:Act→World→Prop),ops[i]? = some o→But [] W0.drew w→(∀ t,(∀ j,j<ops.size→t=T j→∃ oj,ops[j]? = some oj∧∃ e ∈ oj.after,Region.binds .any e=true∧e.on=i)→a.eval (.tmp t)=base.eval (.tmp t))→(∀ e ∈ o.after,Region.binds .any e=true→C e.on w (a.eval (.tmp (T e.on))))→(∀ v w',But [] w w'→C i w' v→K (a.put o.dst v) w')→o.wp P a w K Q)
  (hend:∀ a w,Run W0.drew ops base C T (fun _=>true) a w→Q .normal a w) :
  (Code.region id ops true).wp P Q base W0:=by
 have hp:=plain_of hpl
 refine region_inv hm hlow (fun d a w=>Run W0.drew ops base C T d a w) ?_ ?_ ?_
 ·exact ⟨fun _ _ _ h=>by simp at h,But.refl _ _,rfl,rfl,fun _ _=>rfl,fun _ _ h=>by simp at h⟩
 ·intro d a w hd h
  refine hend a w ⟨fun _ _ _ _ _ _ _=>rfl,h.but,h.size,h.defers,fun t ht=>h.rest t (fun j hj _=>ht j hj rfl),fun i hi _=>h.has i hi (hd i hi)⟩
 ·intro d i o a w ho hdi hdep h
  have hi:i<ops.size:=(Array.getElem?_eq_some_iff.1 ho).1
  obtain ⟨hdst,hg⟩:=hp i o ho
  have hw:Region.wanted o (yielded ops a.tmps)=true:=by
   unfold Region.wanted
   cases hgo:o.guard with
   | none=>rfl
   | some jw =>
    obtain ⟨j,want⟩:=jw
    obtain ⟨hj,e,he,hbi,hon⟩:=hg j want hgo
    have hdj:d j=true:=by rw [← hon];exact hdep e he hbi
    have hv:=hgd i o j want ho hgo w _ (h.has j hj hdj)
    have hoj:=Array.getElem?_eq_getElem hj
    have hdj2:=(hp j _ hoj).1
    have hsl:=slot_is hv (by rw [h.size];exact hT j hj)
    show (yielded ops a.tmps j==some want)=true
    unfold yielded
    rw [hoj,Option.bind_some,hdj2,Option.bind_some,hsl]
    simp
  unfold wpOp
  simp only [ho,hw,if_true]
  refine .inl (hstep i o a w _ ho h.but (fun t ht=>h.eval t (fun j hj hd e=>?_)) (fun e he hb=>h.has _ (by have:=hlow i o ho e he hb;omega) (hdep e he hb)) (fun v w' hb hv=>?_))
  ·obtain ⟨oj,hoj,ed,hed,hbi,hon⟩:=ht j hj e
   have:=h.down j oj hoj hd ed hed hbi
   rw [hon,hdi] at this
   simp at this
  ·rw [hdst]
   exact h.next hinj hT hC i o ho hdep v w' hb hv
theorem Run.puts {W:World} {ops:Array Oper} {base:Act} {C:Nat→World→Value→Prop} {T:Nat→Nat} {a:Act} {w:World} (h:Run W ops base C T (fun _=>true) a w) (hT:∀ i,i<ops.size→T i<base.tmps.size) (V:Nat→Value) (hV:∀ i,i<ops.size→a.eval (.tmp (T i))=V i):a=putted base ((List.range ops.size).map fun i=>(T i,V i)):=by
 refine putted_eq _ base a h.defers h.size (fun p hp=>?_) (fun t ht=>?_)
 ·obtain ⟨i,hi,rfl⟩:=List.mem_map.1 hp
  have hi':=List.mem_range.1 hi
  exact slot_is (hV i hi') (by rw [h.size];exact hT i hi')
 ·refine h.rest t (fun j hj _ e=>?_)
  exact ht (T j,V j) (List.mem_map.2 ⟨j,List.mem_range.2 hj,rfl⟩) e
end Go.Proofs.YthlnhheblhapgaaGreatDoor

namespace Go.Proofs.YthlnhheblhapgaaGreatDoor
open Go.RowKit
set_option maxRecDepth 100000
theorem run_loadK (a:Act) (w:World) (d t:Nat) (u:TypeId) (ps:String) (ed:Array Edge) (gd:Option (Nat × Bool)) (b o:Nat) (s:Bool) (x y:Int) (p:Option Addr) (h1:a.eval (.tmp t)=.pointer (some ⟨b,o,none⟩)) (hc:P4o w b o s x y p) :
  (execOp a.eval { dst:=some d,op:=Op.load 41 (.tmp t),type:=u,pos:=ps,after:=ed,guard:=gd }).run Tryz.prog w=.ok (.value (.agg #[.bool s,.int .u64 x,.int .u64 y,.pointer p])) w:=by
 obtain ⟨c0,c1,c2,c3⟩:=hc
 unfold execOp
 simp only [h1]
 go_simp
theorem run_eq0K (a:Act) (w:World) (d t:Nat) (u:TypeId) (ps:String) (ed:Array Edge) (gd:Option (Nat × Bool)) (x:Int) (h:a.eval (.tmp t)=.int .i64 x) :
  (execOp a.eval { dst:=some d,op:=Op.binOp BinOp.eql 3 (.tmp t) (.const (.int .i64 0)) 3,type:=u,pos:=ps,after:=ed,guard:=gd }).run Tryz.prog w=.ok (.value (.bool (x==0))) w:=by
 have e:a.eval (.const (.int .i64 0))=.int .i64 0:=rfl
 unfold execOp
 simp only [h,e]
 go_simp
theorem run_addK (a:Act) (w:World) (d t1 t2:Nat) (u:TypeId) (ps:String) (ed:Array Edge) (gd:Option (Nat × Bool)) (x1 x2:Value) (h1:a.eval (.tmp t1)=x1) (h2:a.eval (.tmp t2)=x2) :
  (execOp a.eval { dst:=some d,op:=Op.call { callee:=Callee.value (Operand.func 34),args:=#[Operand.tmp t1,Operand.tmp t2],argTypes:=#[41,41] },type:=u,pos:=ps,after:=ed,guard:=gd }).run Tryz.prog w=.ok (.enter 34 #[x1,x2]) w:=by
 unfold execOp
 go_simp
 rw [← h1,← h2]
 simp [Act.eval]
theorem run_mulK (a:Act) (w:World) (d t1 t2:Nat) (u:TypeId) (ps:String) (ed:Array Edge) (gd:Option (Nat × Bool)) (x1 x2:Value) (h1:a.eval (.tmp t1)=x1) (h2:a.eval (.tmp t2)=x2) :
  (execOp a.eval { dst:=some d,op:=Op.call { callee:=Callee.value (Operand.func 49),args:=#[Operand.tmp t1,Operand.tmp t2],argTypes:=#[41,41] },type:=u,pos:=ps,after:=ed,guard:=gd }).run Tryz.prog w=.ok (.enter 49 #[x1,x2]) w:=by
 unfold execOp
 go_simp
 rw [← h1,← h2]
 simp [Act.eval]
theorem run_cmpK (a:Act) (w:World) (d t1 t2:Nat) (u:TypeId) (ps:String) (ed:Array Edge) (gd:Option (Nat × Bool)) (x1 x2:Value) (h1:a.eval (.tmp t1)=x1) (h2:a.eval (.tmp t2)=x2) :
  (execOp a.eval { dst:=some d,op:=Op.call { callee:=Callee.value (Operand.func 18),args:=#[Operand.tmp t1,Operand.tmp t2],argTypes:=#[41,41] },type:=u,pos:=ps,after:=ed,guard:=gd }).run Tryz.prog w=.ok (.enter 18 #[x1,x2]) w:=by
 unfold execOp
 go_simp
 rw [← h1,← h2]
 simp [Act.eval]
theorem run_floorK (a:Act) (w:World) (d t1:Nat) (u:TypeId) (ps:String) (ed:Array Edge) (gd:Option (Nat × Bool)) (x1:Value) (h1:a.eval (.tmp t1)=x1) :
  (execOp a.eval { dst:=some d,op:=Op.call { callee:=Callee.value (Operand.func 96),args:=#[Operand.tmp t1],argTypes:=#[41] },type:=u,pos:=ps,after:=ed,guard:=gd }).run Tryz.prog w=.ok (.enter 96 #[x1]) w:=by
 unfold execOp
 go_simp
 rw [← h1]
 simp [Act.eval]
theorem run_lowerK (a:Act) (w:World) (d t1:Nat) (u:TypeId) (ps:String) (ed:Array Edge) (gd:Option (Nat × Bool)) (x1:Value) (h1:a.eval (.tmp t1)=x1) :
  (execOp a.eval { dst:=some d,op:=Op.call { callee:=Callee.value (Operand.func 72),args:=#[Operand.tmp t1],argTypes:=#[41] },type:=u,pos:=ps,after:=ed,guard:=gd }).run Tryz.prog w=.ok (.enter 72 #[x1]) w:=by
 unfold execOp
 go_simp
 rw [← h1]
 simp [Act.eval]
def opKa0:Oper:={ dst:=some 12,op:=Op.load 41 (Operand.tmp 1),type := 41,pos := "whole.go:24",after:=#[],guard:=none }
def opKa1:Oper:={ dst:=some 13,op:=Op.load 41 (Operand.tmp 1),type := 41,pos := "whole.go:24",after:=#[],guard:=none }
def opKa2:Oper:={ dst:=some 14,op:=Op.call { callee:=Callee.value (Operand.func 96),args:=#[Operand.tmp 13],argTypes:=#[41] },type := 41,pos := "whole.go:24",after:=#[⟨1,.data⟩],guard:=none }
def opKa3:Oper:={ dst:=some 15,op:=Op.call { callee:=Callee.value (Operand.func 18),args:=#[Operand.tmp 12,Operand.tmp 14],argTypes:=#[41,41] },type := 3,pos := "whole.go:24",after:=#[⟨0,.data⟩,⟨2,.data⟩,⟨2,.chain⟩],guard:=none }
def opKa4:Oper:={ dst:=some 16,op:=Op.binOp BinOp.eql 3 (Operand.tmp 15) (Operand.const (Value.int IntKind.i64 0)) 3,type := 4,pos := "whole.go:24",after:=#[⟨3,.data⟩],guard:=none }
def opKas:Array Oper:=#[opKa0,opKa1,opKa2,opKa3,opKa4]
def opKaT (i:Nat):Nat:=match i with
 | 0=>12
 | 1=>13
 | 2=>14
 | 3=>15
 | _=>16
def opKaC (s1:Bool) (x1:Int) (y1:Int) (p1:Option Addr) (r:Int) (g:Rat) (i:Nat) (w:World) (v:Value):Prop:=match i with
 | 0=>v=.agg #[.bool s1,.int .u64 x1,.int .u64 y1,.pointer p1]
 | 1=>v=.agg #[.bool s1,.int .u64 x1,.int .u64 y1,.pointer p1]
 | 2=>FracAt w v g
 | 3=>v=.int .i64 r
 | _=>v=.bool (r==0)
theorem opKaC_but {s1:Bool} {x1:Int} {y1:Int} {p1:Option Addr} {r:Int} {g:Rat} {i:Nat} {w w':World} {v:Value} (h:opKaC s1 x1 y1 p1 r g i w v) (hi:i<5) (hb:But [] w w'):opKaC s1 x1 y1 p1 r g i w' v:=by
 have:i=0∨i=1∨i=2∨i=3∨i=4:=by omega
 rcases this with rfl | rfl | rfl | rfl | rfl
 all_goals first | exact h | exact FracAt.but h hb | exact FracsAt.but h hb
theorem opKaT_inj:∀ i j,i<5→j<5→opKaT i=opKaT j→i=j:=fun i j hi hj=>(by decide:∀ i,i<5→∀ j,j<5→opKaT i=opKaT j→i=j) i hi j hj
theorem lower_region1 (id:Nat) (Q:Exit→Act→World→Prop) (base:Act) (W0:World) (s1:Bool) (x1:Int) (y1:Int) (p1:Option Addr) (r:Int) (g:Rat) (hs:16<base.tmps.size) (g1:Nat) (e1:base.eval (.tmp 1)=.pointer (some ⟨g1,0,none⟩))
  (c1:P4 W0 g1 s1 x1 y1 p1)
  (FL:∀ w,But [] W0 w→Calls Tryz.prog 96 #[.agg #[.bool s1,.int .u64 x1,.int .u64 y1,.pointer p1]] w fun e w'=>∃ v,e=.returned v∧FracAt w' v g∧But [] w w')
  (CM:∀ w,But [] W0 w→∀ v,FracAt w v g→Calls Tryz.prog 18 #[.agg #[.bool s1,.int .u64 x1,.int .u64 y1,.pointer p1],v] w fun e w'=>e=.returned (.int .i64 r)∧But [] w w')
  (hQ:∀ w (v2:Value),But [] W0 w→Q .normal (putted base [(12,.agg #[.bool s1,.int .u64 x1,.int .u64 y1,.pointer p1]),(13,.agg #[.bool s1,.int .u64 x1,.int .u64 y1,.pointer p1]),(14,v2),(15,.int .i64 r),(16,.bool (r==0))]) w) :
  (Code.region id opKas true).wp Tryz.prog Q base W0:=by
 have hdr:∀ {w},But [] W0.drew w→But [] W0 w:=fun h=>(But.refl _ _).drew.trans' h
 have hT:∀ i,i<5→opKaT i<base.tmps.size:=fun i hi=>by
  have h:opKaT i≤16:=by revert i;decide
  omega
 refine region_go (by kernel_rfl) (low_of (by kernel_rfl)) (opKaC s1 x1 y1 p1 r g) opKaT (by kernel_rfl) ?_ opKaT_inj hT (fun i w w' v hi h hb=>opKaC_but h hi hb) ?_ ?_
 ·intro i o j want ho hg w v hv
  have hi:i<5:=(Array.getElem?_eq_some_iff.1 ho).1
  have:i=0∨i=1∨i=2∨i=3∨i=4:=by omega
  rcases this with rfl | rfl | rfl | rfl | rfl
  ·obtain rfl:=Option.some.inj ((show opKas[0]? = some opKa0 from rfl).symm.trans ho)
   exact absurd (show (none:Option (Nat × Bool))=some (j,want) from hg) (by simp)
  ·obtain rfl:=Option.some.inj ((show opKas[1]? = some opKa1 from rfl).symm.trans ho)
   exact absurd (show (none:Option (Nat × Bool))=some (j,want) from hg) (by simp)
  ·obtain rfl:=Option.some.inj ((show opKas[2]? = some opKa2 from rfl).symm.trans ho)
   exact absurd (show (none:Option (Nat × Bool))=some (j,want) from hg) (by simp)
  ·obtain rfl:=Option.some.inj ((show opKas[3]? = some opKa3 from rfl).symm.trans ho)
   exact absurd (show (none:Option (Nat × Bool))=some (j,want) from hg) (by simp)
  ·obtain rfl:=Option.some.inj ((show opKas[4]? = some opKa4 from rfl).symm.trans ho)
   exact absurd (show (none:Option (Nat × Bool))=some (j,want) from hg) (by simp)
 ·intro i o a w K ho hH he hdep hk
  have hi:i<5:=(Array.getElem?_eq_some_iff.1 ho).1
  have hD:=dep_have (ps:=[(2,1),(3,0),(3,2),(4,3)]) (by kernel_rfl) ho (fun j=>opKaC s1 x1 y1 p1 r g j w (a.eval (.tmp (opKaT j)))) hdep
  have e1':=(he 1 (fun j hj e=>absurd e.symm (by revert j;decide))).trans e1
  have:i=0∨i=1∨i=2∨i=3∨i=4:=by omega
  rcases this with rfl | rfl | rfl | rfl | rfl
  ·obtain rfl:=Option.some.inj ((show opKas[0]? = some opKa0 from rfl).symm.trans ho)
   exact wp_value (run_loadK a w _ _ _ _ _ _ g1 0 _ _ _ _ e1' (c1.but (hdr hH) (by simp))) (hk _ _ (But.refl _ _) rfl)
  ·obtain rfl:=Option.some.inj ((show opKas[1]? = some opKa1 from rfl).symm.trans ho)
   exact wp_value (run_loadK a w _ _ _ _ _ _ g1 0 _ _ _ _ e1' (c1.but (hdr hH) (by simp))) (hk _ _ (But.refl _ _) rfl)
  ·obtain rfl:=Option.some.inj ((show opKas[2]? = some opKa2 from rfl).symm.trans ho)
   exact wp_enter (run_floorK a w _ _ _ _ _ _ _ (hD 1 (by simp))) (R:=fun w' v=>FracAt w' v (g)∧But [] w w') (FL w (hdr hH)) (fun v w' hv=>hk v w' hv.2 hv.1)
  ·obtain rfl:=Option.some.inj ((show opKas[3]? = some opKa3 from rfl).symm.trans ho)
   exact wp_enter (run_cmpK a w _ _ _ _ _ _ _ _ _ (hD 0 (by simp)) rfl) (R:=fun w' v=>But [] w w'∧v=_) ((CM w (hdr hH) _ (hD 2 (by simp))).mono fun e w' ⟨he,hb⟩=>⟨_,he,hb,rfl⟩) (fun v w' hv=>hk v w' hv.1 hv.2)
  ·obtain rfl:=Option.some.inj ((show opKas[4]? = some opKa4 from rfl).symm.trans ho)
   exact wp_value (run_eq0K a w _ _ _ _ _ _ _ (hD 3 (by simp))) (hk _ _ (But.refl _ _) rfl)
 ·intro a w h
  have ea:=h.puts hT (fun i=>match i with
   | 0=>.agg #[.bool s1,.int .u64 x1,.int .u64 y1,.pointer p1]
   | 1=>.agg #[.bool s1,.int .u64 x1,.int .u64 y1,.pointer p1]
   | 2=>a.eval (.tmp 14)
   | 3=>.int .i64 r
   | _=>.bool (r==0)) (fun i hi=>by
   have hi':i<5:=hi
   have hc:=h.has i hi rfl
   have:i=0∨i=1∨i=2∨i=3∨i=4:=by omega
   rcases this with rfl | rfl | rfl | rfl | rfl
   all_goals first | exact hc | rfl)
  rw [ea]
  exact hQ w (a.eval (.tmp 14)) (hdr h.but)
def opKb0:Oper:={ dst:=some 44,op:=Op.load 41 (Operand.tmp 6),type := 41,pos := "whole.go:33",after:=#[],guard:=none }
def opKb1:Oper:={ dst:=some 45,op:=Op.load 41 (Operand.tmp 10),type := 41,pos := "whole.go:33",after:=#[],guard:=none }
def opKb2:Oper:={ dst:=some 46,op:=Op.call { callee:=Callee.value (Operand.func 49),args:=#[Operand.tmp 44,Operand.tmp 45],argTypes:=#[41,41] },type := 41,pos := "whole.go:33",after:=#[⟨0,.data⟩,⟨1,.data⟩],guard:=none }
def opKb3:Oper:={ dst:=some 47,op:=Op.load 41 (Operand.tmp 8),type := 41,pos := "whole.go:33",after:=#[],guard:=none }
def opKb4:Oper:={ dst:=some 48,op:=Op.call { callee:=Callee.value (Operand.func 34),args:=#[Operand.tmp 46,Operand.tmp 47],argTypes:=#[41,41] },type := 41,pos := "whole.go:33",after:=#[⟨2,.data⟩,⟨3,.data⟩,⟨2,.chain⟩],guard:=none }
def opKb5:Oper:={ dst:=none,op:=Op.store 41 (Operand.tmp 6) (Operand.tmp 48),type:=0,pos := "whole.go:33",after:=#[⟨4,.data⟩,⟨4,.chain⟩,⟨0,.phase⟩,⟨1,.phase⟩,⟨2,.phase⟩,⟨3,.phase⟩,⟨4,.phase⟩],guard:=none }
def opKbs:Array Oper:=#[opKb0,opKb1,opKb2,opKb3,opKb4,opKb5]
def opKbT (i:Nat):Nat:=match i with
 | 0=>44
 | 1=>45
 | 2=>46
 | 3=>47
 | _=>48
def opKbC (s1:Bool) (x1:Int) (y1:Int) (p1:Option Addr) (s2:Bool) (x2:Int) (y2:Int) (p2:Option Addr) (s3:Bool) (x3:Int) (y3:Int) (p3:Option Addr) (f1:Rat) (f2:Rat) (f3:Rat) (i:Nat) (w:World) (v:Value):Prop:=match i with
 | 0=>v=.agg #[.bool s1,.int .u64 x1,.int .u64 y1,.pointer p1]
 | 1=>v=.agg #[.bool s2,.int .u64 x2,.int .u64 y2,.pointer p2]
 | 2=>FracAt w v (f1*f2)
 | 3=>v=.agg #[.bool s3,.int .u64 x3,.int .u64 y3,.pointer p3]
 | _=>FracAt w v (f1*f2+f3)
theorem opKbC_but {s1:Bool} {x1:Int} {y1:Int} {p1:Option Addr} {s2:Bool} {x2:Int} {y2:Int} {p2:Option Addr} {s3:Bool} {x3:Int} {y3:Int} {p3:Option Addr} {f1:Rat} {f2:Rat} {f3:Rat} {i:Nat} {w w':World} {v:Value} (h:opKbC s1 x1 y1 p1 s2 x2 y2 p2 s3 x3 y3 p3 f1 f2 f3 i w v) (hi:i<5) (hb:But [] w w'):opKbC s1 x1 y1 p1 s2 x2 y2 p2 s3 x3 y3 p3 f1 f2 f3 i w' v:=by
 have:i=0∨i=1∨i=2∨i=3∨i=4:=by omega
 rcases this with rfl | rfl | rfl | rfl | rfl
 all_goals first | exact h | exact FracAt.but h hb | exact FracsAt.but h hb
theorem opKbT_inj:∀ i j,i<5→j<5→opKbT i=opKbT j→i=j:=fun i j hi hj=>(by decide:∀ i,i<5→∀ j,j<5→opKbT i=opKbT j→i=j) i hi j hj
theorem lower_region9 (id:Nat) (Q:Exit→Act→World→Prop) (base:Act) (W0:World) (s1:Bool) (x1:Int) (y1:Int) (p1:Option Addr) (s2:Bool) (x2:Int) (y2:Int) (p2:Option Addr) (s3:Bool) (x3:Int) (y3:Int) (p3:Option Addr) (f1:Rat) (f2:Rat) (f3:Rat) (gb g8 g10:Nat) {sb:Bool} {xb yb:Int} {pb:Option Addr} (hs:48<base.tmps.size) (eb:base.eval (.tmp 6)=.pointer (some ⟨gb,0,none⟩)) (cb:P4 W0 gb sb xb yb pb) (fzb:∀ j,W0.frozen? ⟨gb,j,none⟩=false) (e10:base.eval (.tmp 10)=.pointer (some ⟨g10,0,none⟩)) (e8:base.eval (.tmp 8)=.pointer (some ⟨g8,0,none⟩))
  (c1:P4 W0 gb s1 x1 y1 p1) (c2:P4 W0 g10 s2 x2 y2 p2) (c3:P4 W0 g8 s3 x3 y3 p3)
  (MU:∀ w,But [] W0 w→Calls Tryz.prog 49 #[.agg #[.bool s1,.int .u64 x1,.int .u64 y1,.pointer p1],.agg #[.bool s2,.int .u64 x2,.int .u64 y2,.pointer p2]] w fun e w'=>∃ v,e=.returned v∧FracAt w' v (f1*f2)∧But [] w w')
  (AD:∀ w,But [] W0 w→∀ v,FracAt w v (f1*f2)→Calls Tryz.prog 34 #[v,.agg #[.bool s3,.int .u64 x3,.int .u64 y3,.pointer p3]] w fun e w'=>∃ v,e=.returned v∧FracAt w' v (f1*f2+f3)∧But [] w w')
  (hQ:∀ w1 v2 s' x' y' p',But [] W0 w1→FracAt w1 (.agg #[.bool s',.int .u64 x',.int .u64 y',.pointer p']) (f1*f2+f3)→Q .normal (putted base [(44,.agg #[.bool s1,.int .u64 x1,.int .u64 y1,.pointer p1]),(45,.agg #[.bool s2,.int .u64 x2,.int .u64 y2,.pointer p2]),(46,v2),(47,.agg #[.bool s3,.int .u64 x3,.int .u64 y3,.pointer p3]),(48,(.agg #[.bool s',.int .u64 x',.int .u64 y',.pointer p']))]) (put4 w1 gb s' x' y' p')) :
  (Code.region id opKbs true).wp Tryz.prog Q base W0:=by
 have hdr:∀ {w},But [] W0.drew w→But [] W0 w:=fun h=>(But.refl _ _).drew.trans' h
 have lgb:gb<W0.heap.size:=lt_of_cell cb.1
 have hT:∀ i,i<5→opKbT i<base.tmps.size:=fun i hi=>by
  have h:opKbT i≤48:=by revert i;decide
  omega
 refine region_flow (by kernel_rfl) (low_of (by kernel_rfl)) (fun i o ho=>(calm_of (ops:=opKbs) (by kernel_rfl) i o ho).1)
  (fun _ w=>But [] W0.drew w) (opKbC s1 x1 y1 p1 s2 x2 y2 p2 s3 x3 y3 p3 f1 f2 f3) opKbT 5 rfl opKbT_inj hT (But.refl _ _)
  (fun i hi=>?_) ?_ (fun a w=>∃ w1 v2 s' x' y' p',a=putted base [(44,.agg #[.bool s1,.int .u64 x1,.int .u64 y1,.pointer p1]),(45,.agg #[.bool s2,.int .u64 x2,.int .u64 y2,.pointer p2]),(46,v2),(47,.agg #[.bool s3,.int .u64 x3,.int .u64 y3,.pointer p3]),(48,(.agg #[.bool s',.int .u64 x',.int .u64 y',.pointer p']))]∧w=put4 w1 gb s' x' y' p'∧But [] W0 w1∧FracAt w1 (.agg #[.bool s',.int .u64 x',.int .u64 y',.pointer p']) (f1*f2+f3)) ?_ ?_
 ·exact dep_of (ops:=opKbs) (ps:=[(5,0),(5,1),(5,2),(5,3),(5,4)]) (by kernel_rfl) 5 i (by
   have:i=0∨i=1∨i=2∨i=3∨i=4:=by omega
   rcases this with rfl | rfl | rfl | rfl | rfl <;> simp)
 ·intro dn i o a w K hi ho hdi hH he hdep hK
  have hD:=fun j hj=>(dep_have (ps:=[(2,0),(2,1),(4,2),(4,3)]) (by kernel_rfl) ho (fun j=>dn j=true∧opKbC s1 x1 y1 p1 s2 x2 y2 p2 s3 x3 y3 p3 f1 f2 f3 j w (a.eval (.tmp (opKbT j)))) hdep j hj).2
  have hk:∀ v w',But [] w w'→opKbC s1 x1 y1 p1 s2 x2 y2 p2 s3 x3 y3 p3 f1 f2 f3 i w' v→K (a.put (some (opKbT i)) v) w':=fun v w' hb hv=>hK v w' (hH.trans' hb) (fun j hj _ u hu=>opKbC_but hu hj hb) hv
  have eb':=(he 6 (fun j hj e=>absurd e.symm (by revert j;decide))).trans eb
  have e10':=(he 10 (fun j hj e=>absurd e.symm (by revert j;decide))).trans e10
  have e8':=(he 8 (fun j hj e=>absurd e.symm (by revert j;decide))).trans e8
  have:i=0∨i=1∨i=2∨i=3∨i=4:=by omega
  rcases this with rfl | rfl | rfl | rfl | rfl
  ·obtain rfl:=Option.some.inj ((show opKbs[0]? = some opKb0 from rfl).symm.trans ho)
   exact wp_value (run_loadK a w _ _ _ _ _ _ gb 0 _ _ _ _ eb' (c1.but (hdr hH) (by simp))) (hk _ _ (But.refl _ _) rfl)
  ·obtain rfl:=Option.some.inj ((show opKbs[1]? = some opKb1 from rfl).symm.trans ho)
   exact wp_value (run_loadK a w _ _ _ _ _ _ g10 0 _ _ _ _ e10' (c2.but (hdr hH) (by simp))) (hk _ _ (But.refl _ _) rfl)
  ·obtain rfl:=Option.some.inj ((show opKbs[2]? = some opKb2 from rfl).symm.trans ho)
   exact wp_enter (run_mulK a w _ _ _ _ _ _ _ _ _ (hD 0 (by simp)) (hD 1 (by simp))) (R:=fun w' v=>FracAt w' v (f1*f2)∧But [] w w') (MU w (hdr hH)) (fun v w' hv=>hk v w' hv.2 hv.1)
  ·obtain rfl:=Option.some.inj ((show opKbs[3]? = some opKb3 from rfl).symm.trans ho)
   exact wp_value (run_loadK a w _ _ _ _ _ _ g8 0 _ _ _ _ e8' (c3.but (hdr hH) (by simp))) (hk _ _ (But.refl _ _) rfl)
  ·obtain rfl:=Option.some.inj ((show opKbs[4]? = some opKb4 from rfl).symm.trans ho)
   exact wp_enter (run_addK a w _ _ _ _ _ _ _ _ _ rfl (hD 3 (by simp))) (R:=fun w' v=>FracAt w' v (f1*f2+f3)∧But [] w w') (AD w (hdr hH) _ (hD 2 (by simp))) (fun v w' hv=>hk v w' hv.2 hv.1)
 ·intro dn o a w K ho hall h hK
  obtain rfl:=Option.some.inj ((show opKbs[5]? = some opKb5 from rfl).symm.trans ho)
  have eb':=(h.eval 6 (fun j hj e=>absurd e.symm (by revert j;decide))).trans eb
  have cl:FracAt w (a.eval (.tmp 48)) (f1*f2+f3):=h.has 4 (by omega) (hall 4 (by omega))
  have cl':=cl
  obtain ⟨x',y',p',ev,-⟩:=cl.agg
  rw [ev] at cl'
  have ea:=h.puts hT (fun i=>match i with
   | 0=>.agg #[.bool s1,.int .u64 x1,.int .u64 y1,.pointer p1]
   | 1=>.agg #[.bool s2,.int .u64 x2,.int .u64 y2,.pointer p2]
   | 2=>a.eval (.tmp 46)
   | 3=>.agg #[.bool s3,.int .u64 x3,.int .u64 y3,.pointer p3]
   | _=>.agg #[.bool (decide ((f1*f2+f3).num<0)),.int .u64 x',.int .u64 y',.pointer p']) (fun i hi=>by
   have hc:=h.has i hi (hall i hi)
   have:i=0∨i=1∨i=2∨i=3∨i=4:=by omega
   rcases this with rfl | rfl | rfl | rfl | rfl
   all_goals first | exact ev | exact hc | rfl)
  exact wp_skipped (run_store4 a w _ _ _ _ _ gb _ x' y' p' eb' ev (cb.but (hdr h.mem) (by simp)) (fun j=>((hdr h.mem).frozen (p:=⟨gb,j,none⟩) lgb (by simp)).trans (fzb j))) (hK _ _ ⟨w,a.eval (.tmp 46),_,x',y',p',ea,rfl,hdr h.mem,cl'⟩)
 ·rintro a w ⟨w1,v2,s',x',y',p',rfl,rfl,h1,h2⟩
  exact hQ  w1 v2 s' x' y' p' h1 h2
def opKc0:Oper:={ dst:=some 21,op:=Op.load 41 (Operand.tmp 3),type := 41,pos := "whole.go:16",after:=#[],guard:=none }
def opKc1:Oper:={ dst:=some 22,op:=Op.load 41 (Operand.tmp 7),type := 41,pos := "whole.go:16",after:=#[],guard:=none }
def opKc2:Oper:={ dst:=some 23,op:=Op.load 41 (Operand.tmp 3),type := 41,pos := "whole.go:16",after:=#[],guard:=none }
def opKc3:Oper:={ dst:=some 24,op:=Op.call { callee:=Callee.value (Operand.func 49),args:=#[Operand.tmp 22,Operand.tmp 23],argTypes:=#[41,41] },type := 41,pos := "whole.go:16",after:=#[⟨1,.data⟩,⟨2,.data⟩],guard:=none }
def opKc4:Oper:={ dst:=some 25,op:=Op.call { callee:=Callee.value (Operand.func 72),args:=#[Operand.tmp 24],argTypes:=#[41] },type := 41,pos := "whole.go:16",after:=#[⟨3,.data⟩,⟨3,.chain⟩],guard:=none }
def opKc5:Oper:={ dst:=some 26,op:=Op.call { callee:=Callee.value (Operand.func 49),args:=#[Operand.tmp 21,Operand.tmp 25],argTypes:=#[41,41] },type := 41,pos := "whole.go:16",after:=#[⟨0,.data⟩,⟨4,.data⟩,⟨4,.chain⟩],guard:=none }
def opKc6:Oper:={ dst:=none,op:=Op.store 41 (Operand.tmp 3) (Operand.tmp 26),type:=0,pos := "whole.go:16",after:=#[⟨5,.data⟩,⟨5,.chain⟩,⟨0,.phase⟩,⟨1,.phase⟩,⟨2,.phase⟩,⟨3,.phase⟩,⟨4,.phase⟩,⟨5,.phase⟩],guard:=none }
def opKcs:Array Oper:=#[opKc0,opKc1,opKc2,opKc3,opKc4,opKc5,opKc6]
def opKcT (i:Nat):Nat:=match i with
 | 0=>21
 | 1=>22
 | 2=>23
 | 3=>24
 | 4=>25
 | _=>26
def opKcC (s1:Bool) (x1:Int) (y1:Int) (p1:Option Addr) (s2:Bool) (x2:Int) (y2:Int) (p2:Option Addr) (f1:Rat) (f2:Rat) (z:Rat) (i:Nat) (w:World) (v:Value):Prop:=match i with
 | 0=>v=.agg #[.bool s1,.int .u64 x1,.int .u64 y1,.pointer p1]
 | 1=>v=.agg #[.bool s2,.int .u64 x2,.int .u64 y2,.pointer p2]
 | 2=>v=.agg #[.bool s1,.int .u64 x1,.int .u64 y1,.pointer p1]
 | 3=>FracAt w v (f2*f1)
 | 4=>FracAt w v z
 | _=>FracAt w v (f1*z)
theorem opKcC_but {s1:Bool} {x1:Int} {y1:Int} {p1:Option Addr} {s2:Bool} {x2:Int} {y2:Int} {p2:Option Addr} {f1:Rat} {f2:Rat} {z:Rat} {i:Nat} {w w':World} {v:Value} (h:opKcC s1 x1 y1 p1 s2 x2 y2 p2 f1 f2 z i w v) (hi:i<6) (hb:But [] w w'):opKcC s1 x1 y1 p1 s2 x2 y2 p2 f1 f2 z i w' v:=by
 have:i=0∨i=1∨i=2∨i=3∨i=4∨i=5:=by omega
 rcases this with rfl | rfl | rfl | rfl | rfl | rfl
 all_goals first | exact h | exact FracAt.but h hb | exact FracsAt.but h hb
theorem opKcT_inj:∀ i j,i<6→j<6→opKcT i=opKcT j→i=j:=fun i j hi hj=>(by decide:∀ i,i<6→∀ j,j<6→opKcT i=opKcT j→i=j) i hi j hj
theorem common_region (id:Nat) (Q:Exit→Act→World→Prop) (base:Act) (W0:World) (s1:Bool) (x1:Int) (y1:Int) (p1:Option Addr) (s2:Bool) (x2:Int) (y2:Int) (p2:Option Addr) (f1:Rat) (f2:Rat) (z:Rat) (gb g7:Nat) {sb:Bool} {xb yb:Int} {pb:Option Addr} (hs:26<base.tmps.size) (eb:base.eval (.tmp 3)=.pointer (some ⟨gb,0,none⟩)) (cb:P4 W0 gb sb xb yb pb) (fzb:∀ j,W0.frozen? ⟨gb,j,none⟩=false) (e7:base.eval (.tmp 7)=.pointer (some ⟨g7,0,none⟩))
  (c1:P4 W0 gb s1 x1 y1 p1) (c2:P4 W0 g7 s2 x2 y2 p2)
  (MU:∀ w,But [] W0 w→Calls Tryz.prog 49 #[.agg #[.bool s2,.int .u64 x2,.int .u64 y2,.pointer p2],.agg #[.bool s1,.int .u64 x1,.int .u64 y1,.pointer p1]] w fun e w'=>∃ v,e=.returned v∧FracAt w' v (f2*f1)∧But [] w w')
  (LO:∀ w,But [] W0 w→∀ v,FracAt w v (f2*f1)→Calls Tryz.prog 72 #[v] w fun e w'=>∃ v,e=.returned v∧FracAt w' v z∧But [] w w')
  (MZ:∀ w,But [] W0 w→∀ v,FracAt w v z→Calls Tryz.prog 49 #[.agg #[.bool s1,.int .u64 x1,.int .u64 y1,.pointer p1],v] w fun e w'=>∃ v,e=.returned v∧FracAt w' v (f1*z)∧But [] w w')
  (hQ:∀ w1 v3 v4 s' x' y' p',But [] W0 w1→FracAt w1 (.agg #[.bool s',.int .u64 x',.int .u64 y',.pointer p']) (f1*z)→Q .normal (putted base [(21,.agg #[.bool s1,.int .u64 x1,.int .u64 y1,.pointer p1]),(22,.agg #[.bool s2,.int .u64 x2,.int .u64 y2,.pointer p2]),(23,.agg #[.bool s1,.int .u64 x1,.int .u64 y1,.pointer p1]),(24,v3),(25,v4),(26,(.agg #[.bool s',.int .u64 x',.int .u64 y',.pointer p']))]) (put4 w1 gb s' x' y' p')) :
  (Code.region id opKcs true).wp Tryz.prog Q base W0:=by
 have hdr:∀ {w},But [] W0.drew w→But [] W0 w:=fun h=>(But.refl _ _).drew.trans' h
 have lgb:gb<W0.heap.size:=lt_of_cell cb.1
 have hT:∀ i,i<6→opKcT i<base.tmps.size:=fun i hi=>by
  have h:opKcT i≤26:=by revert i;decide
  omega
 refine region_flow (by kernel_rfl) (low_of (by kernel_rfl)) (fun i o ho=>(calm_of (ops:=opKcs) (by kernel_rfl) i o ho).1)
  (fun _ w=>But [] W0.drew w) (opKcC s1 x1 y1 p1 s2 x2 y2 p2 f1 f2 z) opKcT 6 rfl opKcT_inj hT (But.refl _ _)
  (fun i hi=>?_) ?_ (fun a w=>∃ w1 v3 v4 s' x' y' p',a=putted base [(21,.agg #[.bool s1,.int .u64 x1,.int .u64 y1,.pointer p1]),(22,.agg #[.bool s2,.int .u64 x2,.int .u64 y2,.pointer p2]),(23,.agg #[.bool s1,.int .u64 x1,.int .u64 y1,.pointer p1]),(24,v3),(25,v4),(26,(.agg #[.bool s',.int .u64 x',.int .u64 y',.pointer p']))]∧w=put4 w1 gb s' x' y' p'∧But [] W0 w1∧FracAt w1 (.agg #[.bool s',.int .u64 x',.int .u64 y',.pointer p']) (f1*z)) ?_ ?_
 ·exact dep_of (ops:=opKcs) (ps:=[(6,0),(6,1),(6,2),(6,3),(6,4),(6,5)]) (by kernel_rfl) 6 i (by
   have:i=0∨i=1∨i=2∨i=3∨i=4∨i=5:=by omega
   rcases this with rfl | rfl | rfl | rfl | rfl | rfl <;> simp)
 ·intro dn i o a w K hi ho hdi hH he hdep hK
  have hD:=fun j hj=>(dep_have (ps:=[(3,1),(3,2),(4,3),(5,0),(5,4)]) (by kernel_rfl) ho (fun j=>dn j=true∧opKcC s1 x1 y1 p1 s2 x2 y2 p2 f1 f2 z j w (a.eval (.tmp (opKcT j)))) hdep j hj).2
  have hk:∀ v w',But [] w w'→opKcC s1 x1 y1 p1 s2 x2 y2 p2 f1 f2 z i w' v→K (a.put (some (opKcT i)) v) w':=fun v w' hb hv=>hK v w' (hH.trans' hb) (fun j hj _ u hu=>opKcC_but hu hj hb) hv
  have eb':=(he 3 (fun j hj e=>absurd e.symm (by revert j;decide))).trans eb
  have e7':=(he 7 (fun j hj e=>absurd e.symm (by revert j;decide))).trans e7
  have:i=0∨i=1∨i=2∨i=3∨i=4∨i=5:=by omega
  rcases this with rfl | rfl | rfl | rfl | rfl | rfl
  ·obtain rfl:=Option.some.inj ((show opKcs[0]? = some opKc0 from rfl).symm.trans ho)
   exact wp_value (run_loadK a w _ _ _ _ _ _ gb 0 _ _ _ _ eb' (c1.but (hdr hH) (by simp))) (hk _ _ (But.refl _ _) rfl)
  ·obtain rfl:=Option.some.inj ((show opKcs[1]? = some opKc1 from rfl).symm.trans ho)
   exact wp_value (run_loadK a w _ _ _ _ _ _ g7 0 _ _ _ _ e7' (c2.but (hdr hH) (by simp))) (hk _ _ (But.refl _ _) rfl)
  ·obtain rfl:=Option.some.inj ((show opKcs[2]? = some opKc2 from rfl).symm.trans ho)
   exact wp_value (run_loadK a w _ _ _ _ _ _ gb 0 _ _ _ _ eb' (c1.but (hdr hH) (by simp))) (hk _ _ (But.refl _ _) rfl)
  ·obtain rfl:=Option.some.inj ((show opKcs[3]? = some opKc3 from rfl).symm.trans ho)
   exact wp_enter (run_mulK a w _ _ _ _ _ _ _ _ _ (hD 1 (by simp)) (hD 2 (by simp))) (R:=fun w' v=>FracAt w' v (f2*f1)∧But [] w w') (MU w (hdr hH)) (fun v w' hv=>hk v w' hv.2 hv.1)
  ·obtain rfl:=Option.some.inj ((show opKcs[4]? = some opKc4 from rfl).symm.trans ho)
   exact wp_enter (run_lowerK a w _ _ _ _ _ _ _ rfl) (R:=fun w' v=>FracAt w' v (z)∧But [] w w') (LO w (hdr hH) _ (hD 3 (by simp))) (fun v w' hv=>hk v w' hv.2 hv.1)
  ·obtain rfl:=Option.some.inj ((show opKcs[5]? = some opKc5 from rfl).symm.trans ho)
   exact wp_enter (run_mulK a w _ _ _ _ _ _ _ _ _ (hD 0 (by simp)) rfl) (R:=fun w' v=>FracAt w' v (f1*z)∧But [] w w') (MZ w (hdr hH) _ (hD 4 (by simp))) (fun v w' hv=>hk v w' hv.2 hv.1)
 ·intro dn o a w K ho hall h hK
  obtain rfl:=Option.some.inj ((show opKcs[6]? = some opKc6 from rfl).symm.trans ho)
  have eb':=(h.eval 3 (fun j hj e=>absurd e.symm (by revert j;decide))).trans eb
  have cl:FracAt w (a.eval (.tmp 26)) (f1*z):=h.has 5 (by omega) (hall 5 (by omega))
  have cl':=cl
  obtain ⟨x',y',p',ev,-⟩:=cl.agg
  rw [ev] at cl'
  have ea:=h.puts hT (fun i=>match i with
   | 0=>.agg #[.bool s1,.int .u64 x1,.int .u64 y1,.pointer p1]
   | 1=>.agg #[.bool s2,.int .u64 x2,.int .u64 y2,.pointer p2]
   | 2=>.agg #[.bool s1,.int .u64 x1,.int .u64 y1,.pointer p1]
   | 3=>a.eval (.tmp 24)
   | 4=>a.eval (.tmp 25)
   | _=>.agg #[.bool (decide ((f1*z).num<0)),.int .u64 x',.int .u64 y',.pointer p']) (fun i hi=>by
   have hc:=h.has i hi (hall i hi)
   have:i=0∨i=1∨i=2∨i=3∨i=4∨i=5:=by omega
   rcases this with rfl | rfl | rfl | rfl | rfl | rfl
   all_goals first | exact ev | exact hc | rfl)
  exact wp_skipped (run_store4 a w _ _ _ _ _ gb _ x' y' p' eb' ev (cb.but (hdr h.mem) (by simp)) (fun j=>((hdr h.mem).frozen (p:=⟨gb,j,none⟩) lgb (by simp)).trans (fzb j))) (hK _ _ ⟨w,a.eval (.tmp 24),a.eval (.tmp 25),_,x',y',p',ea,rfl,hdr h.mem,cl'⟩)
 ·rintro a w ⟨w1,v3,v4,s',x',y',p',rfl,rfl,h1,h2⟩
  exact hQ  w1 v3 v4 s' x' y' p' h1 h2
end Go.Proofs.YthlnhheblhapgaaGreatDoor
