/- Single operations, boxes that hold fract -/
import Derived.Test.YtagmkkiagjmimaaGreatDoorSF3
namespace Go.Proofs.YtagmkkiagjmimaaGreatDoor
set_option linter.unusedVariables false
open Go.Proofs.Tryz
open Go.RowKit
set_option maxHeartbeats 8000000
set_option maxRecDepth 100000
theorem zfg (a:Act) (w:World) (t1 t2:Nat) (u:TypeId) (ps:String) (ed:Array Edge) (g:Nat) (s:Bool) (x y:Int) (p:Option Addr) {s':Bool} {x' y':Int} {p':Option Addr} (h1:a.eval (.tmp t1)=.pointer (some ⟨g,0,none⟩)) (h2:a.eval (.tmp t2)=.agg #[.bool s,.int .u64 x,.int .u64 y,.pointer p]) (hc:P4 w g s' x' y' p') (fz:∀ j,w.frozen? ⟨g,j,none⟩=false) :
   (execOp a.eval { dst:=none,op:=Op.store 27 (.tmp t1) (.tmp t2),type:=u,pos:=ps,after:=ed,guard:=none }).run prog w=.ok .skip ((((w.setCell ⟨g,0,none⟩ (.bool s)).setCell ⟨g,1,none⟩ (.int .u64 x)).setCell ⟨g,2,none⟩ (.int .u64 y)).setCell ⟨g,3,none⟩ (.pointer p)):=by(
 obtain⟨c0,c1,c2,c3⟩:=hc
 unfold execOp
 simp only[h1,h2]
 go_simp)
def gm (w:World) (g:Nat) (s:Bool) (x y:Int) (p:Option Addr):World:=(((w.setCell ⟨g,0,none⟩ (.bool s)).setCell ⟨g,1,none⟩ (.int .u64 x)).setCell ⟨g,2,none⟩ (.int .u64 y)).setCell ⟨g,3,none⟩ (.pointer p)
theorem aw (w:World) (g:Nat) (s:Bool) (x y:Int) (p:Option Addr):But [g] w (gm w g s x y p):=(((((But.refl [g] w).setCell (.inl (by simp)) _).setCell (.inl (by simp)) _).setCell (.inl (by simp)) _).setCell (.inl (by simp)) _)
theorem zeu (w:World) (g:Nat) (s:Bool) (x y:Int) (p:Option Addr) {s':Bool} {x' y':Int} {p':Option Addr} (hc:P4 w g s' x' y' p'):P4 (gm w g s x y p) g s x y p:=by
 obtain⟨h1,-⟩:=qas w g (.bool s) (.int .u64 x) (.int .u64 y) (.pointer p) (by rw[hc.1];rfl) (by rw[hc.2.1];rfl) (by rw[hc.2.2.1];rfl) (by rw[hc.2.2.2];rfl)
 exact⟨h1 0 (by omega),h1 1 (by omega),h1 2 (by omega),h1 3 (by omega)⟩
theorem qft (w:World) (g:Nat) (s:Bool) (x y:Int) (p:Option Addr) (b j:Nat):(gm w g s x y p).frozen? ⟨b,j,none⟩=w.frozen? ⟨b,j,none⟩:=by
 unfold gm
 simp only[World.frozen?_setCell]
def zws (ops:Array Oper):Bool:=(List.range ops.size).all fun i=>match ops[i]? with
 | some o=>o.guard.isNone && (match o.op with | .defer _=>false | _=>true)
 | none=>true
theorem zgw {ops:Array Oper} (h:zws ops=true):∀ (i:Nat) (o:Oper),ops[i]? = some o→o.guard=none∧∀ c,o.op≠.defer c:=fun i o ho=>by
 have hi:i<ops.size:=(Array.getElem?_eq_some_iff.1 ho).1
 unfold zws at h
 rw[List.all_eq_true] at h
 have h1:=h i (List.mem_range.2 hi)
 simp only[ho,Bool.and_eq_true,Option.isNone_iff_eq_none] at h1
 exact⟨h1.1,fun c e=>by rw[e] at h1;simp at h1⟩
theorem o7 {ops:Array Oper} {ps:List (Nat × Nat)} (h:zfm ops ps=true) {i:Nat} {o:Oper} (ho:ops[i]? = some o) (R:Nat→Prop) (hdep:∀ e ∈ o.after,Region.binds .any e=true→R e.on) (j:Nat) (hij:(i,j) ∈ ps):R j:=by(
 obtain⟨o',ho',ed,hed,hbi,rfl⟩:=zdk h i j hij
 rw[ho] at ho'
 obtain rfl:=Option.some.inj ho'
 exact hdep ed hed hbi)
structure Calm (A B:World):Prop where
 size:A.heap.size≤B.heap.size
 block:∀ k i v,A.cell? ⟨k,i,none⟩=some v→B.heap[k]? = A.heap[k]?
theorem Calm.cell {A B:World} (h:Calm A B) {k i:Nat} {v:Value} (hc:A.cell? ⟨k,i,none⟩=some v):B.cell? ⟨k,i,none⟩=some v:=(World.cell?_of_block (w:=A) (h.block k i v hc)).trans hc
theorem Calm.frozen {A B:World} (h:Calm A B) {k i j:Nat} {v:Value} (hc:A.cell? ⟨k,i,none⟩=some v):B.frozen? ⟨k,j,none⟩=A.frozen? ⟨k,j,none⟩:=World.frozen?_of_block (w:=A) (a:=⟨k,j,none⟩) (h.block k i v hc)
theorem Sl.calm {k:IntKind} {A B:World} {v:Value} {xs:List Nat} (h:Sl k A v xs) (hb:Calm A B):Sl k B v xs:=by(
 obtain⟨a,cap,rfl,hc,h,hi⟩:=h
 refine⟨a,cap,rfl,hc,fun i hi=>?_,fun b off e h0=>?_⟩
 ·obtain⟨b,off,rfl,h2⟩:=h i hi
  exact⟨b,off,rfl,hb.cell h2⟩
 ·(
 subst e
 obtain⟨b2,off2,e2,h2⟩:=h 0 h0
 simp only[Option.some.injEq,Addr.mk.injEq] at e2
 obtain⟨rfl,rfl,-⟩:=e2
 have hbl:=hb.block _ _ _ h2
 exact fun i v hv=>hi _ _ rfl h0 i v (by rw[← World.cell?_of_block (w:=A) (w':=B) (a:=⟨_,i,none⟩) hbl];exact hv)))
theorem am.calm {A B:World} {v:Value} {f:Rat} (h:am A v f) (hb:Calm A B):am B v f:=by(
 rcases h with h|⟨h1,b,v1,v2,h2,h3,h4,h5,h6⟩
 ·exact .inl h
 ·exact .inr ⟨h1,b,v1,v2,h2,hb.cell h3,hb.cell h4,h5.calm hb,h6.calm hb⟩)
theorem P4.calm {A B:World} {b:Nat} {s:Bool} {x y:Int} {p:Option Addr} (h:P4 A b s x y p) (hb:Calm A B):P4 B b s x y p:=⟨hb.cell h.1,hb.cell h.2.1,hb.cell h.2.2.1,hb.cell h.2.2.2⟩
def az (w:World) (g:Nat) (f:Rat):Prop:=(∃ s x y p,P4 w g s x y p∧am w (.agg #[.bool s,.int .u64 x,.int .u64 y,.pointer p]) f)∧∀ j,w.frozen? ⟨g,j,none⟩=false
theorem az.calm {A B:World} {g:Nat} {f:Rat} (h:az A g f) (hb:Calm A B):az B g f:=by
 obtain⟨⟨s,x,y,p,h1,h2⟩,h3⟩:=h
 exact⟨⟨s,x,y,p,h1.calm hb,h2.calm hb⟩,fun j=>(hb.frozen h1.1).trans (h3 j)⟩
theorem az.but {A B:World} {g:Nat} {f:Rat} (h:az A g f) (hb:But [] A B):az B g f:=by(
 obtain⟨⟨s,x,y,p,h1,h2⟩,h3⟩:=h
 have hl:g<A.heap.size:=ai h1.1
 exact⟨⟨s,x,y,p,h1.but hb (by simp),h2.but hb⟩,fun j=>(hb.frozen (p:=⟨g,j,none⟩) hl (by simp)).trans (h3 j)⟩)
theorem az.beside {A B:World} {g:Nat} {f:Rat} {l:List Nat} (h:az A g f) (hb:But l A B) (hn:g ∉ l) (hc:∀ g ∈ l,∃ s,A.cell? ⟨g,0,none⟩=some (.bool s)):az B g f:=by(
 obtain⟨⟨s,x,y,p,h1,h2⟩,h3⟩:=h
 have hl:g<A.heap.size:=ai h1.1
 exact⟨⟨s,x,y,p,h1.but hb hn,h2.beside hb hc⟩,fun j=>(hb.frozen (p:=⟨g,j,none⟩) hl hn).trans (h3 j)⟩)
theorem az.put {w:World} {g:Nat} {f f':Rat} (h:az w g f) {s:Bool} {x y:Int} {p:Option Addr} (hf:am w (.agg #[.bool s,.int .u64 x,.int .u64 y,.pointer p]) f'):az (gm w g s x y p) g f':=by
 obtain⟨⟨s0,x0,y0,p0,h1,h2⟩,h3⟩:=h
 exact⟨⟨s,x,y,p,zeu w g s x y p h1,hf.over h1.1 (aw w g s x y p)⟩,fun j=>(qft w g s x y p g j).trans (h3 j)⟩
theorem az.new (w:World) (s:Bool) (x y:Int) (p:Option Addr) (f:Rat) (t:TypeId) (h:am w (.agg #[.bool s,.int .u64 x,.int .u64 y,.pointer p]) f):az (w.alloc (.cells #[.bool s,.int .u64 x,.int .u64 y,.pointer p] t)) w.heap.size f :=
 ⟨⟨s,x,y,p,⟨by simp,by simp,by simp,by simp⟩,h.but ((But.refl _ _).alloc _)⟩,fun j=>by simp⟩
theorem az.lt {w:World} {g:Nat} {f:Rat} (h:az w g f):g<w.heap.size:=by
 obtain⟨⟨s,x,y,p,h1,-⟩,-⟩:=h
 exact ai h1.1
theorem az.bool {w:World} {g:Nat} {f:Rat} (h:az w g f):∃ s,w.cell? ⟨g,0,none⟩=some (.bool s):=by
 obtain⟨⟨s,x,y,p,h1,-⟩,-⟩:=h
 exact⟨s,h1.1⟩
theorem aq.get {w:World} {b off n cap:Nat} {fs:List Rat} (h:aq w (.slice (some ⟨b,off,none⟩) n cap) fs) (i:Nat) (hi:i<n):∃ s x y p,P4o w b (off+i*4) s x y p∧am w (.agg #[.bool s,.int .u64 x,.int .u64 y,.pointer p]) (fs[i]?.getD 0):=by(
 obtain⟨a,cap',e,-,h⟩:=h
 simp only[Value.slice.injEq] at e
 obtain⟨rfl,rfl,-⟩:=e
 obtain⟨b',off',e2,s,x,y,p,h1,h2⟩:=h i fs[i] (List.getElem?_eq_getElem hi)
 simp only[Option.some.injEq,Addr.mk.injEq] at e2
 obtain⟨rfl,rfl,-⟩:=e2
 exact⟨s,x,y,p,h1,by rw[List.getElem?_eq_getElem hi];exact h2⟩)
theorem zkx {P:Program} {f:FuncId} {args:Array Value} {w:World} {r:Rat} (h:Calls P f args w fun e w'=>∃ v,e=.returned v∧am w' v r∧But [] w w') :
  Calls P f args w fun e w'=>∃ s x y p,e=.returned (.agg #[.bool s,.int .u64 x,.int .u64 y,.pointer p])∧am w' (.agg #[.bool s,.int .u64 x,.int .u64 y,.pointer p]) r∧But [] w w' :=
 h.mono fun e w' ⟨v,he,hv,hb⟩=>by
  obtain⟨x,y,p,rfl,-⟩:=hv.agg
  exact⟨_,x,y,p,he,hv,hb⟩
theorem zaj (w:World):am w (.agg #[.bool false,.int .u64 0,.int .u64 0,.pointer none]) 0:=.inl ⟨by decide,by decide,rfl⟩
theorem aq.behind {w0 w w':World} {v:Value} {fs:List Rat} {g:Nat} (h0:aq w0 v fs) (h:aq w v fs) (hb:But [g] w w') (hg:w0.heap.size≤g) (hc:∃ s,w.cell? ⟨g,0,none⟩=some (.bool s)):aq w' v fs:=by(
 obtain⟨a0,cap0,e0,-,k0⟩:=h0
 obtain⟨a,cap,rfl,hcp,k⟩:=h
 simp only[Value.slice.injEq] at e0
 obtain⟨rfl,-,-⟩:=e0
 refine⟨a,cap,rfl,hcp,fun i f hf=>?_⟩
 obtain⟨b,off,rfl,h1⟩:=k i f hf
 obtain⟨b',off',e',s,x,y,p,h2,-⟩:=k0 i f hf
 simp only[Option.some.injEq,Addr.mk.injEq] at e'
 obtain⟨rfl,-,-⟩:=e'
 have hlt:b<w0.heap.size:=ai h2.1
 exact⟨b,off,rfl,h1.beside hb (by simp;omega) (fun g' hg'=>by simp at hg';subst hg';exact hc)⟩)
theorem znf:∃ i,prog.info? 27 = some i∧i.zero=some (.agg #[.bool false,.int .u64 0,.int .u64 0,.pointer none])∧i.size=4∧i.bytes=32:=by(
 have h:(prog.info? 27).map (fun i=>(i.zero,i.size,i.bytes))=some (some (.agg #[.bool false,.int .u64 0,.int .u64 0,.pointer none]),4,32):=by kernel_rfl
 cases e:prog.info? 27 with
 | none=>rw[e] at h;simp at h
 | some i =>
  rw[e] at h
  simp only[Option.map_some,Option.some.injEq,Prod.mk.injEq] at h
  exact⟨i,rfl,h.1,h.2.1,h.2.2⟩)
theorem zmu (wx:World) (n:Nat) (h:n<1000000):(Instr.makeSlice 46 (.int .i64 (n:Int)) (.int .i64 (n:Int))).run prog wx=.ok (.slice (some ⟨wx.heap.size,0,none⟩) n n) (wx.alloc (.cells (madeCells #[.bool false,.int .u64 0,.int .u64 0,.pointer none] (n*4)) 27)):=by(
 obtain⟨ti,hi,hz,hs,hbt⟩:=znf
 have hmk:=run_make (P:=prog) wx 46 27 ti _ underlying46 hi hz .i64 .i64 (n:Int) (n:Int) (by omega) (by omega) (by rw[hbt];omega) (by omega)
 rw[hs,Int.toNat_natCast] at hmk
 exact hmk)
theorem zyv (n o:Nat) (h:o<n*4):(madeCells #[Value.bool false,.int .u64 0,.int .u64 0,.pointer none] (n*4))[o]? = (#[Value.bool false,.int .u64 0,.int .u64 0,.pointer none]:Array Value)[o%4]?:=by(
 unfold madeCells
 rw[Array.getElem?_map,Array.getElem?_eq_getElem (by simpa using h),Array.getElem_range,Option.map_some]
 have:o%4=0∨o%4=1∨o%4=2∨o%4=3:=by omega
 show some ((#[Value.bool false,.int .u64 0,.int .u64 0,.pointer none]:Array Value)[o%4]!)=_
 rcases this with e | e | e | e <;> (rw[e];rfl))
theorem av (a:Act) (w:World) (d t:Nat) (u:TypeId) (ps:String) (ed:Array Edge) (gd:Option (Nat × Bool)) (b o:Nat) (s:Bool) (x y:Int) (p:Option Addr) (h1:a.eval (.tmp t)=.pointer (some ⟨b,o,none⟩)) (hc:P4o w b o s x y p) :
   (execOp a.eval { dst:=some d,op:=Op.load 27 (.tmp t),type:=u,pos:=ps,after:=ed,guard:=gd }).run prog w=.ok (.value (.agg #[.bool s,.int .u64 x,.int .u64 y,.pointer p])) w:=by(
 obtain⟨c0,c1,c2,c3⟩:=hc
 unfold execOp
 simp only[h1]
 go_simp)
theorem zqm (a:Act) (w:World) (d t1 t2:Nat) (u:TypeId) (ps:String) (ed:Array Edge) (gd:Option (Nat × Bool)) (x1 x2:Value) (h1:a.eval (.tmp t1)=x1) (h2:a.eval (.tmp t2)=x2) :
   (execOp a.eval { dst:=some d,op:=Op.call { callee:=Callee.value (Operand.func 113),args:=#[Operand.tmp t1,Operand.tmp t2],argTypes:=#[27,27] },type:=u,pos:=ps,after:=ed,guard:=gd }).run prog w=.ok (.enter 113 #[x1,x2]) w:=by(
 unfold execOp
 go_simp
 rw[← h1,← h2]
 simp[Act.eval])
theorem zdu (a:Act) (w:World) (d t1 t2:Nat) (u:TypeId) (ps:String) (ed:Array Edge) (gd:Option (Nat × Bool)) (x1 x2:Value) (h1:a.eval (.tmp t1)=x1) (h2:a.eval (.tmp t2)=x2) :
   (execOp a.eval { dst:=some d,op:=Op.call { callee:=Callee.value (Operand.func 89),args:=#[Operand.tmp t1,Operand.tmp t2],argTypes:=#[27,27] },type:=u,pos:=ps,after:=ed,guard:=gd }).run prog w=.ok (.enter 89 #[x1,x2]) w:=by(
 unfold execOp
 go_simp
 rw[← h1,← h2]
 simp[Act.eval])
theorem zqk (a:Act) (w:World) (d t1 t2:Nat) (u:TypeId) (ps:String) (ed:Array Edge) (gd:Option (Nat × Bool)) (x1 x2:Value) (h1:a.eval (.tmp t1)=x1) (h2:a.eval (.tmp t2)=x2) :
   (execOp a.eval { dst:=some d,op:=Op.call { callee:=Callee.value (Operand.func 58),args:=#[Operand.tmp t1,Operand.tmp t2],argTypes:=#[27,27] },type:=u,pos:=ps,after:=ed,guard:=gd }).run prog w=.ok (.enter 58 #[x1,x2]) w:=by(
 unfold execOp
 go_simp
 rw[← h1,← h2]
 simp[Act.eval])
theorem br (a:Act) (w:World) (d t:Nat) (u:TypeId) (ps:String) (ed:Array Edge) (gd:Option (Nat × Bool)) (N:Value) (h:a.eval (.tmp t)=N) :
   (execOp a.eval { dst:=some d,op:=Op.move (.tmp t),type:=u,pos:=ps,after:=ed,guard:=gd }).run prog w=.ok (.value N) w:=by(
 unfold execOp
 simp only[h]
 go_simp)
theorem qfn (a:Act) (w:World) (d t:Nat) (u:TypeId) (ps:String) (ed:Array Edge) (gd:Option (Nat × Bool)) (N:Value) (h:a.eval (.tmp t)=N) :
   (execOp a.eval { dst:=some d,op:=Op.assign (.tmp t),type:=u,pos:=ps,after:=ed,guard:=gd }).run prog w=.ok (.value N) w:=by(
 unfold execOp
 simp only[h]
 go_simp)
abbrev FZ:=Bool × Int × Int × Option Addr
theorem qax (a:Act) (w:World) (d:Nat) (u:TypeId) (ps:String) (ed:Array Edge) (gd:Option (Nat × Bool)) (n:Int) :
  (execOp a.eval { dst:=some d,op:=Op.call { callee:=Callee.value (Operand.func 79),args:=#[Operand.const (Value.int IntKind.i64 n)],argTypes:=#[3] },type:=u,pos:=ps,after:=ed,guard:=gd }).run prog w=.ok (.enter 79 #[.int .i64 n]) w:=by
 unfold execOp
 go_simp
theorem zkc (a:Act) (w:World) (d t1:Nat) (u:TypeId) (ps:String) (ed:Array Edge) (gd:Option (Nat × Bool)) (x1:Value) (h1:a.eval (.tmp t1)=x1) :
   (execOp a.eval { dst:=some d,op:=Op.call { callee:=Callee.value (Operand.func 79),args:=#[Operand.tmp t1],argTypes:=#[3] },type:=u,pos:=ps,after:=ed,guard:=gd }).run prog w=.ok (.enter 79 #[x1]) w:=by(
 unfold execOp
 go_simp
 rw[← h1]
 simp[Act.eval])
theorem zqg (a:Act) (w:World) (t1 t2:Nat) (u:TypeId) (ps:String) (ed:Array Edge) (g o:Nat) (s:Bool) (x y:Int) (p:Option Addr) {s':Bool} {x' y':Int} {p':Option Addr} (h1:a.eval (.tmp t1)=.pointer (some ⟨g,o,none⟩)) (h2:a.eval (.tmp t2)=.agg #[.bool s,.int .u64 x,.int .u64 y,.pointer p]) (hc:P4o w g o s' x' y' p') (fz:∀ j,w.frozen? ⟨g,j,none⟩=false) :
   (execOp a.eval { dst:=none,op:=Op.store 27 (.tmp t1) (.tmp t2),type:=u,pos:=ps,after:=ed,guard:=none }).run prog w=.ok .skip (w.setCells g o [.bool s,.int .u64 x,.int .u64 y,.pointer p]):=by(
 obtain⟨c0,c1,c2,c3⟩:=hc
 unfold execOp
 simp only[h1,h2]
 go_simp
 rfl)
theorem zkd (a:Act) (w:World) (d t1 t2:Nat) (u:TypeId) (ps:String) (ed:Array Edge) (gd:Option (Nat × Bool)) (b off n c k:Nat) (hk:k<n) (_hn:n<1000000) (h1:a.eval (.tmp t1)=.slice (some ⟨b,off,none⟩) n c) (h2:a.eval (.tmp t2)=.int .i64 (k:Int)) :
   (execOp a.eval { dst:=some d,op:=Op.indexAddr 46 (.tmp t1) (.tmp t2),type:=u,pos:=ps,after:=ed,guard:=gd }).run prog w=.ok (.value (.pointer (some ⟨b,off+k*4,none⟩))) w:=by(
 unfold execOp
 simp only[h1,h2]
 go_simp)
theorem zxq (a:Act) (w:World) (d t1 t2:Nat) (u:TypeId) (ps:String) (ed:Array Edge) (gd:Option (Nat × Bool)) (m n:Nat) (hm:m≤1000000) (hn:n≤1000000) (h1:a.eval (.tmp t1)=.int .i64 (m:Int)) (h2:a.eval (.tmp t2)=.int .i64 (n:Int)) :
   (execOp a.eval { dst:=some d,op:=Op.binOp BinOp.add 3 (.tmp t1) (.tmp t2) 3,type:=u,pos:=ps,after:=ed,guard:=gd }).run prog w=.ok (.value (.int .i64 ((m+n:Nat):Int))) w:=by(
 unfold execOp
 simp only[h1,h2]
 go_simp
 rw[IntKind.wrap_i64]
 omega)
theorem qav (a:Act) (w:World) (d t0 t1:Nat) (u:TypeId) (ps:String) (ed:Array Edge) (gd:Option (Nat × Bool)) (z0 z1:Value) (h0:a.eval (.tmp t0)=z0) (h1:a.eval (.tmp t1)=z1) :
   (execOp a.eval { dst:=some d,op:=Op.call { callee:=Callee.value (Operand.func 56),args:=#[Operand.tmp t0,Operand.tmp t1],argTypes:=#[27,27] },type:=u,pos:=ps,after:=ed,guard:=gd }).run prog w=.ok (.enter 56 #[z0,z1]) w:=by(
 unfold execOp
 go_simp
 rw[← h0,← h1]
 simp[Act.eval])
theorem zqj (a:Act) (w:World) (d t0 t1:Nat) (u:TypeId) (ps:String) (ed:Array Edge) (gd:Option (Nat × Bool)) (z0 z1:Value) (h0:a.eval (.tmp t0)=z0) (h1:a.eval (.tmp t1)=z1) :
   (execOp a.eval { dst:=some d,op:=Op.call { callee:=Callee.value (Operand.func 88),args:=#[Operand.tmp t0,Operand.tmp t1],argTypes:=#[3,47] },type:=u,pos:=ps,after:=ed,guard:=gd }).run prog w=.ok (.enter 88 #[z0,z1]) w:=by(
 unfold execOp
 go_simp
 rw[← h0,← h1]
 simp[Act.eval])
theorem zxp (a:Act) (w:World) (d t0 t1 t2:Nat) (u:TypeId) (ps:String) (ed:Array Edge) (gd:Option (Nat × Bool)) (z0 z1 z2:Value) (h0:a.eval (.tmp t0)=z0) (h1:a.eval (.tmp t1)=z1) (h2:a.eval (.tmp t2)=z2) :
   (execOp a.eval { dst:=some d,op:=Op.call { callee:=Callee.value (Operand.func 87),args:=#[Operand.tmp t0,Operand.tmp t1,Operand.tmp t2],argTypes:=#[46,27,27] },type:=u,pos:=ps,after:=ed,guard:=gd }).run prog w=.ok (.enter 87 #[z0,z1,z2]) w:=by(
 unfold execOp
 go_simp
 rw[← h0,← h1,← h2]
 simp[Act.eval])
def qhv:Oper:=⟨some 21,.move (.tmp 6),46, "bound.go:49",#[],none⟩
def qhu:Oper:=⟨some 22,.move (.tmp 0),3, "bound.go:49",#[],none⟩
def qht:Oper:=⟨some 23,.move (.tmp 6),46, "bound.go:49",#[],none⟩
def qhs:Oper:=⟨some 24,.move (.tmp 0),3, "bound.go:49",#[],none⟩
def qhr:Oper:=⟨some 25,.indexAddr 46 (.tmp 23) (.tmp 24),0, "bound.go:49",#[⟨2,.data⟩,⟨3,.data⟩],none⟩
def qhq:Oper:=⟨some 26,.load 27 (.tmp 25),27, "bound.go:49",#[⟨4,.data⟩],none⟩
def qhp:Oper:=⟨some 27,.load 27 (.tmp 5),27, "bound.go:49",#[],none⟩
def qho:Oper:=⟨some 28,.call { callee:=.value (.func 56),args:=#[.tmp 26,.tmp 27],argTypes:=#[27,27] },27, "bound.go:49",#[⟨5,.data⟩,⟨6,.data⟩],none⟩
def qhn:Oper:=⟨some 29,.indexAddr 46 (.tmp 21) (.tmp 22),0, "bound.go:49",#[⟨0,.data⟩,⟨1,.data⟩,⟨0,.phase⟩,⟨1,.phase⟩,⟨2,.phase⟩,⟨3,.phase⟩,⟨4,.phase⟩,⟨5,.phase⟩,⟨6,.phase⟩,⟨7,.phase⟩],none⟩
def qhm:Oper:=⟨none,.store 27 (.tmp 29) (.tmp 28),0, "bound.go:49",#[⟨8,.data⟩,⟨7,.data⟩,⟨7,.chain⟩,⟨0,.phase⟩,⟨1,.phase⟩,⟨2,.phase⟩,⟨3,.phase⟩,⟨4,.phase⟩,⟨5,.phase⟩,⟨6,.phase⟩,⟨7,.phase⟩],none⟩
def zcn:Array Oper:=#[qhv,qhu,qht,qhs,qhr,qhq,qhp,qho,qhn,qhm]
def zgg (i:Nat):Nat:=match i with
 | 0=>21
 | 1=>22
 | 2=>23
 | 3=>24
 | 4=>25
 | 5=>26
 | 6=>27
 | 7=>28
 | _=>29
def zri (gb:Nat) (go:Nat) (off:Nat) (N:Nat) (cp:Nat) (ka:Nat) (s1:Bool) (x1:Int) (y1:Int) (p1:Option Addr) (s2:Bool) (x2:Int) (y2:Int) (p2:Option Addr) (f1:Rat) (f2:Rat) (i:Nat) (w:World) (v:Value):Prop:=match i with
 | 0=>v=.slice (some ⟨gb,off,none⟩) N cp
 | 1=>v=.int .i64 (ka:Int)
 | 2=>v=.slice (some ⟨gb,off,none⟩) N cp
 | 3=>v=.int .i64 (ka:Int)
 | 4=>v=.pointer (some ⟨gb,go,none⟩)
 | 5=>v=.agg #[.bool s1,.int .u64 x1,.int .u64 y1,.pointer p1]
 | 6=>v=.agg #[.bool s2,.int .u64 x2,.int .u64 y2,.pointer p2]
 | 7=>am w v (f1-f2)
 | _=>v=.pointer (some ⟨gb,go,none⟩)
theorem zyo {gb:Nat} {go:Nat} {off:Nat} {N:Nat} {cp:Nat} {ka:Nat} {s1:Bool} {x1:Int} {y1:Int} {p1:Option Addr} {s2:Bool} {x2:Int} {y2:Int} {p2:Option Addr} {f1:Rat} {f2:Rat} {i:Nat} {w w':World} {v:Value} (h:zri gb go off N cp ka s1 x1 y1 p1 s2 x2 y2 p2 f1 f2 i w v) (hi:i<9) (hb:But [] w w'):zri gb go off N cp ka s1 x1 y1 p1 s2 x2 y2 p2 f1 f2 i w' v:=by(
 have:i=0∨i=1∨i=2∨i=3∨i=4∨i=5∨i=6∨i=7∨i=8:=by omega
 rcases this with rfl|rfl|rfl|rfl|rfl|rfl|rfl|rfl|rfl
 all_goals first | exact h | exact am.but h hb | exact aq.but h hb)
theorem zyn:∀ i j,i<9→j<9→zgg i=zgg j→i=j:=fun i j hi hj=>(by decide:∀ i,i<9→∀ j,j<9→zgg i=zgg j→i=j) i hi j hj
theorem zla (id:Nat) (Q:Exit→Act→World→Prop) (base:Act) (W0:World) (gb:Nat) (go:Nat) (off:Nat) (N:Nat) (cp:Nat) (ka:Nat) (s1:Bool) (x1:Int) (y1:Int) (p1:Option Addr) (s2:Bool) (x2:Int) (y2:Int) (p2:Option Addr) (f1:Rat) (f2:Rat) (g7:Nat) {sb:Bool} {xb yb:Int} {pb:Option Addr} (hs:29<base.tmps.size) (cb:P4o W0 gb go sb xb yb pb) (fzb:∀ j,W0.frozen? ⟨gb,j,none⟩=false) (e1:base.eval (.tmp 6)=.slice (some ⟨gb,off,none⟩) N cp) (e6:base.eval (.tmp 0)=.int .i64 (ka:Int)) (e7:base.eval (.tmp 5)=.pointer (some ⟨g7,0,none⟩))
   (hgo:go=off+ka*4) (hka:ka<N) (hN2:N<1000000) (c1:P4o W0 gb go s1 x1 y1 p1) (c2:P4 W0 g7 s2 x2 y2 p2)
   (SU:∀ w,But [] W0 w→Calls prog 56 #[.agg #[.bool s1,.int .u64 x1,.int .u64 y1,.pointer p1],.agg #[.bool s2,.int .u64 x2,.int .u64 y2,.pointer p2]] w fun e w'=>∃ v,e=.returned v∧am w' v (f1-f2)∧But [] w w')
   (hQ:∀ w1 s' x' y' p',But [] W0 w1→am w1 (.agg #[.bool s',.int .u64 x',.int .u64 y',.pointer p']) (f1-f2)→Q .normal (bi base [(21,.slice (some ⟨gb,off,none⟩) N cp),(22,.int .i64 (ka:Int)),(23,.slice (some ⟨gb,off,none⟩) N cp),(24,.int .i64 (ka:Int)),(25,.pointer (some ⟨gb,go,none⟩)),(26,.agg #[.bool s1,.int .u64 x1,.int .u64 y1,.pointer p1]),(27,.agg #[.bool s2,.int .u64 x2,.int .u64 y2,.pointer p2]),(28,(.agg #[.bool s',.int .u64 x',.int .u64 y',.pointer p'])),(29,.pointer (some ⟨gb,go,none⟩))]) (w1.setCells gb go [.bool s',.int .u64 x',.int .u64 y',.pointer p'])) :
   (Code.region id zcn true).wp prog Q base W0:=by(
 have hdr:∀ {w},But [] W0.drew w→But [] W0 w:=fun h=>(But.refl _ _).drew.trans' h
 have lgb:gb<W0.heap.size:=ai cb.1
 have hT:∀ i,i<9→zgg i<base.tmps.size:=fun i hi=>by
  have h:zgg i≤29:=by revert i;decide
  omega
 refine zdy (by kernel_rfl) (zcb (by kernel_rfl)) (fun i o ho=>(zgw (ops:=zcn) (by kernel_rfl) i o ho).1)
  (fun _ w=>But [] W0.drew w) (zri gb go off N cp ka s1 x1 y1 p1 s2 x2 y2 p2 f1 f2) zgg 9 rfl zyn hT (But.refl _ _)
  (fun i hi=>?_) ?_ (fun a w=>∃ w1 s' x' y' p',a=bi base [(21,.slice (some ⟨gb,off,none⟩) N cp),(22,.int .i64 (ka:Int)),(23,.slice (some ⟨gb,off,none⟩) N cp),(24,.int .i64 (ka:Int)),(25,.pointer (some ⟨gb,go,none⟩)),(26,.agg #[.bool s1,.int .u64 x1,.int .u64 y1,.pointer p1]),(27,.agg #[.bool s2,.int .u64 x2,.int .u64 y2,.pointer p2]),(28,(.agg #[.bool s',.int .u64 x',.int .u64 y',.pointer p'])),(29,.pointer (some ⟨gb,go,none⟩))]∧w=w1.setCells gb go [.bool s',.int .u64 x',.int .u64 y',.pointer p']∧But [] W0 w1∧am w1 (.agg #[.bool s',.int .u64 x',.int .u64 y',.pointer p']) (f1-f2)) ?_ ?_
 ·exact zdk (ops:=zcn) (ps:=[(9,0),(9,1),(9,2),(9,3),(9,4),(9,5),(9,6),(9,7),(9,8)]) (by kernel_rfl) 9 i (by
   have:i=0∨i=1∨i=2∨i=3∨i=4∨i=5∨i=6∨i=7∨i=8:=by omega
   rcases this with rfl|rfl|rfl|rfl|rfl|rfl|rfl|rfl|rfl <;> simp)
 ·(
 intro dn i o a w K hi ho hdi hH he hdep hK
 have hD:=fun j hj=>(o7 (ps:=[(4,2),(4,3),(5,4),(7,5),(7,6),(8,0),(8,1),(8,2),(8,3),(8,4),(8,5),(8,6),(8,7)]) (by kernel_rfl) ho (fun j=>dn j=true∧zri gb go off N cp ka s1 x1 y1 p1 s2 x2 y2 p2 f1 f2 j w (a.eval (.tmp (zgg j)))) hdep j hj).2
 have hk:∀ v w',But [] w w'→zri gb go off N cp ka s1 x1 y1 p1 s2 x2 y2 p2 f1 f2 i w' v→K (a.put (some (zgg i)) v) w':=fun v w' hb hv=>hK v w' (hH.trans' hb) (fun j hj _ u hu=>zyo hu hj hb) hv
 have e1':=(he 6 (fun j hj e=>absurd e.symm (by revert j;decide))).trans e1
 have e6':=(he 0 (fun j hj e=>absurd e.symm (by revert j;decide))).trans e6
 have e7':=(he 5 (fun j hj e=>absurd e.symm (by revert j;decide))).trans e7
 have:i=0∨i=1∨i=2∨i=3∨i=4∨i=5∨i=6∨i=7∨i=8:=by omega
 rcases this with rfl|rfl|rfl|rfl|rfl|rfl|rfl|rfl|rfl
 ·obtain rfl:=so (show zcn[0]? =some qhv from rfl) ho
  exact al (br a w _ _ _ _ _ _ _ e1') (hk _ _ (But.refl _ _) rfl)
 ·obtain rfl:=so (show zcn[1]? =some qhu from rfl) ho
  exact al (br a w _ _ _ _ _ _ _ e6') (hk _ _ (But.refl _ _) rfl)
 ·obtain rfl:=so (show zcn[2]? =some qht from rfl) ho
  exact al (br a w _ _ _ _ _ _ _ e1') (hk _ _ (But.refl _ _) rfl)
 ·obtain rfl:=so (show zcn[3]? =some qhs from rfl) ho
  exact al (br a w _ _ _ _ _ _ _ e6') (hk _ _ (But.refl _ _) rfl)
 ·obtain rfl:=so (show zcn[4]? =some qhr from rfl) ho
  refine al (zkd a w _ _ _ _ _ _ _ gb off N cp ka hka hN2 (hD 2 (by simp)) (hD 3 (by simp))) (hk _ _ (But.refl _ _) ?_)
  show Value.pointer _=Value.pointer _
  rw[hgo]
 ·obtain rfl:=so (show zcn[5]? =some qhq from rfl) ho
  exact al (av a w _ _ _ _ _ _ gb go _ _ _ _ (hD 4 (by simp)) (c1.but (hdr hH) (by simp))) (hk _ _ (But.refl _ _) rfl)
 ·obtain rfl:=so (show zcn[6]? =some qhp from rfl) ho
  exact al (av a w _ _ _ _ _ _ g7 0 _ _ _ _ e7' (c2.but (hdr hH) (by simp))) (hk _ _ (But.refl _ _) rfl)
 ·obtain rfl:=so (show zcn[7]? =some qho from rfl) ho
  exact ax (qav a w _ _ _ _ _ _ _ _ _ (hD 5 (by simp)) (hD 6 (by simp))) (R:=fun w' v=>am w' v (f1-f2)∧But [] w w') (SU w (hdr hH)) (fun v w' hv=>hk v w' hv.2 hv.1)
 ·obtain rfl:=so (show zcn[8]? =some qhn from rfl) ho
  refine al (zkd a w _ _ _ _ _ _ _ gb off N cp ka hka hN2 (hD 0 (by simp)) (hD 1 (by simp))) (hk _ _ (But.refl _ _) ?_)
  show Value.pointer _=Value.pointer _
  rw[hgo])
 ·(
 intro dn o a w K ho hall h hK
 obtain rfl:=so (show zcn[9]? =some qhm from rfl) ho
 have eb':a.eval (.tmp 29)=.pointer (some ⟨gb,go,none⟩):=h.has 8 (by omega) (hall 8 (by omega))
 have cl:am w (a.eval (.tmp 28)) (f1-f2):=h.has 7 (by omega) (hall 7 (by omega))
 have cl':=cl
 obtain⟨x',y',p',ev,-⟩:=cl.agg
 rw[ev] at cl'
 have ea:=h.puts hT (fun i=>match i with
  | 0=>.slice (some ⟨gb,off,none⟩) N cp
  | 1=>.int .i64 (ka:Int)
  | 2=>.slice (some ⟨gb,off,none⟩) N cp
  | 3=>.int .i64 (ka:Int)
  | 4=>.pointer (some ⟨gb,go,none⟩)
  | 5=>.agg #[.bool s1,.int .u64 x1,.int .u64 y1,.pointer p1]
  | 6=>.agg #[.bool s2,.int .u64 x2,.int .u64 y2,.pointer p2]
  | 7=>.agg #[.bool (decide ((f1-f2).num<0)),.int .u64 x',.int .u64 y',.pointer p']
  | _=>.pointer (some ⟨gb,go,none⟩)) (fun i hi=>by
  have hc:=h.has i hi (hall i hi)
  have:i=0∨i=1∨i=2∨i=3∨i=4∨i=5∨i=6∨i=7∨i=8:=by omega
  rcases this with rfl|rfl|rfl|rfl|rfl|rfl|rfl|rfl|rfl
  all_goals first | exact ev | exact hc|rfl)
 exact pz (zqg a w _ _ _ _ _ gb go _ x' y' p' eb' ev (cb.but (hdr h.mem) (by simp)) (fun j=>((hdr h.mem).frozen (p:=⟨gb,j,none⟩) lgb (by simp)).trans (fzb j))) (hK _ _ ⟨w,_,x',y',p',ea,rfl,hdr h.mem,cl'⟩))
 ·rintro a w ⟨w1,s',x',y',p',rfl,rfl,h1,h2⟩
  exact hQ  w1 s' x' y' p' h1 h2)
theorem qba (a:Act) (w:World) (d t:Nat) (u:TypeId) (ps:String) (ed:Array Edge) (gd:Option (Nat × Bool)) (x:Int) (h:a.eval (.tmp t)=.int .i64 x) :
   (execOp a.eval { dst:=some d,op:=Op.binOp BinOp.eql 3 (.tmp t) (.const (.int .i64 0)) 3,type:=u,pos:=ps,after:=ed,guard:=gd }).run prog w=.ok (.value (.bool (x==0))) w:=by(
 have e:a.eval (.const (.int .i64 0))=.int .i64 0:=rfl
 unfold execOp
 simp only[h,e]
 go_simp)
theorem ztj (a:Act) (w:World) (d t1:Nat) (u:TypeId) (ps:String) (ed:Array Edge) (gd:Option (Nat × Bool)) (x1:Value) (h1:a.eval (.tmp t1)=x1) :
   (execOp a.eval { dst:=some d,op:=Op.call { callee:=Callee.value (Operand.func 129),args:=#[Operand.tmp t1],argTypes:=#[27] },type:=u,pos:=ps,after:=ed,guard:=gd }).run prog w=.ok (.enter 129 #[x1]) w:=by(
 unfold execOp
 go_simp
 rw[← h1]
 simp[Act.eval])
theorem zti (a:Act) (w:World) (d t1:Nat) (u:TypeId) (ps:String) (ed:Array Edge) (gd:Option (Nat × Bool)) (x1:Value) (h1:a.eval (.tmp t1)=x1) :
   (execOp a.eval { dst:=some d,op:=Op.call { callee:=Callee.value (Operand.func 165),args:=#[Operand.tmp t1],argTypes:=#[27] },type:=u,pos:=ps,after:=ed,guard:=gd }).run prog w=.ok (.enter 165 #[x1]) w:=by(
 unfold execOp
 go_simp
 rw[← h1]
 simp[Act.eval])
def qby:Oper:=⟨some 12,.load 27 (.tmp 1),27, "whole.go:24",#[],none⟩
def qbx:Oper:=⟨some 13,.load 27 (.tmp 1),27, "whole.go:24",#[],none⟩
def qbw:Oper:=⟨some 14,.call { callee:=.value (.func 129),args:=#[.tmp 13],argTypes:=#[27] },27, "whole.go:24",#[⟨1,.data⟩],none⟩
def qbv:Oper:=⟨some 15,.call { callee:=.value (.func 58),args:=#[.tmp 12,.tmp 14],argTypes:=#[27,27] },3, "whole.go:24",#[⟨0,.data⟩,⟨2,.data⟩,⟨2,.chain⟩],none⟩
def qbu:Oper:=⟨some 16,.binOp .eql 3 (.tmp 15) (.const (.int .i64 0)) 3,4, "whole.go:24",#[⟨3,.data⟩],none⟩
def zeb:Array Oper:=#[qby,qbx,qbw,qbv,qbu]
def zii (i:Nat):Nat:=match i with
 | 0=>12
 | 1=>13
 | 2=>14
 | 3=>15
 | _=>16
def zwd (s1:Bool) (x1:Int) (y1:Int) (p1:Option Addr) (r:Int) (g:Rat) (i:Nat) (w:World) (v:Value):Prop:=match i with
 | 0=>v=.agg #[.bool s1,.int .u64 x1,.int .u64 y1,.pointer p1]
 | 1=>v=.agg #[.bool s1,.int .u64 x1,.int .u64 y1,.pointer p1]
 | 2=>am w v g
 | 3=>v=.int .i64 r
 | _=>v=.bool (r==0)
theorem zyj {s1:Bool} {x1:Int} {y1:Int} {p1:Option Addr} {r:Int} {g:Rat} {i:Nat} {w w':World} {v:Value} (h:zwd s1 x1 y1 p1 r g i w v) (hi:i<5) (hb:But [] w w'):zwd s1 x1 y1 p1 r g i w' v:=by(
 have:i=0∨i=1∨i=2∨i=3∨i=4:=by omega
 rcases this with rfl|rfl|rfl|rfl|rfl
 all_goals first | exact h | exact am.but h hb | exact aq.but h hb)
theorem zyi:∀ i j,i<5→j<5→zii i=zii j→i=j:=fun i j hi hj=>(by decide:∀ i,i<5→∀ j,j<5→zii i=zii j→i=j) i hi j hj
theorem zmh (id:Nat) (Q:Exit→Act→World→Prop) (base:Act) (W0:World) (s1:Bool) (x1:Int) (y1:Int) (p1:Option Addr) (r:Int) (g:Rat) (hs:16<base.tmps.size) (g1:Nat) (e1:base.eval (.tmp 1)=.pointer (some ⟨g1,0,none⟩))
   (c1:P4 W0 g1 s1 x1 y1 p1)
   (FL:∀ w,But [] W0 w→Calls prog 129 #[.agg #[.bool s1,.int .u64 x1,.int .u64 y1,.pointer p1]] w fun e w'=>∃ v,e=.returned v∧am w' v g∧But [] w w')
   (CM:∀ w,But [] W0 w→∀ v,am w v g→Calls prog 58 #[.agg #[.bool s1,.int .u64 x1,.int .u64 y1,.pointer p1],v] w fun e w'=>e=.returned (.int .i64 r)∧But [] w w')
   (hQ:∀ w (v2:Value),But [] W0 w→Q .normal (bi base [(12,.agg #[.bool s1,.int .u64 x1,.int .u64 y1,.pointer p1]),(13,.agg #[.bool s1,.int .u64 x1,.int .u64 y1,.pointer p1]),(14,v2),(15,.int .i64 r),(16,.bool (r==0))]) w) :
   (Code.region id zeb true).wp prog Q base W0:=by(
 have hdr:∀ {w},But [] W0.drew w→But [] W0 w:=fun h=>(But.refl _ _).drew.trans' h
 have hT:∀ i,i<5→zii i<base.tmps.size:=fun i hi=>by
  have h:zii i≤16:=by revert i;decide
  omega
 refine zhg (by kernel_rfl) (zcb (by kernel_rfl)) (zwd s1 x1 y1 p1 r g) zii (by kernel_rfl) ?_ zyi hT (fun i w w' v hi h hb=>zyj h hi hb) ?_ ?_
 ·(
 intro i o j want ho hg w v hv
 have hi:i<5:=(Array.getElem?_eq_some_iff.1 ho).1
 have:i=0∨i=1∨i=2∨i=3∨i=4:=by omega
 rcases this with rfl|rfl|rfl|rfl|rfl
 ·obtain rfl:=so (show zeb[0]? =some qby from rfl) ho
  exact absurd (show (none:Option (Nat × Bool))=some (j,want) from hg) (by simp)
 ·obtain rfl:=so (show zeb[1]? =some qbx from rfl) ho
  exact absurd (show (none:Option (Nat × Bool))=some (j,want) from hg) (by simp)
 ·obtain rfl:=so (show zeb[2]? =some qbw from rfl) ho
  exact absurd (show (none:Option (Nat × Bool))=some (j,want) from hg) (by simp)
 ·obtain rfl:=so (show zeb[3]? =some qbv from rfl) ho
  exact absurd (show (none:Option (Nat × Bool))=some (j,want) from hg) (by simp)
 ·obtain rfl:=so (show zeb[4]? =some qbu from rfl) ho
  exact absurd (show (none:Option (Nat × Bool))=some (j,want) from hg) (by simp))
 ·(
 intro i o a w K ho hH he hdep hk
 have hi:i<5:=(Array.getElem?_eq_some_iff.1 ho).1
 have hD:=o7 (ps:=[(2,1),(3,0),(3,2),(4,3)]) (by kernel_rfl) ho (fun j=>zwd s1 x1 y1 p1 r g j w (a.eval (.tmp (zii j)))) hdep
 have e1':=(he 1 (fun j hj e=>absurd e.symm (by revert j;decide))).trans e1
 have:i=0∨i=1∨i=2∨i=3∨i=4:=by omega
 rcases this with rfl|rfl|rfl|rfl|rfl
 ·obtain rfl:=so (show zeb[0]? =some qby from rfl) ho
  exact al (av a w _ _ _ _ _ _ g1 0 _ _ _ _ e1' (c1.but (hdr hH) (by simp))) (hk _ _ (But.refl _ _) rfl)
 ·obtain rfl:=so (show zeb[1]? =some qbx from rfl) ho
  exact al (av a w _ _ _ _ _ _ g1 0 _ _ _ _ e1' (c1.but (hdr hH) (by simp))) (hk _ _ (But.refl _ _) rfl)
 ·obtain rfl:=so (show zeb[2]? =some qbw from rfl) ho
  exact ax (ztj a w _ _ _ _ _ _ _ (hD 1 (by simp))) (R:=fun w' v=>am w' v (g)∧But [] w w') (FL w (hdr hH)) (fun v w' hv=>hk v w' hv.2 hv.1)
 ·obtain rfl:=so (show zeb[3]? =some qbv from rfl) ho
  exact ax (zqk a w _ _ _ _ _ _ _ _ _ (hD 0 (by simp)) rfl) (R:=fun w' v=>But [] w w'∧v=_) ((CM w (hdr hH) _ (hD 2 (by simp))).mono fun e w' ⟨he,hb⟩=>⟨_,he,hb,rfl⟩) (fun v w' hv=>hk v w' hv.1 hv.2)
 ·obtain rfl:=so (show zeb[4]? =some qbu from rfl) ho
  exact al (qba a w _ _ _ _ _ _ _ (hD 3 (by simp))) (hk _ _ (But.refl _ _) rfl))
 ·(
 intro a w h
 have ea:=h.puts hT (fun i=>match i with
  | 0=>.agg #[.bool s1,.int .u64 x1,.int .u64 y1,.pointer p1]
  | 1=>.agg #[.bool s1,.int .u64 x1,.int .u64 y1,.pointer p1]
  | 2=>a.eval (.tmp 14)
  | 3=>.int .i64 r
  | _=>.bool (r==0)) (fun i hi=>by
  have hi':i<5:=hi
  have hc:=h.has i hi rfl
  have:i=0∨i=1∨i=2∨i=3∨i=4:=by omega
  rcases this with rfl|rfl|rfl|rfl|rfl
  all_goals first | exact hc|rfl)
 rw[ea]
 exact hQ w (a.eval (.tmp 14)) (hdr h.but)))
def qhd:Oper:=⟨some 44,.load 27 (.tmp 6),27, "whole.go:33",#[],none⟩
def qhc:Oper:=⟨some 45,.load 27 (.tmp 10),27, "whole.go:33",#[],none⟩
def qhb:Oper:=⟨some 46,.call { callee:=.value (.func 89),args:=#[.tmp 44,.tmp 45],argTypes:=#[27,27] },27, "whole.go:33",#[⟨0,.data⟩,⟨1,.data⟩],none⟩
def qha:Oper:=⟨some 47,.load 27 (.tmp 8),27, "whole.go:33",#[],none⟩
def qgz:Oper:=⟨some 48,.call { callee:=.value (.func 113),args:=#[.tmp 46,.tmp 47],argTypes:=#[27,27] },27, "whole.go:33",#[⟨2,.data⟩,⟨3,.data⟩,⟨2,.chain⟩],none⟩
def qgy:Oper:=⟨none,.store 27 (.tmp 6) (.tmp 48),0, "whole.go:33",#[⟨4,.data⟩,⟨4,.chain⟩,⟨0,.phase⟩,⟨1,.phase⟩,⟨2,.phase⟩,⟨3,.phase⟩,⟨4,.phase⟩],none⟩
def zgd:Array Oper:=#[qhd,qhc,qhb,qha,qgz,qgy]
def zge (i:Nat):Nat:=match i with
 | 0=>44
 | 1=>45
 | 2=>46
 | 3=>47
 | _=>48
def zrh (s1:Bool) (x1:Int) (y1:Int) (p1:Option Addr) (s2:Bool) (x2:Int) (y2:Int) (p2:Option Addr) (s3:Bool) (x3:Int) (y3:Int) (p3:Option Addr) (f1:Rat) (f2:Rat) (f3:Rat) (i:Nat) (w:World) (v:Value):Prop:=match i with
 | 0=>v=.agg #[.bool s1,.int .u64 x1,.int .u64 y1,.pointer p1]
 | 1=>v=.agg #[.bool s2,.int .u64 x2,.int .u64 y2,.pointer p2]
 | 2=>am w v (f1*f2)
 | 3=>v=.agg #[.bool s3,.int .u64 x3,.int .u64 y3,.pointer p3]
 | _=>am w v (f1*f2+f3)
theorem zyh {s1:Bool} {x1:Int} {y1:Int} {p1:Option Addr} {s2:Bool} {x2:Int} {y2:Int} {p2:Option Addr} {s3:Bool} {x3:Int} {y3:Int} {p3:Option Addr} {f1:Rat} {f2:Rat} {f3:Rat} {i:Nat} {w w':World} {v:Value} (h:zrh s1 x1 y1 p1 s2 x2 y2 p2 s3 x3 y3 p3 f1 f2 f3 i w v) (hi:i<5) (hb:But [] w w'):zrh s1 x1 y1 p1 s2 x2 y2 p2 s3 x3 y3 p3 f1 f2 f3 i w' v:=by(
 have:i=0∨i=1∨i=2∨i=3∨i=4:=by omega
 rcases this with rfl|rfl|rfl|rfl|rfl
 all_goals first | exact h | exact am.but h hb | exact aq.but h hb)
theorem zyg:∀ i j,i<5→j<5→zge i=zge j→i=j:=fun i j hi hj=>(by decide:∀ i,i<5→∀ j,j<5→zge i=zge j→i=j) i hi j hj
theorem zmg (id:Nat) (Q:Exit→Act→World→Prop) (base:Act) (W0:World) (s1:Bool) (x1:Int) (y1:Int) (p1:Option Addr) (s2:Bool) (x2:Int) (y2:Int) (p2:Option Addr) (s3:Bool) (x3:Int) (y3:Int) (p3:Option Addr) (f1:Rat) (f2:Rat) (f3:Rat) (gb g8 g10:Nat) {sb:Bool} {xb yb:Int} {pb:Option Addr} (hs:48<base.tmps.size) (eb:base.eval (.tmp 6)=.pointer (some ⟨gb,0,none⟩)) (cb:P4 W0 gb sb xb yb pb) (fzb:∀ j,W0.frozen? ⟨gb,j,none⟩=false) (e10:base.eval (.tmp 10)=.pointer (some ⟨g10,0,none⟩)) (e8:base.eval (.tmp 8)=.pointer (some ⟨g8,0,none⟩))
   (c1:P4 W0 gb s1 x1 y1 p1) (c2:P4 W0 g10 s2 x2 y2 p2) (c3:P4 W0 g8 s3 x3 y3 p3)
   (MU:∀ w,But [] W0 w→Calls prog 89 #[.agg #[.bool s1,.int .u64 x1,.int .u64 y1,.pointer p1],.agg #[.bool s2,.int .u64 x2,.int .u64 y2,.pointer p2]] w fun e w'=>∃ v,e=.returned v∧am w' v (f1*f2)∧But [] w w')
   (AD:∀ w,But [] W0 w→∀ v,am w v (f1*f2)→Calls prog 113 #[v,.agg #[.bool s3,.int .u64 x3,.int .u64 y3,.pointer p3]] w fun e w'=>∃ v,e=.returned v∧am w' v (f1*f2+f3)∧But [] w w')
   (hQ:∀ w1 v2 s' x' y' p',But [] W0 w1→am w1 (.agg #[.bool s',.int .u64 x',.int .u64 y',.pointer p']) (f1*f2+f3)→Q .normal (bi base [(44,.agg #[.bool s1,.int .u64 x1,.int .u64 y1,.pointer p1]),(45,.agg #[.bool s2,.int .u64 x2,.int .u64 y2,.pointer p2]),(46,v2),(47,.agg #[.bool s3,.int .u64 x3,.int .u64 y3,.pointer p3]),(48,(.agg #[.bool s',.int .u64 x',.int .u64 y',.pointer p']))]) (gm w1 gb s' x' y' p')) :
   (Code.region id zgd true).wp prog Q base W0:=by(
 have hdr:∀ {w},But [] W0.drew w→But [] W0 w:=fun h=>(But.refl _ _).drew.trans' h
 have lgb:gb<W0.heap.size:=ai cb.1
 have hT:∀ i,i<5→zge i<base.tmps.size:=fun i hi=>by
  have h:zge i≤48:=by revert i;decide
  omega
 refine zdy (by kernel_rfl) (zcb (by kernel_rfl)) (fun i o ho=>(zgw (ops:=zgd) (by kernel_rfl) i o ho).1)
  (fun _ w=>But [] W0.drew w) (zrh s1 x1 y1 p1 s2 x2 y2 p2 s3 x3 y3 p3 f1 f2 f3) zge 5 rfl zyg hT (But.refl _ _)
  (fun i hi=>?_) ?_ (fun a w=>∃ w1 v2 s' x' y' p',a=bi base [(44,.agg #[.bool s1,.int .u64 x1,.int .u64 y1,.pointer p1]),(45,.agg #[.bool s2,.int .u64 x2,.int .u64 y2,.pointer p2]),(46,v2),(47,.agg #[.bool s3,.int .u64 x3,.int .u64 y3,.pointer p3]),(48,(.agg #[.bool s',.int .u64 x',.int .u64 y',.pointer p']))]∧w=gm w1 gb s' x' y' p'∧But [] W0 w1∧am w1 (.agg #[.bool s',.int .u64 x',.int .u64 y',.pointer p']) (f1*f2+f3)) ?_ ?_
 ·exact zdk (ops:=zgd) (ps:=[(5,0),(5,1),(5,2),(5,3),(5,4)]) (by kernel_rfl) 5 i (by
   have:i=0∨i=1∨i=2∨i=3∨i=4:=by omega
   rcases this with rfl|rfl|rfl|rfl|rfl <;> simp)
 ·(
 intro dn i o a w K hi ho hdi hH he hdep hK
 have hD:=fun j hj=>(o7 (ps:=[(2,0),(2,1),(4,2),(4,3)]) (by kernel_rfl) ho (fun j=>dn j=true∧zrh s1 x1 y1 p1 s2 x2 y2 p2 s3 x3 y3 p3 f1 f2 f3 j w (a.eval (.tmp (zge j)))) hdep j hj).2
 have hk:∀ v w',But [] w w'→zrh s1 x1 y1 p1 s2 x2 y2 p2 s3 x3 y3 p3 f1 f2 f3 i w' v→K (a.put (some (zge i)) v) w':=fun v w' hb hv=>hK v w' (hH.trans' hb) (fun j hj _ u hu=>zyh hu hj hb) hv
 have eb':=(he 6 (fun j hj e=>absurd e.symm (by revert j;decide))).trans eb
 have e10':=(he 10 (fun j hj e=>absurd e.symm (by revert j;decide))).trans e10
 have e8':=(he 8 (fun j hj e=>absurd e.symm (by revert j;decide))).trans e8
 have:i=0∨i=1∨i=2∨i=3∨i=4:=by omega
 rcases this with rfl|rfl|rfl|rfl|rfl
 ·obtain rfl:=so (show zgd[0]? =some qhd from rfl) ho
  exact al (av a w _ _ _ _ _ _ gb 0 _ _ _ _ eb' (c1.but (hdr hH) (by simp))) (hk _ _ (But.refl _ _) rfl)
 ·obtain rfl:=so (show zgd[1]? =some qhc from rfl) ho
  exact al (av a w _ _ _ _ _ _ g10 0 _ _ _ _ e10' (c2.but (hdr hH) (by simp))) (hk _ _ (But.refl _ _) rfl)
 ·obtain rfl:=so (show zgd[2]? =some qhb from rfl) ho
  exact ax (zdu a w _ _ _ _ _ _ _ _ _ (hD 0 (by simp)) (hD 1 (by simp))) (R:=fun w' v=>am w' v (f1*f2)∧But [] w w') (MU w (hdr hH)) (fun v w' hv=>hk v w' hv.2 hv.1)
 ·obtain rfl:=so (show zgd[3]? =some qha from rfl) ho
  exact al (av a w _ _ _ _ _ _ g8 0 _ _ _ _ e8' (c3.but (hdr hH) (by simp))) (hk _ _ (But.refl _ _) rfl)
 ·obtain rfl:=so (show zgd[4]? =some qgz from rfl) ho
  exact ax (zqm a w _ _ _ _ _ _ _ _ _ rfl (hD 3 (by simp))) (R:=fun w' v=>am w' v (f1*f2+f3)∧But [] w w') (AD w (hdr hH) _ (hD 2 (by simp))) (fun v w' hv=>hk v w' hv.2 hv.1))
 ·(
 intro dn o a w K ho hall h hK
 obtain rfl:=so (show zgd[5]? =some qgy from rfl) ho
 have eb':=(h.eval 6 (fun j hj e=>absurd e.symm (by revert j;decide))).trans eb
 have cl:am w (a.eval (.tmp 48)) (f1*f2+f3):=h.has 4 (by omega) (hall 4 (by omega))
 have cl':=cl
 obtain⟨x',y',p',ev,-⟩:=cl.agg
 rw[ev] at cl'
 have ea:=h.puts hT (fun i=>match i with
  | 0=>.agg #[.bool s1,.int .u64 x1,.int .u64 y1,.pointer p1]
  | 1=>.agg #[.bool s2,.int .u64 x2,.int .u64 y2,.pointer p2]
  | 2=>a.eval (.tmp 46)
  | 3=>.agg #[.bool s3,.int .u64 x3,.int .u64 y3,.pointer p3]
  | _=>.agg #[.bool (decide ((f1*f2+f3).num<0)),.int .u64 x',.int .u64 y',.pointer p']) (fun i hi=>by
  have hc:=h.has i hi (hall i hi)
  have:i=0∨i=1∨i=2∨i=3∨i=4:=by omega
  rcases this with rfl|rfl|rfl|rfl|rfl
  all_goals first | exact ev | exact hc|rfl)
 exact pz (zfg a w _ _ _ _ _ gb _ x' y' p' eb' ev (cb.but (hdr h.mem) (by simp)) (fun j=>((hdr h.mem).frozen (p:=⟨gb,j,none⟩) lgb (by simp)).trans (fzb j))) (hK _ _ ⟨w,a.eval (.tmp 46),_,x',y',p',ea,rfl,hdr h.mem,cl'⟩))
 ·rintro a w ⟨w1,v2,s',x',y',p',rfl,rfl,h1,h2⟩
  exact hQ  w1 v2 s' x' y' p' h1 h2)
def qgx:Oper:=⟨some 21,.load 27 (.tmp 3),27, "whole.go:16",#[],none⟩
def qgw:Oper:=⟨some 22,.load 27 (.tmp 7),27, "whole.go:16",#[],none⟩
def qgv:Oper:=⟨some 23,.load 27 (.tmp 3),27, "whole.go:16",#[],none⟩
def qgu:Oper:=⟨some 24,.call { callee:=.value (.func 89),args:=#[.tmp 22,.tmp 23],argTypes:=#[27,27] },27, "whole.go:16",#[⟨1,.data⟩,⟨2,.data⟩],none⟩
def qgt:Oper:=⟨some 25,.call { callee:=.value (.func 165),args:=#[.tmp 24],argTypes:=#[27] },27, "whole.go:16",#[⟨3,.data⟩,⟨3,.chain⟩],none⟩
def qgs:Oper:=⟨some 26,.call { callee:=.value (.func 89),args:=#[.tmp 21,.tmp 25],argTypes:=#[27,27] },27, "whole.go:16",#[⟨0,.data⟩,⟨4,.data⟩,⟨4,.chain⟩],none⟩
def qgr:Oper:=⟨none,.store 27 (.tmp 3) (.tmp 26),0, "whole.go:16",#[⟨5,.data⟩,⟨5,.chain⟩,⟨0,.phase⟩,⟨1,.phase⟩,⟨2,.phase⟩,⟨3,.phase⟩,⟨4,.phase⟩,⟨5,.phase⟩],none⟩
def zfa:Array Oper:=#[qgx,qgw,qgv,qgu,qgt,qgs,qgr]
def zgc (i:Nat):Nat:=match i with
 | 0=>21
 | 1=>22
 | 2=>23
 | 3=>24
 | 4=>25
 | _=>26
def zrg (s1:Bool) (x1:Int) (y1:Int) (p1:Option Addr) (s2:Bool) (x2:Int) (y2:Int) (p2:Option Addr) (f1:Rat) (f2:Rat) (z:Rat) (i:Nat) (w:World) (v:Value):Prop:=match i with
 | 0=>v=.agg #[.bool s1,.int .u64 x1,.int .u64 y1,.pointer p1]
 | 1=>v=.agg #[.bool s2,.int .u64 x2,.int .u64 y2,.pointer p2]
 | 2=>v=.agg #[.bool s1,.int .u64 x1,.int .u64 y1,.pointer p1]
 | 3=>am w v (f2*f1)
 | 4=>am w v z
 | _=>am w v (f1*z)
theorem zyf {s1:Bool} {x1:Int} {y1:Int} {p1:Option Addr} {s2:Bool} {x2:Int} {y2:Int} {p2:Option Addr} {f1:Rat} {f2:Rat} {z:Rat} {i:Nat} {w w':World} {v:Value} (h:zrg s1 x1 y1 p1 s2 x2 y2 p2 f1 f2 z i w v) (hi:i<6) (hb:But [] w w'):zrg s1 x1 y1 p1 s2 x2 y2 p2 f1 f2 z i w' v:=by(
 have:i=0∨i=1∨i=2∨i=3∨i=4∨i=5:=by omega
 rcases this with rfl|rfl|rfl|rfl|rfl|rfl
 all_goals first | exact h | exact am.but h hb | exact aq.but h hb)
theorem zye:∀ i j,i<6→j<6→zgc i=zgc j→i=j:=fun i j hi hj=>(by decide:∀ i,i<6→∀ j,j<6→zgc i=zgc j→i=j) i hi j hj
theorem zmo (id:Nat) (Q:Exit→Act→World→Prop) (base:Act) (W0:World) (s1:Bool) (x1:Int) (y1:Int) (p1:Option Addr) (s2:Bool) (x2:Int) (y2:Int) (p2:Option Addr) (f1:Rat) (f2:Rat) (z:Rat) (gb g7:Nat) {sb:Bool} {xb yb:Int} {pb:Option Addr} (hs:26<base.tmps.size) (eb:base.eval (.tmp 3)=.pointer (some ⟨gb,0,none⟩)) (cb:P4 W0 gb sb xb yb pb) (fzb:∀ j,W0.frozen? ⟨gb,j,none⟩=false) (e7:base.eval (.tmp 7)=.pointer (some ⟨g7,0,none⟩))
   (c1:P4 W0 gb s1 x1 y1 p1) (c2:P4 W0 g7 s2 x2 y2 p2)
   (MU:∀ w,But [] W0 w→Calls prog 89 #[.agg #[.bool s2,.int .u64 x2,.int .u64 y2,.pointer p2],.agg #[.bool s1,.int .u64 x1,.int .u64 y1,.pointer p1]] w fun e w'=>∃ v,e=.returned v∧am w' v (f2*f1)∧But [] w w')
   (LO:∀ w,But [] W0 w→∀ v,am w v (f2*f1)→Calls prog 165 #[v] w fun e w'=>∃ v,e=.returned v∧am w' v z∧But [] w w')
   (MZ:∀ w,But [] W0 w→∀ v,am w v z→Calls prog 89 #[.agg #[.bool s1,.int .u64 x1,.int .u64 y1,.pointer p1],v] w fun e w'=>∃ v,e=.returned v∧am w' v (f1*z)∧But [] w w')
   (hQ:∀ w1 v3 v4 s' x' y' p',But [] W0 w1→am w1 (.agg #[.bool s',.int .u64 x',.int .u64 y',.pointer p']) (f1*z)→Q .normal (bi base [(21,.agg #[.bool s1,.int .u64 x1,.int .u64 y1,.pointer p1]),(22,.agg #[.bool s2,.int .u64 x2,.int .u64 y2,.pointer p2]),(23,.agg #[.bool s1,.int .u64 x1,.int .u64 y1,.pointer p1]),(24,v3),(25,v4),(26,(.agg #[.bool s',.int .u64 x',.int .u64 y',.pointer p']))]) (gm w1 gb s' x' y' p')) :
   (Code.region id zfa true).wp prog Q base W0:=by(
 have hdr:∀ {w},But [] W0.drew w→But [] W0 w:=fun h=>(But.refl _ _).drew.trans' h
 have lgb:gb<W0.heap.size:=ai cb.1
 have hT:∀ i,i<6→zgc i<base.tmps.size:=fun i hi=>by
  have h:zgc i≤26:=by revert i;decide
  omega
 refine zdy (by kernel_rfl) (zcb (by kernel_rfl)) (fun i o ho=>(zgw (ops:=zfa) (by kernel_rfl) i o ho).1)
  (fun _ w=>But [] W0.drew w) (zrg s1 x1 y1 p1 s2 x2 y2 p2 f1 f2 z) zgc 6 rfl zye hT (But.refl _ _)
  (fun i hi=>?_) ?_ (fun a w=>∃ w1 v3 v4 s' x' y' p',a=bi base [(21,.agg #[.bool s1,.int .u64 x1,.int .u64 y1,.pointer p1]),(22,.agg #[.bool s2,.int .u64 x2,.int .u64 y2,.pointer p2]),(23,.agg #[.bool s1,.int .u64 x1,.int .u64 y1,.pointer p1]),(24,v3),(25,v4),(26,(.agg #[.bool s',.int .u64 x',.int .u64 y',.pointer p']))]∧w=gm w1 gb s' x' y' p'∧But [] W0 w1∧am w1 (.agg #[.bool s',.int .u64 x',.int .u64 y',.pointer p']) (f1*z)) ?_ ?_
 ·exact zdk (ops:=zfa) (ps:=[(6,0),(6,1),(6,2),(6,3),(6,4),(6,5)]) (by kernel_rfl) 6 i (by
   have:i=0∨i=1∨i=2∨i=3∨i=4∨i=5:=by omega
   rcases this with rfl|rfl|rfl|rfl|rfl|rfl <;> simp)
 ·(
 intro dn i o a w K hi ho hdi hH he hdep hK
 have hD:=fun j hj=>(o7 (ps:=[(3,1),(3,2),(4,3),(5,0),(5,4)]) (by kernel_rfl) ho (fun j=>dn j=true∧zrg s1 x1 y1 p1 s2 x2 y2 p2 f1 f2 z j w (a.eval (.tmp (zgc j)))) hdep j hj).2
 have hk:∀ v w',But [] w w'→zrg s1 x1 y1 p1 s2 x2 y2 p2 f1 f2 z i w' v→K (a.put (some (zgc i)) v) w':=fun v w' hb hv=>hK v w' (hH.trans' hb) (fun j hj _ u hu=>zyf hu hj hb) hv
 have eb':=(he 3 (fun j hj e=>absurd e.symm (by revert j;decide))).trans eb
 have e7':=(he 7 (fun j hj e=>absurd e.symm (by revert j;decide))).trans e7
 have:i=0∨i=1∨i=2∨i=3∨i=4∨i=5:=by omega
 rcases this with rfl|rfl|rfl|rfl|rfl|rfl
 ·obtain rfl:=so (show zfa[0]? =some qgx from rfl) ho
  exact al (av a w _ _ _ _ _ _ gb 0 _ _ _ _ eb' (c1.but (hdr hH) (by simp))) (hk _ _ (But.refl _ _) rfl)
 ·obtain rfl:=so (show zfa[1]? =some qgw from rfl) ho
  exact al (av a w _ _ _ _ _ _ g7 0 _ _ _ _ e7' (c2.but (hdr hH) (by simp))) (hk _ _ (But.refl _ _) rfl)
 ·obtain rfl:=so (show zfa[2]? =some qgv from rfl) ho
  exact al (av a w _ _ _ _ _ _ gb 0 _ _ _ _ eb' (c1.but (hdr hH) (by simp))) (hk _ _ (But.refl _ _) rfl)
 ·obtain rfl:=so (show zfa[3]? =some qgu from rfl) ho
  exact ax (zdu a w _ _ _ _ _ _ _ _ _ (hD 1 (by simp)) (hD 2 (by simp))) (R:=fun w' v=>am w' v (f2*f1)∧But [] w w') (MU w (hdr hH)) (fun v w' hv=>hk v w' hv.2 hv.1)
 ·obtain rfl:=so (show zfa[4]? =some qgt from rfl) ho
  exact ax (zti a w _ _ _ _ _ _ _ rfl) (R:=fun w' v=>am w' v (z)∧But [] w w') (LO w (hdr hH) _ (hD 3 (by simp))) (fun v w' hv=>hk v w' hv.2 hv.1)
 ·obtain rfl:=so (show zfa[5]? =some qgs from rfl) ho
  exact ax (zdu a w _ _ _ _ _ _ _ _ _ (hD 0 (by simp)) rfl) (R:=fun w' v=>am w' v (f1*z)∧But [] w w') (MZ w (hdr hH) _ (hD 4 (by simp))) (fun v w' hv=>hk v w' hv.2 hv.1))
 ·(
 intro dn o a w K ho hall h hK
 obtain rfl:=so (show zfa[6]? =some qgr from rfl) ho
 have eb':=(h.eval 3 (fun j hj e=>absurd e.symm (by revert j;decide))).trans eb
 have cl:am w (a.eval (.tmp 26)) (f1*z):=h.has 5 (by omega) (hall 5 (by omega))
 have cl':=cl
 obtain⟨x',y',p',ev,-⟩:=cl.agg
 rw[ev] at cl'
 have ea:=h.puts hT (fun i=>match i with
  | 0=>.agg #[.bool s1,.int .u64 x1,.int .u64 y1,.pointer p1]
  | 1=>.agg #[.bool s2,.int .u64 x2,.int .u64 y2,.pointer p2]
  | 2=>.agg #[.bool s1,.int .u64 x1,.int .u64 y1,.pointer p1]
  | 3=>a.eval (.tmp 24)
  | 4=>a.eval (.tmp 25)
  | _=>.agg #[.bool (decide ((f1*z).num<0)),.int .u64 x',.int .u64 y',.pointer p']) (fun i hi=>by
  have hc:=h.has i hi (hall i hi)
  have:i=0∨i=1∨i=2∨i=3∨i=4∨i=5:=by omega
  rcases this with rfl|rfl|rfl|rfl|rfl|rfl
  all_goals first | exact ev | exact hc|rfl)
 exact pz (zfg a w _ _ _ _ _ gb _ x' y' p' eb' ev (cb.but (hdr h.mem) (by simp)) (fun j=>((hdr h.mem).frozen (p:=⟨gb,j,none⟩) lgb (by simp)).trans (fzb j))) (hK _ _ ⟨w,a.eval (.tmp 24),a.eval (.tmp 25),_,x',y',p',ea,rfl,hdr h.mem,cl'⟩))
 ·rintro a w ⟨w1,v3,v4,s',x',y',p',rfl,rfl,h1,h2⟩
  exact hQ  w1 v3 v4 s' x' y' p' h1 h2)
theorem zlx {P:Program} {id l0 n0:Nat} {ops:Array Oper} {Q:Exit→Act→World→Prop} {base:Act} {W0:World} (hm:P.follows .mixedOrders=true)
   (hnd:∀ (i:Nat) (o:Oper),ops[i]? = some o→o.guard=none∧∀ c,o.op≠.defer c)
   (hlow:∀ i o,ops[i]? = some o→∀ e ∈ o.after,Region.binds .any e=true→e.on<i)
   (C:Nat→World→Value→Prop) (T:Nat→Nat) (m:Nat) (hsz:ops.size=m+1)
   (hinj:∀ i j,i<m→j<m→T i=T j→i=j) (hT:∀ i,i<m→T i<base.tmps.size) (hC:∀ i w w' v,i<m→C i w v→But [] w w'→C i w' v)
   (hall:∀ i,i<m→∃ o,ops[m]? = some o∧∃ e ∈ o.after,Region.binds .any e=true∧e.on=i)
   (hstep:∀ (i:Nat) (o:Oper) (a:Act) (w:World) (K:Act→World→Prop),i<m→ops[i]? = some o→But [] W0.drew w→(∀ t,(∀ j,j<m→t≠T j)→a.eval (.tmp t)=base.eval (.tmp t))→(∀ e ∈ o.after,Region.binds .any e=true→C e.on w (a.eval (.tmp (T e.on))))→(∀ v w',But [] w w'→C i w' v→K (a.put (some (T i)) v) w')→o.wp P a w K Q)
   (Fin:Act→World→Prop)
   (hlast:∀ (d:Nat→Bool) (o:Oper) (a:Act) (w:World) (K:Act→World→Prop),ops[m]? = some o→(∀ i,i<m→d i=true)→zct base (fun _ w=>But [] W0.drew w) C T m d a w→(∀ a' w',Fin a' w'→K a' w')→o.wp P a w K Q)
   (hend:∀ a w,Fin a w→Q .normal a w) :
   (Code.region id ops true).wpIn (Fence.wide.inRound l0) n0 P Q base W0:=by(
 refine zqo hm hnd hlow (fun d a w=>if d m=true then (Fin a w∧∀ i,i<m→d i=true) else zct base (fun _ w=>But [] W0.drew w) C T m d a w) ?_ ?_ ?_
 ·simp only[Bool.false_eq_true,if_false]
  exact⟨But.refl _ _,rfl,rfl,fun _ _=>rfl,fun _ _ h=>by simp at h⟩
 ·intro d a w hd h
  rw[if_pos (hd m (by omega))] at h
  exact hend a w h.1
 ·(
 intro d i o a w ho hdi hdep h
 have hi:i<m+1:=by rw[← hsz];exact (Array.getElem?_eq_some_iff.1 ho).1
 by_cases e:i=m
 ·(
 subst e
 rw[if_neg (by rw[hdi];simp)] at h
 have hd:∀ j,j<i→d j=true:=fun j hj=>by
  obtain⟨o',ho',ed,he,hb,rfl⟩:=hall j hj
  rw[ho] at ho'
  obtain rfl:=Option.some.inj ho'
  exact hdep ed he hb
 refine hlast d o a w _ ho hd h (fun a' w' hf=>?_)
 rw[if_pos (mh d i)]
 exact⟨hf,fun j hj=>by rw[jo d (by omega)];exact hd j hj⟩)
 ·(
 have him:i<m:=by omega
 by_cases hdm:d m=true
 ·exfalso
  rw[if_pos hdm] at h
  rw[h.2 i him] at hdi
  simp at hdi
 ·rw[if_neg hdm] at h
  refine hstep i o a w _ him ho h.mem (fun t ht=>h.eval t ht) (fun ed he hb=>h.has _ (by have:=hlow i o ho ed he hb;omega) (hdep ed he hb)) (fun v w' hB hv=>?_)
  rw[if_neg (by rw[jo d (Ne.symm e)];exact hdm)]
  exact h.next hinj hT i him v w' (h.mem.trans' hB) (fun j hj _ u hu=>hC j w w' u hj hu hB) hv)))
def qie:Oper:=⟨some 16,.load 27 (.tmp 7),27, "bound.go:58",#[],none⟩
def qid:Oper:=⟨some 17,.load 27 (.tmp 4),27, "bound.go:58",#[],none⟩
def qic:Oper:=⟨some 18,.call { callee:=.value (.func 89),args:=#[.tmp 16,.tmp 17],argTypes:=#[27,27] },27, "bound.go:58",#[⟨0,.data⟩,⟨1,.data⟩],none⟩
def qib:Oper:=⟨some 19,.load 27 (.tmp 10),27, "bound.go:58",#[],none⟩
def qia:Oper:=⟨some 20,.load 27 (.tmp 8),27, "bound.go:58",#[],none⟩
def qhz:Oper:=⟨some 21,.call { callee:=.value (.func 89),args:=#[.tmp 19,.tmp 20],argTypes:=#[27,27] },27, "bound.go:58",#[⟨3,.data⟩,⟨4,.data⟩,⟨2,.chain⟩],none⟩
def qhy:Oper:=⟨some 22,.call { callee:=.value (.func 113),args:=#[.tmp 18,.tmp 21],argTypes:=#[27,27] },27, "bound.go:58",#[⟨2,.data⟩,⟨5,.data⟩,⟨5,.chain⟩],none⟩
def qhx:Oper:=⟨none,.store 27 (.tmp 7) (.tmp 22),0, "bound.go:58",#[⟨6,.data⟩,⟨6,.chain⟩,⟨0,.phase⟩,⟨1,.phase⟩,⟨2,.phase⟩,⟨3,.phase⟩,⟨4,.phase⟩,⟨5,.phase⟩,⟨6,.phase⟩],none⟩
def zfb:Array Oper:=#[qie,qid,qic,qib,qia,qhz,qhy,qhx]
def qhw (s1:Bool) (x1 y1:Int) (p1:Option Addr) (s2:Bool) (x2 y2:Int) (p2:Option Addr) (s3:Bool) (x3 y3:Int) (p3:Option Addr) (s4:Bool) (x4 y4:Int) (p4:Option Addr) (f1 f2 f3 f4:Rat) (i:Nat) (w:World) (v:Value):Prop:=match i with
 | 0=>v=.agg #[.bool s1,.int .u64 x1,.int .u64 y1,.pointer p1]
 | 1=>v=.agg #[.bool s2,.int .u64 x2,.int .u64 y2,.pointer p2]
 | 2=>am w v (f1*f2)
 | 3=>v=.agg #[.bool s3,.int .u64 x3,.int .u64 y3,.pointer p3]
 | 4=>v=.agg #[.bool s4,.int .u64 x4,.int .u64 y4,.pointer p4]
 | 5=>am w v (f3*f4)
 | _=>am w v (f1*f2+f3*f4)
theorem zoh (id l0 n0:Nat) (Q:Exit→Act→World→Prop) (base:Act) (W0:World) (s1:Bool) (x1 y1:Int) (p1:Option Addr) (s2:Bool) (x2 y2:Int) (p2:Option Addr) (s3:Bool) (x3 y3:Int) (p3:Option Addr) (s4:Bool) (x4 y4:Int) (p4:Option Addr) (f1 f2 f3 f4:Rat) (g7 g4 g10 g8:Nat)
   (hs:22<base.tmps.size) (e7:base.eval (.tmp 7)=.pointer (some ⟨g7,0,none⟩)) (e4:base.eval (.tmp 4)=.pointer (some ⟨g4,0,none⟩)) (e10:base.eval (.tmp 10)=.pointer (some ⟨g10,0,none⟩)) (e8:base.eval (.tmp 8)=.pointer (some ⟨g8,0,none⟩))
   (c1:P4 W0 g7 s1 x1 y1 p1) (fz:∀ j,W0.frozen? ⟨g7,j,none⟩=false) (c2:P4 W0 g4 s2 x2 y2 p2) (c3:P4 W0 g10 s3 x3 y3 p3) (c4:P4 W0 g8 s4 x4 y4 p4)
   (MA:∀ w,But [] W0 w→Calls prog 89 #[.agg #[.bool s1,.int .u64 x1,.int .u64 y1,.pointer p1],.agg #[.bool s2,.int .u64 x2,.int .u64 y2,.pointer p2]] w fun e w'=>∃ v,e=.returned v∧am w' v (f1*f2)∧But [] w w')
   (MB:∀ w,But [] W0 w→Calls prog 89 #[.agg #[.bool s3,.int .u64 x3,.int .u64 y3,.pointer p3],.agg #[.bool s4,.int .u64 x4,.int .u64 y4,.pointer p4]] w fun e w'=>∃ v,e=.returned v∧am w' v (f3*f4)∧But [] w w')
   (AD:∀ w v v',But [] W0 w→am w v (f1*f2)→am w v' (f3*f4)→Calls prog 113 #[v,v'] w fun e w'=>∃ v,e=.returned v∧am w' v (f1*f2+f3*f4)∧But [] w w')
   (hQ:∀ w1 v2 v5 s' x' y' p',But [] W0 w1→am w1 (.agg #[.bool s',.int .u64 x',.int .u64 y',.pointer p']) (f1*f2+f3*f4)→Q .normal (bi base [(16,.agg #[.bool s1,.int .u64 x1,.int .u64 y1,.pointer p1]),(17,.agg #[.bool s2,.int .u64 x2,.int .u64 y2,.pointer p2]),(18,v2),(19,.agg #[.bool s3,.int .u64 x3,.int .u64 y3,.pointer p3]),(20,.agg #[.bool s4,.int .u64 x4,.int .u64 y4,.pointer p4]),(21,v5),(22,(.agg #[.bool s',.int .u64 x',.int .u64 y',.pointer p']))]) (gm w1 g7 s' x' y' p')) :
   (Code.region id zfb true).wpIn (Fence.wide.inRound l0) n0 prog Q base W0:=by(
 have lg:g7<W0.heap.size:=ai c1.1
 have hdr:∀ {w},But [] W0.drew w→But [] W0 w:=fun h=>(But.refl _ _).drew.trans' h
 have hT:∀ i,i<7→16+i<base.tmps.size:=fun i hi=>by omega
 refine zlx (by kernel_rfl) (zgw (by kernel_rfl)) (zcb (by kernel_rfl))
  (qhw s1 x1 y1 p1 s2 x2 y2 p2 s3 x3 y3 p3 s4 x4 y4 p4 f1 f2 f3 f4) (fun i=>16+i) 7 rfl (fun i j _ _ e=>by omega) hT ?_ (fun i hi=>?_) ?_
  (fun a w=>∃ w1 v2 v5 s' x' y' p',a=bi base [(16,.agg #[.bool s1,.int .u64 x1,.int .u64 y1,.pointer p1]),(17,.agg #[.bool s2,.int .u64 x2,.int .u64 y2,.pointer p2]),(18,v2),(19,.agg #[.bool s3,.int .u64 x3,.int .u64 y3,.pointer p3]),(20,.agg #[.bool s4,.int .u64 x4,.int .u64 y4,.pointer p4]),(21,v5),(22,(.agg #[.bool s',.int .u64 x',.int .u64 y',.pointer p']))]∧w=gm w1 g7 s' x' y' p'∧But [] W0 w1∧am w1 (.agg #[.bool s',.int .u64 x',.int .u64 y',.pointer p']) (f1*f2+f3*f4)) ?_ ?_
 ·intro i w w' v hi h hb
  have:i=0∨i=1∨i=2∨i=3∨i=4∨i=5∨i=6:=by omega
  rcases this with rfl|rfl|rfl|rfl|rfl|rfl|rfl
  all_goals first | exact h | exact am.but h hb
 ·have hh:=zdk (ops:=zfb) (ps:=[(7,0),(7,1),(7,2),(7,3),(7,4),(7,5),(7,6)]) (by kernel_rfl) 7 i (by
   have:i=0∨i=1∨i=2∨i=3∨i=4∨i=5∨i=6:=by omega
   rcases this with rfl|rfl|rfl|rfl|rfl|rfl|rfl <;> simp)
  exact hh
 ·(
 intro i o a w K hi ho hH he hdep hk
 have:i=0∨i=1∨i=2∨i=3∨i=4∨i=5∨i=6:=by omega
 have hD:=o7 (ps:=[(2,0),(2,1),(5,3),(5,4),(6,2),(6,5)]) (by kernel_rfl) ho (fun j=>qhw s1 x1 y1 p1 s2 x2 y2 p2 s3 x3 y3 p3 s4 x4 y4 p4 f1 f2 f3 f4 j w (a.eval (.tmp (16+j)))) hdep
 have e7':=(he 7 (fun j _=>by omega)).trans e7
 have e4':=(he 4 (fun j _=>by omega)).trans e4
 have e10':=(he 10 (fun j _=>by omega)).trans e10
 have e8':=(he 8 (fun j _=>by omega)).trans e8
 rcases this with rfl|rfl|rfl|rfl|rfl|rfl|rfl
 ·obtain rfl:=so (show zfb[0]? =some qie from rfl) ho
  exact al (av a w _ _ _ _ _ _ g7 0 _ _ _ _ e7' (c1.but (hdr hH) (by simp))) (hk _ _ (But.refl _ _) rfl)
 ·obtain rfl:=so (show zfb[1]? =some qid from rfl) ho
  exact al (av a w _ _ _ _ _ _ g4 0 _ _ _ _ e4' (c2.but (hdr hH) (by simp))) (hk _ _ (But.refl _ _) rfl)
 ·obtain rfl:=so (show zfb[2]? =some qic from rfl) ho
  exact ax (zdu a w _ _ _ _ _ _ _ _ _ (hD 0 (by simp)) (hD 1 (by simp))) (R:=fun w' v=>am w' v (f1*f2)∧But [] w w') (MA w (hdr hH)) (fun v w' hv=>hk v w' hv.2 hv.1)
 ·obtain rfl:=so (show zfb[3]? =some qib from rfl) ho
  exact al (av a w _ _ _ _ _ _ g10 0 _ _ _ _ e10' (c3.but (hdr hH) (by simp))) (hk _ _ (But.refl _ _) rfl)
 ·obtain rfl:=so (show zfb[4]? =some qia from rfl) ho
  exact al (av a w _ _ _ _ _ _ g8 0 _ _ _ _ e8' (c4.but (hdr hH) (by simp))) (hk _ _ (But.refl _ _) rfl)
 ·obtain rfl:=so (show zfb[5]? =some qhz from rfl) ho
  exact ax (zdu a w _ _ _ _ _ _ _ _ _ (hD 3 (by simp)) (hD 4 (by simp))) (R:=fun w' v=>am w' v (f3*f4)∧But [] w w') (MB w (hdr hH)) (fun v w' hv=>hk v w' hv.2 hv.1)
 ·obtain rfl:=so (show zfb[6]? =some qhy from rfl) ho
  exact ax (zqm a w _ _ _ _ _ _ _ _ _ rfl rfl) (R:=fun w' v=>am w' v (f1*f2+f3*f4)∧But [] w w') (AD w _ _ (hdr hH) (hD 2 (by simp)) (hD 5 (by simp))) (fun v w' hv=>hk v w' hv.2 hv.1))
 ·(
 intro dn o a w K ho hall h hK
 obtain rfl:=so (show zfb[7]? =some qhx from rfl) ho
 have e7':=(h.eval 7 (fun j _=>by omega)).trans e7
 have cl:am w (a.eval (.tmp 22)) (f1*f2+f3*f4):=h.has 6 (by omega) (hall 6 (by omega))
 have cl':=cl
 obtain⟨x',y',p',ev,-⟩:=cl.agg
 rw[ev] at cl'
 have ea:=h.puts hT (fun i=>match i with
  | 0=>.agg #[.bool s1,.int .u64 x1,.int .u64 y1,.pointer p1]
  | 1=>.agg #[.bool s2,.int .u64 x2,.int .u64 y2,.pointer p2]
  | 2=>a.eval (.tmp 18)
  | 3=>.agg #[.bool s3,.int .u64 x3,.int .u64 y3,.pointer p3]
  | 4=>.agg #[.bool s4,.int .u64 x4,.int .u64 y4,.pointer p4]
  | 5=>a.eval (.tmp 21)
  | _=>.agg #[.bool (decide ((f1*f2+f3*f4).num<0)),.int .u64 x',.int .u64 y',.pointer p']) (fun i hi=>by
  have hc:=h.has i hi (hall i hi)
  have:i=0∨i=1∨i=2∨i=3∨i=4∨i=5∨i=6:=by omega
  rcases this with rfl|rfl|rfl|rfl|rfl|rfl|rfl
  ·exact hc
  ·exact hc
  ·rfl
  ·exact hc
  ·exact hc
  ·rfl
  ·exact ev)
 exact pz (zfg a w _ _ _ _ _ g7 _ x' y' p' e7' ev (c1.but (hdr h.mem) (by simp)) (fun j=>((hdr h.mem).frozen (p:=⟨g7,j,none⟩) lg (by simp)).trans (fz j))) (hK _ _ ⟨w,_,_,_,x',y',p',ea,rfl,hdr h.mem,cl'⟩))
 ·rintro a w ⟨w1,v2,v5,s',x',y',p',rfl,rfl,h1,h2⟩
  exact hQ w1 v2 v5 s' x' y' p' h1 h2)
theorem qaz (a:Act) (w:World) (d t:Nat) (u:TypeId) (ps:String) (ed:Array Edge) (gd:Option (Nat × Bool)) (x:Int) (h:a.eval (.tmp t)=.int .i64 x) :
   (execOp a.eval { dst:=some d,op:=Op.binOp BinOp.neq 3 (.tmp t) (.const (.int .i64 0)) 3,type:=u,pos:=ps,after:=ed,guard:=gd }).run prog w=.ok (.value (.bool (x != 0))) w:=by(
 have e:a.eval (.const (.int .i64 0))=.int .i64 0:=rfl
 unfold execOp
 simp only[h,e]
 go_simp)
def qbt:Oper:=⟨some 29,.load 27 (.tmp 3),27, "claims.go:26",#[],none⟩
def qbs:Oper:=⟨some 30,.call { callee:=.value (.func 79),args:=#[.const (.int .i64 1)],argTypes:=#[3] },27, "claims.go:26",#[],none⟩
def qbr:Oper:=⟨some 31,.call { callee:=.value (.func 58),args:=#[.tmp 29,.tmp 30],argTypes:=#[27,27] },3, "claims.go:26",#[⟨0,.data⟩,⟨1,.data⟩,⟨1,.chain⟩],none⟩
def qbq:Oper:=⟨some 32,.binOp .neq 3 (.tmp 31) (.const (.int .i64 0)) 3,4, "claims.go:26",#[⟨2,.data⟩],none⟩
def zgb:Array Oper:=#[qbt,qbs,qbr,qbq]
def zih (i:Nat):Nat:=match i with
 | 0=>29
 | 1=>30
 | 2=>31
 | _=>32
def zwc (s1:Bool) (x1:Int) (y1:Int) (p1:Option Addr) (ws:Bool) (wx:Int) (r:Int) (i:Nat) (_w:World) (v:Value):Prop:=match i with
 | 0=>v=.agg #[.bool s1,.int .u64 x1,.int .u64 y1,.pointer p1]
 | 1=>v=.agg #[.bool ws,.int .u64 wx,.int .u64 0,.pointer none]
 | 2=>v=.int .i64 r
 | _=>v=.bool (r != 0)
theorem zyd {s1:Bool} {x1:Int} {y1:Int} {p1:Option Addr} {ws:Bool} {wx:Int} {r:Int} {i:Nat} {w w':World} {v:Value} (h:zwc s1 x1 y1 p1 ws wx r i w v) (hi:i<4) (_hb:But [] w w'):zwc s1 x1 y1 p1 ws wx r i w' v:=by(
 have:i=0∨i=1∨i=2∨i=3:=by omega
 rcases this with rfl|rfl|rfl|rfl
 all_goals exact h)
theorem zyc:∀ i j,i<4→j<4→zih i=zih j→i=j:=fun i j hi hj=>(by decide:∀ i,i<4→∀ j,j<4→zih i=zih j→i=j) i hi j hj
theorem zpi (id:Nat) (Q:Exit→Act→World→Prop) (base:Act) (W0:World) (s1:Bool) (x1:Int) (y1:Int) (p1:Option Addr) (ws:Bool) (wx:Int) (r:Int) (hs:32<base.tmps.size) (g3:Nat) (e3:base.eval (.tmp 3)=.pointer (some ⟨g3,0,none⟩))
   (c1:P4 W0 g3 s1 x1 y1 p1)
   (WH:∀ w,Calls prog 79 #[.int .i64 1] w fun e w'=>e=.returned (.agg #[.bool ws,.int .u64 wx,.int .u64 0,.pointer none])∧But [] w w')
   (CM:∀ w,But [] W0 w→Calls prog 58 #[.agg #[.bool s1,.int .u64 x1,.int .u64 y1,.pointer p1],.agg #[.bool ws,.int .u64 wx,.int .u64 0,.pointer none]] w fun e w'=>e=.returned (.int .i64 r)∧But [] w w')
   (hQ:∀ w,But [] W0 w→Q .normal (bi base [(29,.agg #[.bool s1,.int .u64 x1,.int .u64 y1,.pointer p1]),(30,.agg #[.bool ws,.int .u64 wx,.int .u64 0,.pointer none]),(31,.int .i64 r),(32,.bool (r != 0))]) w) :
   (Code.region id zgb true).wp prog Q base W0:=by(
 have hdr:∀ {w},But [] W0.drew w→But [] W0 w:=fun h=>(But.refl _ _).drew.trans' h
 have hT:∀ i,i<4→zih i<base.tmps.size:=fun i hi=>by
  have h:zih i≤32:=by revert i;decide
  omega
 refine zhg (by kernel_rfl) (zcb (by kernel_rfl)) (zwc s1 x1 y1 p1 ws wx r) zih (by kernel_rfl) ?_ zyc hT (fun i w w' v hi h hb=>zyd h hi hb) ?_ ?_
 ·(
 intro i o j want ho hg w v hv
 have hi:i<4:=(Array.getElem?_eq_some_iff.1 ho).1
 have:i=0∨i=1∨i=2∨i=3:=by omega
 rcases this with rfl|rfl|rfl|rfl
 ·obtain rfl:=so (show zgb[0]? =some qbt from rfl) ho
  exact absurd (show (none:Option (Nat × Bool))=some (j,want) from hg) (by simp)
 ·obtain rfl:=so (show zgb[1]? =some qbs from rfl) ho
  exact absurd (show (none:Option (Nat × Bool))=some (j,want) from hg) (by simp)
 ·obtain rfl:=so (show zgb[2]? =some qbr from rfl) ho
  exact absurd (show (none:Option (Nat × Bool))=some (j,want) from hg) (by simp)
 ·obtain rfl:=so (show zgb[3]? =some qbq from rfl) ho
  exact absurd (show (none:Option (Nat × Bool))=some (j,want) from hg) (by simp))
 ·(
 intro i o a w K ho hH he hdep hk
 have hi:i<4:=(Array.getElem?_eq_some_iff.1 ho).1
 have hD:=o7 (ps:=[(2,0),(2,1),(3,2)]) (by kernel_rfl) ho (fun j=>zwc s1 x1 y1 p1 ws wx r j w (a.eval (.tmp (zih j)))) hdep
 have e3':=(he 3 (fun j hj e=>absurd e.symm (by revert j;decide))).trans e3
 have:i=0∨i=1∨i=2∨i=3:=by omega
 rcases this with rfl|rfl|rfl|rfl
 ·obtain rfl:=so (show zgb[0]? =some qbt from rfl) ho
  exact al (av a w _ _ _ _ _ _ g3 0 _ _ _ _ e3' (c1.but (hdr hH) (by simp))) (hk _ _ (But.refl _ _) rfl)
 ·obtain rfl:=so (show zgb[1]? =some qbs from rfl) ho
  exact ax (qax a w _ _ _ _ _ 1) (R:=fun w' v=>But [] w w'∧v=_) ((WH w).mono fun e w' ⟨he,hb⟩=>⟨_,he,hb,rfl⟩) (fun v w' hv=>hk v w' hv.1 hv.2)
 ·obtain rfl:=so (show zgb[2]? =some qbr from rfl) ho
  exact ax (zqk a w _ _ _ _ _ _ _ _ _ (hD 0 (by simp)) (hD 1 (by simp))) (R:=fun w' v=>But [] w w'∧v=_) ((CM w (hdr hH)).mono fun e w' ⟨he,hb⟩=>⟨_,he,hb,rfl⟩) (fun v w' hv=>hk v w' hv.1 hv.2)
 ·obtain rfl:=so (show zgb[3]? =some qbq from rfl) ho
  exact al (qaz a w _ _ _ _ _ _ _ (hD 2 (by simp))) (hk _ _ (But.refl _ _) rfl))
 ·(
 intro a w h
 have ea:=h.puts hT (fun i=>match i with
  | 0=>.agg #[.bool s1,.int .u64 x1,.int .u64 y1,.pointer p1]
  | 1=>.agg #[.bool ws,.int .u64 wx,.int .u64 0,.pointer none]
  | 2=>.int .i64 r
  | _=>.bool (r != 0)) (fun i hi=>by
  have hi':i<4:=hi
  have hc:=h.has i hi rfl
  have:i=0∨i=1∨i=2∨i=3:=by omega
  rcases this with rfl|rfl|rfl|rfl
  all_goals first | exact hc|rfl)
 rw[ea]
 exact hQ w (hdr h.but)))
def zht (q:Int):Value:=if q=0 then .nilIface else .iface 33 (.int .i64 q)
end Go.Proofs.YtagmkkiagjmimaaGreatDoor
