/- Lists of fractions in memory.  -/
import Derived.Laws.AppendOwn
import Derived.Test.YtpmjeclpkahkmaaGreatDoorVF7
namespace Go.Proofs.YtpmjeclpkahkmaaGreatDoor
open Go.Proofs.Tryz
open Go.RowKit
set_option maxHeartbeats 16000000
set_option maxRecDepth 100000
def P4o (w:World) (b o:Nat) (s:Bool) (x y:Int) (p:Option Addr):Prop:=w.cell? ⟨b,o,none⟩=some (.bool s)∧w.cell? ⟨b,o+1,none⟩=some (.int .u64 x)∧w.cell? ⟨b,o+2,none⟩=some (.int .u64 y)∧w.cell? ⟨b,o+3,none⟩=some (.pointer p)
theorem P4o.but {w w':World} {b o:Nat} {s:Bool} {x y:Int} {p:Option Addr} {l:List Nat} (h:P4o w b o s x y p) (hb:But l w w') (hn:b ∉ l):P4o w' b o s x y p:=⟨hb.ag h.1 hn,hb.ag h.2.1 hn,hb.ag h.2.2.1 hn,hb.ag h.2.2.2 hn⟩
def zdu (w:World) (b o:Nat) (f:Rat):Prop:=∃ s x y p,P4o w b o s x y p∧aq w (.agg #[.bool s,.int .u64 x,.int .u64 y,.pointer p]) f
theorem zdu.but {w w':World} {b o:Nat} {f:Rat} (h:zdu w b o f) (hb:But [] w w'):zdu w' b o f:=by
 obtain⟨s,x,y,p,h1,h2⟩:=h
 exact⟨s,x,y,p,h1.but hb (by simp),h2.but hb⟩
theorem Sl.beside {k:IntKind} {w w':World} {v:Value} {xs:List Nat} {l:List Nat} (h:Sl k w v xs) (hb:But l w w') (hc:∀ g ∈ l,∃ i s,w.cell? ⟨g,i,none⟩=some (.bool s)):Sl k w' v xs:=by(
obtain⟨a,cap,rfl,hcp,h,hi⟩:=h
rcases Nat.eq_zero_or_pos xs.length with h0 | h0
·exact⟨a,cap,rfl,hcp,fun i hi=>by omega,fun b off e h1=>by omega⟩
·(
refine Sl.but (xs:=xs) ⟨a,cap,rfl,hcp,h,hi⟩ hb (fun b off cap' n e hm=>?_)
simp only[Value.slice.injEq] at e
obtain⟨rfl,-,-⟩:=e
obtain⟨i,s,hs⟩:=hc b hm
exact (hi _ _ rfl h0).ne hs (by simp) rfl))
theorem aq.beside {w W:World} {v:Value} {f:Rat} {l:List Nat} (h:aq w v f) (hb:But l w W) (hc:∀ g ∈ l,∃ s,w.cell? ⟨g,0,none⟩=some (.bool s)):aq W v f:=by(
rcases h with h1|⟨h1,b,v1,v2,h2,h3,h4,h5,h6⟩
·exact .inl h1
·(
have hbg:b ∉ l:=fun hm=>by
 obtain⟨s,hs⟩:=hc b hm
 obtain⟨a,cap,rfl,-⟩:=h5
 rw[hs] at h3
 simp at h3
exact .inr ⟨h1,b,v1,v2,h2,hb.ag h3 hbg,hb.ag h4 hbg,h5.beside hb (fun g hg=>⟨0,hc g hg⟩),h6.beside hb (fun g hg=>⟨0,hc g hg⟩)⟩))
theorem zdu.beside {w w':World} {b o:Nat} {f:Rat} {l:List Nat} (h:zdu w b o f) (hb:But l w w') (hn:b ∉ l) (hc:∀ g ∈ l,∃ s,w.cell? ⟨g,0,none⟩=some (.bool s)):zdu w' b o f:=by
 obtain⟨s,x,y,p,h1,h2⟩:=h
 exact⟨s,x,y,p,h1.but hb hn,h2.beside hb hc⟩
def au (w:World) (v:Value) (fs:List Rat):Prop:=∃ a cap,v=.slice a fs.length cap∧fs.length≤cap∧∀ i f,fs[i]? = some f→∃ b off,a=some ⟨b,off,none⟩∧zdu w b (off+i*4) f
theorem au.nil (w:World):au w (.slice none 0 0) []:=⟨none,0,rfl,Nat.le_refl _,fun i f h=>by simp at h⟩
theorem au.but {w w':World} {v:Value} {fs:List Rat} (h:au w v fs) (hb:But [] w w'):au w' v fs:=by(
obtain⟨a,cap,e,hc,h⟩:=h
refine⟨a,cap,e,hc,fun i f hf=>?_⟩
obtain⟨b,off,e1,h1⟩:=h i f hf
exact⟨b,off,e1,h1.but hb⟩)
theorem au.open {w:World} {v:Value} {fs:List Rat} (h:au w v fs) :
  (fs=[]∧∃ a cap,v=.slice a 0 cap)∨(0<fs.length∧∃ b off cap,v=.slice (some ⟨b,off,none⟩) fs.length cap∧fs.length≤cap∧∀ i f,fs[i]? = some f→zdu w b (off+i*4) f):=by(
obtain⟨a,cap,rfl,hc,h⟩:=h
rcases Nat.eq_zero_or_pos fs.length with h0 | h0
·exact .inl ⟨List.length_eq_zero_iff.1 h0,a,cap,by rw[h0]⟩
·(
obtain⟨b,off,rfl,-⟩:=h 0 fs[0] (List.getElem?_eq_getElem h0)
refine .inr ⟨h0,b,off,cap,rfl,hc,fun i f hf=>?_⟩
obtain⟨b',off',e,h2⟩:=h i f hf
simp only[Option.some.injEq,Addr.mk.injEq] at e
obtain⟨rfl,rfl,_⟩:=e
exact h2))
theorem au.take {w:World} {b off cap:Nat} {fs:List Rat} (h:au w (.slice (some ⟨b,off,none⟩) fs.length cap) fs) (n c:Nat) (hn:n≤fs.length) (hc:n≤c):au w (.slice (some ⟨b,off,none⟩) n c) (fs.take n):=by(
obtain⟨a,cap',e,-,h⟩:=h
simp only[Value.slice.injEq] at e
obtain⟨rfl,-,-⟩:=e
have hl:(fs.take n).length=n:=by rw[List.length_take];omega
refine⟨_,c,by rw[hl],by rw[hl];exact hc,fun i f hf=>?_⟩
have hi:i<n:=by
 have:=(List.getElem?_eq_some_iff.1 hf).1
 omega
exact h i f (by rw[List.getElem?_take_of_lt hi] at hf;exact hf))
theorem au.drop {w:World} {b off cap:Nat} {fs:List Rat} (h:au w (.slice (some ⟨b,off,none⟩) fs.length cap) fs) (n m c:Nat) (hm:m=fs.length-n) (hc:m≤c):au w (.slice (some ⟨b,off+n*4,none⟩) m c) (fs.drop n):=by(
obtain⟨a,cap',e,-,h⟩:=h
simp only[Value.slice.injEq] at e
obtain⟨rfl,-,-⟩:=e
have hl:(fs.drop n).length=m:=by rw[List.length_drop];omega
refine⟨_,c,by rw[hl],by rw[hl];exact hc,fun i f hf=>?_⟩
rw[List.getElem?_drop] at hf
obtain⟨b',off',e2,h2⟩:=h (n+i) f hf
simp only[Option.some.injEq,Addr.mk.injEq] at e2
obtain⟨rfl,rfl,-⟩:=e2
exact⟨_,_,rfl,by rw[show off+n*4+i*4=off+(n+i)*4 from by omega];exact h2⟩)
def zbk (vs:List Value):List Value:=vs.flatMap fun v=>v.cells.toList
structure zxt (w:World) (base:Nat) (e:TypeId) (v:Value) (fs:List Rat) (vs:List Value):Prop where
 own:w.ownsRow base e 4 v fs.length (zbk vs)
 len:vs.length=fs.length
 val:∀ (i:Nat) (f:Rat),fs[i]? = some f→∃ s x y p,vs[i]? = some (Value.agg #[.bool s,.int .u64 x,.int .u64 y,.pointer p])∧aq w (.agg #[.bool s,.int .u64 x,.int .u64 y,.pointer p]) f
theorem znd:∀ (vs:List Value),(∀ v ∈ vs,v.cells.size=4)→∀ (i k:Nat) (v:Value),vs[i]? = some v→k<4→(zbk vs)[4*i+k]? = v.cells[k]?
 | [],_,i,k,v,e,_=>by simp at e
 | u::vs,h,0,k,v,e,hk=>by
  have hu:=h u (by simp)
  simp only[List.getElem?_cons_zero,Option.some.injEq] at e
  subst e
  unfold zbk
  rw[List.flatMap_cons,Nat.mul_zero,Nat.zero_add,List.getElem?_append_left (by rw[Array.length_toList,hu];exact hk)]
  simp
 | u::vs,h,i+1,k,v,e,hk=>by
  have hu:=h u (by simp)
  have ih:=znd vs (fun x hx=>h x (by simp[hx])) i k v (by simpa using e) hk
  unfold zbk at ih ⊢
  rw[List.flatMap_cons,List.getElem?_append_right (by rw[Array.length_toList,hu];omega),Array.length_toList,hu,show 4*(i+1)+k-4=4*i+k from by omega]
  exact ih
theorem zop (vs us:List Value):zbk (vs++us)=zbk vs++zbk us:=by unfold zbk;rw[List.flatMap_append]
theorem zxt.zcq {w:World} {base:Nat} {e:TypeId} {v:Value} {fs:List Rat} {vs:List Value} (h:zxt w base e v fs vs):au w v fs:=by(
have h4:∀ u ∈ vs,u.cells.size=4:=fun u hu=>by
 obtain⟨i,hi,rfl⟩:=List.mem_iff_getElem.1 hu
 obtain⟨s,x,y,p,e,-⟩:=h.val i (fs[i]'(by rw[← h.len];exact hi)) (List.getElem?_eq_getElem (by rw[← h.len];exact hi))
 rw[List.getElem?_eq_getElem hi] at e
 rw[Option.some.inj e]
 rfl
obtain⟨hl,⟨rfl,h0⟩|⟨g,cap,cur,rfl,hg,hb,hn,hm,hs,ht⟩⟩:=id h.own
·have:fs=[]:=List.length_eq_zero_iff.1 h0
 subst this
 exact au.nil w
·(
refine⟨_,cap,rfl,hn,fun i f hf=>⟨g,0,rfl,?_⟩⟩
obtain⟨s,x,y,p,e1,e2⟩:=h.val i f hf
have cell:∀ k,k<4→w.cell? ⟨g,0+i*4+k,none⟩=(#[Value.bool s,.int .u64 x,.int .u64 y,.pointer p]:Array Value)[k]?:=fun k hk=>by
 have h1:=znd vs h4 i k _ e1 hk
 have h2:=h.own.cells (g:=g) rfl
 have hlt:k<(#[Value.bool s,.int .u64 x,.int .u64 y,.pointer p]:Array Value).size:=hk
 have h3:=h2 (4*i+k) _ (h1.trans (Array.getElem?_eq_getElem hlt))
 have h5:(⟨g,0,none⟩:Addr).add (4*i+k)=⟨g,0+i*4+k,none⟩:=by
  by_cases hz:4*i+k=0
  ·simp only[Addr.add,hz,if_true,Addr.mk.injEq,true_and,and_true];omega
  ·simp only[Addr.add,hz,if_false,Addr.mk.injEq,true_and,and_true];omega
 rw[h5] at h3
 rw[h3]
 exact (Array.getElem?_eq_getElem hlt).symm
exact⟨s,x,y,p,⟨cell 0 (by omega),cell 1 (by omega),cell 2 (by omega),cell 3 (by omega)⟩,e2⟩))
theorem zmq (a:Act) (w:World) (t1 t2:Nat) (u:TypeId) (ps:String) (ed:Array Edge) (g:Nat) (s:Bool) (x y:Int) (p:Option Addr) {s':Bool} {x' y':Int} {p':Option Addr} (h1:a.eval (.tmp t1)=.pointer (some ⟨g,0,none⟩)) (h2:a.eval (.tmp t2)=.agg #[.bool s,.int .u64 x,.int .u64 y,.pointer p]) (hc:P4 w g s' x' y' p') (fz:∀ j,w.frozen? ⟨g,j,none⟩=false) :
  (execOp a.eval { dst:=none,op:=Op.store 27 (.tmp t1) (.tmp t2),type:=u,pos:=ps,after:=ed,guard:=none }).run prog w=.ok .skip ((((w.setCell ⟨g,0,none⟩ (.bool s)).setCell ⟨g,1,none⟩ (.int .u64 x)).setCell ⟨g,2,none⟩ (.int .u64 y)).setCell ⟨g,3,none⟩ (.pointer p)):=by(
obtain⟨c0,c1,c2,c3⟩:=hc
unfold execOp
simp only[h1,h2]
go_simp)
def zbt (w:World) (g:Nat) (s:Bool) (x y:Int) (p:Option Addr):World:=(((w.setCell ⟨g,0,none⟩ (.bool s)).setCell ⟨g,1,none⟩ (.int .u64 x)).setCell ⟨g,2,none⟩ (.int .u64 y)).setCell ⟨g,3,none⟩ (.pointer p)
theorem ax (w:World) (g:Nat) (s:Bool) (x y:Int) (p:Option Addr):But [g] w (zbt w g s x y p):=(((((But.refl [g] w).setCell (.inl (by simp)) _).setCell (.inl (by simp)) _).setCell (.inl (by simp)) _).setCell (.inl (by simp)) _)
theorem zlv (w:World) (g:Nat) (s:Bool) (x y:Int) (p:Option Addr) {s':Bool} {x' y':Int} {p':Option Addr} (hc:P4 w g s' x' y' p'):P4 (zbt w g s x y p) g s x y p:=by
 obtain⟨h1,-⟩:=qdn w g (.bool s) (.int .u64 x) (.int .u64 y) (.pointer p) (by rw[hc.1];rfl) (by rw[hc.2.1];rfl) (by rw[hc.2.2.1];rfl) (by rw[hc.2.2.2];rfl)
 exact⟨h1 0 (by omega),h1 1 (by omega),h1 2 (by omega),h1 3 (by omega)⟩
theorem zyl (w:World) (g:Nat) (s:Bool) (x y:Int) (p:Option Addr) (b j:Nat):(zbt w g s x y p).frozen? ⟨b,j,none⟩=w.frozen? ⟨b,j,none⟩:=by
 unfold zbt
 simp only[World.frozen?_setCell]
def zzf (ops:Array Oper):Bool:=(List.range ops.size).all fun i=>match ops[i]? with
 | some o=>o.guard.isNone && (match o.op with | .defer _=>false | _=>true)
 | none=>true
theorem zjh {ops:Array Oper} (h:zzf ops=true):∀ (i:Nat) (o:Oper),ops[i]? = some o→o.guard=none∧∀ c,o.op≠.defer c:=fun i o ho=>by
 have hi:i<ops.size:=(Array.getElem?_eq_some_iff.1 ho).1
 unfold zzf at h
 rw[List.all_eq_true] at h
 have h1:=h i (List.mem_range.2 hi)
 simp only[ho,Bool.and_eq_true,Option.isNone_iff_eq_none] at h1
 exact⟨h1.1,fun c e=>by rw[e] at h1;simp at h1⟩
theorem zcr {ops:Array Oper} {ps:List (Nat × Nat)} (h:zev ops ps=true) {i:Nat} {o:Oper} (ho:ops[i]? = some o) (R:Nat→Prop) (hdep:∀ e ∈ o.after,Region.binds .any e=true→R e.on) (j:Nat) (hij:(i,j) ∈ ps):R j:=by(
obtain⟨o',ho',ed,hed,hbi,rfl⟩:=zga h i j hij
rw[ho] at ho'
obtain rfl:=Option.some.inj ho'
exact hdep ed hed hbi)
def bf (w:World) (g:Nat) (f:Rat):Prop:=(∃ s x y p,P4 w g s x y p∧aq w (.agg #[.bool s,.int .u64 x,.int .u64 y,.pointer p]) f)∧∀ j,w.frozen? ⟨g,j,none⟩=false
theorem bf.but {A B:World} {g:Nat} {f:Rat} (h:bf A g f) (hb:But [] A B):bf B g f:=by(
obtain⟨⟨s,x,y,p,h1,h2⟩,h3⟩:=h
have hl:g<A.heap.size:=ai h1.1
exact⟨⟨s,x,y,p,h1.but hb (by simp),h2.but hb⟩,fun j=>(hb.frozen (p:=⟨g,j,none⟩) hl (by simp)).trans (h3 j)⟩)
theorem bf.beside {A B:World} {g:Nat} {f:Rat} {l:List Nat} (h:bf A g f) (hb:But l A B) (hn:g ∉ l) (hc:∀ g ∈ l,∃ s,A.cell? ⟨g,0,none⟩=some (.bool s)):bf B g f:=by(
obtain⟨⟨s,x,y,p,h1,h2⟩,h3⟩:=h
have hl:g<A.heap.size:=ai h1.1
exact⟨⟨s,x,y,p,h1.but hb hn,h2.beside hb hc⟩,fun j=>(hb.frozen (p:=⟨g,j,none⟩) hl hn).trans (h3 j)⟩)
theorem bf.put {w:World} {g:Nat} {f f':Rat} (h:bf w g f) {s:Bool} {x y:Int} {p:Option Addr} (hf:aq w (.agg #[.bool s,.int .u64 x,.int .u64 y,.pointer p]) f'):bf (zbt w g s x y p) g f':=by
 obtain⟨⟨s0,x0,y0,p0,h1,h2⟩,h3⟩:=h
 exact⟨⟨s,x,y,p,zlv w g s x y p h1,hf.over h1.1 (ax w g s x y p)⟩,fun j=>(zyl w g s x y p g j).trans (h3 j)⟩
theorem bf.new (w:World) (s:Bool) (x y:Int) (p:Option Addr) (f:Rat) (t:TypeId) (h:aq w (.agg #[.bool s,.int .u64 x,.int .u64 y,.pointer p]) f):bf (w.alloc (.cells #[.bool s,.int .u64 x,.int .u64 y,.pointer p] t)) w.heap.size f :=
 ⟨⟨s,x,y,p,⟨by simp,by simp,by simp,by simp⟩,h.but ((But.refl _ _).alloc _)⟩,fun j=>by simp⟩
theorem bf.lt {w:World} {g:Nat} {f:Rat} (h:bf w g f):g<w.heap.size:=by
 obtain⟨⟨s,x,y,p,h1,-⟩,-⟩:=h
 exact ai h1.1
theorem bf.bool {w:World} {g:Nat} {f:Rat} (h:bf w g f):∃ s,w.cell? ⟨g,0,none⟩=some (.bool s):=by
 obtain⟨⟨s,x,y,p,h1,-⟩,-⟩:=h
 exact⟨s,h1.1⟩
theorem au.get {w:World} {b off n cap:Nat} {fs:List Rat} (h:au w (.slice (some ⟨b,off,none⟩) n cap) fs) (i:Nat) (hi:i<n):∃ s x y p,P4o w b (off+i*4) s x y p∧aq w (.agg #[.bool s,.int .u64 x,.int .u64 y,.pointer p]) (fs[i]?.getD 0):=by(
obtain⟨a,cap',e,-,h⟩:=h
simp only[Value.slice.injEq] at e
obtain⟨rfl,rfl,-⟩:=e
obtain⟨b',off',e2,s,x,y,p,h1,h2⟩:=h i fs[i] (List.getElem?_eq_getElem hi)
simp only[Option.some.injEq,Addr.mk.injEq] at e2
obtain⟨rfl,rfl,-⟩:=e2
exact⟨s,x,y,p,h1,by rw[List.getElem?_eq_getElem hi];exact h2⟩)
theorem zfy {P:Program} {f:FuncId} {args:Array Value} {w:World} {r:Rat} (h:Calls P f args w fun e w'=>∃ v,e=.returned v∧aq w' v r∧But [] w w') :
  Calls P f args w fun e w'=>∃ s x y p,e=.returned (.agg #[.bool s,.int .u64 x,.int .u64 y,.pointer p])∧aq w' (.agg #[.bool s,.int .u64 x,.int .u64 y,.pointer p]) r∧But [] w w' :=
 h.mono fun e w' ⟨v,he,hv,hb⟩=>by
  obtain⟨x,y,p,rfl,-⟩:=hv.agg
  exact⟨_,x,y,p,he,hv,hb⟩
theorem zhn (w:World):aq w (.agg #[.bool false,.int .u64 0,.int .u64 0,.pointer none]) 0:=.inl ⟨by decide,by decide,rfl⟩
theorem au.behind {w0 w w':World} {v:Value} {fs:List Rat} {g:Nat} (h0:au w0 v fs) (h:au w v fs) (hb:But [g] w w') (hg:w0.heap.size≤g) (hc:∃ s,w.cell? ⟨g,0,none⟩=some (.bool s)):au w' v fs:=by(
obtain⟨a0,cap0,e0,-,k0⟩:=h0
obtain⟨a,cap,rfl,hcp,k⟩:=h
simp only[Value.slice.injEq] at e0
obtain⟨rfl,-,-⟩:=e0
refine⟨a,cap,rfl,hcp,fun i f hf=>?_⟩
obtain⟨b,off,rfl,h1⟩:=k i f hf
obtain⟨b',off',e',s,x,y,p,h2,-⟩:=k0 i f hf
simp only[Option.some.injEq,Addr.mk.injEq] at e'
obtain⟨rfl,-,-⟩:=e'
have hlt:b<w0.heap.size:=ai h2.1
exact⟨b,off,rfl,h1.beside hb (by simp;omega) (fun g' hg'=>by simp at hg';subst hg';exact hc)⟩)
theorem zpx:∃ i,prog.info? 27 = some i∧i.zero=some (.agg #[.bool false,.int .u64 0,.int .u64 0,.pointer none])∧i.size=4∧i.bytes=32:=by(
have h:(prog.info? 27).map (fun i=>(i.zero,i.size,i.bytes))=some (some (.agg #[.bool false,.int .u64 0,.int .u64 0,.pointer none]),4,32):=by kernel_rfl
cases e:prog.info? 27 with
| none=>rw[e] at h;simp at h
| some i =>
 rw[e] at h
 simp only[Option.map_some,Option.some.injEq,Prod.mk.injEq] at h
 exact⟨i,rfl,h.1,h.2.1,h.2.2⟩)
theorem zgo (wx:World) (n:Nat) (h:n<1000000):(Instr.makeSlice 45 (.int .i64 (n:Int)) (.int .i64 (n:Int))).run prog wx=.ok (.slice (some ⟨wx.heap.size,0,none⟩) n n) (wx.alloc (.cells (madeCells #[.bool false,.int .u64 0,.int .u64 0,.pointer none] (n*4)) 27)):=by(
obtain⟨ti,hi,hz,hs,hbt⟩:=zpx
have hmk:=run_make (P:=prog) wx 45 27 ti _ underlying45 hi hz .i64 .i64 (n:Int) (n:Int) (by omega) (by omega) (by rw[hbt];omega) (by omega)
rw[hs,Int.toNat_natCast] at hmk
exact hmk)
theorem qbk (n o:Nat) (h:o<n*4):(madeCells #[Value.bool false,.int .u64 0,.int .u64 0,.pointer none] (n*4))[o]? = (#[Value.bool false,.int .u64 0,.int .u64 0,.pointer none]:Array Value)[o%4]?:=by(
unfold madeCells
rw[Array.getElem?_map,Array.getElem?_eq_getElem (by simpa using h),Array.getElem_range,Option.map_some]
have:o%4=0∨o%4=1∨o%4=2∨o%4=3:=by omega
show some ((#[Value.bool false,.int .u64 0,.int .u64 0,.pointer none]:Array Value)[o%4]!)=_
rcases this with e | e | e | e <;> (rw[e];rfl))
theorem bt (a:Act) (w:World) (d t:Nat) (u:TypeId) (ps:String) (ed:Array Edge) (gd:Option (Nat × Bool)) (N:Value) (h:a.eval (.tmp t)=N) :
  (execOp a.eval { dst:=some d,op:=Op.move (.tmp t),type:=u,pos:=ps,after:=ed,guard:=gd }).run prog w=.ok (.value N) w:=by(
unfold execOp
simp only[h]
go_simp)
theorem qih (a:Act) (w:World) (d t:Nat) (u:TypeId) (ps:String) (ed:Array Edge) (gd:Option (Nat × Bool)) (N:Value) (h:a.eval (.tmp t)=N) :
  (execOp a.eval { dst:=some d,op:=Op.assign (.tmp t),type:=u,pos:=ps,after:=ed,guard:=gd }).run prog w=.ok (.value N) w:=by(
unfold execOp
simp only[h]
go_simp)
abbrev FZ:=Bool × Int × Int × Option Addr
theorem aw (a:Act) (w:World) (d t:Nat) (u:TypeId) (ps:String) (ed:Array Edge) (gd:Option (Nat × Bool)) (b o:Nat) (s:Bool) (x y:Int) (p:Option Addr) (h1:a.eval (.tmp t)=.pointer (some ⟨b,o,none⟩)) (hc:P4o w b o s x y p) :
  (execOp a.eval { dst:=some d,op:=Op.load 27 (.tmp t),type:=u,pos:=ps,after:=ed,guard:=gd }).run prog w=.ok (.value (.agg #[.bool s,.int .u64 x,.int .u64 y,.pointer p])) w:=by(
obtain⟨c0,c1,c2,c3⟩:=hc
unfold execOp
simp only[h1]
go_simp)
theorem zms (a:Act) (w:World) (d t1 t2:Nat) (u:TypeId) (ps:String) (ed:Array Edge) (gd:Option (Nat × Bool)) (x1 x2:Value) (h1:a.eval (.tmp t1)=x1) (h2:a.eval (.tmp t2)=x2) :
  (execOp a.eval { dst:=some d,op:=Op.call { callee:=Callee.value (Operand.func 115),args:=#[Operand.tmp t1,Operand.tmp t2],argTypes:=#[27,27] },type:=u,pos:=ps,after:=ed,guard:=gd }).run prog w=.ok (.enter 115 #[x1,x2]) w:=by(
unfold execOp
go_simp
rw[← h1,← h2]
simp[Act.eval])
theorem zfk (a:Act) (w:World) (d t1 t2:Nat) (u:TypeId) (ps:String) (ed:Array Edge) (gd:Option (Nat × Bool)) (x1 x2:Value) (h1:a.eval (.tmp t1)=x1) (h2:a.eval (.tmp t2)=x2) :
  (execOp a.eval { dst:=some d,op:=Op.call { callee:=Callee.value (Operand.func 104),args:=#[Operand.tmp t1,Operand.tmp t2],argTypes:=#[27,27] },type:=u,pos:=ps,after:=ed,guard:=gd }).run prog w=.ok (.enter 104 #[x1,x2]) w:=by(
unfold execOp
go_simp
rw[← h1,← h2]
simp[Act.eval])
theorem zsw (a:Act) (w:World) (d t1 t2:Nat) (u:TypeId) (ps:String) (ed:Array Edge) (gd:Option (Nat × Bool)) (x1 x2:Value) (h1:a.eval (.tmp t1)=x1) (h2:a.eval (.tmp t2)=x2) :
  (execOp a.eval { dst:=some d,op:=Op.call { callee:=Callee.value (Operand.func 82),args:=#[Operand.tmp t1,Operand.tmp t2],argTypes:=#[27,27] },type:=u,pos:=ps,after:=ed,guard:=gd }).run prog w=.ok (.enter 82 #[x1,x2]) w:=by(
unfold execOp
go_simp
rw[← h1,← h2]
simp[Act.eval])
def ig (q:Int):Value:=if q=0 then .nilIface else .iface 33 (.int .i64 q)
set_option linter.unusedVariables false
structure uj (w:World) (g n i:Nat) (F:Nat→Rat):Prop where
 blank:∀ j,i≤j→j<n→P4o w g (j*4) false 0 0 none
 told:∀ j,j<i→zdu w g (j*4) (F j)
 loose:∀ o,w.frozen? ⟨g,o,none⟩=false
theorem uj.made (w:World) (n:Nat) (F:Nat→Rat):uj (w.alloc (.cells (madeCells #[Value.bool false,.int .u64 0,.int .u64 0,.pointer none] (n*4)) 27)) w.heap.size n 0 F:=by(
have hc:∀ j k,j<n→k<4→(w.alloc (.cells (madeCells #[Value.bool false,.int .u64 0,.int .u64 0,.pointer none] (n*4)) 27)).cell? ⟨w.heap.size,j*4+k,none⟩=(#[Value.bool false,.int .u64 0,.int .u64 0,.pointer none]:Array Value)[k]?:=fun j k hj hk=>by
 rw[World.cell?_alloc_new,qbk n _ (by omega),show (j*4+k)%4=k from by omega]
exact⟨fun j _ hj=>⟨hc j 0 hj (by omega),hc j 1 hj (by omega),hc j 2 hj (by omega),hc j 3 hj (by omega)⟩,fun j hj=>by omega,fun o=>by simp⟩)
theorem uj.but {w w':World} {g n i:Nat} {F:Nat→Rat} (h:uj w g n i F) (hb:But [] w w') (hg:g<w.heap.size):uj w' g n i F :=
 ⟨fun j h1 h2=>(h.blank j h1 h2).but hb (by simp),fun j hj=>(h.told j hj).but hb,fun o=>(hb.frozen (p:=⟨g,o,none⟩) hg (by simp)).trans (h.loose o)⟩
theorem uj.bool {w:World} {g n i:Nat} {F:Nat→Rat} (h:uj w g n i F) (h0:0<n):∃ s,w.cell? ⟨g,0,none⟩=some (.bool s):=by(
rcases Nat.eq_zero_or_pos i with e | e
·subst e
 have a:=h.blank 0 (Nat.le_refl _) h0
 rw[Nat.zero_mul] at a
 exact⟨_,a.1⟩
·obtain⟨s,x,y,p,a,-⟩:=h.told 0 e
 rw[Nat.zero_mul] at a
 exact⟨_,a.1⟩)
theorem uj.next {w:World} {g n i:Nat} {F:Nat→Rat} (h:uj w g n i F) (hi:i<n) (s1:Bool) (x1 y1:Int) (p1:Option Addr) (h1:aq w (.agg #[.bool s1,.int .u64 x1,.int .u64 y1,.pointer p1]) (F i)) :
  uj (w.setCells g (i*4) [.bool s1,.int .u64 x1,.int .u64 y1,.pointer p1]) g n (i+1) F:=by(
obtain⟨c,hc⟩:=h.bool (by omega)
have a1:=h.blank i (Nat.le_refl _) hi
have hb:=bp w g [.bool s1,.int .u64 x1,.int .u64 y1,.pointer p1] (i*4)
have some4:∀ k,k<4→(w.cell? ⟨g,i*4+k,none⟩).isSome=true:=fun k hk=>by
 have:k=0∨k=1∨k=2∨k=3:=by omega
 rcases this with rfl|rfl|rfl|rfl
 ·rw[show i*4+0=i*4 from rfl,a1.1];rfl
 ·rw[a1.2.1];rfl
 ·rw[a1.2.2.1];rfl
 ·rw[a1.2.2.2];rfl
have hin:∀ k (hk:k<4),(w.setCells g (i*4) [.bool s1,.int .u64 x1,.int .u64 y1,.pointer p1]).cell? ⟨g,i*4+k,none⟩=some ([Value.bool s1,.int .u64 x1,.int .u64 y1,.pointer p1][k]'hk):=fun k hk =>
 World.cell?_setCells_in g [.bool s1,.int .u64 x1,.int .u64 y1,.pointer p1] (i*4) w (fun j hj=>some4 j hj) k hk
have hout:∀ o,o<i*4∨i*4+4≤o→(w.setCells g (i*4) [.bool s1,.int .u64 x1,.int .u64 y1,.pointer p1]).cell? ⟨g,o,none⟩=w.cell? ⟨g,o,none⟩:=fun o ho=>World.cell?_setCells_out g _ (i*4) w _ (fun _ _=>by simp;omega)
have keep:∀ o s x y p,o+4≤i*4∨i*4+4≤o→P4o w g o s x y p→P4o (w.setCells g (i*4) [.bool s1,.int .u64 x1,.int .u64 y1,.pointer p1]) g o s x y p:=fun o s x y p ho hp=>⟨(hout o (by omega)).trans hp.1,(hout (o+1) (by omega)).trans hp.2.1,(hout (o+2) (by omega)).trans hp.2.2.1,(hout (o+3) (by omega)).trans hp.2.2.2⟩
have hfr:∀ {v f},aq w v f→aq (w.setCells g (i*4) [.bool s1,.int .u64 x1,.int .u64 y1,.pointer p1]) v f:=fun hf=>hf.over hc hb
refine⟨fun j h1 h2=>keep _ _ _ _ _ (by omega) (h.blank j (by omega) h2),fun j hj=>?_,fun o=>by rw[World.frozen?_setCells];exact h.loose o⟩
by_cases e:j=i
·subst e
 exact⟨s1,x1,y1,p1,⟨hin 0 (by omega),hin 1 (by omega),hin 2 (by omega),hin 3 (by omega)⟩,hfr h1⟩
·obtain⟨t1,u1,v1,q1,b1,f1⟩:=h.told j (by omega)
 exact⟨t1,u1,v1,q1,keep _ _ _ _ _ (by omega) b1,hfr f1⟩)
theorem uj.zcq {w:World} {g n:Nat} {F:Nat→Rat} (h:uj w g n n F):au w (.slice (some ⟨g,0,none⟩) n n) ((List.range n).map F) :=
 ⟨some ⟨g,0,none⟩,n,by simp,by simp,fun i f hf=>by
  rw[List.getElem?_map] at hf
  by_cases hi:i<n
  ·rw[List.getElem?_range hi] at hf
   simp only[Option.map_some,Option.some.injEq] at hf
   subst hf
   exact⟨g,0,rfl,by rw[Nat.zero_add];exact h.told i hi⟩
  ·rw[List.getElem?_eq_none (by simp;omega)] at hf
   simp at hf⟩
theorem zup (vf vg:Value) (f g:Rat) (w:World) (hf:aq w vf f) (hg:aq w vg g) (lf:Len f 1000000) (lg:Len g 1000000) (h0:g.num≠0) :
  Calls prog 204 #[vf,vg] w fun e w'=>∃ v,e=.returned (.tuple #[v,.nilIface])∧aq w' v (f/g)∧But [] w w':=by(
have lg':Len g⁻¹ 1000000:=by
 obtain⟨i1,i2,-⟩:=zkc g h0
 unfold Len
 rw[i1,i2]
 exact⟨lg.2,lg.1⟩
have SG:=af (fun W (h:aq W vg g)=>om vg g W h)
have hsn:(g.num.sign==0)=false:=beq_eq_false_iff_ne.2 (fun e=>h0 (Int.sign_eq_zero_iff_zero.1 e))
generalize g.num.sign=sg at SG hsn
have NG:=af (fun W (h:aq W vg g)=>zns vg g W h h0)
have AD:Hid (∀ (W:World) (v2:Value),aq W vf f→aq W v2 g⁻¹→Calls prog 104 #[vf,v2] W fun e w'=>∃ v,e=.returned v∧aq w' v (f/g)∧But [] W w'):=fun W v2 h1 h2=>by
 rw[Rat.div_def]
 exact j6 vf v2 f g⁻¹ W h1 h2 lf lg'
have HFA:=af hf
have HGA:=af hg
obtain⟨x1,y1,p1,rfl,-⟩:=hf.agg
obtain⟨x2,y2,p2,rfl,-⟩:=hg.agg
clear hf hg lf lg lg' h0
generalize hsf:decide (f.num<0)=s1 at *
generalize hsg:decide (g.num<0)=s2 at *
clear hsf hsg
obtain⟨W,hW⟩:∃ W,W=(((w.alloc (.cells #[.bool s1,.int .u64 x1,.int .u64 y1,.pointer p1] 27)).alloc (.cells #[.bool s2,.int .u64 x2,.int .u64 y2,.pointer p2] 27)).alloc (.cells #[.bool false,.int .u64 0,.int .u64 0,.pointer none] 27)):=⟨_,rfl⟩
obtain⟨tA,tB,tC,fz,hB⟩:=zcc w W _ _ _ _ hW
have a0:=tA 0
have a1:=tA 1
have a2:=tA 2
have a3:=tA 3
have b0:=tB 0
have b1:=tB 1
have b2:=tB 2
have b3:=tB 3
have r0:=tC 0
have r1:=tC 1
have r2:=tC 2
have r3:=tC 3
simp only[List.getElem?_toArray,List.getElem?_cons_zero,List.getElem?_cons_succ] at a0 a1 a2 a3 b0 b1 b2 b3 r0 r1 r2 r3
have BL:Hid (Blank W (w.heap.size+2)):=⟨r0,r1,r2,r3,fun j hj=>by rw[tC j];simp;omega⟩
clear tA tB tC
have HW:=af hW
have HB:=af hB
clear hW hB
go_enter func204,ntmps204
go_wp2_with fail
rw[← ae HW]
obtain⟨ga,hga⟩:∃ ga,ga=w.heap.size:=⟨_,rfl⟩
obtain⟨gb,hgb⟩:∃ gb,gb=w.heap.size+1:=⟨_,rfl⟩
obtain⟨gr,hgr⟩:∃ gr,gr=w.heap.size+2:=⟨_,rfl⟩
rw[← hga] at a0 a1 a2 a3
rw[← hgb] at b0 b1 b2 b3
rw[← hgr] at r0 r1 r2 r3 fz BL
rw[show w.heap.size+1+1=w.heap.size+2 from rfl,← hgr,← hgb,← hga]
have HGR:Hid (w.heap.size≤gr):=by show _≤_;omega
have nga:ga≠gr:=by omega
have ngb:gb≠gr:=by omega
clear hga hgb hgr HW
refine (ae SG _ ((ae HGA).but (ae HB))).mono ?_
rintro e W0 ⟨rfl,hc0⟩
have gl0:gr<W.heap.size:=ai r0
replace fz:∀ j,W0.frozen? ⟨gr,j,none⟩=false:=fun j=>(hc0.frozen (p:=⟨gr,j,none⟩) gl0 (by simp)).trans (fz j)
clear gl0
replace a0:=hc0.ag a0 (by simp)
replace a1:=hc0.ag a1 (by simp)
replace a2:=hc0.ag a2 (by simp)
replace a3:=hc0.ag a3 (by simp)
replace b0:=hc0.ag b0 (by simp)
replace b1:=hc0.ag b1 (by simp)
replace b2:=hc0.ag b2 (by simp)
replace b3:=hc0.ag b3 (by simp)
replace r0:=hc0.ag r0 (by simp)
replace r1:=hc0.ag r1 (by simp)
replace r2:=hc0.ag r2 (by simp)
replace r3:=hc0.ag r3 (by simp)
replace BL:Hid (Blank W0 gr):=(ae BL).but hc0
replace HB:Hid (But [] w W0):=(ae HB).trans' hc0
clear hc0
go_wp2_with fail
have grl:gr<W0.heap.size:=ai r0
go_region_held (fun w'=>w'.cell? ⟨ga,0,none⟩=some (.bool s1)∧w'.cell? ⟨ga,1,none⟩=some (.int .u64 x1)∧w'.cell? ⟨ga,2,none⟩=some (.int .u64 y1)∧w'.cell? ⟨ga,3,none⟩=some (.pointer p1)∧w'.cell? ⟨gb,0,none⟩=some (.bool s2)∧w'.cell? ⟨gb,1,none⟩=some (.int .u64 x2)∧w'.cell? ⟨gb,2,none⟩=some (.int .u64 y2)∧w'.cell? ⟨gb,3,none⟩=some (.pointer p2)) (first | go_keep | exact⟨jr _ _ _ _ _ _ _ _ _ nga m0,jr _ _ _ _ _ _ _ _ _ nga m1,jr _ _ _ _ _ _ _ _ _ nga m2,jr _ _ _ _ _ _ _ _ _ nga m3,jr _ _ _ _ _ _ _ _ _ ngb n0,jr _ _ _ _ _ _ _ _ _ ngb n1,jr _ _ _ _ _ _ _ _ _ ngb n2,jr _ _ _ _ _ _ _ _ _ ngb n3⟩) (first
 | (go_at_call 151;refine (ae NG _ (by first | exact (ae HGA).but (ae HB) | exact (ae HGA).but ((ae HB).trans' (But.refl _ _).drew))).mono ?_;rintro e w1 ⟨v1,rfl,hn1,hc1⟩;have B1:But [] W0 w1:=(by first | exact hc1 | exact (But.refl _ _).drew.trans' hc1);have HN1:=af hn1;clear hn1 hc1;have k0:=B1.ag a0 (by simp);have k1:=B1.ag a1 (by simp);have k2:=B1.ag a2 (by simp);have k3:=B1.ag a3 (by simp);have l0:=B1.ag b0 (by simp);have l1:=B1.ag b1 (by simp);have l2:=B1.ag b2 (by simp);have l3:=B1.ag b3 (by simp))
 | (go_at_call 104;refine (ae AD _ _ (by first | exact (ae HFA).but ((ae HB).trans' B1) | exact (ae HFA).but (((ae HB).trans' B1).trans' (But.refl _ _).drew)) (by first | exact ae HN1 | exact (ae HN1).but (But.refl _ _).drew)).mono ?_;rintro e w2 ⟨v2,rfl,hn2,hc2⟩;have B2:But [] W0 w2:=(by first | exact B1.trans' hc2 | exact B1.trans' ((But.refl _ _).drew.trans' hc2));have HN2:=af hn2;obtain⟨x8,y8,p8,rfl,-⟩:=hn2.agg;clear hc2;clear hn2;generalize decide ((f/g).num<0)=r8 at *;have m0:=B2.ag a0 (by simp);have m1:=B2.ag a1 (by simp);have m2:=B2.ag a2 (by simp);have m3:=B2.ag a3 (by simp);have n0:=B2.ag b0 (by simp);have n1:=B2.ag b1 (by simp);have n2:=B2.ag b2 (by simp);have n3:=B2.ag b3 (by simp);have u0:=B2.ag r0 (by simp);have u1:=B2.ag r1 (by simp);have u2:=B2.ag r2 (by simp);have u3:=B2.ag r3 (by simp);have uf:∀ j,w2.frozen? ⟨gr,j,none⟩=false:=fun j=>(B2.frozen (p:=⟨gr,j,none⟩) grl (by simp)).trans (fz j)))
go_wp2
have hBf:=(((((ae HB).trans' B2).setCell (p:=⟨gr,0,none⟩) (.inr (ae HGR)) (.bool r8)).setCell (p:=⟨gr,1,none⟩) (.inr (ae HGR)) (.int .u64 x8)).setCell (p:=⟨gr,2,none⟩) (.inr (ae HGR)) (.int .u64 y8)).setCell (p:=⟨gr,3,none⟩) (.inr (ae HGR)) (.pointer p8)
have hBg:But [gr] w2 ((((w2.setCell ⟨gr,0,none⟩ (.bool r8)).setCell ⟨gr,1,none⟩ (.int .u64 x8)).setCell ⟨gr,2,none⟩ (.int .u64 y8)).setCell ⟨gr,3,none⟩ (.pointer p8)):=(((((But.refl [gr] w2).setCell (.inl (by simp)) _).setCell (.inl (by simp)) _).setCell (.inl (by simp)) _).setCell (.inl (by simp)) _)
exact bodyPost_ret (v:=.tuple #[.agg #[.bool r8,.int .u64 x8,.int .u64 y8,.pointer p8],.nilIface]) (by simp[results,results204,go_sem,u0,u1,u2,u3]) rfl ⟨_,rfl,((ae BL).but B2).zke (ae HN2) hBg,hBf⟩)
theorem zko (a:Act) (w:World) (t1 t2:Nat) (u:TypeId) (ps:String) (ed:Array Edge) (g o:Nat) (s:Bool) (x y:Int) (p:Option Addr) {s':Bool} {x' y':Int} {p':Option Addr} (h1:a.eval (.tmp t1)=.pointer (some ⟨g,o,none⟩)) (h2:a.eval (.tmp t2)=.agg #[.bool s,.int .u64 x,.int .u64 y,.pointer p]) (hc:P4o w g o s' x' y' p') (fz:∀ j,w.frozen? ⟨g,j,none⟩=false) :
  (execOp a.eval { dst:=none,op:=Op.store 27 (.tmp t1) (.tmp t2),type:=u,pos:=ps,after:=ed,guard:=none }).run prog w=.ok .skip (w.setCells g o [.bool s,.int .u64 x,.int .u64 y,.pointer p]):=by(
obtain⟨c0,c1,c2,c3⟩:=hc
unfold execOp
simp only[h1,h2]
go_simp
rfl)
theorem zhf (a:Act) (w:World) (d t1 t2:Nat) (u:TypeId) (ps:String) (ed:Array Edge) (gd:Option (Nat × Bool)) (b off n c k:Nat) (hk:k<n) (_hn:n<1000000) (h1:a.eval (.tmp t1)=.slice (some ⟨b,off,none⟩) n c) (h2:a.eval (.tmp t2)=.int .i64 (k:Int)) :
  (execOp a.eval { dst:=some d,op:=Op.indexAddr 45 (.tmp t1) (.tmp t2),type:=u,pos:=ps,after:=ed,guard:=gd }).run prog w=.ok (.value (.pointer (some ⟨b,off+k*4,none⟩))) w:=by(
unfold execOp
simp only[h1,h2]
go_simp)
theorem zph (a:Act) (w:World) (d t1 t2:Nat) (u:TypeId) (ps:String) (ed:Array Edge) (gd:Option (Nat × Bool)) (m n:Nat) (hm:m≤1000000) (hn:n≤1000000) (h1:a.eval (.tmp t1)=.int .i64 (m:Int)) (h2:a.eval (.tmp t2)=.int .i64 (n:Int)) :
  (execOp a.eval { dst:=some d,op:=Op.binOp BinOp.add 3 (.tmp t1) (.tmp t2) 3,type:=u,pos:=ps,after:=ed,guard:=gd }).run prog w=.ok (.value (.int .i64 ((m+n:Nat):Int))) w:=by(
unfold execOp
simp only[h1,h2]
go_simp
rw[IntKind.wrap_i64]
omega)
theorem zqq (w W:World) (A B:Array Value) (t:TypeId) (hW:W=(w.alloc (.cells A t)).alloc (.cells B t)):∀ j,W.frozen? ⟨w.heap.size,j,none⟩=false:=by(
subst hW
intro j
have h:=((But.refl [] (w.alloc (.cells A t))).alloc (.cells B t)).frozen (p:=⟨w.heap.size,j,none⟩) (by simp) (by simp)
rw[h]
simp)
theorem zni (v:Value) (X n:Nat) (w:World) (hv:Sl .u64 w v (wd 18446744073709551616 X)) (hn:n<2147483648) (hl:(wd 18446744073709551616 X).length+(wd 18446744073709551616 (X^n)).length<67108864) :
  Calls prog 230 #[v,.int .i64 (n:Int)] w fun e w'=>∃ v',e=.returned v'∧Sl .u64 w' v' (wd 18446744073709551616 (X^n))∧But [] w w':=by(
rcases Nat.eq_zero_or_pos X with h | h
·exact zwl v X n w hv (by omega) hn
·exact znh v X n w hv h hn hl)
theorem zmf (X k:Nat) (hX:(wd 18446744073709551616 X).length≤2) (hk:k≤200):(wd 18446744073709551616 (X^k)).length≤400:=by(
have h1:=ak (B:=18446744073709551616) (by omega) X 2 hX
rcases Nat.eq_zero_or_pos k with rfl | hk0
·rw[Nat.pow_zero]
 exact Nat.le_trans (aj (B:=18446744073709551616) (by omega) 1 1 (by omega)) (by omega)
·refine Nat.le_trans (aj (B:=18446744073709551616) (by omega) _ (2*k) ?_) (by omega)
 rw[Nat.pow_mul]
 exact Nat.pow_lt_pow_left h1 (by omega))
theorem qec (z:Int) (k:Nat):z^k=sgn (decide (z<0) && decide (k%2=1)) (z.natAbs^k):=by(
by_cases hz:z<0
·(
rw[decide_eq_true hz,Bool.true_and]
obtain⟨m,rfl⟩:∃ m:Nat,z=-(m:Int):=⟨z.natAbs,by omega⟩
rw[Int.natAbs_neg,Int.natAbs_natCast]
induction k with
| zero=>simp[sgn]
| succ k ih =>
 rw[Int.pow_succ,ih,Nat.pow_succ]
 by_cases hk:k%2=1
 ·rw[decide_eq_true hk,decide_eq_false (show ¬ (k+1)%2=1 by omega)]
  simp only[sgn,if_true,Bool.false_eq_true,if_false,Int.natCast_mul]
  grind
 ·rw[decide_eq_false hk,decide_eq_true (show (k+1)%2=1 by omega)]
  simp only[sgn,if_true,Bool.false_eq_true,if_false,Int.natCast_mul]
  grind)
·rw[decide_eq_false hz,Bool.false_and]
 obtain⟨m,rfl⟩:∃ m:Nat,z=(m:Int):=⟨z.natAbs,by omega⟩
 rw[Int.natAbs_natCast]
 simp[sgn])
theorem qam (s:Bool) (k:Nat) (bl:Bool) (h:bl=(s && decide (k%2=1))):(s=false∧bl=false)∨(s=true∧k%2=0∧bl=false)∨(s=true∧k%2=1∧bl=true):=by(
cases s
·exact .inl ⟨rfl,by rw[h];rfl⟩
·by_cases hk:k%2=1
 ·exact .inr (.inr ⟨rfl,hk,by rw[h,decide_eq_true hk];rfl⟩)
 ·exact .inr (.inl ⟨rfl,by omega,by rw[h,decide_eq_false hk];rfl⟩))
theorem zuo (v:Value) (f:Rat) (k:Nat) (w:World) (hf:aq w v f) (hk:k≤200) (lf:Len f 10000) (l1:(wd 18446744073709551616 (f.num.natAbs^k)).length≤10000) (l2:(wd 18446744073709551616 (f.den^k)).length≤10000) :
  Calls prog 285 #[v,.int .i64 (k:Int)] w fun e w'=>∃ v',e=.returned (.tuple #[v',.nilIface])∧aq w' v' (qy f k)∧But [] w w':=by(
obtain⟨g,hg⟩:∃ g,g=qy f k:=⟨_,rfl⟩
obtain⟨gn,gd⟩:=zcj f k
rw[← hg] at gn gd ⊢
have NU:Hid (∀ W,But [] w W→Calls prog 86 #[v] W fun e w'=>∃ v1 v2,e=.returned (.tuple #[v1,v2])∧Sl .u64 w' v1 (wd 18446744073709551616 f.num.natAbs)∧Sl .u64 w' v2 (wd 18446744073709551616 f.den)∧But [] W w'):=fun W hb=>dh v f W (hf.but hb)
have P1:Hid (∀ W u,Sl .u64 W u (wd 18446744073709551616 f.num.natAbs)→Calls prog 230 #[u,.int .i64 (k:Int)] W fun e w'=>∃ v',e=.returned v'∧Sl .u64 w' v' (wd 18446744073709551616 (f.num.natAbs^k))∧But [] W w'):=fun W u hu=>zni u _ k W hu (by omega) (by have:=lf.1;omega)
have P2:Hid (∀ W u,Sl .u64 W u (wd 18446744073709551616 f.den)→Calls prog 230 #[u,.int .i64 (k:Int)] W fun e w'=>∃ v',e=.returned v'∧Sl .u64 w' v' (wd 18446744073709551616 (f.den^k))∧But [] W w'):=fun W u hu=>zni u _ k W hu (by omega) (by have:=lf.2;omega)
obtain⟨bl,hbl⟩:∃ bl,bl=(decide (f.num<0) && decide (k%2=1)):=⟨_,rfl⟩
have ga:g.num.natAbs=f.num.natAbs^k:=by rw[gn,Int.natAbs_pow]
have OL:Hid (∀ W v1 v2,Sl .u64 W v1 (wd 18446744073709551616 (f.num.natAbs^k))→Sl .u64 W v2 (wd 18446744073709551616 (f.den^k))→Calls prog 194 #[.bool bl,v1,v2] W fun e w'=>∃ v,e=.returned v∧aq w' v g∧But [] W w'):=fun W v1 v2 h1 h2=>o8 bl v1 v2 g W (by rw[ga];exact h1) (by rw[gd];exact h2) (by rw[ga,gn,hbl];exact qec f.num k) (by rw[ga];omega) (by rw[gd];omega)
obtain⟨x1,y1,p1,rfl,-⟩:=hf.agg
have pc:=qam _ k bl hbl
clear hf lf l1 l2 gn gd ga hbl hg
generalize decide (f.num<0)=s1 at *
have c1:¬ (k:Int) < -200:=by omega
have c2:¬ (200:Int)<(k:Int):=by omega
obtain⟨W,hW⟩:∃ W,W=((w.alloc (.cells #[.bool s1,.int .u64 x1,.int .u64 y1,.pointer p1] 27)).alloc (.cells #[.bool false,.int .u64 0,.int .u64 0,.pointer none] 27)):=⟨_,rfl⟩
rcases pc with ⟨rfl,rfl⟩|⟨rfl,hp,rfl⟩|⟨rfl,hp,rfl⟩
case' inr.inl =>(
have m1:(k:Int)%2=0:=by omega
have m2:Int.tmod (k:Int) 2=0:=by rw[Int.tmod_eq_emod_of_nonneg (by omega)];exact m1
clear hp)
case' inr.inr =>(
have m1:(k:Int)%2=1:=by omega
have m2:Int.tmod (k:Int) 2=1:=by rw[Int.tmod_eq_emod_of_nonneg (by omega)];exact m1
clear hp)
all_goals(
obtain⟨tA,tC,fz,hB⟩:=ol w W _ _ _ hW
have fa:∀ j,W.frozen? ⟨w.heap.size,j,none⟩=false:=zqq w W _ _ _ hW
have a0:=tA 0
have a1:=tA 1
have a2:=tA 2
have a3:=tA 3
have r0:=tC 0
have r1:=tC 1
have r2:=tC 2
have r3:=tC 3
simp only[List.getElem?_toArray,List.getElem?_cons_zero,List.getElem?_cons_succ] at a0 a1 a2 a3 r0 r1 r2 r3
have BL:Hid (Blank W (w.heap.size+1)):=⟨r0,r1,r2,r3,fun j hj=>by rw[tC j];simp;omega⟩
clear tA tC
have HW:=af hW
have HB:=af hB
clear hW hB
go_enter func285,ntmps285
go_wp2_with fail
rw[← ae HW]
obtain⟨ga,hga⟩:∃ ga,ga=w.heap.size:=⟨_,rfl⟩
obtain⟨gr,hgr⟩:∃ gr,gr=w.heap.size+1:=⟨_,rfl⟩
rw[← hga] at a0 a1 a2 a3 fa
rw[← hgr] at r0 r1 r2 r3 fz BL
rw[← hgr,← hga]
have HGR:Hid (w.heap.size≤gr):=by show _≤_;omega
have HGA:Hid (w.heap.size≤ga):=by show _≤_;omega
have nga:ga≠gr:=by omega
clear hga hgr HW
refine (ae NU _ (ae HB)).mono ?_
rintro e w4 ⟨v1,v2,rfl,hs1,hs2,hb4⟩
have HS1:=af hs1
have HS2:=af hs2
have grl3:gr<W.heap.size:=ai r0
have uf:∀ j,w4.frozen? ⟨gr,j,none⟩=false:=fun j=>(hb4.frozen (p:=⟨gr,j,none⟩) grl3 (by simp)).trans (fz j)
have c0:=hb4.ag a0 (by simp)
have u0:=hb4.ag r0 (by simp)
have u1:=hb4.ag r1 (by simp)
have u2:=hb4.ag r2 (by simp)
have u3:=hb4.ag r3 (by simp)
have HB4:Hid (But [] w w4):=(ae HB).trans' hb4
have BL4:Hid (Blank w4 gr):=(ae BL).but hb4
have grl:gr<w4.heap.size:=ai u0
clear hs1 hs2 hb4 a0 r0 r1 r2 r3 fz fa grl3 BL HB NU
go_wp2_with fail
refine (ae P1 _ _ (ae HS1)).mono ?_
rintro e wz1 ⟨vp1,rfl,hsp1,hz1⟩
have HT1:=af hsp1
have HS2':=af ((ae HS2).ah hz1)
have c1:=hz1.ag c0 (by simp)
clear hsp1
go_wp2_with fail
refine (ae P2 _ _ (ae HS2')).mono ?_
rintro e wz2 ⟨vp2,rfl,hsp2,hz2⟩
have HT2:=af hsp2
have HT1':=af ((ae HT1).ah hz2)
have c2:=hz2.ag c1 (by simp)
have Bz2:=hz1.trans' hz2
clear hsp2 hz1 hz2 c1 c0
go_wp2_with fail
refine (ae OL _ _ _ (ae HT1') (ae HT2)).mono ?_
rintro e wz3 ⟨vr,rfl,hvr,hz3⟩
have Bz3:=Bz2.trans' hz3
have HVR:=af hvr
obtain⟨x8,y8,p8,rfl,-⟩:=hvr.agg
clear hvr hz3 Bz2
generalize decide (g.num<0)=r8 at *
have q0:=Bz3.ag u0 (by simp)
have q1:=Bz3.ag u1 (by simp)
have q2:=Bz3.ag u2 (by simp)
have q3:=Bz3.ag u3 (by simp)
have qf:∀ j,wz3.frozen? ⟨gr,j,none⟩=false:=fun j=>(Bz3.frozen (p:=⟨gr,j,none⟩) grl (by simp)).trans (uf j)
go_wp2
have hBh:But [gr] wz3 ((((wz3.setCell ⟨gr,0,none⟩ (.bool r8)).setCell ⟨gr,1,none⟩ (.int .u64 x8)).setCell ⟨gr,2,none⟩ (.int .u64 y8)).setCell ⟨gr,3,none⟩ (.pointer p8)):=(((((But.refl [gr] wz3).setCell (.inl (by simp)) _).setCell (.inl (by simp)) _).setCell (.inl (by simp)) _).setCell (.inl (by simp)) _)
have hBf:=(((((ae HB4).trans' Bz3).setCell (p:=⟨gr,0,none⟩) (.inr (ae HGR)) (.bool r8)).setCell (p:=⟨gr,1,none⟩) (.inr (ae HGR)) (.int .u64 x8)).setCell (p:=⟨gr,2,none⟩) (.inr (ae HGR)) (.int .u64 y8)).setCell (p:=⟨gr,3,none⟩) (.inr (ae HGR)) (.pointer p8)
exact bodyPost_ret (v:=.tuple #[.agg #[.bool r8,.int .u64 x8,.int .u64 y8,.pointer p8],.nilIface]) (by simp[results,results285,go_sem,q0,q1,q2,q3]) rfl ⟨_,rfl,((ae BL4).but Bz3).zke (ae HVR) hBh,hBf⟩))
theorem zwy (v:Value) (f:Rat) (k:Nat) (w:World) (hf:aq w v f) (hk:k≤200) (lf:Len f 2) :
  Calls prog 285 #[v,.int .i64 (k:Int)] w fun e w'=>∃ v',e=.returned (.tuple #[v',.nilIface])∧aq w' v' (qy f k)∧But [] w w' :=
 zuo v f k w hf hk ⟨Nat.le_trans lf.1 (by omega),Nat.le_trans lf.2 (by omega)⟩ (Nat.le_trans (zmf _ k lf.1 hk) (by omega)) (Nat.le_trans (zmf _ k lf.2 hk) (by omega))
end Go.Proofs.YtpmjeclpkahkmaaGreatDoor
