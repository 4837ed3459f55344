/- Lists of fractions in memory.  -/
import Derived.Laws.AppendOwn
import Derived.Test.YtffghofheeleeaaGreatDoorKF3
namespace Go.Proofs.YtffghofheeleeaaGreatDoor
open Go.Proofs.Tryz
open Go.RowKit
def P4o (w:World) (b o:Nat) (s:Bool) (x y:Int) (p:Option Addr):Prop:=w.cell? ⟨b,o,none⟩=some (.bool s)∧w.cell? ⟨b,o+1,none⟩=some (.int .u64 x)∧w.cell? ⟨b,o+2,none⟩=some (.int .u64 y)∧w.cell? ⟨b,o+3,none⟩=some (.pointer p)
theorem P4o.but {w w':World} {b o:Nat} {s:Bool} {x y:Int} {p:Option Addr} {l:List Nat} (h:P4o w b o s x y p) (hb:But l w w') (hn:b ∉ l):P4o w' b o s x y p:=⟨hb.ag h.1 hn,hb.ag h.2.1 hn,hb.ag h.2.2.1 hn,hb.ag h.2.2.2 hn⟩
def zfz (w:World) (b o:Nat) (f:Rat):Prop:=∃ s x y p,P4o w b o s x y p∧aq w (.agg #[.bool s,.int .u64 x,.int .u64 y,.pointer p]) f
theorem zfz.but {w w':World} {b o:Nat} {f:Rat} (h:zfz w b o f) (hb:But [] w w'):zfz w' b o f:=by
 obtain⟨s,x,y,p,h1,h2⟩:=h
 exact⟨s,x,y,p,h1.but hb (by simp),h2.but hb⟩
theorem Sl.beside {k:IntKind} {w w':World} {v:Value} {xs:List Nat} {l:List Nat} (h:Sl k w v xs) (hb:But l w w') (hc:∀ g ∈ l,∃ i s,w.cell? ⟨g,i,none⟩=some (.bool s)):Sl k w' v xs:=by
 obtain⟨a,cap,rfl,hcp,h,hi⟩:=h
 rcases Nat.eq_zero_or_pos xs.length with h0 | h0
 ·exact⟨a,cap,rfl,hcp,fun i hi=>by omega,fun b off e h1=>by omega⟩
 ·refine Sl.but (xs:=xs) ⟨a,cap,rfl,hcp,h,hi⟩ hb (fun b off cap' n e hm=>?_)
  simp only[Value.slice.injEq] at e
  obtain⟨rfl,-,-⟩:=e
  obtain⟨i,s,hs⟩:=hc b hm
  exact (hi _ _ rfl h0).ne hs (by simp) rfl
theorem aq.beside {w W:World} {v:Value} {f:Rat} {l:List Nat} (h:aq w v f) (hb:But l w W) (hc:∀ g ∈ l,∃ s,w.cell? ⟨g,0,none⟩=some (.bool s)):aq W v f:=by
 rcases h with h1|⟨h1,b,v1,v2,h2,h3,h4,h5,h6⟩
 ·exact .inl h1
 ·have hbg:b ∉ l:=fun hm=>by
   obtain⟨s,hs⟩:=hc b hm
   obtain⟨a,cap,rfl,-⟩:=h5
   rw[hs] at h3
   simp at h3
  exact .inr ⟨h1,b,v1,v2,h2,hb.ag h3 hbg,hb.ag h4 hbg,h5.beside hb (fun g hg=>⟨0,hc g hg⟩),h6.beside hb (fun g hg=>⟨0,hc g hg⟩)⟩
theorem zfz.beside {w w':World} {b o:Nat} {f:Rat} {l:List Nat} (h:zfz w b o f) (hb:But l w w') (hn:b ∉ l) (hc:∀ g ∈ l,∃ s,w.cell? ⟨g,0,none⟩=some (.bool s)):zfz w' b o f:=by
 obtain⟨s,x,y,p,h1,h2⟩:=h
 exact⟨s,x,y,p,h1.but hb hn,h2.beside hb hc⟩
def au (w:World) (v:Value) (fs:List Rat):Prop:=∃ a cap,v=.slice a fs.length cap∧fs.length≤cap∧∀ i f,fs[i]? = some f→∃ b off,a=some ⟨b,off,none⟩∧zfz w b (off+i*4) f
theorem au.nil (w:World):au w (.slice none 0 0) []:=⟨none,0,rfl,Nat.le_refl _,fun i f h=>by simp at h⟩
theorem au.but {w w':World} {v:Value} {fs:List Rat} (h:au w v fs) (hb:But [] w w'):au w' v fs:=by
 obtain⟨a,cap,e,hc,h⟩:=h
 refine⟨a,cap,e,hc,fun i f hf=>?_⟩
 obtain⟨b,off,e1,h1⟩:=h i f hf
 exact⟨b,off,e1,h1.but hb⟩
theorem au.open {w:World} {v:Value} {fs:List Rat} (h:au w v fs) :
  (fs=[]∧∃ a cap,v=.slice a 0 cap)∨(0<fs.length∧∃ b off cap,v=.slice (some ⟨b,off,none⟩) fs.length cap∧fs.length≤cap∧∀ i f,fs[i]? = some f→zfz w b (off+i*4) f):=by
 obtain⟨a,cap,rfl,hc,h⟩:=h
 rcases Nat.eq_zero_or_pos fs.length with h0 | h0
 ·exact .inl ⟨List.length_eq_zero_iff.1 h0,a,cap,by rw[h0]⟩
 ·obtain⟨b,off,rfl,-⟩:=h 0 fs[0] (List.getElem?_eq_getElem h0)
  refine .inr ⟨h0,b,off,cap,rfl,hc,fun i f hf=>?_⟩
  obtain⟨b',off',e,h2⟩:=h i f hf
  simp only[Option.some.injEq,Addr.mk.injEq] at e
  obtain⟨rfl,rfl,_⟩:=e
  exact h2
def zcm (vs:List Value):List Value:=vs.flatMap fun v=>v.cells.toList
structure zsy (w:World) (base:Nat) (e:TypeId) (v:Value) (fs:List Rat) (vs:List Value):Prop where
 own:w.ownsRow base e 4 v fs.length (zcm vs)
 len:vs.length=fs.length
 val:∀ (i:Nat) (f:Rat),fs[i]? = some f→∃ s x y p,vs[i]? = some (Value.agg #[.bool s,.int .u64 x,.int .u64 y,.pointer p])∧aq w (.agg #[.bool s,.int .u64 x,.int .u64 y,.pointer p]) f
theorem zra:∀ (vs:List Value),(∀ v ∈ vs,v.cells.size=4)→∀ (i k:Nat) (v:Value),vs[i]? = some v→k<4→(zcm vs)[4*i+k]? = v.cells[k]?
 | [],_,i,k,v,e,_=>by simp at e
 | u::vs,h,0,k,v,e,hk=>by
  have hu:=h u (by simp)
  simp only[List.getElem?_cons_zero,Option.some.injEq] at e
  subst e
  unfold zcm
  rw[List.flatMap_cons,Nat.mul_zero,Nat.zero_add,List.getElem?_append_left (by rw[Array.length_toList,hu];exact hk)]
  simp
 | u::vs,h,i+1,k,v,e,hk=>by
  have hu:=h u (by simp)
  have ih:=zra vs (fun x hx=>h x (by simp[hx])) i k v (by simpa using e) hk
  unfold zcm at ih ⊢
  rw[List.flatMap_cons,List.getElem?_append_right (by rw[Array.length_toList,hu];omega),Array.length_toList,hu,show 4*(i+1)+k-4=4*i+k from by omega]
  exact ih
theorem ztl (vs us:List Value):zcm (vs++us)=zcm vs++zcm us:=by unfold zcm;rw[List.flatMap_append]
theorem zsy.zme {w:World} {base:Nat} {e:TypeId} {v:Value} {fs:List Rat} {vs:List Value} (h:zsy w base e v fs vs):au w v fs:=by
 have h4:∀ u ∈ vs,u.cells.size=4:=fun u hu=>by
  obtain⟨i,hi,rfl⟩:=List.mem_iff_getElem.1 hu
  obtain⟨s,x,y,p,e,-⟩:=h.val i (fs[i]'(by rw[← h.len];exact hi)) (List.getElem?_eq_getElem (by rw[← h.len];exact hi))
  rw[List.getElem?_eq_getElem hi] at e
  rw[Option.some.inj e]
  rfl
 obtain⟨hl,⟨rfl,h0⟩|⟨g,cap,cur,rfl,hg,hb,hn,hm,hs,ht⟩⟩:=id h.own
 ·have:fs=[]:=List.length_eq_zero_iff.1 h0
  subst this
  exact au.nil w
 ·refine⟨_,cap,rfl,hn,fun i f hf=>⟨g,0,rfl,?_⟩⟩
  obtain⟨s,x,y,p,e1,e2⟩:=h.val i f hf
  have cell:∀ k,k<4→w.cell? ⟨g,0+i*4+k,none⟩=(#[Value.bool s,.int .u64 x,.int .u64 y,.pointer p]:Array Value)[k]?:=fun k hk=>by
   have h1:=zra vs h4 i k _ e1 hk
   have h2:=h.own.cells (g:=g) rfl
   have hlt:k<(#[Value.bool s,.int .u64 x,.int .u64 y,.pointer p]:Array Value).size:=hk
   have h3:=h2 (4*i+k) _ (h1.trans (Array.getElem?_eq_getElem hlt))
   have h5:(⟨g,0,none⟩:Addr).add (4*i+k)=⟨g,0+i*4+k,none⟩:=by
    by_cases hz:4*i+k=0
    ·simp only[Addr.add,hz,if_true,Addr.mk.injEq,true_and,and_true];omega
    ·simp only[Addr.add,hz,if_false,Addr.mk.injEq,true_and,and_true];omega
   rw[h5] at h3
   rw[h3]
   exact (Array.getElem?_eq_getElem hlt).symm
  exact⟨s,x,y,p,⟨cell 0 (by omega),cell 1 (by omega),cell 2 (by omega),cell 3 (by omega)⟩,e2⟩
theorem kz (a:Act) (w:World) (t1 t2:Nat) (u:TypeId) (ps:String) (ed:Array Edge) (g:Nat) (s:Bool) (x y:Int) (p:Option Addr) {s':Bool} {x' y':Int} {p':Option Addr} (h1:a.eval (.tmp t1)=.pointer (some ⟨g,0,none⟩)) (h2:a.eval (.tmp t2)=.agg #[.bool s,.int .u64 x,.int .u64 y,.pointer p]) (hc:P4 w g s' x' y' p') (fz:∀ j,w.frozen? ⟨g,j,none⟩=false) :
  (execOp a.eval { dst:=none,op:=Op.store 27 (.tmp t1) (.tmp t2),type:=u,pos:=ps,after:=ed,guard:=none }).run prog w=.ok .skip ((((w.setCell ⟨g,0,none⟩ (.bool s)).setCell ⟨g,1,none⟩ (.int .u64 x)).setCell ⟨g,2,none⟩ (.int .u64 y)).setCell ⟨g,3,none⟩ (.pointer p)):=by
 obtain⟨c0,c1,c2,c3⟩:=hc
 unfold execOp
 simp only[h1,h2]
 go_simp
def zy (w:World) (g:Nat) (s:Bool) (x y:Int) (p:Option Addr):World:=(((w.setCell ⟨g,0,none⟩ (.bool s)).setCell ⟨g,1,none⟩ (.int .u64 x)).setCell ⟨g,2,none⟩ (.int .u64 y)).setCell ⟨g,3,none⟩ (.pointer p)
theorem ay (w:World) (g:Nat) (s:Bool) (x y:Int) (p:Option Addr):But [g] w (zy w g s x y p):=(((((But.refl [g] w).setCell (.inl (by simp)) _).setCell (.inl (by simp)) _).setCell (.inl (by simp)) _).setCell (.inl (by simp)) _)
theorem jl (w:World) (g:Nat) (s:Bool) (x y:Int) (p:Option Addr) {s':Bool} {x' y':Int} {p':Option Addr} (hc:P4 w g s' x' y' p'):P4 (zy w g s x y p) g s x y p:=by
 obtain⟨h1,-⟩:=zyh w g (.bool s) (.int .u64 x) (.int .u64 y) (.pointer p) (by rw[hc.1];rfl) (by rw[hc.2.1];rfl) (by rw[hc.2.2.1];rfl) (by rw[hc.2.2.2];rfl)
 exact⟨h1 0 (by omega),h1 1 (by omega),h1 2 (by omega),h1 3 (by omega)⟩
theorem zli (w:World) (g:Nat) (s:Bool) (x y:Int) (p:Option Addr) (b j:Nat):(zy w g s x y p).frozen? ⟨b,j,none⟩=w.frozen? ⟨b,j,none⟩:=by
 unfold zy
 simp only[World.frozen?_setCell]
def zmk (ops:Array Oper):Bool:=(List.range ops.size).all fun i=>match ops[i]? with
 | some o=>o.guard.isNone && (match o.op with | .defer _=>false | _=>true)
 | none=>true
theorem mo {ops:Array Oper} (h:zmk ops=true):∀ (i:Nat) (o:Oper),ops[i]? = some o→o.guard=none∧∀ c,o.op≠.defer c:=fun i o ho=>by
 have hi:i<ops.size:=(Array.getElem?_eq_some_iff.1 ho).1
 unfold zmk at h
 rw[List.all_eq_true] at h
 have h1:=h i (List.mem_range.2 hi)
 simp only[ho,Bool.and_eq_true,Option.isNone_iff_eq_none] at h1
 exact⟨h1.1,fun c e=>by rw[e] at h1;simp at h1⟩
theorem j4 {ops:Array Oper} {ps:List (Nat × Nat)} (h:zab ops ps=true) {i:Nat} {o:Oper} (ho:ops[i]? = some o) (R:Nat→Prop) (hdep:∀ e ∈ o.after,Region.binds .any e=true→R e.on) (j:Nat) (hij:(i,j) ∈ ps):R j:=by
 obtain⟨o',ho',ed,hed,hbi,rfl⟩:=vv h i j hij
 rw[ho] at ho'
 obtain rfl:=Option.some.inj ho'
 exact hdep ed hed hbi
def bh (w:World) (g:Nat) (f:Rat):Prop:=(∃ s x y p,P4 w g s x y p∧aq w (.agg #[.bool s,.int .u64 x,.int .u64 y,.pointer p]) f)∧∀ j,w.frozen? ⟨g,j,none⟩=false
theorem bh.but {A B:World} {g:Nat} {f:Rat} (h:bh A g f) (hb:But [] A B):bh B g f:=by
 obtain⟨⟨s,x,y,p,h1,h2⟩,h3⟩:=h
 have hl:g<A.heap.size:=ai h1.1
 exact⟨⟨s,x,y,p,h1.but hb (by simp),h2.but hb⟩,fun j=>(hb.frozen (p:=⟨g,j,none⟩) hl (by simp)).trans (h3 j)⟩
theorem bh.beside {A B:World} {g:Nat} {f:Rat} {l:List Nat} (h:bh A g f) (hb:But l A B) (hn:g ∉ l) (hc:∀ g ∈ l,∃ s,A.cell? ⟨g,0,none⟩=some (.bool s)):bh B g f:=by
 obtain⟨⟨s,x,y,p,h1,h2⟩,h3⟩:=h
 have hl:g<A.heap.size:=ai h1.1
 exact⟨⟨s,x,y,p,h1.but hb hn,h2.beside hb hc⟩,fun j=>(hb.frozen (p:=⟨g,j,none⟩) hl hn).trans (h3 j)⟩
theorem bh.put {w:World} {g:Nat} {f f':Rat} (h:bh w g f) {s:Bool} {x y:Int} {p:Option Addr} (hf:aq w (.agg #[.bool s,.int .u64 x,.int .u64 y,.pointer p]) f'):bh (zy w g s x y p) g f':=by
 obtain⟨⟨s0,x0,y0,p0,h1,h2⟩,h3⟩:=h
 exact⟨⟨s,x,y,p,jl w g s x y p h1,hf.over h1.1 (ay w g s x y p)⟩,fun j=>(zli w g s x y p g j).trans (h3 j)⟩
theorem bh.new (w:World) (s:Bool) (x y:Int) (p:Option Addr) (f:Rat) (t:TypeId) (h:aq w (.agg #[.bool s,.int .u64 x,.int .u64 y,.pointer p]) f):bh (w.alloc (.cells #[.bool s,.int .u64 x,.int .u64 y,.pointer p] t)) w.heap.size f :=
 ⟨⟨s,x,y,p,⟨by simp,by simp,by simp,by simp⟩,h.but ((But.refl _ _).alloc _)⟩,fun j=>by simp⟩
theorem bh.lt {w:World} {g:Nat} {f:Rat} (h:bh w g f):g<w.heap.size:=by
 obtain⟨⟨s,x,y,p,h1,-⟩,-⟩:=h
 exact ai h1.1
theorem bh.bool {w:World} {g:Nat} {f:Rat} (h:bh w g f):∃ s,w.cell? ⟨g,0,none⟩=some (.bool s):=by
 obtain⟨⟨s,x,y,p,h1,-⟩,-⟩:=h
 exact⟨s,h1.1⟩
theorem au.get {w:World} {b off n cap:Nat} {fs:List Rat} (h:au w (.slice (some ⟨b,off,none⟩) n cap) fs) (i:Nat) (hi:i<n):∃ s x y p,P4o w b (off+i*4) s x y p∧aq w (.agg #[.bool s,.int .u64 x,.int .u64 y,.pointer p]) (fs[i]?.getD 0):=by
 obtain⟨a,cap',e,-,h⟩:=h
 simp only[Value.slice.injEq] at e
 obtain⟨rfl,rfl,-⟩:=e
 obtain⟨b',off',e2,s,x,y,p,h1,h2⟩:=h i fs[i] (List.getElem?_eq_getElem hi)
 simp only[Option.some.injEq,Addr.mk.injEq] at e2
 obtain⟨rfl,rfl,-⟩:=e2
 exact⟨s,x,y,p,h1,by rw[List.getElem?_eq_getElem hi];exact h2⟩
theorem qny {P:Program} {f:FuncId} {args:Array Value} {w:World} {r:Rat} (h:Calls P f args w fun e w'=>∃ v,e=.returned v∧aq w' v r∧But [] w w') :
  Calls P f args w fun e w'=>∃ s x y p,e=.returned (.agg #[.bool s,.int .u64 x,.int .u64 y,.pointer p])∧aq w' (.agg #[.bool s,.int .u64 x,.int .u64 y,.pointer p]) r∧But [] w w' :=
 h.mono fun e w' ⟨v,he,hv,hb⟩=>by
  obtain⟨x,y,p,rfl,-⟩:=hv.agg
  exact⟨_,x,y,p,he,hv,hb⟩
theorem jb (w:World):aq w (.agg #[.bool false,.int .u64 0,.int .u64 0,.pointer none]) 0:=.inl ⟨by decide,by decide,rfl⟩
theorem zuu:∃ i,prog.info? 27 = some i∧i.zero=some (.agg #[.bool false,.int .u64 0,.int .u64 0,.pointer none])∧i.size=4∧i.bytes=32:=by
 have h:(prog.info? 27).map (fun i=>(i.zero,i.size,i.bytes))=some (some (.agg #[.bool false,.int .u64 0,.int .u64 0,.pointer none]),4,32):=by kernel_rfl
 cases e:prog.info? 27 with
 | none=>rw[e] at h;simp at h
 | some i =>
  rw[e] at h
  simp only[Option.map_some,Option.some.injEq,Prod.mk.injEq] at h
  exact⟨i,rfl,h.1,h.2.1,h.2.2⟩
theorem zmt (wx:World) (n:Nat) (h:n<1000000):(Instr.makeSlice 62 (.int .i64 (n:Int)) (.int .i64 (n:Int))).run prog wx=.ok (.slice (some ⟨wx.heap.size,0,none⟩) n n) (wx.alloc (.cells (madeCells #[.bool false,.int .u64 0,.int .u64 0,.pointer none] (n*4)) 27)):=by
 obtain⟨ti,hi,hz,hs,hbt⟩:=zuu
 have hmk:=run_make (P:=prog) wx 62 27 ti _ underlying62 hi hz .i64 .i64 (n:Int) (n:Int) (by omega) (by omega) (by rw[hbt];omega) (by omega)
 rw[hs,Int.toNat_natCast] at hmk
 exact hmk
theorem qij (n o:Nat) (h:o<n*4):(madeCells #[Value.bool false,.int .u64 0,.int .u64 0,.pointer none] (n*4))[o]? = (#[Value.bool false,.int .u64 0,.int .u64 0,.pointer none]:Array Value)[o%4]?:=by
 unfold madeCells
 rw[Array.getElem?_map,Array.getElem?_eq_getElem (by simpa using h),Array.getElem_range,Option.map_some]
 have:o%4=0∨o%4=1∨o%4=2∨o%4=3:=by omega
 show some ((#[Value.bool false,.int .u64 0,.int .u64 0,.pointer none]:Array Value)[o%4]!)=_
 rcases this with e | e | e | e <;> (rw[e];rfl)
theorem bz (a:Act) (w:World) (d t:Nat) (u:TypeId) (ps:String) (ed:Array Edge) (gd:Option (Nat × Bool)) (N:Value) (h:a.eval (.tmp t)=N) :
  (execOp a.eval { dst:=some d,op:=Op.move (.tmp t),type:=u,pos:=ps,after:=ed,guard:=gd }).run prog w=.ok (.value N) w:=by
 unfold execOp
 simp only[h]
 go_simp
theorem zbq (a:Act) (w:World) (d t1 k:Nat) (u:TypeId) (ps:String) (ed:Array Edge) (gd:Option (Nat × Bool)) (xs:Array Value) (v:Value) (h1:a.eval (.tmp t1)=.tuple xs) (h2:xs[k]? = some v) :
  (execOp a.eval { dst:=some d,op:=Op.extract (.tmp t1) k,type:=u,pos:=ps,after:=ed,guard:=gd }).run prog w=.ok (.value v) w:=by
 unfold execOp
 simp only[h1]
 go_simp
theorem zbr (a:Act) (w:World) (d t:Nat) (u:TypeId) (ps:String) (ed:Array Edge) (gd:Option (Nat × Bool)) (N:Value) (h:a.eval (.tmp t)=N) :
  (execOp a.eval { dst:=some d,op:=Op.assign (.tmp t),type:=u,pos:=ps,after:=ed,guard:=gd }).run prog w=.ok (.value N) w:=by
 unfold execOp
 simp only[h]
 go_simp
theorem ax (a:Act) (w:World) (d t:Nat) (u:TypeId) (ps:String) (ed:Array Edge) (gd:Option (Nat × Bool)) (b o:Nat) (s:Bool) (x y:Int) (p:Option Addr) (h1:a.eval (.tmp t)=.pointer (some ⟨b,o,none⟩)) (hc:P4o w b o s x y p) :
  (execOp a.eval { dst:=some d,op:=Op.load 27 (.tmp t),type:=u,pos:=ps,after:=ed,guard:=gd }).run prog w=.ok (.value (.agg #[.bool s,.int .u64 x,.int .u64 y,.pointer p])) w:=by
 obtain⟨c0,c1,c2,c3⟩:=hc
 unfold execOp
 simp only[h1]
 go_simp
theorem zde (a:Act) (w:World) (d t1 t2:Nat) (u:TypeId) (ps:String) (ed:Array Edge) (gd:Option (Nat × Bool)) (x1 x2:Value) (h1:a.eval (.tmp t1)=x1) (h2:a.eval (.tmp t2)=x2) :
  (execOp a.eval { dst:=some d,op:=Op.call { callee:=Callee.value (Operand.func 73),args:=#[Operand.tmp t1,Operand.tmp t2],argTypes:=#[27,27] },type:=u,pos:=ps,after:=ed,guard:=gd }).run prog w=.ok (.enter 73 #[x1,x2]) w:=by
 unfold execOp
 go_simp
 rw[← h1,← h2]
 simp[Act.eval]
theorem zeq (a:Act) (w:World) (d t1 t2:Nat) (u:TypeId) (ps:String) (ed:Array Edge) (gd:Option (Nat × Bool)) (x1 x2:Value) (h1:a.eval (.tmp t1)=x1) (h2:a.eval (.tmp t2)=x2) :
  (execOp a.eval { dst:=some d,op:=Op.call { callee:=Callee.value (Operand.func 56),args:=#[Operand.tmp t1,Operand.tmp t2],argTypes:=#[27,27] },type:=u,pos:=ps,after:=ed,guard:=gd }).run prog w=.ok (.enter 56 #[x1,x2]) w:=by
 unfold execOp
 go_simp
 rw[← h1,← h2]
 simp[Act.eval]
theorem zkc (a:Act) (w:World) (d t1:Nat) (u:TypeId) (ps:String) (ed:Array Edge) (gd:Option (Nat × Bool)) (x1:Value) (h1:a.eval (.tmp t1)=x1) :
  (execOp a.eval { dst:=some d,op:=Op.call { callee:=Callee.value (Operand.func 71),args:=#[Operand.tmp t1],argTypes:=#[3] },type:=u,pos:=ps,after:=ed,guard:=gd }).run prog w=.ok (.enter 71 #[x1]) w:=by
 unfold execOp
 go_simp
 rw[← h1]
 simp[Act.eval]
theorem zie (a:Act) (w:World) (d t1 t2:Nat) (u:TypeId) (ps:String) (ed:Array Edge) (gd:Option (Nat × Bool)) (x1 x2:Value) (h1:a.eval (.tmp t1)=x1) (h2:a.eval (.tmp t2)=x2) :
  (execOp a.eval { dst:=some d,op:=Op.call { callee:=Callee.value (Operand.func 119),args:=#[Operand.tmp t1,Operand.tmp t2],argTypes:=#[27,27] },type:=u,pos:=ps,after:=ed,guard:=gd }).run prog w=.ok (.enter 119 #[x1,x2]) w:=by
 unfold execOp
 go_simp
 rw[← h1,← h2]
 simp[Act.eval]
theorem qcu (a:Act) (w:World) (d t:Nat) (u:TypeId) (ps:String) (ed:Array Edge) (gd:Option (Nat × Bool)) (b o:Nat) (q:Option Addr) (m c:Nat) (h1:a.eval (.tmp t)=.pointer (some ⟨b,o,none⟩)) (hc:w.cell? ⟨b,o,none⟩=some (.slice q m c)) :
  (execOp a.eval { dst:=some d,op:=Op.load 62 (.tmp t),type:=u,pos:=ps,after:=ed,guard:=gd }).run prog w=.ok (.value (.slice q m c)) w:=by
 unfold execOp
 simp only[h1]
 go_simp
end Go.Proofs.YtffghofheeleeaaGreatDoor
