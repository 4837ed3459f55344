/- Regions that draw their order: what hold -/
import Derived.Deep.RegionHeld
import Derived.RangeFuncCalls
import Derived.OrdersIn
import Derived.Laws.AppendOwn
import Derived.Test.YtlckjpelcmjimaaGreatDoorKPF3
namespace Go.Proofs.YtlckjpelcmjimaaGreatDoor
open Go.RowKit
def came (d:Nat→Bool) (i:Nat):Nat→Bool:=fun j=>if j=i then true else d j
theorem came_self (d:Nat→Bool) (i:Nat):came d i i=true:=by simp [came]
theorem came_ne (d:Nat→Bool) {i j:Nat} (h:j≠i):came d i j=d j:=by simp [came,h]
theorem region_inv {P:Program} {id:Nat} {ops:Array Oper} {Q:Exit→Act→World→Prop} {base:Act} {W0:World} (hm:P.follows .mixedOrders=true)
  (hlow:∀ i o,ops[i]? = some o→∀ e ∈ o.after,Region.binds .any e=true→e.on<i)
  (J:(Nat→Bool)→Act→World→Prop) (h0:J (fun _=>false) base W0.drew)
  (hend:∀ d a w,(∀ i,i<ops.size→d i=true)→J d a w→Q .normal a w)
  (hstep:∀ d i o a w,ops[i]? = some o→d i=false→(∀ e ∈ o.after,Region.binds .any e=true→d e.on=true)→J d a w→wpOp P ops Q i (J (came d i)) a w) :
  (Code.region id ops true).wp P Q base W0:=by
 refine wp_region_any hm ?_
 show wpAny P .any ops Q ops.size (Array.replicate ops.size false) base W0.drew
 have none_ready:∀ (l:Array Bool),l.toList.count false=0→Region.ready .any ops l=[]:=fun l hc=>by
  refine List.eq_nil_iff_forall_not_mem.2 fun i hi=>?_
  obtain ⟨hf,o,ho,hd⟩:=mem_ready.1 hi
  rw [List.count_eq_zero] at hc
  rcases Nat.lt_or_ge i l.size with h1 | h1
  ·simp only [Array.getD_eq_getD_getElem?,Array.getElem?_eq_getElem h1,Option.getD_some] at hf
   exact hc (by rw [← hf];exact Array.getElem_mem_toList h1)
  ·simp [Array.getElem?_eq_none h1] at hf
 have end_:∀ (l:Array Bool) a w,l.size=ops.size→J (fun i=>l.getD i false) a w→Region.ready .any ops l=[]→Q .normal a w:=fun l a w hs hJ hr=>by
  refine hend _ a w (fun i=>?_) hJ
  induction i using Nat.strongRecOn with
  | _ i ih =>
   intro hi
   cases e:l.getD i false with
   | true=>rfl
   | false =>
    exfalso
    have hmem:i ∈ Region.ready .any ops l:=mem_ready.2 ⟨by
     simp only [Array.getD_eq_getD_getElem?,Array.getElem?_eq_getElem (show i<l.size by omega),Option.getD_some] at e ⊢
     exact e,ops[i],Array.getElem?_eq_getElem hi,fun e he hb=>by
      have hl:=hlow i ops[i] (Array.getElem?_eq_getElem hi) e he hb
      exact ih e.on hl (by omega)⟩
    rw [hr] at hmem
    simp at hmem
 have key:∀ n (l:Array Bool) a w,l.size=ops.size∧l.toList.count false=n∧J (fun i=>l.getD i false) a w→wpAny P .any ops Q n l a w:=by
  intro n
  induction n with
  | zero=>rintro l a w ⟨hs,hc,hJ⟩;exact ⟨none_ready l hc,end_ l a w hs hJ (none_ready l hc)⟩
  | succ n ih =>
   rintro l a w ⟨hs,hc,hJ⟩
   refine ⟨end_ l a w hs hJ,fun i hi=>?_⟩
   obtain ⟨hf,o,ho,hd⟩:=mem_ready.1 hi
   have hlt:i<l.size:=by rw [hs];exact (Array.getElem?_eq_some_iff.1 ho).1
   have hg:l[i]=false:=by simpa [hlt] using hf
   have hf':l.getD i false=false:=by simp [hlt,hg]
   refine wpOp_mono (fun a' w' h'=>ih _ a' w' ⟨by simp [hs],?_,?_⟩) (hstep _ i o a w ho hf' hd hJ)
   ·rw [Array.toList_setIfInBounds,List.count_set (by simpa using hlt)]
    simp [hg,hc]
   ·have e:(fun j=>(l.setIfInBounds i true).getD j false)=came (fun j=>l.getD j false) i:=funext fun j=>by
     by_cases hj:j=i
     ·subst hj;simp [came,hlt]
     ·simp [came,hj,Array.getElem?_setIfInBounds_ne (Ne.symm hj)]
    rw [e];exact h'
 exact key _ _ _ _ ⟨by simp,by simp,by
  have e:(fun i=>(Array.replicate ops.size false).getD i false)=fun _=>false:=funext fun i=>by
   simp only [Array.getD_eq_getD_getElem?,Array.getElem?_replicate]
   split <;> rfl
  rw [e];exact h0⟩
theorem at_ne (a:Act) (d t:Nat) (v:Value) (h:t≠d):(a.put (some d) v).eval (.tmp t)=a.eval (.tmp t):=by
 show (a.tmps.setIfInBounds d v).getD t undef=a.tmps.getD t undef
 simp only [Array.getD_eq_getD_getElem?,Array.getElem?_setIfInBounds_ne (Ne.symm h)]
theorem at_eq (a:Act) (d:Nat) (v:Value) (h:d<a.tmps.size):(a.put (some d) v).eval (.tmp d)=v:=by
 show (a.tmps.setIfInBounds d v).getD d undef=v
 simp [h]
theorem slot_is {a:Act} {t:Nat} {v:Value} (h:a.eval (.tmp t)=v) (hs:t<a.tmps.size):a.tmps[t]? = some v:=by
 have e:a.tmps.getD t undef=v:=h
 rw [Array.getD_eq_getD_getElem?,Array.getElem?_eq_getElem hs] at e
 rw [Array.getElem?_eq_getElem hs]
 exact congrArg some e
theorem slot_put (a:Act) (d t:Nat) (v:Value):(a.put (some d) v).tmps[t]? = if d=t then (if d<a.tmps.size then some v else none) else a.tmps[t]?:=by
 show (a.tmps.setIfInBounds d v)[t]? = _
 rw [Array.getElem?_setIfInBounds]
theorem size_putted (a:Act) (d:Nat) (v:Value):(a.put (some d) v).tmps.size=a.tmps.size:=by
 show (a.tmps.setIfInBounds d v).size=a.tmps.size
 simp
def bb (base:Act) (ps:List (Nat × Value)):Act:=ps.foldl (fun b p=>b.put (some p.1) p.2) base
theorem putted_eq:∀ (ps:List (Nat × Value)) (base a:Act),a.defers=base.defers→a.tmps.size=base.tmps.size→(∀ p ∈ ps,a.tmps[p.1]? = some p.2)→(∀ t,(∀ p ∈ ps,t≠p.1)→a.tmps[t]? = base.tmps[t]?)→a=bb base ps
 | [],base,a,h1,_,_,h4=>by
  cases a
  cases base
  simp only at h1 h4
  show Act.mk _ _=Act.mk _ _
  rw [Array.ext_getElem? (fun t=>h4 t (fun p hp=>by simp at hp)),h1]
 | (d,v)::ps,base,a,h1,h2,h3,h4=>by
  have hd:=h3 (d,v) (by simp)
  simp only at hd
  have hlt:d<base.tmps.size:=by
   rw [← h2]
   exact (Array.getElem?_eq_some_iff.1 hd).1
  refine putted_eq ps (base.put (some d) v) a h1 (by rw [size_putted];exact h2) (fun p hp=>h3 p (by simp [hp])) (fun t ht=>?_)
  rw [slot_put]
  by_cases e:d=t
  ·subst e
   rw [if_pos rfl,if_pos hlt]
   exact hd
  ·rw [if_neg e]
   refine h4 t (fun p hp=>?_)
   rcases List.mem_cons.1 hp with rfl | hp
   ·exact Ne.symm e
   ·exact ht p hp
theorem al {P:Program} {Q:Exit→Act→World→Prop} {K:Act→World→Prop} {a:Act} {w w':World} {o:Oper} {v:Value} (hr:(execOp a.eval o).run P w=.ok (.value v) w') (h:K (a.put o.dst v) w'):o.wp P a w K Q:=by
 unfold Oper.wp
 rw [hr]
 exact h
theorem wp_skipped {P:Program} {Q:Exit→Act→World→Prop} {K:Act→World→Prop} {a:Act} {w w':World} {o:Oper} (hr:(execOp a.eval o).run P w=.ok .skip w') (h:K (a.put o.dst undef) w'):o.wp P a w K Q:=by
 unfold Oper.wp
 rw [hr]
 exact h
theorem av {P:Program} {Q:Exit→Act→World→Prop} {K:Act→World→Prop} {a:Act} {w:World} {o:Oper} {f:FuncId} {args:Array Value} (hr:(execOp a.eval o).run P w=.ok (.enter f args) w) {R:World→Value→Prop} (hc:Calls P f args w fun e w'=>∃ v,e=.returned v∧R w' v) (h:∀ v w',R w' v→K (a.put o.dst v) w'):o.wp P a w K Q:=by
 unfold Oper.wp
 rw [hr]
 refine hc.mono ?_
 rintro e w' ⟨v,rfl,hv⟩
 exact h v w' hv
def lowOps (ops:Array Oper):Bool:=(List.range ops.size).all fun i=>match ops[i]? with
 | some o=>o.after.all fun e=>!(Region.binds .any e) || decide (e.on<i)
 | none=>true
theorem low_of {ops:Array Oper} (h:lowOps ops=true):∀ i o,ops[i]? = some o→∀ e ∈ o.after,Region.binds .any e=true→e.on<i:=fun i o ho e he hb=>by
 have hi:i<ops.size:=(Array.getElem?_eq_some_iff.1 ho).1
 unfold lowOps at h
 rw [List.all_eq_true] at h
 have h1:=h i (List.mem_range.2 hi)
 simp only [ho] at h1
 rw [Array.all_eq_true_iff_forall_mem] at h1
 have h2:=h1 e he
 simpa [hb] using h2
def depOps (ops:Array Oper) (ps:List (Nat × Nat)):Bool:=ps.all fun p=>match ops[p.1]? with
 | some o=>o.after.any fun e=>Region.binds .any e && e.on==p.2
 | none=>false
theorem dep_of {ops:Array Oper} {ps:List (Nat × Nat)} (h:depOps ops ps=true):∀ i j,(i,j) ∈ ps→∃ o,ops[i]? = some o∧∃ e ∈ o.after,Region.binds .any e=true∧e.on=j:=fun i j hij=>by
 unfold depOps at h
 rw [List.all_eq_true] at h
 have h1:=h (i,j) hij
 cases ho:ops[i]? with
 | none=>simp [ho] at h1
 | some o =>
  simp only [ho] at h1
  rw [Array.any_eq_true] at h1
  obtain ⟨k,hk,h2⟩:=h1
  simp only [Bool.and_eq_true,beq_iff_eq] at h2
  exact ⟨o,rfl,o.after[k],Array.getElem_mem hk,h2.1,h2.2⟩
def P4 (w:World) (g:Nat) (s:Bool) (x y:Int) (p:Option Addr):Prop:=w.cell? ⟨g,0,none⟩=some (.bool s)∧w.cell? ⟨g,1,none⟩=some (.int .u64 x)∧w.cell? ⟨g,2,none⟩=some (.int .u64 y)∧w.cell? ⟨g,3,none⟩=some (.pointer p)
theorem P4.but {w w':World} {g:Nat} {s:Bool} {x y:Int} {p:Option Addr} {l:List Nat} (h:P4 w g s x y p) (hb:But l w w') (hn:g ∉ l):P4 w' g s x y p:=⟨hb.ag h.1 hn,hb.ag h.2.1 hn,hb.ag h.2.2.1 hn,hb.ag h.2.2.2 hn⟩
theorem set_off (w:World) (b i j:Nat) (v:Value) (hij:i≠j):(w.setCell ⟨b,i,none⟩ v).cell? ⟨b,j,none⟩=w.cell? ⟨b,j,none⟩:=World.cell?_setCell_other w ⟨b,i,none⟩ ⟨b,j,none⟩ v (fun e=>hij (Addr.mk.inj e).2.1)
theorem set4_all (w:World) (b:Nat) (v0 v1 v2 v3:Value) (c0:(w.cell? ⟨b,0,none⟩).isSome=true) (c1:(w.cell? ⟨b,1,none⟩).isSome=true) (c2:(w.cell? ⟨b,2,none⟩).isSome=true) (c3:(w.cell? ⟨b,3,none⟩).isSome=true) :
  (∀ j,j<4→((((w.setCell ⟨b,0,none⟩ v0).setCell ⟨b,1,none⟩ v1).setCell ⟨b,2,none⟩ v2).setCell ⟨b,3,none⟩ v3).cell? ⟨b,j,none⟩=#[v0,v1,v2,v3][j]?)∧∀ j,4≤j→((((w.setCell ⟨b,0,none⟩ v0).setCell ⟨b,1,none⟩ v1).setCell ⟨b,2,none⟩ v2).setCell ⟨b,3,none⟩ v3).cell? ⟨b,j,none⟩=w.cell? ⟨b,j,none⟩:=by
 constructor
 ·intro j hj
  have:j=0∨j=1∨j=2∨j=3:=by omega
  rcases this with rfl | rfl | rfl | rfl
  ·rw [set_off _ _ 3 0 _ (by omega),set_off _ _ 2 0 _ (by omega),set_off _ _ 1 0 _ (by omega)]
   exact World.cell?_setCell_same' _ _ _ c0
  ·rw [set_off _ _ 3 1 _ (by omega),set_off _ _ 2 1 _ (by omega)]
   exact World.cell?_setCell_same' _ _ _ (by rw [set_off _ _ 0 1 _ (by omega)];exact c1)
  ·rw [set_off _ _ 3 2 _ (by omega)]
   exact World.cell?_setCell_same' _ _ _ (by rw [set_off _ _ 1 2 _ (by omega),set_off _ _ 0 2 _ (by omega)];exact c2)
  ·exact World.cell?_setCell_same' _ _ _ (by rw [set_off _ _ 2 3 _ (by omega),set_off _ _ 1 3 _ (by omega),set_off _ _ 0 3 _ (by omega)];exact c3)
 ·intro j hj
  rw [set_off _ _ 3 j _ (by omega),set_off _ _ 2 j _ (by omega),set_off _ _ 1 j _ (by omega),set_off _ _ 0 j _ (by omega)]
def P4o (w:World) (b o:Nat) (s:Bool) (x y:Int) (p:Option Addr):Prop:=w.cell? ⟨b,o,none⟩=some (.bool s)∧w.cell? ⟨b,o+1,none⟩=some (.int .u64 x)∧w.cell? ⟨b,o+2,none⟩=some (.int .u64 y)∧w.cell? ⟨b,o+3,none⟩=some (.pointer p)
theorem P4o.but {w w':World} {b o:Nat} {s:Bool} {x y:Int} {p:Option Addr} {l:List Nat} (h:P4o w b o s x y p) (hb:But l w w') (hn:b ∉ l):P4o w' b o s x y p:=⟨hb.ag h.1 hn,hb.ag h.2.1 hn,hb.ag h.2.2.1 hn,hb.ag h.2.2.2 hn⟩
def LiesAt (w:World) (b o:Nat) (f:Rat):Prop:=∃ s x y p,P4o w b o s x y p∧am w (.agg #[.bool s,.int .u64 x,.int .u64 y,.pointer p]) f
theorem LiesAt.but {w w':World} {b o:Nat} {f:Rat} (h:LiesAt w b o f) (hb:But [] w w'):LiesAt w' b o f:=by
 obtain ⟨s,x,y,p,h1,h2⟩:=h
 exact ⟨s,x,y,p,h1.but hb (by simp),h2.but hb⟩
theorem Sl.beside {k:IntKind} {w w':World} {v:Value} {xs:List Nat} {l:List Nat} (h:Sl k w v xs) (hb:But l w w') (hc:∀ g ∈ l,∃ i s,w.cell? ⟨g,i,none⟩=some (.bool s)):Sl k w' v xs:=by
 obtain ⟨a,cap,rfl,hcp,h,hi⟩:=h
 rcases Nat.eq_zero_or_pos xs.length with h0 | h0
 ·exact ⟨a,cap,rfl,hcp,fun i hi=>by omega,fun b off e h1=>by omega⟩
 ·refine Sl.but (xs:=xs) ⟨a,cap,rfl,hcp,h,hi⟩ hb (fun b off cap' n e hm=>?_)
  simp only [Value.slice.injEq] at e
  obtain ⟨rfl,-,-⟩:=e
  obtain ⟨i,s,hs⟩:=hc b hm
  exact (hi _ _ rfl h0).ne hs (by simp) rfl
theorem am.beside {w W:World} {v:Value} {f:Rat} {l:List Nat} (h:am w v f) (hb:But l w W) (hc:∀ g ∈ l,∃ s,w.cell? ⟨g,0,none⟩=some (.bool s)):am W v f:=by
 rcases h with h1 | ⟨h1,b,v1,v2,h2,h3,h4,h5,h6⟩
 ·exact .inl h1
 ·have hbg:b ∉ l:=fun hm=>by
   obtain ⟨s,hs⟩:=hc b hm
   obtain ⟨a,cap,rfl,-⟩:=h5
   rw [hs] at h3
   simp at h3
  exact .inr ⟨h1,b,v1,v2,h2,hb.ag h3 hbg,hb.ag h4 hbg,h5.beside hb (fun g hg=>⟨0,hc g hg⟩),h6.beside hb (fun g hg=>⟨0,hc g hg⟩)⟩
theorem LiesAt.beside {w w':World} {b o:Nat} {f:Rat} {l:List Nat} (h:LiesAt w b o f) (hb:But l w w') (hn:b ∉ l) (hc:∀ g ∈ l,∃ s,w.cell? ⟨g,0,none⟩=some (.bool s)):LiesAt w' b o f:=by
 obtain ⟨s,x,y,p,h1,h2⟩:=h
 exact ⟨s,x,y,p,h1.but hb hn,h2.beside hb hc⟩
def an (w:World) (v:Value) (fs:List Rat):Prop:=∃ a cap,v=.slice a fs.length cap∧fs.length≤cap∧∀ i f,fs[i]? = some f→∃ b off,a=some ⟨b,off,none⟩∧LiesAt w b (off+i*4) f
theorem an.nil (w:World):an w (.slice none 0 0) []:=⟨none,0,rfl,Nat.le_refl _,fun i f h=>by simp at h⟩
theorem an.but {w w':World} {v:Value} {fs:List Rat} (h:an w v fs) (hb:But [] w w'):an w' v fs:=by
 obtain ⟨a,cap,e,hc,h⟩:=h
 refine ⟨a,cap,e,hc,fun i f hf=>?_⟩
 obtain ⟨b,off,e1,h1⟩:=h i f hf
 exact ⟨b,off,e1,h1.but hb⟩
theorem an.open {w:World} {v:Value} {fs:List Rat} (h:an w v fs) :
  (fs=[]∧∃ a cap,v=.slice a 0 cap)∨(0<fs.length∧∃ b off cap,v=.slice (some ⟨b,off,none⟩) fs.length cap∧fs.length≤cap∧∀ i f,fs[i]? = some f→LiesAt w b (off+i*4) f):=by
 obtain ⟨a,cap,rfl,hc,h⟩:=h
 rcases Nat.eq_zero_or_pos fs.length with h0 | h0
 ·exact .inl ⟨List.length_eq_zero_iff.1 h0,a,cap,by rw [h0]⟩
 ·obtain ⟨b,off,rfl,-⟩:=h 0 fs[0] (List.getElem?_eq_getElem h0)
  refine .inr ⟨h0,b,off,cap,rfl,hc,fun i f hf=>?_⟩
  obtain ⟨b',off',e,h2⟩:=h i f hf
  simp only [Option.some.injEq,Addr.mk.injEq] at e
  obtain ⟨rfl,rfl,_⟩:=e
  exact h2
theorem an.take {w:World} {b off cap:Nat} {fs:List Rat} (h:an w (.slice (some ⟨b,off,none⟩) fs.length cap) fs) (n c:Nat) (hn:n≤fs.length) (hc:n≤c):an w (.slice (some ⟨b,off,none⟩) n c) (fs.take n):=by
 obtain ⟨a,cap',e,-,h⟩:=h
 simp only [Value.slice.injEq] at e
 obtain ⟨rfl,-,-⟩:=e
 have hl:(fs.take n).length=n:=by rw [List.length_take];omega
 refine ⟨_,c,by rw [hl],by rw [hl];exact hc,fun i f hf=>?_⟩
 have hi:i<n:=by
  have:=(List.getElem?_eq_some_iff.1 hf).1
  omega
 exact h i f (by rw [List.getElem?_take_of_lt hi] at hf;exact hf)
theorem an.drop {w:World} {b off cap:Nat} {fs:List Rat} (h:an w (.slice (some ⟨b,off,none⟩) fs.length cap) fs) (n m c:Nat) (hm:m=fs.length-n) (hc:m≤c):an w (.slice (some ⟨b,off+n*4,none⟩) m c) (fs.drop n):=by
 obtain ⟨a,cap',e,-,h⟩:=h
 simp only [Value.slice.injEq] at e
 obtain ⟨rfl,-,-⟩:=e
 have hl:(fs.drop n).length=m:=by rw [List.length_drop];omega
 refine ⟨_,c,by rw [hl],by rw [hl];exact hc,fun i f hf=>?_⟩
 rw [List.getElem?_drop] at hf
 obtain ⟨b',off',e2,h2⟩:=h (n+i) f hf
 simp only [Option.some.injEq,Addr.mk.injEq] at e2
 obtain ⟨rfl,rfl,-⟩:=e2
 exact ⟨_,_,rfl,by rw [show off+n*4+i*4=off+(n+i)*4 from by omega];exact h2⟩
def parts4 (vs:List Value):List Value:=vs.flatMap fun v=>v.cells.toList
structure Holds4 (w:World) (base:Nat) (e:TypeId) (v:Value) (fs:List Rat) (vs:List Value):Prop where
 own:w.ownsRow base e 4 v fs.length (parts4 vs)
 len:vs.length=fs.length
 val:∀ (i:Nat) (f:Rat),fs[i]? = some f→∃ s x y p,vs[i]? = some (Value.agg #[.bool s,.int .u64 x,.int .u64 y,.pointer p])∧am w (.agg #[.bool s,.int .u64 x,.int .u64 y,.pointer p]) f
theorem parts4_get:∀ (vs:List Value),(∀ v ∈ vs,v.cells.size=4)→∀ (i k:Nat) (v:Value),vs[i]? = some v→k<4→(parts4 vs)[4*i+k]? = v.cells[k]?
 | [],_,i,k,v,e,_=>by simp at e
 | u::vs,h,0,k,v,e,hk=>by
  have hu:=h u (by simp)
  simp only [List.getElem?_cons_zero,Option.some.injEq] at e
  subst e
  unfold parts4
  rw [List.flatMap_cons,Nat.mul_zero,Nat.zero_add,List.getElem?_append_left (by rw [Array.length_toList,hu];exact hk)]
  simp
 | u::vs,h,i+1,k,v,e,hk=>by
  have hu:=h u (by simp)
  have ih:=parts4_get vs (fun x hx=>h x (by simp [hx])) i k v (by simpa using e) hk
  unfold parts4 at ih ⊢
  rw [List.flatMap_cons,List.getElem?_append_right (by rw [Array.length_toList,hu];omega),Array.length_toList,hu,show 4*(i+1)+k-4=4*i+k from by omega]
  exact ih
theorem parts4_append (vs us:List Value):parts4 (vs++us)=parts4 vs++parts4 us:=by unfold parts4;rw [List.flatMap_append]
theorem Holds4.fracs {w:World} {base:Nat} {e:TypeId} {v:Value} {fs:List Rat} {vs:List Value} (h:Holds4 w base e v fs vs):an w v fs:=by
 have h4:∀ u ∈ vs,u.cells.size=4:=fun u hu=>by
  obtain ⟨i,hi,rfl⟩:=List.mem_iff_getElem.1 hu
  obtain ⟨s,x,y,p,e,-⟩:=h.val i (fs[i]'(by rw [← h.len];exact hi)) (List.getElem?_eq_getElem (by rw [← h.len];exact hi))
  rw [List.getElem?_eq_getElem hi] at e
  rw [Option.some.inj e]
  rfl
 obtain ⟨hl,⟨rfl,h0⟩ | ⟨g,cap,cur,rfl,hg,hb,hn,hm,hs,ht⟩⟩:=id h.own
 ·have:fs=[]:=List.length_eq_zero_iff.1 h0
  subst this
  exact an.nil w
 ·refine ⟨_,cap,rfl,hn,fun i f hf=>⟨g,0,rfl,?_⟩⟩
  obtain ⟨s,x,y,p,e1,e2⟩:=h.val i f hf
  have cell:∀ k,k<4→w.cell? ⟨g,0+i*4+k,none⟩=(#[Value.bool s,.int .u64 x,.int .u64 y,.pointer p]:Array Value)[k]?:=fun k hk=>by
   have h1:=parts4_get vs h4 i k _ e1 hk
   have h2:=h.own.cells (g:=g) rfl
   have hlt:k<(#[Value.bool s,.int .u64 x,.int .u64 y,.pointer p]:Array Value).size:=hk
   have h3:=h2 (4*i+k) _ (h1.trans (Array.getElem?_eq_getElem hlt))
   have h5:(⟨g,0,none⟩:Addr).add (4*i+k)=⟨g,0+i*4+k,none⟩:=by
    by_cases hz:4*i+k=0
    ·simp only [Addr.add,hz,if_true,Addr.mk.injEq,true_and,and_true];omega
    ·simp only [Addr.add,hz,if_false,Addr.mk.injEq,true_and,and_true];omega
   rw [h5] at h3
   rw [h3]
   exact (Array.getElem?_eq_getElem hlt).symm
  exact ⟨s,x,y,p,⟨cell 0 (by omega),cell 1 (by omega),cell 2 (by omega),cell 3 (by omega)⟩,e2⟩
theorem run_store4 (a:Act) (w:World) (t1 t2:Nat) (u:TypeId) (ps:String) (ed:Array Edge) (g:Nat) (s:Bool) (x y:Int) (p:Option Addr) {s':Bool} {x' y':Int} {p':Option Addr} (h1:a.eval (.tmp t1)=.pointer (some ⟨g,0,none⟩)) (h2:a.eval (.tmp t2)=.agg #[.bool s,.int .u64 x,.int .u64 y,.pointer p]) (hc:P4 w g s' x' y' p') (fz:∀ j,w.frozen? ⟨g,j,none⟩=false) :
  (execOp a.eval { dst:=none,op:=Op.store 29 (.tmp t1) (.tmp t2),type:=u,pos:=ps,after:=ed,guard:=none }).run Tryz.prog w=.ok .skip ((((w.setCell ⟨g,0,none⟩ (.bool s)).setCell ⟨g,1,none⟩ (.int .u64 x)).setCell ⟨g,2,none⟩ (.int .u64 y)).setCell ⟨g,3,none⟩ (.pointer p)):=by
 obtain ⟨c0,c1,c2,c3⟩:=hc
 unfold execOp
 simp only [h1,h2]
 go_simp
def put4 (w:World) (g:Nat) (s:Bool) (x y:Int) (p:Option Addr):World:=(((w.setCell ⟨g,0,none⟩ (.bool s)).setCell ⟨g,1,none⟩ (.int .u64 x)).setCell ⟨g,2,none⟩ (.int .u64 y)).setCell ⟨g,3,none⟩ (.pointer p)
theorem au (w:World) (g:Nat) (s:Bool) (x y:Int) (p:Option Addr):But [g] w (put4 w g s x y p):=(((((But.refl [g] w).setCell (.inl (by simp)) _).setCell (.inl (by simp)) _).setCell (.inl (by simp)) _).setCell (.inl (by simp)) _)
theorem put4_p4 (w:World) (g:Nat) (s:Bool) (x y:Int) (p:Option Addr) {s':Bool} {x' y':Int} {p':Option Addr} (hc:P4 w g s' x' y' p'):P4 (put4 w g s x y p) g s x y p:=by
 obtain ⟨h1,-⟩:=set4_all w g (.bool s) (.int .u64 x) (.int .u64 y) (.pointer p) (by rw [hc.1];rfl) (by rw [hc.2.1];rfl) (by rw [hc.2.2.1];rfl) (by rw [hc.2.2.2];rfl)
 exact ⟨h1 0 (by omega),h1 1 (by omega),h1 2 (by omega),h1 3 (by omega)⟩
theorem put4_fz (w:World) (g:Nat) (s:Bool) (x y:Int) (p:Option Addr) (b j:Nat):(put4 w g s x y p).frozen? ⟨b,j,none⟩=w.frozen? ⟨b,j,none⟩:=by
 unfold put4
 simp only [World.frozen?_setCell]
def calmOps (ops:Array Oper):Bool:=(List.range ops.size).all fun i=>match ops[i]? with
 | some o=>o.guard.isNone && (match o.op with | .defer _=>false | _=>true)
 | none=>true
theorem calm_of {ops:Array Oper} (h:calmOps ops=true):∀ (i:Nat) (o:Oper),ops[i]? = some o→o.guard=none∧∀ c,o.op≠.defer c:=fun i o ho=>by
 have hi:i<ops.size:=(Array.getElem?_eq_some_iff.1 ho).1
 unfold calmOps at h
 rw [List.all_eq_true] at h
 have h1:=h i (List.mem_range.2 hi)
 simp only [ho,Bool.and_eq_true,Option.isNone_iff_eq_none] at h1
 exact ⟨h1.1,fun c e=>by rw [e] at h1;simp at h1⟩
theorem dep_have {ops:Array Oper} {ps:List (Nat × Nat)} (h:depOps ops ps=true) {i:Nat} {o:Oper} (ho:ops[i]? = some o) (R:Nat→Prop) (hdep:∀ e ∈ o.after,Region.binds .any e=true→R e.on) (j:Nat) (hij:(i,j) ∈ ps):R j:=by
 obtain ⟨o',ho',ed,hed,hbi,rfl⟩:=dep_of h i j hij
 rw [ho] at ho'
 obtain rfl:=Option.some.inj ho'
 exact hdep ed hed hbi
def ax (w:World) (g:Nat) (f:Rat):Prop:=(∃ s x y p,P4 w g s x y p∧am w (.agg #[.bool s,.int .u64 x,.int .u64 y,.pointer p]) f)∧∀ j,w.frozen? ⟨g,j,none⟩=false
theorem ax.but {A B:World} {g:Nat} {f:Rat} (h:ax A g f) (hb:But [] A B):ax B g f:=by
 obtain ⟨⟨s,x,y,p,h1,h2⟩,h3⟩:=h
 have hl:g<A.heap.size:=ai h1.1
 exact ⟨⟨s,x,y,p,h1.but hb (by simp),h2.but hb⟩,fun j=>(hb.frozen (p:=⟨g,j,none⟩) hl (by simp)).trans (h3 j)⟩
theorem ax.beside {A B:World} {g:Nat} {f:Rat} {l:List Nat} (h:ax A g f) (hb:But l A B) (hn:g ∉ l) (hc:∀ g ∈ l,∃ s,A.cell? ⟨g,0,none⟩=some (.bool s)):ax B g f:=by
 obtain ⟨⟨s,x,y,p,h1,h2⟩,h3⟩:=h
 have hl:g<A.heap.size:=ai h1.1
 exact ⟨⟨s,x,y,p,h1.but hb hn,h2.beside hb hc⟩,fun j=>(hb.frozen (p:=⟨g,j,none⟩) hl hn).trans (h3 j)⟩
theorem ax.put {w:World} {g:Nat} {f f':Rat} (h:ax w g f) {s:Bool} {x y:Int} {p:Option Addr} (hf:am w (.agg #[.bool s,.int .u64 x,.int .u64 y,.pointer p]) f'):ax (put4 w g s x y p) g f':=by
 obtain ⟨⟨s0,x0,y0,p0,h1,h2⟩,h3⟩:=h
 exact ⟨⟨s,x,y,p,put4_p4 w g s x y p h1,hf.over h1.1 (au w g s x y p)⟩,fun j=>(put4_fz w g s x y p g j).trans (h3 j)⟩
theorem ax.new (w:World) (s:Bool) (x y:Int) (p:Option Addr) (f:Rat) (t:TypeId) (h:am w (.agg #[.bool s,.int .u64 x,.int .u64 y,.pointer p]) f):ax (w.alloc (.cells #[.bool s,.int .u64 x,.int .u64 y,.pointer p] t)) w.heap.size f :=
 ⟨⟨s,x,y,p,⟨by simp,by simp,by simp,by simp⟩,h.but ((But.refl _ _).alloc _)⟩,fun j=>by simp⟩
theorem ax.lt {w:World} {g:Nat} {f:Rat} (h:ax w g f):g<w.heap.size:=by
 obtain ⟨⟨s,x,y,p,h1,-⟩,-⟩:=h
 exact ai h1.1
theorem ax.bool {w:World} {g:Nat} {f:Rat} (h:ax w g f):∃ s,w.cell? ⟨g,0,none⟩=some (.bool s):=by
 obtain ⟨⟨s,x,y,p,h1,-⟩,-⟩:=h
 exact ⟨s,h1.1⟩
theorem an.get {w:World} {b off n cap:Nat} {fs:List Rat} (h:an w (.slice (some ⟨b,off,none⟩) n cap) fs) (i:Nat) (hi:i<n):∃ s x y p,P4o w b (off+i*4) s x y p∧am w (.agg #[.bool s,.int .u64 x,.int .u64 y,.pointer p]) (fs[i]?.getD 0):=by
 obtain ⟨a,cap',e,-,h⟩:=h
 simp only [Value.slice.injEq] at e
 obtain ⟨rfl,rfl,-⟩:=e
 obtain ⟨b',off',e2,s,x,y,p,h1,h2⟩:=h i fs[i] (List.getElem?_eq_getElem hi)
 simp only [Option.some.injEq,Addr.mk.injEq] at e2
 obtain ⟨rfl,rfl,-⟩:=e2
 exact ⟨s,x,y,p,h1,by rw [List.getElem?_eq_getElem hi];exact h2⟩
theorem in_parts {P:Program} {f:FuncId} {args:Array Value} {w:World} {r:Rat} (h:Calls P f args w fun e w'=>∃ v,e=.returned v∧am w' v r∧But [] w w') :
  Calls P f args w fun e w'=>∃ s x y p,e=.returned (.agg #[.bool s,.int .u64 x,.int .u64 y,.pointer p])∧am w' (.agg #[.bool s,.int .u64 x,.int .u64 y,.pointer p]) r∧But [] w w' :=
 h.mono fun e w' ⟨v,he,hv,hb⟩=>by
  obtain ⟨x,y,p,rfl,-⟩:=hv.agg
  exact ⟨_,x,y,p,he,hv,hb⟩
theorem zero_at (w:World):am w (.agg #[.bool false,.int .u64 0,.int .u64 0,.pointer none]) 0:=.inl ⟨by decide,by decide,rfl⟩
theorem an.behind {w0 w w':World} {v:Value} {fs:List Rat} {g:Nat} (h0:an w0 v fs) (h:an w v fs) (hb:But [g] w w') (hg:w0.heap.size≤g) (hc:∃ s,w.cell? ⟨g,0,none⟩=some (.bool s)):an w' v fs:=by
 obtain ⟨a0,cap0,e0,-,k0⟩:=h0
 obtain ⟨a,cap,rfl,hcp,k⟩:=h
 simp only [Value.slice.injEq] at e0
 obtain ⟨rfl,-,-⟩:=e0
 refine ⟨a,cap,rfl,hcp,fun i f hf=>?_⟩
 obtain ⟨b,off,rfl,h1⟩:=k i f hf
 obtain ⟨b',off',e',s,x,y,p,h2,-⟩:=k0 i f hf
 simp only [Option.some.injEq,Addr.mk.injEq] at e'
 obtain ⟨rfl,-,-⟩:=e'
 have hlt:b<w0.heap.size:=ai h2.1
 exact ⟨b,off,rfl,h1.beside hb (by simp;omega) (fun g' hg'=>by simp at hg';subst hg';exact hc)⟩
theorem info_frac:∃ i,Tryz.prog.info? 29 = some i∧i.zero=some (.agg #[.bool false,.int .u64 0,.int .u64 0,.pointer none])∧i.size=4∧i.bytes=32:=by
 have h:(Tryz.prog.info? 29).map (fun i=>(i.zero,i.size,i.bytes))=some (some (.agg #[.bool false,.int .u64 0,.int .u64 0,.pointer none]),4,32):=by kernel_rfl
 cases e:Tryz.prog.info? 29 with
 | none=>rw [e] at h;simp at h
 | some i =>
  rw [e] at h
  simp only [Option.map_some,Option.some.injEq,Prod.mk.injEq] at h
  exact ⟨i,rfl,h.1,h.2.1,h.2.2⟩
theorem run_makeF (wx:World) (n:Nat) (h:n<1000000):(Instr.makeSlice 33 (.int .i64 (n:Int)) (.int .i64 (n:Int))).run Tryz.prog wx=.ok (.slice (some ⟨wx.heap.size,0,none⟩) n n) (wx.alloc (.cells (madeCells #[.bool false,.int .u64 0,.int .u64 0,.pointer none] (n*4)) 29)):=by
 obtain ⟨ti,hi,hz,hs,hbt⟩:=info_frac
 have hmk:=run_make (P:=Tryz.prog) wx 33 29 ti _ Tryz.underlying33 hi hz .i64 .i64 (n:Int) (n:Int) (by omega) (by omega) (by rw [hbt];omega) (by omega)
 rw [hs,Int.toNat_natCast] at hmk
 exact hmk
theorem made_four (n o:Nat) (h:o<n*4):(madeCells #[Value.bool false,.int .u64 0,.int .u64 0,.pointer none] (n*4))[o]? = (#[Value.bool false,.int .u64 0,.int .u64 0,.pointer none]:Array Value)[o%4]?:=by
 unfold madeCells
 rw [Array.getElem?_map,Array.getElem?_eq_getElem (by simpa using h),Array.getElem_range,Option.map_some]
 have:o%4=0∨o%4=1∨o%4=2∨o%4=3:=by omega
 show some ((#[Value.bool false,.int .u64 0,.int .u64 0,.pointer none]:Array Value)[o%4]!)=_
 rcases this with e | e | e | e <;> (rw [e];rfl)
structure Flow2 (base:Act) (H:(Nat→Bool)→World→Prop) (C:Nat→World→Value→Prop) (T:Nat→Nat) (m:Nat) (d:Nat→Bool) (a:Act) (w:World):Prop where
 mem:H d w
 size:a.tmps.size=base.tmps.size
 defers:a.defers=base.defers
 rest:∀ t,(∀ j,j<m→t≠T j)→a.tmps[t]? = base.tmps[t]?
 has:∀ i,i<m→d i=true→C i w (a.eval (.tmp (T i)))
theorem Flow2.next {base:Act} {H:(Nat→Bool)→World→Prop} {C:Nat→World→Value→Prop} {T:Nat→Nat} {m:Nat} {d:Nat→Bool} {a:Act} {w:World} (h:Flow2 base H C T m d a w)
  (hinj:∀ i j,i<m→j<m→T i=T j→i=j) (hT:∀ i,i<m→T i<base.tmps.size)
  (i:Nat) (hi:i<m) (v:Value) (w':World) (hH:H (came d i) w') (hC:∀ j,j<m→d j=true→∀ u,C j w u→C j w' u) (hv:C i w' v):Flow2 base H C T m (came d i) (a.put (some (T i)) v) w' where
 mem:=hH
 size:=by rw [size_putted];exact h.size
 defers:=h.defers
 rest:=fun t ht=>by rw [slot_put,if_neg (fun e=>ht i hi e.symm)];exact h.rest t ht
 has:=fun j hj hd=>by
  by_cases e:j=i
  ·subst e
   rw [at_eq a (T j) v (by rw [h.size];exact hT j hj)]
   exact hv
  ·rw [came_ne d e] at hd
   rw [at_ne a (T i) (T j) v (fun e2=>e (hinj j i hj hi e2))]
   exact hC j hj hd _ (h.has j hj hd)
theorem Flow2.eval {base:Act} {H:(Nat→Bool)→World→Prop} {C:Nat→World→Value→Prop} {T:Nat→Nat} {m:Nat} {d:Nat→Bool} {a:Act} {w:World} (h:Flow2 base H C T m d a w) (t:Nat) (ht:∀ j,j<m→t≠T j):a.eval (.tmp t)=base.eval (.tmp t):=by
 show a.tmps.getD t undef=base.tmps.getD t undef
 simp only [Array.getD_eq_getD_getElem?,h.rest t ht]
theorem Flow2.puts {base:Act} {H:(Nat→Bool)→World→Prop} {C:Nat→World→Value→Prop} {T:Nat→Nat} {m:Nat} {d:Nat→Bool} {a:Act} {w:World} (h:Flow2 base H C T m d a w) (hT:∀ i,i<m→T i<base.tmps.size) (V:Nat→Value) (hV:∀ i,i<m→a.eval (.tmp (T i))=V i):a=bb base ((List.range m).map fun i=>(T i,V i)):=by
 refine putted_eq _ base a h.defers h.size (fun p hp=>?_) (fun t ht=>?_)
 ·obtain ⟨i,hi,rfl⟩:=List.mem_map.1 hp
  have hi':=List.mem_range.1 hi
  exact slot_is (hV i hi') (by rw [h.size];exact hT i hi')
 ·refine h.rest t (fun j hj e=>?_)
  exact ht (T j,V j) (List.mem_map.2 ⟨j,List.mem_range.2 hj,rfl⟩) e
theorem putted_snoc (base:Act) (l:List (Nat × Value)) (t:Nat) (v:Value):(bb base l).put (some t) v=bb base (l++[(t,v)]):=by
 unfold bb
 rw [List.foldl_append]
 rfl
theorem region_flow {P:Program} {id:Nat} {ops:Array Oper} {Q:Exit→Act→World→Prop} {base:Act} {W0:World} (hm:P.follows .mixedOrders=true)
  (hlow:∀ i o,ops[i]? = some o→∀ e ∈ o.after,Region.binds .any e=true→e.on<i)
  (hg:∀ (i:Nat) (o:Oper),ops[i]? = some o→o.guard=none)
  (H:(Nat→Bool)→World→Prop) (C:Nat→World→Value→Prop) (T:Nat→Nat) (m:Nat) (hsz:ops.size=m+1)
  (hinj:∀ i j,i<m→j<m→T i=T j→i=j) (hT:∀ i,i<m→T i<base.tmps.size) (h0:H (fun _=>false) W0.drew)
  (hall:∀ i,i<m→∃ o,ops[m]? = some o∧∃ e ∈ o.after,Region.binds .any e=true∧e.on=i)
  (hstep:∀ (d:Nat→Bool) (i:Nat) (o:Oper) (a:Act) (w:World) (K:Act→World→Prop),i<m→ops[i]? = some o→d i=false→H d w→(∀ t,(∀ j,j<m→t≠T j)→a.eval (.tmp t)=base.eval (.tmp t))→(∀ e ∈ o.after,Region.binds .any e=true→d e.on=true∧C e.on w (a.eval (.tmp (T e.on))))→(∀ v w',H (came d i) w'→(∀ j,j<m→d j=true→∀ u,C j w u→C j w' u)→C i w' v→K (a.put (some (T i)) v) w')→o.wp P a w K Q)
  (Fin:Act→World→Prop)
  (hlast:∀ (d:Nat→Bool) (o:Oper) (a:Act) (w:World) (K:Act→World→Prop),ops[m]? = some o→(∀ i,i<m→d i=true)→Flow2 base H C T m d a w→(∀ a' w',Fin a' w'→K a' w')→o.wp P a w K Q)
  (hend:∀ a w,Fin a w→Q .normal a w) :
  (Code.region id ops true).wp P Q base W0:=by
 have wpo:∀ i o a w (K:Act→World→Prop),ops[i]? = some o→o.wp P a w K Q→wpOp P ops Q i K a w:=fun i o a w K ho h=>by
  unfold wpOp
  simp only [ho,Region.wanted,hg i o ho,if_true]
  exact .inl h
 refine region_inv hm hlow (fun d a w=>if d m=true then (Fin a w∧∀ i,i<m→d i=true) else Flow2 base H C T m d a w) ?_ ?_ ?_
 ·simp only [Bool.false_eq_true,if_false]
  exact ⟨h0,rfl,rfl,fun _ _=>rfl,fun _ _ h=>by simp at h⟩
 ·intro d a w hd h
  rw [if_pos (hd m (by omega))] at h
  exact hend a w h.1
 ·intro d i o a w ho hdi hdep h
  refine wpo i o a w _ ho ?_
  have hi:i<m+1:=by rw [← hsz];exact (Array.getElem?_eq_some_iff.1 ho).1
  by_cases e:i=m
  ·subst e
   rw [if_neg (by rw [hdi];simp)] at h
   have hd:∀ j,j<i→d j=true:=fun j hj=>by
    obtain ⟨o',ho',ed,he,hb,rfl⟩:=hall j hj
    rw [ho] at ho'
    obtain rfl:=Option.some.inj ho'
    exact hdep ed he hb
   refine hlast d o a w _ ho hd h (fun a' w' hf=>?_)
   rw [if_pos (came_self d i)]
   exact ⟨hf,fun j hj=>by rw [came_ne d (by omega)];exact hd j hj⟩
  ·have him:i<m:=by omega
   by_cases hdm:d m=true
   ·exfalso
    rw [if_pos hdm] at h
    rw [h.2 i him] at hdi
    simp at hdi
   ·rw [if_neg hdm] at h
    refine hstep d i o a w _ him ho hdi h.mem (fun t ht=>h.eval t ht) (fun ed he hb=>⟨hdep ed he hb,h.has _ (by have:=hlow i o ho ed he hb;omega) (hdep ed he hb)⟩) (fun v w' hH hC hv=>?_)
    rw [if_neg (by rw [came_ne d (Ne.symm e)];exact hdm)]
    exact h.next hinj hT i him v w' hH hC hv
def Down (ops:Array Oper) (d:Nat→Bool):Prop:=∀ i o,ops[i]? = some o→d i=true→∀ e ∈ o.after,Region.binds .any e=true→d e.on=true
structure Run (W:World) (ops:Array Oper) (base:Act) (C:Nat→World→Value→Prop) (T:Nat→Nat) (d:Nat→Bool) (a:Act) (w:World):Prop where
 down:Down ops d
 but:But [] W w
 size:a.tmps.size=base.tmps.size
 defers:a.defers=base.defers
 rest:∀ t,(∀ j,j<ops.size→d j=true→t≠T j)→a.tmps[t]? = base.tmps[t]?
 has:∀ i,i<ops.size→d i=true→C i w (a.eval (.tmp (T i)))
theorem Run.eval {W:World} {ops:Array Oper} {base:Act} {C:Nat→World→Value→Prop} {T:Nat→Nat} {d:Nat→Bool} {a:Act} {w:World} (h:Run W ops base C T d a w) (t:Nat) (ht:∀ j,j<ops.size→d j=true→t≠T j):a.eval (.tmp t)=base.eval (.tmp t):=by
 show a.tmps.getD t undef=base.tmps.getD t undef
 simp only [Array.getD_eq_getD_getElem?,h.rest t ht]
theorem Run.next {W:World} {ops:Array Oper} {base:Act} {C:Nat→World→Value→Prop} {T:Nat→Nat} {d:Nat→Bool} {a:Act} {w:World} (h:Run W ops base C T d a w)
  (hinj:∀ i j,i<ops.size→j<ops.size→T i=T j→i=j) (hT:∀ i,i<ops.size→T i<base.tmps.size) (hC:∀ i w w' v,i<ops.size→C i w v→But [] w w'→C i w' v)
  (i:Nat) (o:Oper) (ho:ops[i]? = some o) (hdep:∀ e ∈ o.after,Region.binds .any e=true→d e.on=true) (v:Value) (w':World) (hb:But [] w w') (hv:C i w' v):Run W ops base C T (came d i) (a.put (some (T i)) v) w':=by
 have hi:i<ops.size:=(Array.getElem?_eq_some_iff.1 ho).1
 refine ⟨fun j oj hj hd e he hbi=>?_,h.but.trans' hb,by rw [size_putted];exact h.size,h.defers,fun t ht=>?_,fun j hj hd=>?_⟩
 ·by_cases e1:e.on=i
  ·rw [e1];exact came_self d i
  ·rw [came_ne d e1]
   by_cases e2:j=i
   ·subst e2
    rw [ho] at hj
    obtain rfl:=Option.some.inj hj
    exact hdep e he hbi
   ·rw [came_ne d e2] at hd
    exact h.down j oj hj hd e he hbi
 ·rw [slot_put,if_neg (fun e=>ht i hi (came_self d i) e.symm)]
  exact h.rest t (fun j hj hd=>by
   by_cases e:j=i
   ·subst e;exact ht j hj (came_self d j)
   ·exact ht j hj (by rw [came_ne d e];exact hd))
 ·by_cases e:j=i
  ·subst e
   rw [at_eq a (T j) v (by rw [h.size];exact hT j hj)]
   exact hv
  ·rw [came_ne d e] at hd
   rw [at_ne a (T i) (T j) v (fun e2=>e (hinj j i hj hi e2))]
   exact hC j w w' _ hj (h.has j hj hd) hb
def plainOps (ops:Array Oper) (T:Nat→Nat):Bool:=(List.range ops.size).all fun i=>match ops[i]? with
 | some o=>(o.dst==some (T i)) && (match o.guard with | none=>true | some (j,_)=>decide (j<ops.size) && o.after.any fun e=>Region.binds .any e && e.on==j)
 | none=>true
theorem plain_of {ops:Array Oper} {T:Nat→Nat} (h:plainOps ops T=true):∀ (i:Nat) (o:Oper),ops[i]? = some o→o.dst=some (T i)∧∀ j want,o.guard=some (j,want)→j<ops.size∧∃ e ∈ o.after,Region.binds .any e=true∧e.on=j:=fun i o ho=>by
 have hi:i<ops.size:=(Array.getElem?_eq_some_iff.1 ho).1
 unfold plainOps at h
 rw [List.all_eq_true] at h
 have h1:=h i (List.mem_range.2 hi)
 simp only [ho,Bool.and_eq_true,beq_iff_eq] at h1
 refine ⟨h1.1,fun j want hg=>?_⟩
 have h2:=h1.2
 rw [hg] at h2
 simp only [Bool.and_eq_true,decide_eq_true_eq] at h2
 refine ⟨h2.1,?_⟩
 have h3:=h2.2
 rw [Array.any_eq_true] at h3
 obtain ⟨k,hk,h4⟩:=h3
 simp only [Bool.and_eq_true,beq_iff_eq] at h4
 exact ⟨o.after[k],Array.getElem_mem hk,h4.1,h4.2⟩
theorem region_go {P:Program} {id:Nat} {ops:Array Oper} {Q:Exit→Act→World→Prop} {base:Act} {W0:World} (hm:P.follows .mixedOrders=true)
  (hlow:∀ i o,ops[i]? = some o→∀ e ∈ o.after,Region.binds .any e=true→e.on<i)
  (C:Nat→World→Value→Prop) (T:Nat→Nat) (hpl:plainOps ops T=true)
  (hgd:∀ (i:Nat) (o:Oper) (j:Nat) (want:Bool),ops[i]? = some o→o.guard=some (j,want)→∀ w v,C j w v→v=.bool want)
  (hinj:∀ i j,i<ops.size→j<ops.size→T i=T j→i=j) (hT:∀ i,i<ops.size→T i<base.tmps.size) (hC:∀ i w w' v,i<ops.size→C i w v→But [] w w'→C i w' v)
  (hstep:∀ (i:Nat) (o:Oper) (a:Act) (w:World) (K:Act→World→Prop),ops[i]? = some o→But [] W0.drew w→(∀ t,(∀ j,j<ops.size→t=T j→∃ oj,ops[j]? = some oj∧∃ e ∈ oj.after,Region.binds .any e=true∧e.on=i)→a.eval (.tmp t)=base.eval (.tmp t))→(∀ e ∈ o.after,Region.binds .any e=true→C e.on w (a.eval (.tmp (T e.on))))→(∀ v w',But [] w w'→C i w' v→K (a.put o.dst v) w')→o.wp P a w K Q)
  (hend:∀ a w,Run W0.drew ops base C T (fun _=>true) a w→Q .normal a w) :
  (Code.region id ops true).wp P Q base W0:=by
 have hp:=plain_of hpl
 refine region_inv hm hlow (fun d a w=>Run W0.drew ops base C T d a w) ?_ ?_ ?_
 ·exact ⟨fun _ _ _ h=>by simp at h,But.refl _ _,rfl,rfl,fun _ _=>rfl,fun _ _ h=>by simp at h⟩
 ·intro d a w hd h
  refine hend a w ⟨fun _ _ _ _ _ _ _=>rfl,h.but,h.size,h.defers,fun t ht=>h.rest t (fun j hj _=>ht j hj rfl),fun i hi _=>h.has i hi (hd i hi)⟩
 ·intro d i o a w ho hdi hdep h
  have hi:i<ops.size:=(Array.getElem?_eq_some_iff.1 ho).1
  obtain ⟨hdst,hg⟩:=hp i o ho
  have hw:Region.wanted o (yielded ops a.tmps)=true:=by
   unfold Region.wanted
   cases hgo:o.guard with
   | none=>rfl
   | some jw =>
    obtain ⟨j,want⟩:=jw
    obtain ⟨hj,e,he,hbi,hon⟩:=hg j want hgo
    have hdj:d j=true:=by rw [← hon];exact hdep e he hbi
    have hv:=hgd i o j want ho hgo w _ (h.has j hj hdj)
    have hoj:=Array.getElem?_eq_getElem hj
    have hdj2:=(hp j _ hoj).1
    have hsl:=slot_is hv (by rw [h.size];exact hT j hj)
    show (yielded ops a.tmps j==some want)=true
    unfold yielded
    rw [hoj,Option.bind_some,hdj2,Option.bind_some,hsl]
    simp
  unfold wpOp
  simp only [ho,hw,if_true]
  refine .inl (hstep i o a w _ ho h.but (fun t ht=>h.eval t (fun j hj hd e=>?_)) (fun e he hb=>h.has _ (by have:=hlow i o ho e he hb;omega) (hdep e he hb)) (fun v w' hb hv=>?_))
  ·obtain ⟨oj,hoj,ed,hed,hbi,hon⟩:=ht j hj e
   have:=h.down j oj hoj hd ed hed hbi
   rw [hon,hdi] at this
   simp at this
  ·rw [hdst]
   exact h.next hinj hT hC i o ho hdep v w' hb hv
theorem Run.puts {W:World} {ops:Array Oper} {base:Act} {C:Nat→World→Value→Prop} {T:Nat→Nat} {a:Act} {w:World} (h:Run W ops base C T (fun _=>true) a w) (hT:∀ i,i<ops.size→T i<base.tmps.size) (V:Nat→Value) (hV:∀ i,i<ops.size→a.eval (.tmp (T i))=V i):a=bb base ((List.range ops.size).map fun i=>(T i,V i)):=by
 refine putted_eq _ base a h.defers h.size (fun p hp=>?_) (fun t ht=>?_)
 ·obtain ⟨i,hi,rfl⟩:=List.mem_map.1 hp
  have hi':=List.mem_range.1 hi
  exact slot_is (hV i hi') (by rw [h.size];exact hT i hi')
 ·refine h.rest t (fun j hj _ e=>?_)
  exact ht (T j,V j) (List.mem_map.2 ⟨j,List.mem_range.2 hj,rfl⟩) e
theorem region_flow6 {P:Program} {id:Nat} {ops:Array Oper} {Q:Exit→Act→World→Prop} {base:Act} {W0:World} (hm:P.follows .mixedOrders=true)
  (hlow:∀ i o,ops[i]? = some o→∀ e ∈ o.after,Region.binds .any e=true→e.on<i)
  (hg:∀ (i:Nat) (o:Oper),ops[i]? = some o→o.guard=none)
  (H:Bool→World→Prop) (hH0:H false W0.drew) (hHB:∀ b w w',H b w→But [] w w'→H b w') (C:Nat→World→Value→Prop) (T:Nat→Nat) (m q:Nat) (hsz:ops.size=m+1)
  (hinj:∀ i j,i<m→j<m→T i=T j→i=j) (hT:∀ i,i<m→T i<base.tmps.size)
  (hC:∀ i w w' v,i<m→C i w v→But [] w w'→C i w' v) (hCq:∀ w v,C q w v)
  (hall:∀ i,i<m→∃ o,ops[m]? = some o∧∃ e ∈ o.after,Region.binds .any e=true∧e.on=i)
  (hstep:∀ (b:Bool) (i:Nat) (o:Oper) (a:Act) (w:World) (K:Act→World→Prop),i<m→i≠q→ops[i]? = some o→H b w→((∃ oq,ops[q]? = some oq∧∃ e ∈ oq.after,Region.binds .any e=true∧e.on=i)→b=false)→(∀ t,(∀ j,j<m→t≠T j)→a.eval (.tmp t)=base.eval (.tmp t))→(∀ e ∈ o.after,Region.binds .any e=true→C e.on w (a.eval (.tmp (T e.on))))→(∀ v w',But [] w w'→C i w' v→K (a.put (some (T i)) v) w')→o.wp P a w K Q)
  (hmute:∀ (o:Oper) (a:Act) (w:World) (K:Act→World→Prop),ops[q]? = some o→H false w→(∀ t,(∀ j,j<m→t≠T j)→a.eval (.tmp t)=base.eval (.tmp t))→(∀ e ∈ o.after,Region.binds .any e=true→C e.on w (a.eval (.tmp (T e.on))))→(∀ w',H true w'→(∀ j,j<m→∀ u,C j w u→C j w' u)→K a w')→o.wp P a w K Q)
  (Fin:Act→World→Prop)
  (hlast:∀ (d:Nat→Bool) (o:Oper) (a:Act) (w:World) (K:Act→World→Prop),ops[m]? = some o→(∀ i,i<m→d i=true)→Flow2 base (fun d w=>H (d q) w) C T m d a w→H true w→(∀ a' w',Fin a' w'→K a' w')→o.wp P a w K Q)
  (hend:∀ a w,Fin a w→Q .normal a w) (hqm:q<m) :
  (Code.region id ops true).wp P Q base W0:=by
 have wpo:∀ i o a w (K:Act→World→Prop),ops[i]? = some o→o.wp P a w K Q→wpOp P ops Q i K a w:=fun i o a w K ho h=>by
  unfold wpOp
  simp only [ho,Region.wanted,hg i o ho,if_true]
  exact .inl h
 refine region_inv hm hlow (fun d a w=>if d m=true then (Fin a w∧∀ i,i<m→d i=true) else (Flow2 base (fun d w=>H (d q) w) C T m d a w∧(d q=true→∀ oq,ops[q]? = some oq→∀ e ∈ oq.after,Region.binds .any e=true→d e.on=true))) ?_ ?_ ?_
 ·simp only [Bool.false_eq_true,if_false]
  exact ⟨⟨hH0,rfl,rfl,fun _ _=>rfl,fun _ _ h=>by simp at h⟩,fun h=>by simp at h⟩
 ·intro d a w hd h
  rw [if_pos (hd m (by omega))] at h
  exact hend a w h.1
 ·intro d i o a w ho hdi hdep h
  refine wpo i o a w _ ho ?_
  have hi:i<m+1:=by rw [← hsz];exact (Array.getElem?_eq_some_iff.1 ho).1
  by_cases e:i=m
  ·subst e
   rw [if_neg (by rw [hdi];simp)] at h
   have hd:∀ j,j<i→d j=true:=fun j hj=>by
    obtain ⟨o',ho',ed,he,hb,rfl⟩:=hall j hj
    rw [ho] at ho'
    obtain rfl:=Option.some.inj ho'
    exact hdep ed he hb
   have hHt:H (d q) w:=h.1.mem
   rw [hd q hqm] at hHt
   refine hlast d o a w _ ho hd h.1 hHt (fun a' w' hf=>?_)
   rw [if_pos (came_self d i)]
   exact ⟨hf,fun j hj=>by rw [came_ne d (by omega)];exact hd j hj⟩
  ·have him:i<m:=by omega
   by_cases hdm:d m=true
   ·exfalso
    rw [if_pos hdm] at h
    rw [h.2 i him] at hdi
    simp at hdi
   ·rw [if_neg hdm] at h
    obtain ⟨h,hs⟩:=h
    have hdp:=fun (ed:Edge) (he:ed ∈ o.after) (hb:Region.binds .any ed=true)=>h.has _ (show ed.on<m by have:=hlow i o ho ed he hb;omega) (hdep ed he hb)
    have hmem:H (d q) w:=h.mem
    by_cases eq:i=q
    ·subst eq
     rw [hdi] at hmem
     refine hmute o a w _ ho hmem (fun t ht=>h.eval t ht) hdp (fun w' hB hCw=>?_)
     rw [if_neg (by rw [came_ne d (Ne.symm e)];exact hdm)]
     refine ⟨⟨by show H (came d i i) w';rw [came_self];exact hB,h.size,h.defers,h.rest,fun j hj hd=>?_⟩,fun _ oq hoq ed he hb=>?_⟩
     ·by_cases ej:j=i
      ·rw [ej];exact hCq _ _
      ·rw [came_ne d ej] at hd
       exact hCw j hj _ (h.has j hj hd)
     ·rw [ho] at hoq
      obtain rfl:=Option.some.inj hoq
      have hk:=hdep ed he hb
      have hne:ed.on≠i:=fun e2=>by rw [e2,hdi] at hk;simp at hk
      rw [came_ne d hne];exact hk
    ·refine hstep (d q) i o a w _ him eq ho hmem (fun ⟨oq,hoq,ed,he,hb,ei⟩=>?_) (fun t ht=>h.eval t ht) hdp (fun v w' hB hv=>?_)
     ·cases hq:d q with
      | false=>rfl
      | true =>
       have:=hs hq oq hoq ed he hb
       rw [ei,hdi] at this
       simp at this
     ·rw [if_neg (by rw [came_ne d (Ne.symm e)];exact hdm)]
      refine ⟨h.next hinj hT i him v w' (by show H (came d i q) w';rw [came_ne d (Ne.symm eq)];exact hHB _ _ _ hmem hB) (fun j hj _ u hu=>hC j w w' u hj hu hB) hv,fun hq oq hoq ed he hb=>?_⟩
      rw [came_ne d (Ne.symm eq)] at hq
      have h1:=hs hq oq hoq ed he hb
      have hne:ed.on≠i:=fun e2=>by rw [e2,hdi] at h1;simp at h1
      rw [came_ne d hne];exact h1
theorem region_flow4 {P:Program} {id:Nat} {ops:Array Oper} {Q:Exit→Act→World→Prop} {base:Act} {W0:World} (hm:P.follows .mixedOrders=true)
  (hlow:∀ i o,ops[i]? = some o→∀ e ∈ o.after,Region.binds .any e=true→e.on<i)
  (hg:∀ (i:Nat) (o:Oper),ops[i]? = some o→o.guard=none)
  (H:World→Prop) (hH0:H W0.drew) (hHB:∀ w w',H w→But [] w w'→H w') (C:Nat→World→Value→Prop) (T:Nat→Nat) (m q ka:Nat) (hka:ka<m) (St:World→Value→Prop) (hsz:ops.size=m+1)
  (hinj:∀ i j,i<m→j<m→T i=T j→i=j) (hT:∀ i,i<m→T i<base.tmps.size)
  (hC:∀ i w w' v,i<m→C i w v→But [] w w'→C i w' v) (hCq:∀ w v,C q w v) (hSt:∀ w w' v,St w v→But [] w w'→St w' v)
  (hall:∀ i,i<m→∃ o,ops[m]? = some o∧∃ e ∈ o.after,Region.binds .any e=true∧e.on=i)
  (hqk:∃ o,ops[q]? = some o∧∃ e ∈ o.after,Region.binds .any e=true∧e.on=ka)
  (hstep:∀ (i:Nat) (o:Oper) (a:Act) (w:World) (K:Act→World→Prop),i<m→i≠q→ops[i]? = some o→H w→(∀ t,(∀ j,j<m→t≠T j)→a.eval (.tmp t)=base.eval (.tmp t))→(∀ e ∈ o.after,Region.binds .any e=true→C e.on w (a.eval (.tmp (T e.on))))→(∀ v w',But [] w w'→C i w' v→K (a.put (some (T i)) v) w')→o.wp P a w K Q)
  (hmute:∀ (o:Oper) (a:Act) (w:World) (K:Act→World→Prop),ops[q]? = some o→H w→(∀ t,(∀ j,j<m→t≠T j)→a.eval (.tmp t)=base.eval (.tmp t))→(∀ e ∈ o.after,Region.binds .any e=true→C e.on w (a.eval (.tmp (T e.on))))→(∀ w',H w'→(∀ j,j<m→∀ u,C j w u→C j w' u)→St w' (a.eval (.tmp (T ka)))→K a w')→o.wp P a w K Q)
  (Fin:Act→World→Prop)
  (hlast:∀ (d:Nat→Bool) (o:Oper) (a:Act) (w:World) (K:Act→World→Prop),ops[m]? = some o→(∀ i,i<m→d i=true)→Flow2 base (fun _ w=>H w) C T m d a w→St w (a.eval (.tmp (T ka)))→(∀ a' w',Fin a' w'→K a' w')→o.wp P a w K Q)
  (hend:∀ a w,Fin a w→Q .normal a w) (hqm:q<m) :
  (Code.region id ops true).wp P Q base W0:=by
 have wpo:∀ i o a w (K:Act→World→Prop),ops[i]? = some o→o.wp P a w K Q→wpOp P ops Q i K a w:=fun i o a w K ho h=>by
  unfold wpOp
  simp only [ho,Region.wanted,hg i o ho,if_true]
  exact .inl h
 refine region_inv hm hlow (fun d a w=>if d m=true then (Fin a w∧∀ i,i<m→d i=true) else (Flow2 base (fun _ w=>H w) C T m d a w∧(d q=true→d ka=true∧St w (a.eval (.tmp (T ka)))))) ?_ ?_ ?_
 ·simp only [Bool.false_eq_true,if_false]
  exact ⟨⟨hH0,rfl,rfl,fun _ _=>rfl,fun _ _ h=>by simp at h⟩,fun h=>by simp at h⟩
 ·intro d a w hd h
  rw [if_pos (hd m (by omega))] at h
  exact hend a w h.1
 ·intro d i o a w ho hdi hdep h
  refine wpo i o a w _ ho ?_
  have hi:i<m+1:=by rw [← hsz];exact (Array.getElem?_eq_some_iff.1 ho).1
  by_cases e:i=m
  ·subst e
   rw [if_neg (by rw [hdi];simp)] at h
   have hd:∀ j,j<i→d j=true:=fun j hj=>by
    obtain ⟨o',ho',ed,he,hb,rfl⟩:=hall j hj
    rw [ho] at ho'
    obtain rfl:=Option.some.inj ho'
    exact hdep ed he hb
   refine hlast d o a w _ ho hd h.1 (h.2 (hd q hqm)).2 (fun a' w' hf=>?_)
   rw [if_pos (came_self d i)]
   exact ⟨hf,fun j hj=>by rw [came_ne d (by omega)];exact hd j hj⟩
  ·have him:i<m:=by omega
   by_cases hdm:d m=true
   ·exfalso
    rw [if_pos hdm] at h
    rw [h.2 i him] at hdi
    simp at hdi
   ·rw [if_neg hdm] at h
    obtain ⟨h,hs⟩:=h
    have hdp:=fun (ed:Edge) (he:ed ∈ o.after) (hb:Region.binds .any ed=true)=>h.has _ (show ed.on<m by have:=hlow i o ho ed he hb;omega) (hdep ed he hb)
    by_cases eq:i=q
    ·subst eq
     refine hmute o a w _ ho h.mem (fun t ht=>h.eval t ht) hdp (fun w' hB hCw hSw=>?_)
     rw [if_neg (by rw [came_ne d (Ne.symm e)];exact hdm)]
     refine ⟨⟨hB,h.size,h.defers,h.rest,fun j hj hd=>?_⟩,fun _=>?_⟩
     ·by_cases ej:j=i
      ·rw [ej];exact hCq _ _
      ·rw [came_ne d ej] at hd
       exact hCw j hj _ (h.has j hj hd)
     ·obtain ⟨o',ho',ed,he,hb,ek⟩:=hqk
      rw [ho] at ho'
      obtain rfl:=Option.some.inj ho'
      have hk:=hdep ed he hb
      rw [ek] at hk
      have hne:ka≠i:=fun e2=>by rw [e2,hdi] at hk;simp at hk
      exact ⟨by rw [came_ne d hne];exact hk,hSw⟩
    ·refine hstep i o a w _ him eq ho h.mem (fun t ht=>h.eval t ht) hdp (fun v w' hB hv=>?_)
     rw [if_neg (by rw [came_ne d (Ne.symm e)];exact hdm)]
     refine ⟨h.next hinj hT i him v w' (hHB _ _ h.mem hB) (fun j hj _ u hu=>hC j w w' u hj hu hB) hv,fun hq=>?_⟩
     rw [came_ne d (Ne.symm eq)] at hq
     obtain ⟨h1,h2⟩:=hs hq
     have hne:ka≠i:=fun e2=>by rw [e2,hdi] at h1;simp at h1
     refine ⟨by rw [came_ne d hne];exact h1,?_⟩
     rw [at_ne a (T i) (T ka) v (fun e2=>hne (hinj ka i hka him e2))]
     exact hSt w w' _ h2 hB
theorem region_flow3 {P:Program} {id:Nat} {ops:Array Oper} {Q:Exit→Act→World→Prop} {base:Act} {W0:World} (hm:P.follows .mixedOrders=true)
  (hlow:∀ i o,ops[i]? = some o→∀ e ∈ o.after,Region.binds .any e=true→e.on<i)
  (hg:∀ (i:Nat) (o:Oper),ops[i]? = some o→o.guard=none)
  (C:Nat→World→Value→Prop) (T:Nat→Nat) (m q ka:Nat) (hka:ka<m) (St:World→Value→Prop) (hsz:ops.size=m+1)
  (hinj:∀ i j,i<m→j<m→T i=T j→i=j) (hT:∀ i,i<m→T i<base.tmps.size)
  (hC:∀ i w w' v,i<m→C i w v→But [] w w'→C i w' v) (hCq:∀ w v,C q w v) (hSt:∀ w w' v,St w v→But [] w w'→St w' v)
  (hall:∀ i,i<m→∃ o,ops[m]? = some o∧∃ e ∈ o.after,Region.binds .any e=true∧e.on=i)
  (hqk:∃ o,ops[q]? = some o∧∃ e ∈ o.after,Region.binds .any e=true∧e.on=ka)
  (hstep:∀ (i:Nat) (o:Oper) (a:Act) (w:World) (K:Act→World→Prop),i<m→i≠q→ops[i]? = some o→But [] W0.drew w→(∀ t,(∀ j,j<m→t≠T j)→a.eval (.tmp t)=base.eval (.tmp t))→(∀ e ∈ o.after,Region.binds .any e=true→C e.on w (a.eval (.tmp (T e.on))))→(∀ v w',But [] w w'→C i w' v→K (a.put (some (T i)) v) w')→o.wp P a w K Q)
  (hmute:∀ (o:Oper) (a:Act) (w:World) (K:Act→World→Prop),ops[q]? = some o→But [] W0.drew w→(∀ t,(∀ j,j<m→t≠T j)→a.eval (.tmp t)=base.eval (.tmp t))→(∀ e ∈ o.after,Region.binds .any e=true→C e.on w (a.eval (.tmp (T e.on))))→(∀ w',But [] W0.drew w'→(∀ j,j<m→∀ u,C j w u→C j w' u)→St w' (a.eval (.tmp (T ka)))→K a w')→o.wp P a w K Q)
  (Fin:Act→World→Prop)
  (hlast:∀ (d:Nat→Bool) (o:Oper) (a:Act) (w:World) (K:Act→World→Prop),ops[m]? = some o→(∀ i,i<m→d i=true)→Flow2 base (fun _ w=>But [] W0.drew w) C T m d a w→St w (a.eval (.tmp (T ka)))→(∀ a' w',Fin a' w'→K a' w')→o.wp P a w K Q)
  (hend:∀ a w,Fin a w→Q .normal a w) (hqm:q<m) :
  (Code.region id ops true).wp P Q base W0 :=
 region_flow4 hm hlow hg (fun w=>But [] W0.drew w) (But.refl _ _) (fun _ _ h hb=>h.trans' hb) C T m q ka hka St hsz hinj hT hC hCq hSt hall hqk hstep hmute Fin hlast hend hqm
end Go.Proofs.YtlckjpelcmjimaaGreatDoor
