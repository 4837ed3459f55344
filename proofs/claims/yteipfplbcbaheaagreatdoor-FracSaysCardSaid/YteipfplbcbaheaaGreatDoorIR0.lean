/- Regions that draw their order: what hold -/
import Derived.Deep.RegionHeld
import Derived.RangeFuncCalls
import Derived.OrdersIn
import Derived.Test.YteipfplbcbaheaaGreatDoorIF1
import Derived.Test.YteipfplbcbaheaaGreatDoorIHB
namespace Go.Proofs.YteipfplbcbaheaaGreatDoor
open Go.RowKit
def came (d:Nat→Bool) (i:Nat):Nat→Bool:=fun j=>if j=i then true else d j
theorem came_self (d:Nat→Bool) (i:Nat):came d i i=true:=by simp [came]
theorem came_ne (d:Nat→Bool) {i j:Nat} (h:j≠i):came d i j=d j:=by simp [came,h]
theorem region_inv {P:Program} {id:Nat} {ops:Array Oper} {Q:Exit→Act→World→Prop} {base:Act} {W0:World} (hm:P.follows .mixedOrders=true)
  (hlow:∀ i o,ops[i]? = some o→∀ e ∈ o.after,Region.binds .any e=true→e.on<i)
  (J:(Nat→Bool)→Act→World→Prop) (h0:J (fun _=>false) base W0.drew)
  (hend:∀ d a w,(∀ i,i<ops.size→d i=true)→J d a w→Q .normal a w)
  (hstep:∀ d i o a w,ops[i]? = some o→d i=false→(∀ e ∈ o.after,Region.binds .any e=true→d e.on=true)→J d a w→wpOp P ops Q i (J (came d i)) a w) :
  (Code.region id ops true).wp P Q base W0:=by
 refine wp_region_any hm ?_
 show wpAny P .any ops Q ops.size (Array.replicate ops.size false) base W0.drew
 have none_ready:∀ (l:Array Bool),l.toList.count false=0→Region.ready .any ops l=[]:=fun l hc=>by
  refine List.eq_nil_iff_forall_not_mem.2 fun i hi=>?_
  obtain ⟨hf,o,ho,hd⟩:=mem_ready.1 hi
  rw [List.count_eq_zero] at hc
  rcases Nat.lt_or_ge i l.size with h1 | h1
  ·simp only [Array.getD_eq_getD_getElem?,Array.getElem?_eq_getElem h1,Option.getD_some] at hf
   exact hc (by rw [← hf];exact Array.getElem_mem_toList h1)
  ·simp [Array.getElem?_eq_none h1] at hf
 have end_:∀ (l:Array Bool) a w,l.size=ops.size→J (fun i=>l.getD i false) a w→Region.ready .any ops l=[]→Q .normal a w:=fun l a w hs hJ hr=>by
  refine hend _ a w (fun i=>?_) hJ
  induction i using Nat.strongRecOn with
  | _ i ih =>
   intro hi
   cases e:l.getD i false with
   | true=>rfl
   | false =>
    exfalso
    have hmem:i ∈ Region.ready .any ops l:=mem_ready.2 ⟨by
     simp only [Array.getD_eq_getD_getElem?,Array.getElem?_eq_getElem (show i<l.size by omega),Option.getD_some] at e ⊢
     exact e,ops[i],Array.getElem?_eq_getElem hi,fun e he hb=>by
      have hl:=hlow i ops[i] (Array.getElem?_eq_getElem hi) e he hb
      exact ih e.on hl (by omega)⟩
    rw [hr] at hmem
    simp at hmem
 have key:∀ n (l:Array Bool) a w,l.size=ops.size∧l.toList.count false=n∧J (fun i=>l.getD i false) a w→wpAny P .any ops Q n l a w:=by
  intro n
  induction n with
  | zero=>rintro l a w ⟨hs,hc,hJ⟩;exact ⟨none_ready l hc,end_ l a w hs hJ (none_ready l hc)⟩
  | succ n ih =>
   rintro l a w ⟨hs,hc,hJ⟩
   refine ⟨end_ l a w hs hJ,fun i hi=>?_⟩
   obtain ⟨hf,o,ho,hd⟩:=mem_ready.1 hi
   have hlt:i<l.size:=by rw [hs];exact (Array.getElem?_eq_some_iff.1 ho).1
   have hg:l[i]=false:=by simpa [hlt] using hf
   have hf':l.getD i false=false:=by simp [hlt,hg]
   refine wpOp_mono (fun a' w' h'=>ih _ a' w' ⟨by simp [hs],?_,?_⟩) (hstep _ i o a w ho hf' hd hJ)
   ·rw [Array.toList_setIfInBounds,List.count_set (by simpa using hlt)]
    simp [hg,hc]
   ·have e:(fun j=>(l.setIfInBounds i true).getD j false)=came (fun j=>l.getD j false) i:=funext fun j=>by
     by_cases hj:j=i
     ·subst hj;simp [came,hlt]
     ·simp [came,hj,Array.getElem?_setIfInBounds_ne (Ne.symm hj)]
    rw [e];exact h'
 exact key _ _ _ _ ⟨by simp,by simp,by
  have e:(fun i=>(Array.replicate ops.size false).getD i false)=fun _=>false:=funext fun i=>by
   simp only [Array.getD_eq_getD_getElem?,Array.getElem?_replicate]
   split <;> rfl
  rw [e];exact h0⟩
theorem op_value {P:Program} {ops:Array Oper} {Q:Exit→Act→World→Prop} {i:Nat} {K:Act→World→Prop} {a:Act} {w w':World} {o:Oper} {v:Value} (ho:ops[i]? = some o) (hg:o.guard=none) (hr:(execOp a.eval o).run P w=.ok (.value v) w') (h:K (a.put o.dst v) w'):wpOp P ops Q i K a w:=by
 unfold wpOp
 simp only [ho,Region.wanted,hg,if_true,Oper.wp,hr,Oper.upon_value]
 exact .inl h
theorem op_skip {P:Program} {ops:Array Oper} {Q:Exit→Act→World→Prop} {i:Nat} {K:Act→World→Prop} {a:Act} {w w':World} {o:Oper} (ho:ops[i]? = some o) (hg:o.guard=none) (hr:(execOp a.eval o).run P w=.ok .skip w') (h:K (a.put o.dst undef) w'):wpOp P ops Q i K a w:=by
 unfold wpOp
 simp only [ho,Region.wanted,hg,if_true,Oper.wp,hr,Oper.upon_skip]
 exact .inl h
theorem op_enter {P:Program} {ops:Array Oper} {Q:Exit→Act→World→Prop} {i:Nat} {K:Act→World→Prop} {a:Act} {w:World} {o:Oper} {f:FuncId} {args:Array Value} (ho:ops[i]? = some o) (hg:o.guard=none) (hr:(execOp a.eval o).run P w=.ok (.enter f args) w) {R:World→Value→Prop} (hc:Calls P f args w fun e w'=>∃ v,e=.returned v∧R w' v) (h:∀ v w',R w' v→K (a.put o.dst v) w'):wpOp P ops Q i K a w:=by
 unfold wpOp
 simp only [ho,Region.wanted,hg,if_true,Oper.wp,hr,Oper.upon_enter]
 refine .inl (hc.mono ?_)
 rintro e w' ⟨v,rfl,hv⟩
 exact h v w' hv
theorem at_ne (a:Act) (d t:Nat) (v:Value) (h:t≠d):(a.put (some d) v).eval (.tmp t)=a.eval (.tmp t):=by
 show (a.tmps.setIfInBounds d v).getD t undef=a.tmps.getD t undef
 simp only [Array.getD_eq_getD_getElem?,Array.getElem?_setIfInBounds_ne (Ne.symm h)]
theorem at_eq (a:Act) (d:Nat) (v:Value) (h:d<a.tmps.size):(a.put (some d) v).eval (.tmp d)=v:=by
 show (a.tmps.setIfInBounds d v).getD d undef=v
 simp [h]
theorem slot_is {a:Act} {t:Nat} {v:Value} (h:a.eval (.tmp t)=v) (hs:t<a.tmps.size):a.tmps[t]? = some v:=by
 have e:a.tmps.getD t undef=v:=h
 rw [Array.getD_eq_getD_getElem?,Array.getElem?_eq_getElem hs] at e
 rw [Array.getElem?_eq_getElem hs]
 exact congrArg some e
theorem slot_put (a:Act) (d t:Nat) (v:Value):(a.put (some d) v).tmps[t]? = if d=t then (if d<a.tmps.size then some v else none) else a.tmps[t]?:=by
 show (a.tmps.setIfInBounds d v)[t]? = _
 rw [Array.getElem?_setIfInBounds]
theorem size_putted (a:Act) (d:Nat) (v:Value):(a.put (some d) v).tmps.size=a.tmps.size:=by
 show (a.tmps.setIfInBounds d v).size=a.tmps.size
 simp
def putted (base:Act) (ps:List (Nat × Value)):Act:=ps.foldl (fun b p=>b.put (some p.1) p.2) base
theorem putted_eq:∀ (ps:List (Nat × Value)) (base a:Act),a.defers=base.defers→a.tmps.size=base.tmps.size→(∀ p ∈ ps,a.tmps[p.1]? = some p.2)→(∀ t,(∀ p ∈ ps,t≠p.1)→a.tmps[t]? = base.tmps[t]?)→a=putted base ps
 | [],base,a,h1,_,_,h4=>by
  cases a
  cases base
  simp only at h1 h4
  show Act.mk _ _=Act.mk _ _
  rw [Array.ext_getElem? (fun t=>h4 t (fun p hp=>by simp at hp)),h1]
 | (d,v)::ps,base,a,h1,h2,h3,h4=>by
  have hd:=h3 (d,v) (by simp)
  simp only at hd
  have hlt:d<base.tmps.size:=by
   rw [← h2]
   exact (Array.getElem?_eq_some_iff.1 hd).1
  refine putted_eq ps (base.put (some d) v) a h1 (by rw [size_putted];exact h2) (fun p hp=>h3 p (by simp [hp])) (fun t ht=>?_)
  rw [slot_put]
  by_cases e:d=t
  ·subst e
   rw [if_pos rfl,if_pos hlt]
   exact hd
  ·rw [if_neg e]
   refine h4 t (fun p hp=>?_)
   rcases List.mem_cons.1 hp with rfl | hp
   ·exact Ne.symm e
   ·exact ht p hp
def Full (w:World) (b:Nat) (v:Value):Prop:=∃ vs:Array Value,v=.agg vs∧∀ j,w.cell? ⟨b,j,none⟩=vs[j]?
theorem Full.but {w w':World} {b:Nat} {v:Value} {l:List Nat} (h:Full w b v) (hb:But l w w') (hl:b<w.heap.size) (hn:b ∉ l):Full w' b v:=by
 obtain ⟨vs,e,h⟩:=h
 exact ⟨vs,e,fun j=>(hb.cell (p:=⟨b,j,none⟩) hl hn).trans (h j)⟩
structure Limb (W w:World) (a:Act) (cd pd:Nat) (R:World→Value→Prop) (Z:Array Value) (lc lp ls:Bool) (v:Value) (b:Nat):Prop where
 val:lc=true→a.eval (.tmp cd)=v∧R w v
 place:lp=true→a.eval (.tmp pd)=.pointer (some ⟨b,0,none⟩)∧W.heap.size≤b∧b<w.heap.size∧∀ j,w.frozen? ⟨b,j,none⟩=false
 full:ls=true→lp=true∧lc=true∧Full w b v
 void:lp=true→ls=false→∀ j,w.cell? ⟨b,j,none⟩=Z[j]?
theorem Limb.put {W w:World} {a:Act} {cd pd:Nat} {R:World→Value→Prop} {Z:Array Value} {lc lp ls:Bool} {v:Value} {b:Nat} (h:Limb W w a cd pd R Z lc lp ls v b) (d:Nat) (u:Value) (h1:cd≠d) (h2:pd≠d):Limb W w (a.put (some d) u) cd pd R Z lc lp ls v b :=
 ⟨fun e=>⟨(at_ne a d cd u h1).trans (h.val e).1,(h.val e).2⟩,fun e=>⟨(at_ne a d pd u h2).trans (h.place e).1,(h.place e).2⟩,h.full,h.void⟩
theorem Limb.world {W w w':World} {a:Act} {cd pd:Nat} {R:World→Value→Prop} {Z:Array Value} {lc lp ls:Bool} {v:Value} {b:Nat} {l:List Nat} (h:Limb W w a cd pd R Z lc lp ls v b) (hb:But l w w') (hn:lp=true→b ∉ l) (hR:R w v→R w' v):Limb W w' a cd pd R Z lc lp ls v b :=
 ⟨fun e=>⟨(h.val e).1,hR (h.val e).2⟩,fun e=>by
  obtain ⟨h1,h2,h3,h4⟩:=h.place e
  exact ⟨h1,h2,Nat.lt_of_lt_of_le h3 hb.size,fun j=>(hb.frozen (p:=⟨b,j,none⟩) h3 (hn e)).trans (h4 j)⟩,fun e=>by
  obtain ⟨h1,h2,h3⟩:=h.full e
  exact ⟨h1,h2,h3.but hb (h.place h1).2.2.1 (hn h1)⟩,fun e f j=>(hb.cell (p:=⟨b,j,none⟩) (h.place e).2.2.1 (hn e)).trans (h.void e f j)⟩
structure Two (W:World) (base:Act) (t0 c1 t2 c3 p4 p5:Nat) (A0 A2:Value) (Rx Ry:World→Value→Prop) (Zx Zy:Array Value) (d:Nat→Bool) (a:Act) (w:World) (vx vy:Value) (bx bY:Nat):Prop where
 but:But [] W w
 size:a.tmps.size=base.tmps.size
 defers:a.defers=base.defers
 rest:∀ t,t≠t0→t≠c1→t≠t2→t≠c3→t≠p4→t≠p5→a.tmps[t]? = base.tmps[t]?
 a0:d 0=true→a.eval (.tmp t0)=A0
 a2:d 2=true→a.eval (.tmp t2)=A2
 x:Limb W w a c1 p4 Rx Zx (d 1) (d 4) (d 6) vx bx
 y:Limb W w a c3 p5 Ry Zy (d 3) (d 5) (d 7) vy bY
 ne:d 4=true→d 5=true→bx≠bY
theorem rest_eval {base a:Act} {t:Nat} (h:a.tmps[t]? = base.tmps[t]?):a.eval (.tmp t)=base.eval (.tmp t):=by
 show a.tmps.getD t undef=base.tmps.getD t undef
 simp only [Array.getD_eq_getD_getElem?,h]
end Go.Proofs.YteipfplbcbaheaaGreatDoor

namespace Go.Proofs.YteipfplbcbaheaaGreatDoor
open Go.RowKit
theorem wp_value {P:Program} {Q:Exit→Act→World→Prop} {K:Act→World→Prop} {a:Act} {w w':World} {o:Oper} {v:Value} (hr:(execOp a.eval o).run P w=.ok (.value v) w') (h:K (a.put o.dst v) w'):o.wp P a w K Q:=by
 unfold Oper.wp
 rw [hr]
 exact h
theorem wp_enter {P:Program} {Q:Exit→Act→World→Prop} {K:Act→World→Prop} {a:Act} {w:World} {o:Oper} {f:FuncId} {args:Array Value} (hr:(execOp a.eval o).run P w=.ok (.enter f args) w) {R:World→Value→Prop} (hc:Calls P f args w fun e w'=>∃ v,e=.returned v∧R w' v) (h:∀ v w',R w' v→K (a.put o.dst v) w'):o.wp P a w K Q:=by
 unfold Oper.wp
 rw [hr]
 refine hc.mono ?_
 rintro e w' ⟨v,rfl,hv⟩
 exact h v w' hv
end Go.Proofs.YteipfplbcbaheaaGreatDoor

namespace Go.Proofs.YteipfplbcbaheaaGreatDoor
open Go.RowKit
theorem Limb.make {W w w':World} {a:Act} {cd pd:Nat} {R:World→Value→Prop} {Z:Array Value} {lp ls:Bool} {v0:Value} {b:Nat} (h:Limb W w a cd pd R Z false lp ls v0 b) (hb:But [] w w') (v:Value) (hv:R w' v) (hs:cd<a.tmps.size) (hne:pd≠cd):Limb W w' (a.put (some cd) v) cd pd R Z true lp ls v b :=
 ⟨fun _=>⟨at_eq a cd v hs,hv⟩,fun e=>by
  obtain ⟨h1,h2,h3,h4⟩:=h.place e
  exact ⟨(at_ne a cd pd v hne).trans h1,h2,Nat.lt_of_lt_of_le h3 hb.size,fun j=>(hb.frozen (p:=⟨b,j,none⟩) h3 (by simp)).trans (h4 j)⟩,fun e=>by
  have:=(h.full e).2.1
  simp at this,fun e f j=>(hb.cell (p:=⟨b,j,none⟩) (h.place e).2.2.1 (by simp)).trans (h.void e f j)⟩
theorem Limb.lay {W w:World} {a:Act} {cd pd:Nat} {R:World→Value→Prop} {Z:Array Value} {lc ls:Bool} {v:Value} {b:Nat} (h:Limb W w a cd pd R Z lc false ls v b) (hB:But [] W w) (t:TypeId) (hs:pd<a.tmps.size) (hne:cd≠pd) (hR:R w v→R (w.alloc (.cells Z t)) v):Limb W (w.alloc (.cells Z t)) (a.put (some pd) (.pointer (some ⟨w.heap.size,0,none⟩))) cd pd R Z lc true ls v w.heap.size :=
 ⟨fun e=>⟨(at_ne a pd cd _ hne).trans (h.val e).1,hR (h.val e).2⟩,fun _=>⟨at_eq a pd _ hs,hB.size,by simp,fun j=>by simp⟩,fun e=>by
  have:=(h.full e).1
  simp at this,fun _ _ j=>by simp⟩
theorem Limb.store {W w w':World} {a:Act} {cd pd:Nat} {R:World→Value→Prop} {Z:Array Value} {v:Value} {b:Nat} (h:Limb W w a cd pd R Z true true false v b) (hb:But [b] w w') (hf:Full w' b v) (hz:∀ j,w'.frozen? ⟨b,j,none⟩=false) (hR:R w v→R w' v):Limb W w' a cd pd R Z true true true v b :=
 ⟨fun e=>⟨(h.val e).1,hR (h.val e).2⟩,fun e=>⟨(h.place e).1,(h.place e).2.1,Nat.lt_of_lt_of_le (h.place e).2.2.1 hb.size,hz⟩,fun _=>⟨rfl,rfl,hf⟩,fun _ f=>by simp at f⟩
theorem rest_put' {base a:Act} {d t:Nat} {v:Value} (hr:a.tmps[t]? = base.tmps[t]?) (hd:t≠d):(a.put (some d) v).tmps[t]? = base.tmps[t]?:=by
 rw [← hr]
 show (a.tmps.setIfInBounds d v)[t]? = a.tmps[t]?
 exact Array.getElem?_setIfInBounds_ne (Ne.symm hd)
theorem size_put' {base a:Act} {d:Nat} {v:Value} (h:a.tmps.size=base.tmps.size):(a.put (some d) v).tmps.size=base.tmps.size:=by rw [size_putted,h]
def Makes (P:Program) (ops:Array Oper) (Q:Exit→Act→World→Prop) (i pd:Nat) (Z:Array Value) (t:TypeId):Prop:=∀ (a:Act) (w:World) (K:Act→World→Prop),K (a.put (some pd) (.pointer (some ⟨w.heap.size,0,none⟩))) (w.alloc (.cells Z t))→wpOp P ops Q i K a w
def Stores (P:Program) (ops:Array Oper) (Q:Exit→Act→World→Prop) (i cd pd:Nat) (R:World→Value→Prop) (Z:Array Value):Prop:=∀ (a:Act) (w:World) (K:Act→World→Prop) (b:Nat) (v:Value),a.eval (.tmp pd)=.pointer (some ⟨b,0,none⟩)→a.eval (.tmp cd)=v→R w v→(∀ j,w.cell? ⟨b,j,none⟩=Z[j]?)→(∀ j,w.frozen? ⟨b,j,none⟩=false)→(∀ w',But [b] w w'→Full w' b v→(∀ j,w'.frozen? ⟨b,j,none⟩=false)→K a w')→wpOp P ops Q i K a w
structure Stays (R:World→Value→Prop):Prop where
 but:∀ w w' v,R w v→But [] w w'→R w' v
 over:∀ w w' v g s,R w v→w.cell? ⟨g,0,none⟩=some (.bool s)→But [g] w w'→R w' v
theorem region_two {P:Program} {id:Nat} {ops:Array Oper} {Q:Exit→Act→World→Prop} {base:Act} {W0:World} (hm:P.follows .mixedOrders=true)
  (hlow:∀ i o,ops[i]? = some o→∀ e ∈ o.after,Region.binds .any e=true→e.on<i) (hsz:ops.size=8)
  (hb:∀ i j,(i,j) ∈ [(1,0),(3,2),(6,1),(6,4),(7,3),(7,5)]→∃ o,ops[i]? = some o∧∃ e ∈ o.after,Region.binds .any e=true∧e.on=j)
  (t0 c1 t2 c3 p4 p5:Nat) (hnd:[t0,c1,t2,c3,p4,p5].Nodup) (hs:∀ t ∈ [t0,c1,t2,c3,p4,p5],t<base.tmps.size)
  (A0 A2:Value) (Rx Ry:World→Value→Prop) (Zx Zy:Array Value) (tx ty:TypeId) (sx:Stays Rx) (sy:Stays Ry) (zx:∃ s,Zx[0]? = some (.bool s)) (zy:∃ s,Zy[0]? = some (.bool s))
  (h0:∀ (a:Act) (w:World) (K:Act→World→Prop),But [] W0.drew w→(∀ t,t ∉ [t0,c1,t2,c3,p4,p5]→a.eval (.tmp t)=base.eval (.tmp t))→(∀ w',But [] w w'→K (a.put (some t0) A0) w')→wpOp P ops Q 0 K a w)
  (h1:∀ (a:Act) (w:World) (K:Act→World→Prop),But [] W0.drew w→a.eval (.tmp t0)=A0→(∀ v w',But [] w w'→Rx w' v→K (a.put (some c1) v) w')→wpOp P ops Q 1 K a w)
  (h2:∀ (a:Act) (w:World) (K:Act→World→Prop),But [] W0.drew w→(∀ t,t ∉ [t0,c1,t2,c3,p4,p5]→a.eval (.tmp t)=base.eval (.tmp t))→(∀ w',But [] w w'→K (a.put (some t2) A2) w')→wpOp P ops Q 2 K a w)
  (h3:∀ (a:Act) (w:World) (K:Act→World→Prop),But [] W0.drew w→a.eval (.tmp t2)=A2→(∀ v w',But [] w w'→Ry w' v→K (a.put (some c3) v) w')→wpOp P ops Q 3 K a w)
  (h4:Makes P ops Q 4 p4 Zx tx) (h5:Makes P ops Q 5 p5 Zy ty) (h6:Stores P ops Q 6 c1 p4 Rx Zx) (h7:Stores P ops Q 7 c3 p5 Ry Zy)
  (hQ:∀ w vx vy bx bY,But [] W0.drew w→Rx w vx→Ry w vy→W0.heap.size≤bx→W0.heap.size≤bY→bx≠bY→(∀ j,w.frozen? ⟨bx,j,none⟩=false)→(∀ j,w.frozen? ⟨bY,j,none⟩=false)→Full w bx vx→Full w bY vy→Q .normal (putted base [(t0,A0),(c1,vx),(t2,A2),(c3,vy),(p4,.pointer (some ⟨bx,0,none⟩)),(p5,.pointer (some ⟨bY,0,none⟩))]) w) :
  (Code.region id ops true).wp P Q base W0:=by
 obtain ⟨W,hW⟩:∃ W,W=W0.drew:=⟨_,rfl⟩
 have hWs:W.heap.size=W0.heap.size:=by rw [hW];rfl
 rw [← hW] at h0 h1 h2 h3 hQ
 rw [← hWs] at hQ
 simp only [List.nodup_cons,List.mem_cons,List.not_mem_nil,or_false,not_or,List.nodup_nil,and_true,not_false_eq_true] at hnd
 obtain ⟨⟨n01,n02,n03,n04,n05⟩,⟨n12,n13,n14,n15⟩,⟨n23,n24,n25⟩,⟨n34,n35⟩,n45⟩:=hnd
 have z0:=hs t0 (by simp)
 have z1:=hs c1 (by simp)
 have z2:=hs t2 (by simp)
 have z3:=hs c3 (by simp)
 have z4:=hs p4 (by simp)
 have z5:=hs p5 (by simp)
 have dep:∀ (d:Nat→Bool) i j o,(i,j) ∈ [(1,0),(3,2),(6,1),(6,4),(7,3),(7,5)]→ops[i]? = some o→(∀ e ∈ o.after,Region.binds .any e=true→d e.on=true)→d j=true:=fun d i j o hij ho hd=>by
  obtain ⟨o',ho',e,he,hbi,rfl⟩:=hb i j hij
  rw [ho'] at ho
  obtain rfl:=Option.some.inj ho
  exact hd e he hbi
 refine region_inv hm hlow (fun d a w=>∃ vx vy bx bY,Two W base t0 c1 t2 c3 p4 p5 A0 A2 Rx Ry Zx Zy d a w vx vy bx bY) ?_ ?_ ?_
 ·rw [← hW]
  exact ⟨undef,undef,0,0,But.refl _ _,rfl,rfl,fun _ _ _ _ _ _ _=>rfl,by simp,by simp,⟨by simp,by simp,by simp,by simp⟩,⟨by simp,by simp,by simp,by simp⟩,by simp⟩
 ·rintro d a w hd ⟨vx,vy,bx,bY,h⟩
  rw [hsz] at hd
  have e0:=hd 0 (by omega)
  have e1:=hd 1 (by omega)
  have e2:=hd 2 (by omega)
  have e3:=hd 3 (by omega)
  have e4:=hd 4 (by omega)
  have e5:=hd 5 (by omega)
  have e6:=hd 6 (by omega)
  have e7:=hd 7 (by omega)
  obtain ⟨x1,x2,x3,x4⟩:=h.x.place e4
  obtain ⟨y1,y2,y3,y4⟩:=h.y.place e5
  have ea:a=putted base [(t0,A0),(c1,vx),(t2,A2),(c3,vy),(p4,.pointer (some ⟨bx,0,none⟩)),(p5,.pointer (some ⟨bY,0,none⟩))]:=by
   have hz:=h.size
   refine putted_eq _ base a h.defers h.size (fun p hp=>?_) (fun t ht=>?_)
   ·simp only [List.mem_cons,List.not_mem_nil,or_false] at hp
    rcases hp with rfl | rfl | rfl | rfl | rfl | rfl
    ·exact slot_is (h.a0 e0) (by rw [hz];exact z0)
    ·exact slot_is (h.x.val e1).1 (by rw [hz];exact z1)
    ·exact slot_is (h.a2 e2) (by rw [hz];exact z2)
    ·exact slot_is (h.y.val e3).1 (by rw [hz];exact z3)
    ·exact slot_is x1 (by rw [hz];exact z4)
    ·exact slot_is y1 (by rw [hz];exact z5)
   ·exact h.rest t (ht (t0,A0) (by simp)) (ht (c1,vx) (by simp)) (ht (t2,A2) (by simp)) (ht (c3,vy) (by simp)) (ht (p4,.pointer (some ⟨bx,0,none⟩)) (by simp)) (ht (p5,.pointer (some ⟨bY,0,none⟩)) (by simp))
  rw [ea]
  exact hQ w vx vy bx bY h.but (h.x.val e1).2 (h.y.val e3).2 x2 y2 (h.ne e4 e5) x4 y4 (h.x.full e6).2.2 (h.y.full e7).2.2
 ·rintro d i o a w ho hf hd ⟨vx,vy,bx,bY,h⟩
  have hi:i<8:=by rw [← hsz];exact (Array.getElem?_eq_some_iff.1 ho).1
  have hsa:=h.size
  have hx:=h.x
  have hy:=h.y
  have hev:∀ t,t ∉ [t0,c1,t2,c3,p4,p5]→a.eval (.tmp t)=base.eval (.tmp t):=fun t ht=>by
   simp only [List.mem_cons,List.not_mem_nil,or_false,not_or] at ht
   exact rest_eval (h.rest t ht.1 ht.2.1 ht.2.2.1 ht.2.2.2.1 ht.2.2.2.2.1 ht.2.2.2.2.2)
  have hc:i=0∨i=1∨i=2∨i=3∨i=4∨i=5∨i=6∨i=7:=by omega
  rcases hc with rfl | rfl | rfl | rfl | rfl | rfl | rfl | rfl
  ·refine h0 a w _ h.but hev (fun w' hw=>?_)
   exact ⟨vx,vy,bx,bY,h.but.trans' hw,size_put' h.size,h.defers,fun t k0 k1 k2 k3 k4 k5=>rest_put' (h.rest t k0 k1 k2 k3 k4 k5) k0,fun _=>at_eq a t0 A0 (by rw [hsa];exact z0),fun e=>(at_ne a t0 t2 A0 (Ne.symm n02)).trans (h.a2 e),
    (hx.world hw (by simp) (fun r=>sx.but _ _ _ r hw)).put t0 A0 (Ne.symm n01) (Ne.symm n04),(hy.world hw (by simp) (fun r=>sy.but _ _ _ r hw)).put t0 A0 (Ne.symm n03) (Ne.symm n05),h.ne⟩
  ·have d0:=dep d 1 0 o (by simp) ho hd
   rw [hf] at hx
   refine h1 a w _ h.but (h.a0 d0) (fun v w' hw hv=>?_)
   exact ⟨v,vy,bx,bY,h.but.trans' hw,size_put' h.size,h.defers,fun t k0 k1 k2 k3 k4 k5=>rest_put' (h.rest t k0 k1 k2 k3 k4 k5) k1,fun e=>(at_ne a c1 t0 v n01).trans (h.a0 e),fun e=>(at_ne a c1 t2 v (Ne.symm n12)).trans (h.a2 e),
    hx.make hw v hv (by rw [hsa];exact z1) (Ne.symm n14),(hy.world hw (by simp) (fun r=>sy.but _ _ _ r hw)).put c1 v (Ne.symm n13) (Ne.symm n15),h.ne⟩
  ·refine h2 a w _ h.but hev (fun w' hw=>?_)
   exact ⟨vx,vy,bx,bY,h.but.trans' hw,size_put' h.size,h.defers,fun t k0 k1 k2 k3 k4 k5=>rest_put' (h.rest t k0 k1 k2 k3 k4 k5) k2,fun e=>(at_ne a t2 t0 A2 n02).trans (h.a0 e),fun _=>at_eq a t2 A2 (by rw [hsa];exact z2),
    (hx.world hw (by simp) (fun r=>sx.but _ _ _ r hw)).put t2 A2 n12 (Ne.symm n24),(hy.world hw (by simp) (fun r=>sy.but _ _ _ r hw)).put t2 A2 (Ne.symm n23) (Ne.symm n25),h.ne⟩
  ·have d2:=dep d 3 2 o (by simp) ho hd
   rw [hf] at hy
   refine h3 a w _ h.but (h.a2 d2) (fun v w' hw hv=>?_)
   exact ⟨vx,v,bx,bY,h.but.trans' hw,size_put' h.size,h.defers,fun t k0 k1 k2 k3 k4 k5=>rest_put' (h.rest t k0 k1 k2 k3 k4 k5) k3,fun e=>(at_ne a c3 t0 v n03).trans (h.a0 e),fun e=>(at_ne a c3 t2 v n23).trans (h.a2 e),
    (hx.world hw (by simp) (fun r=>sx.but _ _ _ r hw)).put c3 v n13 (Ne.symm n34),hy.make hw v hv (by rw [hsa];exact z3) (Ne.symm n35),h.ne⟩
  ·rw [hf] at hx
   refine h4 a w _ ?_
   have hw:But [] w (w.alloc (.cells Zx tx)):=(But.refl _ _).alloc _
   exact ⟨vx,vy,w.heap.size,bY,h.but.trans' hw,size_put' h.size,h.defers,fun t k0 k1 k2 k3 k4 k5=>rest_put' (h.rest t k0 k1 k2 k3 k4 k5) k4,fun e=>(at_ne a p4 t0 _ n04).trans (h.a0 e),fun e=>(at_ne a p4 t2 _ n24).trans (h.a2 e),
    hx.lay h.but tx (by rw [hsa];exact z4) n14 (fun r=>sx.but _ _ _ r hw),(hy.world hw (by simp) (fun r=>sy.but _ _ _ r hw)).put p4 _ n34 (Ne.symm n45),fun _ e=>Ne.symm (Nat.ne_of_lt (hy.place e).2.2.1)⟩
  ·rw [hf] at hy
   refine h5 a w _ ?_
   have hw:But [] w (w.alloc (.cells Zy ty)):=(But.refl _ _).alloc _
   exact ⟨vx,vy,bx,w.heap.size,h.but.trans' hw,size_put' h.size,h.defers,fun t k0 k1 k2 k3 k4 k5=>rest_put' (h.rest t k0 k1 k2 k3 k4 k5) k5,fun e=>(at_ne a p5 t0 _ n05).trans (h.a0 e),fun e=>(at_ne a p5 t2 _ n25).trans (h.a2 e),
    (hx.world hw (by simp) (fun r=>sx.but _ _ _ r hw)).put p5 _ n15 n45,hy.lay h.but ty (by rw [hsa];exact z5) n35 (fun r=>sy.but _ _ _ r hw),fun e _=>Nat.ne_of_lt (hx.place e).2.2.1⟩
  ·have d1:=dep d 6 1 o (by simp) ho hd
   have d4:=dep d 6 4 o (by simp) ho hd
   rw [hf,d1,d4] at hx
   obtain ⟨x1,x2,x3,x4⟩:=hx.place rfl
   obtain ⟨s,hz⟩:=zx
   have hv:=hx.void rfl rfl
   have hc0:=(hv 0).trans hz
   refine h6 a w _ bx vx x1 (hx.val rfl).1 (hx.val rfl).2 hv x4 (fun w' hw hfl hfz=>?_)
   have hxn:=hx.store hw hfl hfz (fun r=>sx.over _ _ _ _ _ r hc0 hw)
   exact ⟨vx,vy,bx,bY,h.but.trans hw (fun x hx=>by simp at hx;subst hx;exact .inr x2),h.size,h.defers,h.rest,h.a0,h.a2,(show Limb W w' a c1 p4 Rx Zx (d 1) (d 4) true vx bx from by rw [d1,d4];exact hxn),
    hy.world hw (fun e=>by simpa using Ne.symm (h.ne d4 e)) (fun r=>sy.over _ _ _ _ _ r hc0 hw),h.ne⟩
  ·have d3:=dep d 7 3 o (by simp) ho hd
   have d5:=dep d 7 5 o (by simp) ho hd
   rw [hf,d3,d5] at hy
   obtain ⟨y1,y2,y3,y4⟩:=hy.place rfl
   obtain ⟨s,hz⟩:=zy
   have hv:=hy.void rfl rfl
   have hc0:=(hv 0).trans hz
   refine h7 a w _ bY vy y1 (hy.val rfl).1 (hy.val rfl).2 hv y4 (fun w' hw hfl hfz=>?_)
   have hyn:=hy.store hw hfl hfz (fun r=>sy.over _ _ _ _ _ r hc0 hw)
   exact ⟨vx,vy,bx,bY,h.but.trans hw (fun x hx=>by simp at hx;subst hx;exact .inr y2),h.size,h.defers,h.rest,h.a0,h.a2,hx.world hw (fun e=>by simpa using h.ne e d5) (fun r=>sx.over _ _ _ _ _ r hc0 hw),(show Limb W w' a c3 p5 Ry Zy (d 3) (d 5) true vy bY from by rw [d3,d5];exact hyn),h.ne⟩
end Go.Proofs.YteipfplbcbaheaaGreatDoor

namespace Go.Proofs.YteipfplbcbaheaaGreatDoor
open Go.RowKit
def lowOps (ops:Array Oper):Bool:=(List.range ops.size).all fun i=>match ops[i]? with
 | some o=>o.after.all fun e=>!(Region.binds .any e) || decide (e.on<i)
 | none=>true
theorem low_of {ops:Array Oper} (h:lowOps ops=true):∀ i o,ops[i]? = some o→∀ e ∈ o.after,Region.binds .any e=true→e.on<i:=fun i o ho e he hb=>by
 have hi:i<ops.size:=(Array.getElem?_eq_some_iff.1 ho).1
 unfold lowOps at h
 rw [List.all_eq_true] at h
 have h1:=h i (List.mem_range.2 hi)
 simp only [ho] at h1
 rw [Array.all_eq_true_iff_forall_mem] at h1
 have h2:=h1 e he
 simpa [hb] using h2
def depOps (ops:Array Oper) (ps:List (Nat × Nat)):Bool:=ps.all fun p=>match ops[p.1]? with
 | some o=>o.after.any fun e=>Region.binds .any e && e.on==p.2
 | none=>false
theorem dep_of {ops:Array Oper} {ps:List (Nat × Nat)} (h:depOps ops ps=true):∀ i j,(i,j) ∈ ps→∃ o,ops[i]? = some o∧∃ e ∈ o.after,Region.binds .any e=true∧e.on=j:=fun i j hij=>by
 unfold depOps at h
 rw [List.all_eq_true] at h
 have h1:=h (i,j) hij
 cases ho:ops[i]? with
 | none=>simp [ho] at h1
 | some o =>
  simp only [ho] at h1
  rw [Array.any_eq_true] at h1
  obtain ⟨k,hk,h2⟩:=h1
  simp only [Bool.and_eq_true,beq_iff_eq] at h2
  exact ⟨o,rfl,o.after[k],Array.getElem_mem hk,h2.1,h2.2⟩
def P4 (w:World) (g:Nat) (s:Bool) (x y:Int) (p:Option Addr):Prop:=w.cell? ⟨g,0,none⟩=some (.bool s)∧w.cell? ⟨g,1,none⟩=some (.int .u64 x)∧w.cell? ⟨g,2,none⟩=some (.int .u64 y)∧w.cell? ⟨g,3,none⟩=some (.pointer p)
theorem P4.but {w w':World} {g:Nat} {s:Bool} {x y:Int} {p:Option Addr} {l:List Nat} (h:P4 w g s x y p) (hb:But l w w') (hn:g ∉ l):P4 w' g s x y p:=⟨hb.cell_some h.1 hn,hb.cell_some h.2.1 hn,hb.cell_some h.2.2.1 hn,hb.cell_some h.2.2.2 hn⟩
theorem Full.p4 {w:World} {b:Nat} {s:Bool} {x y:Int} {p:Option Addr} (h:Full w b (.agg #[.bool s,.int .u64 x,.int .u64 y,.pointer p])):P4 w b s x y p:=by
 obtain ⟨vs,e,h⟩:=h
 obtain rfl:=Value.agg.inj e
 exact ⟨h 0,h 1,h 2,h 3⟩
theorem set_off (w:World) (b i j:Nat) (v:Value) (hij:i≠j):(w.setCell ⟨b,i,none⟩ v).cell? ⟨b,j,none⟩=w.cell? ⟨b,j,none⟩:=World.cell?_setCell_other w ⟨b,i,none⟩ ⟨b,j,none⟩ v (fun e=>hij (Addr.mk.inj e).2.1)
theorem set4_all (w:World) (b:Nat) (v0 v1 v2 v3:Value) (c0:(w.cell? ⟨b,0,none⟩).isSome=true) (c1:(w.cell? ⟨b,1,none⟩).isSome=true) (c2:(w.cell? ⟨b,2,none⟩).isSome=true) (c3:(w.cell? ⟨b,3,none⟩).isSome=true) :
  (∀ j,j<4→((((w.setCell ⟨b,0,none⟩ v0).setCell ⟨b,1,none⟩ v1).setCell ⟨b,2,none⟩ v2).setCell ⟨b,3,none⟩ v3).cell? ⟨b,j,none⟩=#[v0,v1,v2,v3][j]?)∧∀ j,4≤j→((((w.setCell ⟨b,0,none⟩ v0).setCell ⟨b,1,none⟩ v1).setCell ⟨b,2,none⟩ v2).setCell ⟨b,3,none⟩ v3).cell? ⟨b,j,none⟩=w.cell? ⟨b,j,none⟩:=by
 constructor
 ·intro j hj
  have:j=0∨j=1∨j=2∨j=3:=by omega
  rcases this with rfl | rfl | rfl | rfl
  ·rw [set_off _ _ 3 0 _ (by omega),set_off _ _ 2 0 _ (by omega),set_off _ _ 1 0 _ (by omega)]
   exact World.cell?_setCell_same' _ _ _ c0
  ·rw [set_off _ _ 3 1 _ (by omega),set_off _ _ 2 1 _ (by omega)]
   exact World.cell?_setCell_same' _ _ _ (by rw [set_off _ _ 0 1 _ (by omega)];exact c1)
  ·rw [set_off _ _ 3 2 _ (by omega)]
   exact World.cell?_setCell_same' _ _ _ (by rw [set_off _ _ 1 2 _ (by omega),set_off _ _ 0 2 _ (by omega)];exact c2)
  ·exact World.cell?_setCell_same' _ _ _ (by rw [set_off _ _ 2 3 _ (by omega),set_off _ _ 1 3 _ (by omega),set_off _ _ 0 3 _ (by omega)];exact c3)
 ·intro j hj
  rw [set_off _ _ 3 j _ (by omega),set_off _ _ 2 j _ (by omega),set_off _ _ 1 j _ (by omega),set_off _ _ 0 j _ (by omega)]
theorem set4_full (w:World) (b:Nat) (v0 v1 v2 v3:Value) (Z:Array Value) (hz:Z.size=4) (hv:∀ j,w.cell? ⟨b,j,none⟩=Z[j]?):Full ((((w.setCell ⟨b,0,none⟩ v0).setCell ⟨b,1,none⟩ v1).setCell ⟨b,2,none⟩ v2).setCell ⟨b,3,none⟩ v3) b (.agg #[v0,v1,v2,v3]):=by
 have hs:∀ j,j<4→(w.cell? ⟨b,j,none⟩).isSome=true:=fun j hj=>by rw [hv j,Array.getElem?_eq_getElem (by omega)];rfl
 obtain ⟨h1,h2⟩:=set4_all w b v0 v1 v2 v3 (hs 0 (by omega)) (hs 1 (by omega)) (hs 2 (by omega)) (hs 3 (by omega))
 refine ⟨_,rfl,fun j=>?_⟩
 rcases Nat.lt_or_ge j 4 with hj | hj
 ·exact h1 j hj
 ·rw [h2 j hj,hv j,Array.getElem?_eq_none (by omega),Array.getElem?_eq_none (by simpa using hj)]
end Go.Proofs.YteipfplbcbaheaaGreatDoor

namespace Go.Proofs.YteipfplbcbaheaaGreatDoor
open Go.RowKit
def Down (ops:Array Oper) (d:Nat→Bool):Prop:=∀ i o,ops[i]? = some o→d i=true→∀ e ∈ o.after,Region.binds .any e=true→d e.on=true
structure Run (W:World) (ops:Array Oper) (base:Act) (C:Nat→World→Value→Prop) (T:Nat→Nat) (d:Nat→Bool) (a:Act) (w:World):Prop where
 down:Down ops d
 but:But [] W w
 size:a.tmps.size=base.tmps.size
 defers:a.defers=base.defers
 rest:∀ t,(∀ j,j<ops.size→d j=true→t≠T j)→a.tmps[t]? = base.tmps[t]?
 has:∀ i,i<ops.size→d i=true→C i w (a.eval (.tmp (T i)))
theorem Run.eval {W:World} {ops:Array Oper} {base:Act} {C:Nat→World→Value→Prop} {T:Nat→Nat} {d:Nat→Bool} {a:Act} {w:World} (h:Run W ops base C T d a w) (t:Nat) (ht:∀ j,j<ops.size→d j=true→t≠T j):a.eval (.tmp t)=base.eval (.tmp t):=by
 show a.tmps.getD t undef=base.tmps.getD t undef
 simp only [Array.getD_eq_getD_getElem?,h.rest t ht]
theorem Run.next {W:World} {ops:Array Oper} {base:Act} {C:Nat→World→Value→Prop} {T:Nat→Nat} {d:Nat→Bool} {a:Act} {w:World} (h:Run W ops base C T d a w)
  (hinj:∀ i j,i<ops.size→j<ops.size→T i=T j→i=j) (hT:∀ i,i<ops.size→T i<base.tmps.size) (hC:∀ i w w' v,i<ops.size→C i w v→But [] w w'→C i w' v)
  (i:Nat) (o:Oper) (ho:ops[i]? = some o) (hdep:∀ e ∈ o.after,Region.binds .any e=true→d e.on=true) (v:Value) (w':World) (hb:But [] w w') (hv:C i w' v):Run W ops base C T (came d i) (a.put (some (T i)) v) w':=by
 have hi:i<ops.size:=(Array.getElem?_eq_some_iff.1 ho).1
 refine ⟨fun j oj hj hd e he hbi=>?_,h.but.trans' hb,by rw [size_putted];exact h.size,h.defers,fun t ht=>?_,fun j hj hd=>?_⟩
 ·by_cases e1:e.on=i
  ·rw [e1];exact came_self d i
  ·rw [came_ne d e1]
   by_cases e2:j=i
   ·subst e2
    rw [ho] at hj
    obtain rfl:=Option.some.inj hj
    exact hdep e he hbi
   ·rw [came_ne d e2] at hd
    exact h.down j oj hj hd e he hbi
 ·rw [slot_put,if_neg (fun e=>ht i hi (came_self d i) e.symm)]
  exact h.rest t (fun j hj hd=>by
   by_cases e:j=i
   ·subst e;exact ht j hj (came_self d j)
   ·exact ht j hj (by rw [came_ne d e];exact hd))
 ·by_cases e:j=i
  ·subst e
   rw [at_eq a (T j) v (by rw [h.size];exact hT j hj)]
   exact hv
  ·rw [came_ne d e] at hd
   rw [at_ne a (T i) (T j) v (fun e2=>e (hinj j i hj hi e2))]
   exact hC j w w' _ hj (h.has j hj hd) hb
def plainOps (ops:Array Oper) (T:Nat→Nat):Bool:=(List.range ops.size).all fun i=>match ops[i]? with
 | some o=>(o.dst==some (T i)) && (match o.guard with | none=>true | some (j,_)=>decide (j<ops.size) && o.after.any fun e=>Region.binds .any e && e.on==j)
 | none=>true
theorem plain_of {ops:Array Oper} {T:Nat→Nat} (h:plainOps ops T=true):∀ (i:Nat) (o:Oper),ops[i]? = some o→o.dst=some (T i)∧∀ j want,o.guard=some (j,want)→j<ops.size∧∃ e ∈ o.after,Region.binds .any e=true∧e.on=j:=fun i o ho=>by
 have hi:i<ops.size:=(Array.getElem?_eq_some_iff.1 ho).1
 unfold plainOps at h
 rw [List.all_eq_true] at h
 have h1:=h i (List.mem_range.2 hi)
 simp only [ho,Bool.and_eq_true,beq_iff_eq] at h1
 refine ⟨h1.1,fun j want hg=>?_⟩
 have h2:=h1.2
 rw [hg] at h2
 simp only [Bool.and_eq_true,decide_eq_true_eq] at h2
 refine ⟨h2.1,?_⟩
 have h3:=h2.2
 rw [Array.any_eq_true] at h3
 obtain ⟨k,hk,h4⟩:=h3
 simp only [Bool.and_eq_true,beq_iff_eq] at h4
 exact ⟨o.after[k],Array.getElem_mem hk,h4.1,h4.2⟩
theorem region_go {P:Program} {id:Nat} {ops:Array Oper} {Q:Exit→Act→World→Prop} {base:Act} {W0:World} (hm:P.follows .mixedOrders=true)
  (hlow:∀ i o,ops[i]? = some o→∀ e ∈ o.after,Region.binds .any e=true→e.on<i)
  (C:Nat→World→Value→Prop) (T:Nat→Nat) (hpl:plainOps ops T=true)
  (hgd:∀ (i:Nat) (o:Oper) (j:Nat) (want:Bool),ops[i]? = some o→o.guard=some (j,want)→∀ w v,C j w v→v=.bool want)
  (hinj:∀ i j,i<ops.size→j<ops.size→T i=T j→i=j) (hT:∀ i,i<ops.size→T i<base.tmps.size) (hC:∀ i w w' v,i<ops.size→C i w v→But [] w w'→C i w' v)
  (hstep:∀ (i:Nat) (o:Oper) (a:Act) (w:World) (K:Act→World→Prop),ops[i]? = some o→But [] W0.drew w→(∀ t,(∀ j,j<ops.size→t=T j→∃ oj,ops[j]? = some oj∧∃ e ∈ oj.after,Region.binds .any e=true∧e.on=i)→a.eval (.tmp t)=base.eval (.tmp t))→(∀ e ∈ o.after,Region.binds .any e=true→C e.on w (a.eval (.tmp (T e.on))))→(∀ v w',But [] w w'→C i w' v→K (a.put o.dst v) w')→o.wp P a w K Q)
  (hend:∀ a w,Run W0.drew ops base C T (fun _=>true) a w→Q .normal a w) :
  (Code.region id ops true).wp P Q base W0:=by
 have hp:=plain_of hpl
 refine region_inv hm hlow (fun d a w=>Run W0.drew ops base C T d a w) ?_ ?_ ?_
 ·exact ⟨fun _ _ _ h=>by simp at h,But.refl _ _,rfl,rfl,fun _ _=>rfl,fun _ _ h=>by simp at h⟩
 ·intro d a w hd h
  refine hend a w ⟨fun _ _ _ _ _ _ _=>rfl,h.but,h.size,h.defers,fun t ht=>h.rest t (fun j hj _=>ht j hj rfl),fun i hi _=>h.has i hi (hd i hi)⟩
 ·intro d i o a w ho hdi hdep h
  have hi:i<ops.size:=(Array.getElem?_eq_some_iff.1 ho).1
  obtain ⟨hdst,hg⟩:=hp i o ho
  have hw:Region.wanted o (yielded ops a.tmps)=true:=by
   unfold Region.wanted
   cases hgo:o.guard with
   | none=>rfl
   | some jw =>
    obtain ⟨j,want⟩:=jw
    obtain ⟨hj,e,he,hbi,hon⟩:=hg j want hgo
    have hdj:d j=true:=by rw [← hon];exact hdep e he hbi
    have hv:=hgd i o j want ho hgo w _ (h.has j hj hdj)
    have hoj:=Array.getElem?_eq_getElem hj
    have hdj2:=(hp j _ hoj).1
    have hsl:=slot_is hv (by rw [h.size];exact hT j hj)
    show (yielded ops a.tmps j==some want)=true
    unfold yielded
    rw [hoj,Option.bind_some,hdj2,Option.bind_some,hsl]
    simp
  unfold wpOp
  simp only [ho,hw,if_true]
  refine .inl (hstep i o a w _ ho h.but (fun t ht=>h.eval t (fun j hj hd e=>?_)) (fun e he hb=>h.has _ (by have:=hlow i o ho e he hb;omega) (hdep e he hb)) (fun v w' hb hv=>?_))
  ·obtain ⟨oj,hoj,ed,hed,hbi,hon⟩:=ht j hj e
   have:=h.down j oj hoj hd ed hed hbi
   rw [hon,hdi] at this
   simp at this
  ·rw [hdst]
   exact h.next hinj hT hC i o ho hdep v w' hb hv
theorem Run.puts {W:World} {ops:Array Oper} {base:Act} {C:Nat→World→Value→Prop} {T:Nat→Nat} {a:Act} {w:World} (h:Run W ops base C T (fun _=>true) a w) (hT:∀ i,i<ops.size→T i<base.tmps.size) (V:Nat→Value) (hV:∀ i,i<ops.size→a.eval (.tmp (T i))=V i):a=putted base ((List.range ops.size).map fun i=>(T i,V i)):=by
 refine putted_eq _ base a h.defers h.size (fun p hp=>?_) (fun t ht=>?_)
 ·obtain ⟨i,hi,rfl⟩:=List.mem_map.1 hp
  have hi':=List.mem_range.1 hi
  exact slot_is (hV i hi') (by rw [h.size];exact hT i hi')
 ·refine h.rest t (fun j hj _ e=>?_)
  exact ht (T j,V j) (List.mem_map.2 ⟨j,List.mem_range.2 hj,rfl⟩) e
end Go.Proofs.YteipfplbcbaheaaGreatDoor

namespace Go.Proofs.YteipfplbcbaheaaGreatDoor
open Go.RowKit
theorem run_alloc4 (a:Act) (w:World) (d:Nat) (u:TypeId) (ps:String) (ed:Array Edge) :
  (execOp a.eval { dst:=some d,op:=Op.alloc 27,type:=u,pos:=ps,after:=ed,guard:=none }).run Tryz.prog w=.ok (.value (.pointer (some ⟨w.heap.size,0,none⟩))) (w.alloc (.cells #[.bool false,.int .u64 0,.int .u64 0,.pointer none] 27)):=by
 unfold execOp
 go_simp
theorem run_store4 (a:Act) (w:World) (t1 t2:Nat) (u:TypeId) (ps:String) (ed:Array Edge) (g:Nat) (s:Bool) (x y:Int) (p:Option Addr) (h1:a.eval (.tmp t1)=.pointer (some ⟨g,0,none⟩)) (h2:a.eval (.tmp t2)=.agg #[.bool s,.int .u64 x,.int .u64 y,.pointer p]) (hc:P4 w g false 0 0 none) (fz:∀ j,w.frozen? ⟨g,j,none⟩=false) :
  (execOp a.eval { dst:=none,op:=Op.store 27 (.tmp t1) (.tmp t2),type:=u,pos:=ps,after:=ed,guard:=none }).run Tryz.prog w=.ok .skip ((((w.setCell ⟨g,0,none⟩ (.bool s)).setCell ⟨g,1,none⟩ (.int .u64 x)).setCell ⟨g,2,none⟩ (.int .u64 y)).setCell ⟨g,3,none⟩ (.pointer p)):=by
 obtain ⟨c0,c1,c2,c3⟩:=hc
 unfold execOp
 simp only [h1,h2]
 go_simp
theorem void4 {w:World} {b:Nat} (h:∀ j,w.cell? ⟨b,j,none⟩=#[Value.bool false,.int .u64 0,.int .u64 0,.pointer none][j]?):P4 w b false 0 0 none:=⟨h 0,h 1,h 2,h 3⟩
theorem frz4 {w:World} {g:Nat} {v0 v1 v2 v3:Value} (fz:∀ j,w.frozen? ⟨g,j,none⟩=false) (j:Nat):((((w.setCell ⟨g,0,none⟩ v0).setCell ⟨g,1,none⟩ v1).setCell ⟨g,2,none⟩ v2).setCell ⟨g,3,none⟩ v3).frozen? ⟨g,j,none⟩=false:=by
 rw [World.frozen?_setCell,World.frozen?_setCell,World.frozen?_setCell,World.frozen?_setCell];exact fz j
theorem but4 (w:World) (g:Nat) (v0 v1 v2 v3:Value):But [g] w ((((w.setCell ⟨g,0,none⟩ v0).setCell ⟨g,1,none⟩ v1).setCell ⟨g,2,none⟩ v2).setCell ⟨g,3,none⟩ v3) :=
 (((((But.refl [g] w).setCell (.inl (by simp)) _).setCell (.inl (by simp)) _).setCell (.inl (by simp)) _).setCell (.inl (by simp)) _)
theorem stays_eq (u:Value):Stays (fun _ v=>v=u):=⟨fun _ _ _ h _=>h,fun _ _ _ _ _ h _ _=>h⟩
end Go.Proofs.YteipfplbcbaheaaGreatDoor

namespace Go.Proofs.YteipfplbcbaheaaGreatDoor
open Go.RowKit
def bareOps (ops:Array Oper):Bool:=(List.range ops.size).all fun i=>match ops[i]? with
 | some o=>o.guard.isNone
 | none=>true
theorem bare_of {ops:Array Oper} (h:bareOps ops=true):∀ (i:Nat) (o:Oper),ops[i]? = some o→o.guard=none:=fun i o ho=>by
 have hi:i<ops.size:=(Array.getElem?_eq_some_iff.1 ho).1
 unfold bareOps at h
 rw [List.all_eq_true] at h
 have h1:=h i (List.mem_range.2 hi)
 simp only [ho] at h1
 simpa using h1
theorem dep_is {ops:Array Oper} {ps:List (Nat × Nat)} (h:depOps ops ps=true) {i:Nat} {o:Oper} (ho:ops[i]? = some o) (R:Nat→Prop) (hdep:∀ e ∈ o.after,Region.binds .any e=true→R e.on) (j:Nat) (hij:(i,j) ∈ ps):R j:=by
 obtain ⟨o',ho',e,he,hb,rfl⟩:=dep_of h i j hij
 rw [ho] at ho'
 obtain rfl:=Option.some.inj ho'
 exact hdep e he hb
theorem does_value {P:Program} {Q:Exit→Act→World→Prop} {K:Act→World→Prop} {a:Act} {w w':World} {o:Oper} {v:Value} (hr:(execOp a.eval o).run P w=.ok (.value v) w') (h:K (a.put o.dst v) w'):o.wp P a w K Q:=by
 unfold Oper.wp
 rw [hr]
 exact h
theorem does_enter {P:Program} {Q:Exit→Act→World→Prop} {K:Act→World→Prop} {a:Act} {w:World} {o:Oper} {f:FuncId} {args:Array Value} (hr:(execOp a.eval o).run P w=.ok (.enter f args) w) {R:World→Value→Prop} (hc:Calls P f args w fun e w'=>∃ v,e=.returned v∧R w' v) (h:∀ v w',R w' v→K (a.put o.dst v) w'):o.wp P a w K Q:=by
 unfold Oper.wp
 rw [hr]
 refine hc.mono ?_
 rintro e w' ⟨v,rfl,hv⟩
 exact h v w' hv
def Closed (ops:Array Oper) (d:Nat→Bool):Prop:=∀ i o,ops[i]? = some o→d i=true→∀ e ∈ o.after,Region.binds .any e=true→d e.on=true
theorem Closed.dep {ops:Array Oper} {d:Nat→Bool} (h:Closed ops d) {ps:List (Nat × Nat)} (hp:depOps ops ps=true) {i j:Nat} (hij:(i,j) ∈ ps) (hd:d i=true):d j=true:=by
 obtain ⟨o,ho,e,he,hb,rfl⟩:=dep_of hp i j hij
 exact h i o ho hd e he hb
theorem Closed.not {ops:Array Oper} {d:Nat→Bool} (h:Closed ops d) {ps:List (Nat × Nat)} (hp:depOps ops ps=true) {i j:Nat} (hij:(i,j) ∈ ps) (hd:d j=false):d i=false:=by
 cases e:d i with
 | false=>rfl
 | true=>rw [h.dep hp hij e] at hd;simp at hd
theorem Closed.next {ops:Array Oper} {d:Nat→Bool} (h:Closed ops d) {i:Nat} {o:Oper} (ho:ops[i]? = some o) (hdep:∀ e ∈ o.after,Region.binds .any e=true→d e.on=true):Closed ops (came d i):=fun j oj hj hd e he hbi=>by
 by_cases e1:e.on=i
 ·rw [e1];exact came_self d i
 ·rw [came_ne d e1]
  by_cases e2:j=i
  ·subst e2
   rw [ho] at hj
   obtain rfl:=Option.some.inj hj
   exact hdep e he hbi
  ·rw [came_ne d e2] at hd
   exact h j oj hj hd e he hbi
structure Named {α:Type} (ops:Array Oper) (base:Act) (H:α→(Nat→Bool)→World→Prop) (V:α→Nat→Value) (T:Nat→Nat) (m:Nat) (d:Nat→Bool) (a:Act) (w:World) (N:α):Prop where
 down:Closed ops d
 mem:H N d w
 size:a.tmps.size=base.tmps.size
 defers:a.defers=base.defers
 rest:∀ t,(∀ j,j<m→t≠T j)→a.tmps[t]? = base.tmps[t]?
 has:∀ i,i<m→d i=true→a.eval (.tmp (T i))=V N i
theorem region_names {P:Program} {id:Nat} {ops:Array Oper} {Q:Exit→Act→World→Prop} {base:Act} {W0:World} (hm:P.follows .mixedOrders=true)
  (hlow:∀ i o,ops[i]? = some o→∀ e ∈ o.after,Region.binds .any e=true→e.on<i)
  (hg:∀ (i:Nat) (o:Oper),ops[i]? = some o→o.guard=none)
  {α:Type} (H:α→(Nat→Bool)→World→Prop) (V:α→Nat→Value) (T:Nat→Nat) (m:Nat) (hsz:ops.size=m)
  (hinj:∀ i j,i<m→j<m→T i=T j→i=j) (hT:∀ i,i<m→T i<base.tmps.size) (N0:α) (h0:H N0 (fun _=>false) W0.drew)
  (hstep:∀ (N:α) (d:Nat→Bool) (i:Nat) (o:Oper) (a:Act) (w:World) (K:Act→World→Prop),i<m→ops[i]? = some o→d i=false→Closed ops d→H N d w→(∀ t,(∀ j,j<m→t≠T j)→a.eval (.tmp t)=base.eval (.tmp t))→(∀ e ∈ o.after,Region.binds .any e=true→d e.on=true∧a.eval (.tmp (T e.on))=V N e.on)→(∀ N' v w',v=V N' i→(∀ j,j<m→d j=true→V N' j=V N j)→H N' (came d i) w'→K (a.put (some (T i)) v) w')→o.wp P a w K Q)
  (hend:∀ N d w,(∀ i,i<m→d i=true)→H N d w→Q .normal (putted base ((List.range m).map fun i=>(T i,V N i))) w) :
  (Code.region id ops true).wp P Q base W0:=by
 have wpo:∀ i o a w (K:Act→World→Prop),ops[i]? = some o→o.wp P a w K Q→wpOp P ops Q i K a w:=fun i o a w K ho h=>by
  unfold wpOp
  simp only [ho,Region.wanted,hg i o ho,if_true]
  exact .inl h
 refine region_inv hm hlow (fun d a w=>∃ N,Named ops base H V T m d a w N) ?_ ?_ ?_
 ·exact ⟨N0,fun _ _ _ h=>by simp at h,h0,rfl,rfl,fun _ _=>rfl,fun _ _ h=>by simp at h⟩
 ·rintro d a w hd ⟨N,h⟩
  have ea:a=putted base ((List.range m).map fun i=>(T i,V N i)):=by
   refine putted_eq _ base a h.defers h.size (fun p hp=>?_) (fun t ht=>?_)
   ·obtain ⟨i,hi,rfl⟩:=List.mem_map.1 hp
    have hi':=List.mem_range.1 hi
    exact slot_is (h.has i hi' (hd i (by omega))) (by rw [h.size];exact hT i hi')
   ·refine h.rest t (fun j hj e=>?_)
    exact ht (T j,V N j) (List.mem_map.2 ⟨j,List.mem_range.2 hj,rfl⟩) e
  rw [ea]
  exact hend N d w (fun i hi=>hd i (by omega)) h.mem
 ·rintro d i o a w ho hdi hdep ⟨N,h⟩
  refine wpo i o a w _ ho ?_
  have hi:i<m:=by rw [← hsz];exact (Array.getElem?_eq_some_iff.1 ho).1
  refine hstep N d i o a w _ hi ho hdi h.down h.mem (fun t ht=>rest_eval (h.rest t ht)) (fun ed he hb=>⟨hdep ed he hb,h.has _ (by have:=hlow i o ho ed he hb;omega) (hdep ed he hb)⟩) ?_
  rintro N' v w' rfl hV hH
  refine ⟨N',h.down.next ho hdep,hH,by rw [size_putted];exact h.size,h.defers,fun t ht=>?_,fun j hj hd=>?_⟩
  ·rw [slot_put,if_neg (fun e=>ht i hi e.symm)];exact h.rest t ht
  ·by_cases e:j=i
   ·subst e
    exact at_eq a (T j) _ (by rw [h.size];exact hT j hj)
   ·rw [came_ne d e] at hd
    rw [at_ne a (T i) (T j) _ (fun e2=>e (hinj j i hj hi e2)),h.has j hj hd]
    exact (hV j hj hd).symm
end Go.Proofs.YteipfplbcbaheaaGreatDoor

namespace Go.Proofs.YteipfplbcbaheaaGreatDoor
open Go.RowKit
set_option maxHeartbeats 8000000
set_option maxRecDepth 100000
theorem run_allocI (a:Act) (w:World) (d:Nat) (u:TypeId) (ps:String) (ed:Array Edge) :
  (execOp a.eval { dst:=some d,op:=Op.alloc 91,type:=u,pos:=ps,after:=ed,guard:=none }).run Tryz.prog w=.ok (.value (.pointer (some ⟨w.heap.size,0,none⟩))) (w.alloc (.cells #[.bool false,.slice none 0 0] 91)):=by
 unfold execOp
 go_simp
theorem run_moveP (a:Act) (w:World) (d t:Nat) (u:TypeId) (ps:String) (ed:Array Edge) (N:Value) (h:a.eval (.tmp t)=N) :
  (execOp a.eval { dst:=some d,op:=Op.move (.tmp t),type:=u,pos:=ps,after:=ed,guard:=none }).run Tryz.prog w=.ok (.value N) w:=by
 unfold execOp
 simp only [h]
 go_simp
theorem run_assP (a:Act) (w:World) (d t:Nat) (u:TypeId) (ps:String) (ed:Array Edge) (N:Value) (h:a.eval (.tmp t)=N) :
  (execOp a.eval { dst:=some d,op:=Op.assign (.tmp t),type:=u,pos:=ps,after:=ed,guard:=none }).run Tryz.prog w=.ok (.value N) w:=by
 unfold execOp
 simp only [h]
 go_simp
theorem run_nilP (a:Act) (w:World) (d t:Nat) (u:TypeId) (ps:String) (ed:Array Edge) (b o:Nat) (h:a.eval (.tmp t)=.pointer (some ⟨b,o,none⟩)) :
  (execOp a.eval { dst:=some d,op:=Op.nilCheck (.tmp t),type:=u,pos:=ps,after:=ed,guard:=none }).run Tryz.prog w=.ok (.value (.pointer (some ⟨b,o,none⟩))) w:=by
 unfold execOp
 simp only [h]
 go_simp
theorem run_fieldR (a:Act) (w:World) (d t:Nat) (u:TypeId) (ps:String) (ed:Array Edge) (b:Nat) (h:a.eval (.tmp t)=.pointer (some ⟨b,0,none⟩)) (_hl:b<w.heap.size) :
  (execOp a.eval { dst:=some d,op:=Op.fieldAddr 93 (.tmp t) 0,type:=u,pos:=ps,after:=ed,guard:=none }).run Tryz.prog w=.ok (.value (.pointer (some ⟨b,0,none⟩))) w:=by
 unfold execOp
 simp only [h]
 go_simp
theorem run_callDen (a:Act) (w:World) (d t:Nat) (u:TypeId) (ps:String) (ed:Array Edge) (x:Value) (h:a.eval (.tmp t)=x) :
  (execOp a.eval { dst:=some d,op:=Op.call { callee:=Callee.value (Operand.func 79),args:=#[Operand.tmp t],argTypes:=#[29] },type:=u,pos:=ps,after:=ed,guard:=none }).run Tryz.prog w=.ok (.enter 79 #[x]) w:=by
 unfold execOp
 go_simp
 rw [← h]
 simp [Act.eval]
theorem run_callMulI (a:Act) (w:World) (d t1 t2 t3:Nat) (u:TypeId) (ps:String) (ed:Array Edge) (x1 x2 x3:Value) (h1:a.eval (.tmp t1)=x1) (h2:a.eval (.tmp t2)=x2) (h3:a.eval (.tmp t3)=x3) :
  (execOp a.eval { dst:=some d,op:=Op.call { callee:=Callee.value (Operand.func 81),args:=#[Operand.tmp t1,Operand.tmp t2,Operand.tmp t3],argTypes:=#[48,48,48] },type:=u,pos:=ps,after:=ed,guard:=none }).run Tryz.prog w=.ok (.enter 81 #[x1,x2,x3]) w:=by
 unfold execOp
 go_simp
 rw [← h1,← h2,← h3]
 simp [Act.eval]
theorem run_callAddI (a:Act) (w:World) (d t1 t2 t3:Nat) (u:TypeId) (ps:String) (ed:Array Edge) (x1 x2 x3:Value) (h1:a.eval (.tmp t1)=x1) (h2:a.eval (.tmp t2)=x2) (h3:a.eval (.tmp t3)=x3) :
  (execOp a.eval { dst:=some d,op:=Op.call { callee:=Callee.value (Operand.func 93),args:=#[Operand.tmp t1,Operand.tmp t2,Operand.tmp t3],argTypes:=#[48,48,48] },type:=u,pos:=ps,after:=ed,guard:=none }).run Tryz.prog w=.ok (.enter 93 #[x1,x2,x3]) w:=by
 unfold execOp
 go_simp
 rw [← h1,← h2,← h3]
 simp [Act.eval]
theorem run_callSubI (a:Act) (w:World) (d t1 t2 t3:Nat) (u:TypeId) (ps:String) (ed:Array Edge) (x1 x2 x3:Value) (h1:a.eval (.tmp t1)=x1) (h2:a.eval (.tmp t2)=x2) (h3:a.eval (.tmp t3)=x3) :
  (execOp a.eval { dst:=some d,op:=Op.call { callee:=Callee.value (Operand.func 139),args:=#[Operand.tmp t1,Operand.tmp t2,Operand.tmp t3],argTypes:=#[48,48,48] },type:=u,pos:=ps,after:=ed,guard:=none }).run Tryz.prog w=.ok (.enter 139 #[x1,x2,x3]) w:=by
 unfold execOp
 go_simp
 rw [← h1,← h2,← h3]
 simp [Act.eval]
theorem intSum_new {w P w1:World} {A:Nat} {v:Value} {z:Int} (hs:Slot P A 0) (hw:But [] w P) (hA:w.heap.size≤A) (hb:But [] P w1) (hv:Sl .u32 w1 v (wd 4294967296 z.natAbs)) :
  But [] w (putI w1 A 0 v (decide (z<0)))∧IntAt (putI w1 A 0 v (decide (z<0))) A 0 z∧(∀ B,B≠A→Slot P B 0→Slot (putI w1 A 0 v (decide (z<0))) B 0)∧(∀ b o z',b≠A→IntAt P b o z'→IntAt (putI w1 A 0 v (decide (z<0))) b o z')∧P.heap.size≤(putI w1 A 0 v (decide (z<0))).heap.size:=by
 have hs1:=hs.but hb (by simp)
 exact ⟨(hw.trans' hb).trans (put_but ..) (by simp;exact hA),put_int hs1 _ _ hv,fun B hB hS=>put_slot_other _ _ (hS.but hb (by simp)) (.inl hB),fun b o z' hB hI=>put_int_other hs1 _ _ (hI.but hb) (.inl hB),by rw [putI_size];exact hb.size⟩
structure SumH (W:World) (P Q R:Int) (b0 b1 b8:Nat) (a0 a1 a8 p q r z:Bool) (w:World):Prop where
 but:But [] W w
 s0:a0=true→W.heap.size≤b0∧b0<w.heap.size∧(r=false→Slot w b0 0)
 s1:a1=true→W.heap.size≤b1∧b1<w.heap.size∧(p=false→Slot w b1 0)
 s8:a8=true→W.heap.size≤b8∧b8<w.heap.size∧(q=false→Slot w b8 0)
 n01:a0=true→a1=true→b0≠b1
 n08:a0=true→a8=true→b0≠b8
 n18:a1=true→a8=true→b1≠b8
 hp:p=true→a1=true∧IntAt w b1 0 P
 hq:q=true→a8=true∧IntAt w b8 0 Q
 hr:r=true→a0=true∧IntAt w b0 0 R
 hz:z=true→r=true
theorem SumH.alloc0 {W:World} {P Q R:Int} {b0 b1 b8:Nat} {a1 a8 p q r z:Bool} {w:World} (h:SumH W P Q R b0 b1 b8 false a1 a8 p q r z w) (t:TypeId):SumH W P Q R w.heap.size b1 b8 true a1 a8 p q r z (w.alloc (.cells #[.bool false,.slice none 0 0] t)):=by
 have hb:But [] w (w.alloc (.cells #[.bool false,.slice none 0 0] t)):=(But.refl _ _).alloc _
 have hs:=hb.size
 exact ⟨h.but.trans' hb,fun _=>⟨h.but.size,by simp,fun _=>slot_new w t⟩,fun e=>⟨(h.s1 e).1,Nat.lt_of_lt_of_le (h.s1 e).2.1 hs,fun k=>((h.s1 e).2.2 k).but hb (by simp)⟩,fun e=>⟨(h.s8 e).1,Nat.lt_of_lt_of_le (h.s8 e).2.1 hs,fun k=>((h.s8 e).2.2 k).but hb (by simp)⟩,
  fun _ e=>Ne.symm (Nat.ne_of_lt (h.s1 e).2.1),fun _ e=>Ne.symm (Nat.ne_of_lt (h.s8 e).2.1),h.n18,fun e=>⟨(h.hp e).1,(h.hp e).2.but hb⟩,fun e=>⟨(h.hq e).1,(h.hq e).2.but hb⟩,fun e=>by have:=(h.hr e).1;simp at this,h.hz⟩
theorem SumH.alloc1 {W:World} {P Q R:Int} {b0 b1 b8:Nat} {a0 a8 p q r z:Bool} {w:World} (h:SumH W P Q R b0 b1 b8 a0 false a8 p q r z w) (t:TypeId):SumH W P Q R b0 w.heap.size b8 a0 true a8 p q r z (w.alloc (.cells #[.bool false,.slice none 0 0] t)):=by
 have hb:But [] w (w.alloc (.cells #[.bool false,.slice none 0 0] t)):=(But.refl _ _).alloc _
 have hs:=hb.size
 exact ⟨h.but.trans' hb,fun e=>⟨(h.s0 e).1,Nat.lt_of_lt_of_le (h.s0 e).2.1 hs,fun k=>((h.s0 e).2.2 k).but hb (by simp)⟩,fun _=>⟨h.but.size,by simp,fun _=>slot_new w t⟩,fun e=>⟨(h.s8 e).1,Nat.lt_of_lt_of_le (h.s8 e).2.1 hs,fun k=>((h.s8 e).2.2 k).but hb (by simp)⟩,
  fun e _=>Nat.ne_of_lt (h.s0 e).2.1,h.n08,fun _ e=>Ne.symm (Nat.ne_of_lt (h.s8 e).2.1),fun e=>by have:=(h.hp e).1;simp at this,fun e=>⟨(h.hq e).1,(h.hq e).2.but hb⟩,fun e=>⟨(h.hr e).1,(h.hr e).2.but hb⟩,h.hz⟩
theorem SumH.alloc8 {W:World} {P Q R:Int} {b0 b1 b8:Nat} {a0 a1 p q r z:Bool} {w:World} (h:SumH W P Q R b0 b1 b8 a0 a1 false p q r z w) (t:TypeId):SumH W P Q R b0 b1 w.heap.size a0 a1 true p q r z (w.alloc (.cells #[.bool false,.slice none 0 0] t)):=by
 have hb:But [] w (w.alloc (.cells #[.bool false,.slice none 0 0] t)):=(But.refl _ _).alloc _
 have hs:=hb.size
 exact ⟨h.but.trans' hb,fun e=>⟨(h.s0 e).1,Nat.lt_of_lt_of_le (h.s0 e).2.1 hs,fun k=>((h.s0 e).2.2 k).but hb (by simp)⟩,fun e=>⟨(h.s1 e).1,Nat.lt_of_lt_of_le (h.s1 e).2.1 hs,fun k=>((h.s1 e).2.2 k).but hb (by simp)⟩,fun _=>⟨h.but.size,by simp,fun _=>slot_new w t⟩,
  h.n01,fun e _=>Nat.ne_of_lt (h.s0 e).2.1,fun e _=>Nat.ne_of_lt (h.s1 e).2.1,fun e=>⟨(h.hp e).1,(h.hp e).2.but hb⟩,fun e=>by have:=(h.hq e).1;simp at this,fun e=>⟨(h.hr e).1,(h.hr e).2.but hb⟩,h.hz⟩
theorem SumH.mulP {W:World} {P Q R:Int} {b0 b1 b8:Nat} {a0 a8 q r z:Bool} {w w':World} (h:SumH W P Q R b0 b1 b8 a0 true a8 false q r z w) (hw:But [] W w') (hI:IntAt w' b1 0 P) (hS:∀ B,B≠b1→Slot w B 0→Slot w' B 0) (hK:∀ b o z',b≠b1→IntAt w b o z'→IntAt w' b o z') (hl:w.heap.size≤w'.heap.size):SumH W P Q R b0 b1 b8 a0 true a8 true q r z w' :=
 ⟨hw,fun e=>⟨(h.s0 e).1,Nat.lt_of_lt_of_le (h.s0 e).2.1 hl,fun k=>hS _ (h.n01 e rfl) ((h.s0 e).2.2 k)⟩,fun e=>⟨(h.s1 e).1,Nat.lt_of_lt_of_le (h.s1 e).2.1 hl,fun k=>by simp at k⟩,fun e=>⟨(h.s8 e).1,Nat.lt_of_lt_of_le (h.s8 e).2.1 hl,fun k=>hS _ (Ne.symm (h.n18 rfl e)) ((h.s8 e).2.2 k)⟩,
  h.n01,h.n08,h.n18,fun _=>⟨rfl,hI⟩,fun e=>⟨(h.hq e).1,hK _ _ _ (Ne.symm (h.n18 rfl (h.hq e).1)) (h.hq e).2⟩,fun e=>⟨(h.hr e).1,hK _ _ _ (h.n01 (h.hr e).1 rfl) (h.hr e).2⟩,h.hz⟩
theorem SumH.mulQ {W:World} {P Q R:Int} {b0 b1 b8:Nat} {a0 a1 p r z:Bool} {w w':World} (h:SumH W P Q R b0 b1 b8 a0 a1 true p false r z w) (hw:But [] W w') (hI:IntAt w' b8 0 Q) (hS:∀ B,B≠b8→Slot w B 0→Slot w' B 0) (hK:∀ b o z',b≠b8→IntAt w b o z'→IntAt w' b o z') (hl:w.heap.size≤w'.heap.size):SumH W P Q R b0 b1 b8 a0 a1 true p true r z w' :=
 ⟨hw,fun e=>⟨(h.s0 e).1,Nat.lt_of_lt_of_le (h.s0 e).2.1 hl,fun k=>hS _ (h.n08 e rfl) ((h.s0 e).2.2 k)⟩,fun e=>⟨(h.s1 e).1,Nat.lt_of_lt_of_le (h.s1 e).2.1 hl,fun k=>hS _ (h.n18 e rfl) ((h.s1 e).2.2 k)⟩,fun e=>⟨(h.s8 e).1,Nat.lt_of_lt_of_le (h.s8 e).2.1 hl,fun k=>by simp at k⟩,
  h.n01,h.n08,h.n18,fun e=>⟨(h.hp e).1,hK _ _ _ (h.n18 (h.hp e).1 rfl) (h.hp e).2⟩,fun _=>⟨rfl,hI⟩,fun e=>⟨(h.hr e).1,hK _ _ _ (h.n08 (h.hr e).1 rfl) (h.hr e).2⟩,h.hz⟩
theorem SumH.sumR {W:World} {P Q R:Int} {b0 b1 b8:Nat} {a1 a8 p q z:Bool} {w w':World} (h:SumH W P Q R b0 b1 b8 true a1 a8 p q false z w) (hw:But [] W w') (hI:IntAt w' b0 0 R) (hS:∀ B,B≠b0→Slot w B 0→Slot w' B 0) (hK:∀ b o z',b≠b0→IntAt w b o z'→IntAt w' b o z') (hl:w.heap.size≤w'.heap.size):SumH W P Q R b0 b1 b8 true a1 a8 p q true z w' :=
 ⟨hw,fun e=>⟨(h.s0 e).1,Nat.lt_of_lt_of_le (h.s0 e).2.1 hl,fun k=>by simp at k⟩,fun e=>⟨(h.s1 e).1,Nat.lt_of_lt_of_le (h.s1 e).2.1 hl,fun k=>hS _ (Ne.symm (h.n01 rfl e)) ((h.s1 e).2.2 k)⟩,fun e=>⟨(h.s8 e).1,Nat.lt_of_lt_of_le (h.s8 e).2.1 hl,fun k=>hS _ (Ne.symm (h.n08 rfl e)) ((h.s8 e).2.2 k)⟩,
  h.n01,h.n08,h.n18,fun e=>⟨(h.hp e).1,hK _ _ _ (Ne.symm (h.n01 rfl (h.hp e).1)) (h.hp e).2⟩,fun e=>⟨(h.hq e).1,hK _ _ _ (Ne.symm (h.n08 rfl (h.hq e).1)) (h.hq e).2⟩,fun _=>⟨rfl,hI⟩,fun _=>rfl⟩
theorem SumH.done {W:World} {P Q R:Int} {b0 b1 b8:Nat} {a0 a1 a8 p q z:Bool} {w:World} (h:SumH W P Q R b0 b1 b8 a0 a1 a8 p q true z w):SumH W P Q R b0 b1 b8 a0 a1 a8 p q true true w :=
 ⟨h.but,h.s0,h.s1,h.s8,h.n01,h.n08,h.n18,h.hp,h.hq,h.hr,fun _=>rfl⟩
def addO0:Oper:={ dst:=some 8,op:=Op.alloc 91,type:=48,pos:= "rat.go:118",after:=#[],guard:=none }
def addO1:Oper:={ dst:=some 9,op:=Op.alloc 91,type:=48,pos:= "rat.go:118",after:=#[],guard:=none }
def addO2:Oper:={ dst:=some 10,op:=Op.move (Operand.tmp 1),type:=29,pos:= "rat.go:118",after:=#[],guard:=none }
def addO3:Oper:={ dst:=some 11,op:=Op.nilCheck (Operand.tmp 10),type:=0,pos:= "rat.go:118",after:=#[⟨2,.data⟩],guard:=none }
def addO4:Oper:={ dst:=some 12,op:=Op.fieldAddr 93 (Operand.tmp 11) 0,type:=0,pos:= "rat.go:118",after:=#[⟨3,.data⟩],guard:=none }
def addO5:Oper:={ dst:=some 13,op:=Op.move (Operand.tmp 2),type:=29,pos:= "rat.go:118",after:=#[],guard:=none }
def addO6:Oper:={ dst:=some 14,op:=Op.call { callee:=Callee.value (Operand.func 79),args:=#[Operand.tmp 13],argTypes:=#[29] },type:=48,pos:= "rat.go:118",after:=#[⟨5,.data⟩],guard:=none }
def addO7:Oper:={ dst:=some 15,op:=Op.call { callee:=Callee.value (Operand.func 81),args:=#[Operand.tmp 9,Operand.tmp 12,Operand.tmp 14],argTypes:=#[48,48,48] },type:=48,pos:= "rat.go:118",after:=#[⟨1,.data⟩,⟨4,.data⟩,⟨6,.data⟩,⟨6,.chain⟩],guard:=none }
def addO8:Oper:={ dst:=some 16,op:=Op.alloc 91,type:=48,pos:= "rat.go:118",after:=#[],guard:=none }
def addO9:Oper:={ dst:=some 17,op:=Op.move (Operand.tmp 2),type:=29,pos:= "rat.go:118",after:=#[],guard:=none }
def addO10:Oper:={ dst:=some 18,op:=Op.nilCheck (Operand.tmp 17),type:=0,pos:= "rat.go:118",after:=#[⟨9,.data⟩],guard:=none }
def addO11:Oper:={ dst:=some 19,op:=Op.fieldAddr 93 (Operand.tmp 18) 0,type:=0,pos:= "rat.go:118",after:=#[⟨10,.data⟩],guard:=none }
def addO12:Oper:={ dst:=some 20,op:=Op.move (Operand.tmp 1),type:=29,pos:= "rat.go:118",after:=#[],guard:=none }
def addO13:Oper:={ dst:=some 21,op:=Op.call { callee:=Callee.value (Operand.func 79),args:=#[Operand.tmp 20],argTypes:=#[29] },type:=48,pos:= "rat.go:118",after:=#[⟨12,.data⟩,⟨7,.chain⟩],guard:=none }
def addO14:Oper:={ dst:=some 22,op:=Op.call { callee:=Callee.value (Operand.func 81),args:=#[Operand.tmp 16,Operand.tmp 19,Operand.tmp 21],argTypes:=#[48,48,48] },type:=48,pos:= "rat.go:118",after:=#[⟨8,.data⟩,⟨11,.data⟩,⟨13,.data⟩,⟨13,.chain⟩],guard:=none }
def addO15:Oper:={ dst:=some 23,op:=Op.call { callee:=Callee.value (Operand.func 93),args:=#[Operand.tmp 8,Operand.tmp 15,Operand.tmp 22],argTypes:=#[48,48,48] },type:=48,pos:= "rat.go:118",after:=#[⟨0,.data⟩,⟨7,.data⟩,⟨14,.data⟩,⟨14,.chain⟩],guard:=none }
def addO16:Oper:={ dst:=some 7,op:=Op.assign (Operand.tmp 23),type:=48,pos:= "rat.go:118",after:=#[⟨15,.data⟩,⟨15,.chain⟩,⟨0,.phase⟩,⟨1,.phase⟩,⟨2,.phase⟩,⟨3,.phase⟩,⟨4,.phase⟩,⟨5,.phase⟩,⟨6,.phase⟩,⟨7,.phase⟩,⟨8,.phase⟩,⟨9,.phase⟩,⟨10,.phase⟩,⟨11,.phase⟩,⟨12,.phase⟩,⟨13,.phase⟩,⟨14,.phase⟩,⟨15,.phase⟩],guard:=none }
def addOs:Array Oper:=#[addO0,addO1,addO2,addO3,addO4,addO5,addO6,addO7,addO8,addO9,addO10,addO11,addO12,addO13,addO14,addO15,addO16]
def addOT (i:Nat):Nat:=match i with
 | 0=>8
 | 1=>9
 | 2=>10
 | 3=>11
 | 4=>12
 | 5=>13
 | 6=>14
 | 7=>15
 | 8=>16
 | 9=>17
 | 10=>18
 | 11=>19
 | 12=>20
 | 13=>21
 | 14=>22
 | 15=>23
 | _=>7
def addOV (xb yb:Nat) (N:Nat × Nat × Nat) (i:Nat):Value:=match i with
 | 0=>.pointer (some ⟨N.1,0,none⟩)
 | 1=>.pointer (some ⟨N.2.1,0,none⟩)
 | 2=>.pointer (some ⟨xb,0,none⟩)
 | 3=>.pointer (some ⟨xb,0,none⟩)
 | 4=>.pointer (some ⟨xb,0,none⟩)
 | 5=>.pointer (some ⟨yb,0,none⟩)
 | 6=>.pointer (some ⟨yb,2,none⟩)
 | 7=>.pointer (some ⟨N.2.1,0,none⟩)
 | 8=>.pointer (some ⟨N.2.2,0,none⟩)
 | 9=>.pointer (some ⟨yb,0,none⟩)
 | 10=>.pointer (some ⟨yb,0,none⟩)
 | 11=>.pointer (some ⟨yb,0,none⟩)
 | 12=>.pointer (some ⟨xb,0,none⟩)
 | 13=>.pointer (some ⟨xb,2,none⟩)
 | 14=>.pointer (some ⟨N.2.2,0,none⟩)
 | 15=>.pointer (some ⟨N.1,0,none⟩)
 | _=>.pointer (some ⟨N.1,0,none⟩)
theorem addOT_inj:∀ i j,i<17→j<17→addOT i=addOT j→i=j:=fun i j hi hj=>(by decide:∀ i,i<17→∀ j,j<17→addOT i=addOT j→i=j) i hi j hj
theorem add_region (id:Nat) (Q:Exit→Act→World→Prop) (base:Act) (W0:World) (xb yb:Nat) (x y P Z R:Int) (nx ny:Nat) (hs:23<base.tmps.size) (e1:base.eval (.tmp 1)=.pointer (some ⟨xb,0,none⟩)) (e2:base.eval (.tmp 2)=.pointer (some ⟨yb,0,none⟩))
  (hx:RatAt W0 xb x (nx:Int)) (hy:RatAt W0 yb y (ny:Int)) (hnx:0<nx) (hny:0<ny) (hxl:(wd 4294967296 x.natAbs).length<8388608) (hyl:(wd 4294967296 y.natAbs).length<8388608) (hnxl:(wd 4294967296 nx).length<8388608) (hnyl:(wd 4294967296 ny).length<8388608) (hP:x*(ny:Int)=P) (hZ:y*(nx:Int)=Z) (hR:R=P+Z) (hPl:(wd 4294967296 P.natAbs).length<8388608) (hZl:(wd 4294967296 Z.natAbs).length<8388608) (hRl:(wd 4294967296 R.natAbs).length<8388608)
  (hQ:∀ w b0 b1 b8,But [] W0 w→W0.heap.size≤b0→IntAt w b0 0 R→Q .normal (putted base [(8,.pointer (some ⟨b0,0,none⟩)),(9,.pointer (some ⟨b1,0,none⟩)),(10,.pointer (some ⟨xb,0,none⟩)),(11,.pointer (some ⟨xb,0,none⟩)),(12,.pointer (some ⟨xb,0,none⟩)),(13,.pointer (some ⟨yb,0,none⟩)),(14,.pointer (some ⟨yb,2,none⟩)),(15,.pointer (some ⟨b1,0,none⟩)),(16,.pointer (some ⟨b8,0,none⟩)),(17,.pointer (some ⟨yb,0,none⟩)),(18,.pointer (some ⟨yb,0,none⟩)),(19,.pointer (some ⟨yb,0,none⟩)),(20,.pointer (some ⟨xb,0,none⟩)),(21,.pointer (some ⟨xb,2,none⟩)),(22,.pointer (some ⟨b8,0,none⟩)),(23,.pointer (some ⟨b0,0,none⟩)),(7,.pointer (some ⟨b0,0,none⟩))]) w) :
  (Code.region id addOs true).wp Tryz.prog Q base W0:=by
 have hdr:∀ {w},But [] W0.drew w→But [] W0 w:=fun h=>(But.refl _ _).drew.trans' h
 have hT:∀ i,i<17→addOT i<base.tmps.size:=fun i hi=>by
  have h:addOT i≤23:=by revert i;decide
  omega
 have lx:=hx.lt
 have ly:=hy.lt
 refine region_names (by kernel_rfl) (low_of (by kernel_rfl)) (bare_of (by kernel_rfl)) (α:=Nat × Nat × Nat) (fun N d w=>SumH W0.drew P Z R N.1 N.2.1 N.2.2 (d 0) (d 1) (d 8) (d 7) (d 14) (d 15) (d 16) w) (addOV xb yb) addOT 17 (by kernel_rfl) addOT_inj hT (0,0,0) ?_ ?_ ?_
 ·exact ⟨But.refl _ _,by simp,by simp,by simp,by simp,by simp,by simp,by simp,by simp,by simp,by simp⟩
 ·rintro ⟨b0,b1,b8⟩ d i o a w K hi ho hdi hCl hH he hdep hk
  have hH':SumH W0.drew P Z R b0 b1 b8 (d 0) (d 1) (d 8) (d 7) (d 14) (d 15) (d 16) w:=hH
  have hD:=dep_is (ps:=[(3,2),(4,3),(6,5),(7,1),(7,4),(7,6),(10,9),(11,10),(13,7),(13,12),(14,8),(14,11),(14,13),(15,0),(15,7),(15,14),(16,0),(16,1),(16,2),(16,3),(16,4),(16,5),(16,6),(16,7),(16,8),(16,9),(16,10),(16,11),(16,12),(16,13),(16,14),(16,15)]) (by kernel_rfl) ho (fun j=>d j=true∧a.eval (.tmp (addOT j))=addOV xb yb (b0,b1,b8) j) hdep
  have e1':=(he 1 (fun j hj e=>absurd e.symm (by revert j;decide))).trans e1
  have e2':=(he 2 (fun j hj e=>absurd e.symm (by revert j;decide))).trans e2
  have hB:=hdr hH'.but
  have hlw:=hB.size
  have:i=0∨i=1∨i=2∨i=3∨i=4∨i=5∨i=6∨i=7∨i=8∨i=9∨i=10∨i=11∨i=12∨i=13∨i=14∨i=15∨i=16:=by omega
  rcases this with rfl | rfl | rfl | rfl | rfl | rfl | rfl | rfl | rfl | rfl | rfl | rfl | rfl | rfl | rfl | rfl | rfl
  ·obtain rfl:=Option.some.inj ((show addOs[0]? = some addO0 from rfl).symm.trans ho)
   rw [hdi] at hH'
   refine does_value (run_allocI a w _ _ _ _) (hk (w.heap.size,b1,b8) _ _ rfl (fun j hj hdj=>?_) (hH'.alloc0 _))
   have:j=0∨j=1∨j=2∨j=3∨j=4∨j=5∨j=6∨j=7∨j=8∨j=9∨j=10∨j=11∨j=12∨j=13∨j=14∨j=15∨j=16:=by omega
   rcases this with rfl | rfl | rfl | rfl | rfl | rfl | rfl | rfl | rfl | rfl | rfl | rfl | rfl | rfl | rfl | rfl | rfl
   all_goals first
    | rfl
    | (rw [hdi] at hdj;simp at hdj)
    | (exfalso;first | (have:=(hH'.hr hdj).1;simp at this) | (have:=(hH'.hr (hH'.hz hdj)).1;simp at this))
  ·obtain rfl:=Option.some.inj ((show addOs[1]? = some addO1 from rfl).symm.trans ho)
   rw [hdi] at hH'
   refine does_value (run_allocI a w _ _ _ _) (hk (b0,w.heap.size,b8) _ _ rfl (fun j hj hdj=>?_) (hH'.alloc1 _))
   have:j=0∨j=1∨j=2∨j=3∨j=4∨j=5∨j=6∨j=7∨j=8∨j=9∨j=10∨j=11∨j=12∨j=13∨j=14∨j=15∨j=16:=by omega
   rcases this with rfl | rfl | rfl | rfl | rfl | rfl | rfl | rfl | rfl | rfl | rfl | rfl | rfl | rfl | rfl | rfl | rfl
   all_goals first
    | rfl
    | (rw [hdi] at hdj;simp at hdj)
    | (exfalso;have:=(hH'.hp hdj).1;simp at this)
  ·obtain rfl:=Option.some.inj ((show addOs[2]? = some addO2 from rfl).symm.trans ho)
   exact does_value (run_moveP a w _ _ _ _ _ _ e1') (hk (b0,b1,b8) _ _ rfl (fun _ _ _=>rfl) hH)
  ·obtain rfl:=Option.some.inj ((show addOs[3]? = some addO3 from rfl).symm.trans ho)
   exact does_value (run_nilP a w _ _ _ _ _ _ 0 (hD 2 (by simp)).2) (hk (b0,b1,b8) _ _ rfl (fun _ _ _=>rfl) hH)
  ·obtain rfl:=Option.some.inj ((show addOs[4]? = some addO4 from rfl).symm.trans ho)
   exact does_value (run_fieldR a w _ _ _ _ _ _ (hD 3 (by simp)).2 (by omega)) (hk (b0,b1,b8) _ _ rfl (fun _ _ _=>rfl) hH)
  ·obtain rfl:=Option.some.inj ((show addOs[5]? = some addO5 from rfl).symm.trans ho)
   exact does_value (run_moveP a w _ _ _ _ _ _ e2') (hk (b0,b1,b8) _ _ rfl (fun _ _ _=>rfl) hH)
  ·obtain rfl:=Option.some.inj ((show addOs[6]? = some addO6 from rfl).symm.trans ho)
   refine does_enter (run_callDen a w _ _ _ _ _ _ (hD 5 (by simp)).2) (R:=fun w' v=>v=.pointer (some ⟨yb,2,none⟩)∧w'=w) ((den_any yb y ny w (hy.but hB) hny).mono (fun e w' h=>⟨_,h.1,rfl,h.2⟩)) ?_
   rintro v w' ⟨rfl,rfl⟩
   exact hk (b0,b1,b8) _ _ rfl (fun _ _ _=>rfl) hH
  ·obtain rfl:=Option.some.inj ((show addOs[7]? = some addO7 from rfl).symm.trans ho)
   have hs1:=hH'.s1 (hD 1 (by simp)).1
   rw [hdi] at hs1
   refine does_enter (run_callMulI a w _ _ _ _ _ _ _ _ _ _ (hD 1 (by simp)).2 (hD 4 (by simp)).2 (hD 6 (by simp)).2) (R:=fun w' v=>v=.pointer (some ⟨b1,0,none⟩)∧But [] W0.drew w'∧IntAt w' b1 0 P∧(∀ B,B≠b1→Slot w B 0→Slot w' B 0)∧(∀ b o z',b≠b1→IntAt w b o z'→IntAt w' b o z')∧w.heap.size≤w'.heap.size) ((intMul_newU b1 xb 0 yb 2 x (ny:Int) P hP W0.drew w (hs1.2.2 rfl) hH'.but hs1.1 hx.drew.up hy.drew.low hxl (by rw [Int.natAbs_natCast];exact hnyl) hPl).mono (fun e w' h=>⟨_,h.1,rfl,h.2⟩)) ?_
   rintro v w' ⟨rfl,k1,k2,k3,k4,k5⟩
   rw [hdi,(hD 1 (by simp)).1] at hH'
   refine hk (b0,b1,b8) _ _ rfl (fun _ _ _=>rfl) ?_
   show SumH W0.drew P Z R b0 b1 b8 (d 0) (d 1) (d 8) true (d 14) (d 15) (d 16) w'
   rw [(hD 1 (by simp)).1]
   exact hH'.mulP k1 k2 k3 k4 k5
  ·obtain rfl:=Option.some.inj ((show addOs[8]? = some addO8 from rfl).symm.trans ho)
   rw [hdi] at hH'
   refine does_value (run_allocI a w _ _ _ _) (hk (b0,b1,w.heap.size) _ _ rfl (fun j hj hdj=>?_) (hH'.alloc8 _))
   have:j=0∨j=1∨j=2∨j=3∨j=4∨j=5∨j=6∨j=7∨j=8∨j=9∨j=10∨j=11∨j=12∨j=13∨j=14∨j=15∨j=16:=by omega
   rcases this with rfl | rfl | rfl | rfl | rfl | rfl | rfl | rfl | rfl | rfl | rfl | rfl | rfl | rfl | rfl | rfl | rfl
   all_goals first
    | rfl
    | (rw [hdi] at hdj;simp at hdj)
    | (exfalso;have:=(hH'.hq hdj).1;simp at this)
  ·obtain rfl:=Option.some.inj ((show addOs[9]? = some addO9 from rfl).symm.trans ho)
   exact does_value (run_moveP a w _ _ _ _ _ _ e2') (hk (b0,b1,b8) _ _ rfl (fun _ _ _=>rfl) hH)
  ·obtain rfl:=Option.some.inj ((show addOs[10]? = some addO10 from rfl).symm.trans ho)
   exact does_value (run_nilP a w _ _ _ _ _ _ 0 (hD 9 (by simp)).2) (hk (b0,b1,b8) _ _ rfl (fun _ _ _=>rfl) hH)
  ·obtain rfl:=Option.some.inj ((show addOs[11]? = some addO11 from rfl).symm.trans ho)
   exact does_value (run_fieldR a w _ _ _ _ _ _ (hD 10 (by simp)).2 (by omega)) (hk (b0,b1,b8) _ _ rfl (fun _ _ _=>rfl) hH)
  ·obtain rfl:=Option.some.inj ((show addOs[12]? = some addO12 from rfl).symm.trans ho)
   exact does_value (run_moveP a w _ _ _ _ _ _ e1') (hk (b0,b1,b8) _ _ rfl (fun _ _ _=>rfl) hH)
  ·obtain rfl:=Option.some.inj ((show addOs[13]? = some addO13 from rfl).symm.trans ho)
   refine does_enter (run_callDen a w _ _ _ _ _ _ (hD 12 (by simp)).2) (R:=fun w' v=>v=.pointer (some ⟨xb,2,none⟩)∧w'=w) ((den_any xb x nx w (hx.but hB) hnx).mono (fun e w' h=>⟨_,h.1,rfl,h.2⟩)) ?_
   rintro v w' ⟨rfl,rfl⟩
   exact hk (b0,b1,b8) _ _ rfl (fun _ _ _=>rfl) hH
  ·obtain rfl:=Option.some.inj ((show addOs[14]? = some addO14 from rfl).symm.trans ho)
   have hs1:=hH'.s8 (hD 8 (by simp)).1
   rw [hdi] at hs1
   refine does_enter (run_callMulI a w _ _ _ _ _ _ _ _ _ _ (hD 8 (by simp)).2 (hD 11 (by simp)).2 (hD 13 (by simp)).2) (R:=fun w' v=>v=.pointer (some ⟨b8,0,none⟩)∧But [] W0.drew w'∧IntAt w' b8 0 Z∧(∀ B,B≠b8→Slot w B 0→Slot w' B 0)∧(∀ b o z',b≠b8→IntAt w b o z'→IntAt w' b o z')∧w.heap.size≤w'.heap.size) ((intMul_newU b8 yb 0 xb 2 y (nx:Int) Z hZ W0.drew w (hs1.2.2 rfl) hH'.but hs1.1 hy.drew.up hx.drew.low hyl (by rw [Int.natAbs_natCast];exact hnxl) hZl).mono (fun e w' h=>⟨_,h.1,rfl,h.2⟩)) ?_
   rintro v w' ⟨rfl,k1,k2,k3,k4,k5⟩
   rw [hdi,(hD 8 (by simp)).1] at hH'
   refine hk (b0,b1,b8) _ _ rfl (fun _ _ _=>rfl) ?_
   show SumH W0.drew P Z R b0 b1 b8 (d 0) (d 1) (d 8) (d 7) true (d 15) (d 16) w'
   rw [(hD 8 (by simp)).1]
   exact hH'.mulQ k1 k2 k3 k4 k5
  ·obtain rfl:=Option.some.inj ((show addOs[15]? = some addO15 from rfl).symm.trans ho)
   have d0:=(hD 0 (by simp)).1
   have hs1:=hH'.s0 d0
   rw [hdi] at hs1
   have hp7:=hH'.hp (hD 7 (by simp)).1
   have hq14:=hH'.hq (hD 14 (by simp)).1
   refine does_enter (run_callAddI a w _ _ _ _ _ _ _ _ _ _ (hD 0 (by simp)).2 (hD 7 (by simp)).2 (hD 14 (by simp)).2) (R:=fun w' v=>v=.pointer (some ⟨b0,0,none⟩)∧But [] W0.drew w'∧IntAt w' b0 0 R∧(∀ B,B≠b0→Slot w B 0→Slot w' B 0)∧(∀ b o z',b≠b0→IntAt w b o z'→IntAt w' b o z')∧w.heap.size≤w'.heap.size) ((intAddU_any b0 0 b1 0 b8 0 P Z R w (hs1.2.2 rfl) (hH'.n01 d0 hp7.1) (hH'.n08 d0 hq14.1) hp7.2 hq14.2 hPl hZl (by omega) hR).mono (fun e w' h=>by
    obtain ⟨h1,w1,v,h2,h3,rfl⟩:=h
    exact ⟨_,h1,rfl,intSum_new (hs1.2.2 rfl) hH'.but hs1.1 h2 h3⟩)) ?_
   rintro v w' ⟨rfl,k1,k2,k3,k4,k5⟩
   rw [hdi,d0] at hH'
   refine hk (b0,b1,b8) _ _ rfl (fun _ _ _=>rfl) ?_
   show SumH W0.drew P Z R b0 b1 b8 (d 0) (d 1) (d 8) (d 7) (d 14) true (d 16) w'
   rw [d0]
   exact hH'.sumR k1 k2 k3 k4 k5
  ·obtain rfl:=Option.some.inj ((show addOs[16]? = some addO16 from rfl).symm.trans ho)
   have d15:=(hD 15 (by simp)).1
   rw [d15] at hH'
   refine does_value (run_assP a w _ _ _ _ _ _ (hD 15 (by simp)).2) (hk (b0,b1,b8) _ _ rfl (fun _ _ _=>rfl) ?_)
   show SumH W0.drew P Z R b0 b1 b8 (d 0) (d 1) (d 8) (d 7) (d 14) (d 15) true w
   rw [d15]
   exact hH'.done
 ·rintro ⟨b0,b1,b8⟩ d w hd hH
  have hH':SumH W0.drew P Z R b0 b1 b8 (d 0) (d 1) (d 8) (d 7) (d 14) (d 15) (d 16) w:=hH
  exact hQ w b0 b1 b8 (hdr hH'.but) (hH'.s0 (hd 0 (by omega))).1 (hH'.hr (hd 15 (by omega))).2
theorem ratAddU_any (zb xb yb:Nat) (x y:Int) (nx ny:Nat) (w:World) (hz0:Slot w zb 0) (hz2:Slot w zb 2) (hx:RatAt w xb x (nx:Int)) (hy:RatAt w yb y (ny:Int)) (hnx:0<nx) (hny:0<ny) (hxl:(wd 4294967296 x.natAbs).length<8388608) (hyl:(wd 4294967296 y.natAbs).length<8388608) (hnxl:(wd 4294967296 nx).length<8388608) (hnyl:(wd 4294967296 ny).length<8388608) (P Z R D:Int) (hP:x*(ny:Int)=P) (hZ:y*(nx:Int)=Z) (hR:R=P+Z) (hD:(nx:Int)*(ny:Int)=D) (hPl:(wd 4294967296 P.natAbs).length<8388608) (hZl:(wd 4294967296 Z.natAbs).length<8388608) (hRl:(wd 4294967296 R.natAbs).length<8388608) (hDl:(wd 4294967296 D.natAbs).length<8388608) (hD0:D≠0) (A B:Int) (eA:Hid (A=redN (if D<0 then -R else R) D.natAbs)) (eB:Hid (B=redD R D.natAbs)) :
  Calls Tryz.prog 70 #[.pointer (some ⟨zb,0,none⟩),.pointer (some ⟨xb,0,none⟩),.pointer (some ⟨yb,0,none⟩)] w fun e w'=>e=.returned (.pointer (some ⟨zb,0,none⟩))∧But [zb] w w'∧RatAt w' zb A B:=by
 have HX:=hide hx
 have HY:=hide hy
 have HZ0:=hide hz0
 have HZ2:=hide hz2
 have REG:=hide (fun (Q:Exit→Act→World→Prop) (base:Act) (hs:23<base.tmps.size) (e1:base.eval (.tmp 1)=.pointer (some ⟨xb,0,none⟩)) (e2:base.eval (.tmp 2)=.pointer (some ⟨yb,0,none⟩))=>add_region 1 Q base w xb yb x y P Z R nx ny hs e1 e2 hx hy hnx hny hxl hyl hnxl hnyl hP hZ hR hPl hZl hRl)
 have DX:=hide (fun W (h:RatAt W xb x (nx:Int))=>den_any xb x nx W h hnx)
 have DY:=hide (fun W (h:RatAt W yb y (ny:Int))=>den_any yb y ny W h hny)
 have MU:=hide (fun (A:Nat) (w P:World) (hs:Slot P A 0) (hw:But [] w P) (hA:w.heap.size≤A) (hx:RatAt w xb x (nx:Int)) (hy:RatAt w yb y (ny:Int))=>intMul_newU A xb 2 yb 2 (nx:Int) (ny:Int) D hD w P hs hw hA hx.low hy.low (by rw [Int.natAbs_natCast];exact hnxl) (by rw [Int.natAbs_natCast];exact hnyl) hDl)
 have SF:=hide (fun (b0 b1:Nat) (W:World) (h0:Slot W zb 0) (h2:Slot W zb 2) (ha:IntAt W b0 0 R) (hb:IntAt W b1 0 D)=>setFracU_any zb b0 0 b1 0 R D W h0 h2 ha hb hRl hDl hD0 A B eA eB)
 clear hx hy hz0 hz2 hnx hny hxl hyl hnxl hnyl hP hZ hR hD hPl hZl hRl hDl hD0 eA eB
 go_enter Tryz.func70,Tryz.ntmps70
 go_wp2_with fail
 refine unhide REG _ _ (by simp) (by simp [Act.eval]) (by simp [Act.eval]) ?_
 intro w1 b0 b1 b8 hb1 hb0 hI
 simp only [putted,List.foldl_cons,List.foldl_nil,Act.put,List.setIfInBounds_toArray,List.set_cons_zero,List.set_cons_succ]
 obtain ⟨W0,hW0⟩:∃ W0,W0=w1.alloc (.cells #[.bool false,.slice none 0 0] 91):=⟨_,rfl⟩
 have hs:=slot_new w1 91
 rw [← hW0] at hs
 have hbw:But [] w1 W0:=by rw [hW0];exact (But.refl _ _).alloc _
 have hb2:=hb1.trans' hbw
 have K0:=hide (And.intro hs (And.intro hbw (And.intro hb1 (And.intro hb0 hI))))
 have KX:=hide ((unhide HX).but hb2)
 have KY:=hide ((unhide HY).but hb2)
 have HW0:=hide hW0
 clear hW0 hs hbw hb1 hb0 hb2 hI
 obtain ⟨g,hg⟩:∃ g,g=w1.heap.size:=⟨_,rfl⟩
 go_wp2_with fail
 rw [← unhide HW0,← hg]
 rw [← hg] at K0
 have HG:=hide hg
 clear hg
 refine (unhide DX _ (unhide KX)).mono ?_
 rintro e w2 ⟨rfl,hw⟩
 obtain rfl:=hw.symm
 clear hw
 go_wp2_with fail
 refine (unhide DY _ (unhide KY)).mono ?_
 rintro e w2 ⟨rfl,hw⟩
 obtain rfl:=hw.symm
 clear hw
 go_wp2_with fail
 refine (unhide MU g w1 W0 (unhide K0).1 (unhide K0).2.1 (Nat.le_of_eq (unhide HG).symm) ((unhide HX).but (unhide K0).2.2.1) ((unhide HY).but (unhide K0).2.2.1)).mono ?_
 rintro e w2 ⟨rfl,k1,k2,k3,k4,k5⟩
 have S0:=hide (And.intro (unhide HZ0) (unhide HZ2))
 have FIN:Hid (Slot w2 zb 0∧Slot w2 zb 2∧IntAt w2 b0 0 R∧IntAt w2 g 0 D∧But [] w w2):=by
  obtain ⟨hs,hbw,hb1,hb0,hI⟩:=unhide K0
  have hb3:=hb1.trans' k1
  exact ⟨(unhide HZ0).but hb3 (by simp),(unhide HZ2).but hb3 (by simp),hI.but k1,k2,hb3⟩
 clear k1 k2 k3 k4 k5 S0 K0 KX KY HW0 HG MU DX DY REG HX HY HZ0 HZ2
 go_wp2_with fail
 refine (unhide SF b0 g _ (unhide FIN).1 (unhide FIN).2.1 (unhide FIN).2.2.1 (unhide FIN).2.2.2.1).mono ?_
 rintro e w3 ⟨rfl,k1,k2⟩
 have F3:=hide (And.intro ((unhide FIN).2.2.2.2.of_nil.trans k1 (fun x hx=>.inl hx)) k2)
 clear k1 k2 FIN SF
 go_wp2
 go_ret
 exact ⟨rfl,(unhide F3).1,(unhide F3).2⟩
end Go.Proofs.YteipfplbcbaheaaGreatDoor

namespace Go.Proofs.YteipfplbcbaheaaGreatDoor
open Go.RowKit
set_option maxHeartbeats 8000000
set_option maxRecDepth 100000
def subO0:Oper:={ dst:=some 8,op:=Op.alloc 91,type:=48,pos:= "rat.go:124",after:=#[],guard:=none }
def subO1:Oper:={ dst:=some 9,op:=Op.alloc 91,type:=48,pos:= "rat.go:124",after:=#[],guard:=none }
def subO2:Oper:={ dst:=some 10,op:=Op.move (Operand.tmp 1),type:=29,pos:= "rat.go:124",after:=#[],guard:=none }
def subO3:Oper:={ dst:=some 11,op:=Op.nilCheck (Operand.tmp 10),type:=0,pos:= "rat.go:124",after:=#[⟨2,.data⟩],guard:=none }
def subO4:Oper:={ dst:=some 12,op:=Op.fieldAddr 93 (Operand.tmp 11) 0,type:=0,pos:= "rat.go:124",after:=#[⟨3,.data⟩],guard:=none }
def subO5:Oper:={ dst:=some 13,op:=Op.move (Operand.tmp 2),type:=29,pos:= "rat.go:124",after:=#[],guard:=none }
def subO6:Oper:={ dst:=some 14,op:=Op.call { callee:=Callee.value (Operand.func 79),args:=#[Operand.tmp 13],argTypes:=#[29] },type:=48,pos:= "rat.go:124",after:=#[⟨5,.data⟩],guard:=none }
def subO7:Oper:={ dst:=some 15,op:=Op.call { callee:=Callee.value (Operand.func 81),args:=#[Operand.tmp 9,Operand.tmp 12,Operand.tmp 14],argTypes:=#[48,48,48] },type:=48,pos:= "rat.go:124",after:=#[⟨1,.data⟩,⟨4,.data⟩,⟨6,.data⟩,⟨6,.chain⟩],guard:=none }
def subO8:Oper:={ dst:=some 16,op:=Op.alloc 91,type:=48,pos:= "rat.go:124",after:=#[],guard:=none }
def subO9:Oper:={ dst:=some 17,op:=Op.move (Operand.tmp 2),type:=29,pos:= "rat.go:124",after:=#[],guard:=none }
def subO10:Oper:={ dst:=some 18,op:=Op.nilCheck (Operand.tmp 17),type:=0,pos:= "rat.go:124",after:=#[⟨9,.data⟩],guard:=none }
def subO11:Oper:={ dst:=some 19,op:=Op.fieldAddr 93 (Operand.tmp 18) 0,type:=0,pos:= "rat.go:124",after:=#[⟨10,.data⟩],guard:=none }
def subO12:Oper:={ dst:=some 20,op:=Op.move (Operand.tmp 1),type:=29,pos:= "rat.go:124",after:=#[],guard:=none }
def subO13:Oper:={ dst:=some 21,op:=Op.call { callee:=Callee.value (Operand.func 79),args:=#[Operand.tmp 20],argTypes:=#[29] },type:=48,pos:= "rat.go:124",after:=#[⟨12,.data⟩,⟨7,.chain⟩],guard:=none }
def subO14:Oper:={ dst:=some 22,op:=Op.call { callee:=Callee.value (Operand.func 81),args:=#[Operand.tmp 16,Operand.tmp 19,Operand.tmp 21],argTypes:=#[48,48,48] },type:=48,pos:= "rat.go:124",after:=#[⟨8,.data⟩,⟨11,.data⟩,⟨13,.data⟩,⟨13,.chain⟩],guard:=none }
def subO15:Oper:={ dst:=some 23,op:=Op.call { callee:=Callee.value (Operand.func 139),args:=#[Operand.tmp 8,Operand.tmp 15,Operand.tmp 22],argTypes:=#[48,48,48] },type:=48,pos:= "rat.go:124",after:=#[⟨0,.data⟩,⟨7,.data⟩,⟨14,.data⟩,⟨14,.chain⟩],guard:=none }
def subO16:Oper:={ dst:=some 7,op:=Op.assign (Operand.tmp 23),type:=48,pos:= "rat.go:124",after:=#[⟨15,.data⟩,⟨15,.chain⟩,⟨0,.phase⟩,⟨1,.phase⟩,⟨2,.phase⟩,⟨3,.phase⟩,⟨4,.phase⟩,⟨5,.phase⟩,⟨6,.phase⟩,⟨7,.phase⟩,⟨8,.phase⟩,⟨9,.phase⟩,⟨10,.phase⟩,⟨11,.phase⟩,⟨12,.phase⟩,⟨13,.phase⟩,⟨14,.phase⟩,⟨15,.phase⟩],guard:=none }
def subOs:Array Oper:=#[subO0,subO1,subO2,subO3,subO4,subO5,subO6,subO7,subO8,subO9,subO10,subO11,subO12,subO13,subO14,subO15,subO16]
def subOT (i:Nat):Nat:=match i with
 | 0=>8
 | 1=>9
 | 2=>10
 | 3=>11
 | 4=>12
 | 5=>13
 | 6=>14
 | 7=>15
 | 8=>16
 | 9=>17
 | 10=>18
 | 11=>19
 | 12=>20
 | 13=>21
 | 14=>22
 | 15=>23
 | _=>7
def subOV (xb yb:Nat) (N:Nat × Nat × Nat) (i:Nat):Value:=match i with
 | 0=>.pointer (some ⟨N.1,0,none⟩)
 | 1=>.pointer (some ⟨N.2.1,0,none⟩)
 | 2=>.pointer (some ⟨xb,0,none⟩)
 | 3=>.pointer (some ⟨xb,0,none⟩)
 | 4=>.pointer (some ⟨xb,0,none⟩)
 | 5=>.pointer (some ⟨yb,0,none⟩)
 | 6=>.pointer (some ⟨yb,2,none⟩)
 | 7=>.pointer (some ⟨N.2.1,0,none⟩)
 | 8=>.pointer (some ⟨N.2.2,0,none⟩)
 | 9=>.pointer (some ⟨yb,0,none⟩)
 | 10=>.pointer (some ⟨yb,0,none⟩)
 | 11=>.pointer (some ⟨yb,0,none⟩)
 | 12=>.pointer (some ⟨xb,0,none⟩)
 | 13=>.pointer (some ⟨xb,2,none⟩)
 | 14=>.pointer (some ⟨N.2.2,0,none⟩)
 | 15=>.pointer (some ⟨N.1,0,none⟩)
 | _=>.pointer (some ⟨N.1,0,none⟩)
theorem subOT_inj:∀ i j,i<17→j<17→subOT i=subOT j→i=j:=fun i j hi hj=>(by decide:∀ i,i<17→∀ j,j<17→subOT i=subOT j→i=j) i hi j hj
theorem sub_region (id:Nat) (Q:Exit→Act→World→Prop) (base:Act) (W0:World) (xb yb:Nat) (x y P Z R:Int) (nx ny:Nat) (hs:23<base.tmps.size) (e1:base.eval (.tmp 1)=.pointer (some ⟨xb,0,none⟩)) (e2:base.eval (.tmp 2)=.pointer (some ⟨yb,0,none⟩))
  (hx:RatAt W0 xb x (nx:Int)) (hy:RatAt W0 yb y (ny:Int)) (hnx:0<nx) (hny:0<ny) (hxl:(wd 4294967296 x.natAbs).length<8388608) (hyl:(wd 4294967296 y.natAbs).length<8388608) (hnxl:(wd 4294967296 nx).length<8388608) (hnyl:(wd 4294967296 ny).length<8388608) (hP:x*(ny:Int)=P) (hZ:y*(nx:Int)=Z) (hR:R=P-Z) (hPl:(wd 4294967296 P.natAbs).length<8388608) (hZl:(wd 4294967296 Z.natAbs).length<8388608) (hRl:(wd 4294967296 R.natAbs).length<8388608)
  (hQ:∀ w b0 b1 b8,But [] W0 w→W0.heap.size≤b0→IntAt w b0 0 R→Q .normal (putted base [(8,.pointer (some ⟨b0,0,none⟩)),(9,.pointer (some ⟨b1,0,none⟩)),(10,.pointer (some ⟨xb,0,none⟩)),(11,.pointer (some ⟨xb,0,none⟩)),(12,.pointer (some ⟨xb,0,none⟩)),(13,.pointer (some ⟨yb,0,none⟩)),(14,.pointer (some ⟨yb,2,none⟩)),(15,.pointer (some ⟨b1,0,none⟩)),(16,.pointer (some ⟨b8,0,none⟩)),(17,.pointer (some ⟨yb,0,none⟩)),(18,.pointer (some ⟨yb,0,none⟩)),(19,.pointer (some ⟨yb,0,none⟩)),(20,.pointer (some ⟨xb,0,none⟩)),(21,.pointer (some ⟨xb,2,none⟩)),(22,.pointer (some ⟨b8,0,none⟩)),(23,.pointer (some ⟨b0,0,none⟩)),(7,.pointer (some ⟨b0,0,none⟩))]) w) :
  (Code.region id subOs true).wp Tryz.prog Q base W0:=by
 have hdr:∀ {w},But [] W0.drew w→But [] W0 w:=fun h=>(But.refl _ _).drew.trans' h
 have hT:∀ i,i<17→subOT i<base.tmps.size:=fun i hi=>by
  have h:subOT i≤23:=by revert i;decide
  omega
 have lx:=hx.lt
 have ly:=hy.lt
 refine region_names (by kernel_rfl) (low_of (by kernel_rfl)) (bare_of (by kernel_rfl)) (α:=Nat × Nat × Nat) (fun N d w=>SumH W0.drew P Z R N.1 N.2.1 N.2.2 (d 0) (d 1) (d 8) (d 7) (d 14) (d 15) (d 16) w) (subOV xb yb) subOT 17 (by kernel_rfl) subOT_inj hT (0,0,0) ?_ ?_ ?_
 ·exact ⟨But.refl _ _,by simp,by simp,by simp,by simp,by simp,by simp,by simp,by simp,by simp,by simp⟩
 ·rintro ⟨b0,b1,b8⟩ d i o a w K hi ho hdi hCl hH he hdep hk
  have hH':SumH W0.drew P Z R b0 b1 b8 (d 0) (d 1) (d 8) (d 7) (d 14) (d 15) (d 16) w:=hH
  have hD:=dep_is (ps:=[(3,2),(4,3),(6,5),(7,1),(7,4),(7,6),(10,9),(11,10),(13,7),(13,12),(14,8),(14,11),(14,13),(15,0),(15,7),(15,14),(16,0),(16,1),(16,2),(16,3),(16,4),(16,5),(16,6),(16,7),(16,8),(16,9),(16,10),(16,11),(16,12),(16,13),(16,14),(16,15)]) (by kernel_rfl) ho (fun j=>d j=true∧a.eval (.tmp (subOT j))=subOV xb yb (b0,b1,b8) j) hdep
  have e1':=(he 1 (fun j hj e=>absurd e.symm (by revert j;decide))).trans e1
  have e2':=(he 2 (fun j hj e=>absurd e.symm (by revert j;decide))).trans e2
  have hB:=hdr hH'.but
  have hlw:=hB.size
  have:i=0∨i=1∨i=2∨i=3∨i=4∨i=5∨i=6∨i=7∨i=8∨i=9∨i=10∨i=11∨i=12∨i=13∨i=14∨i=15∨i=16:=by omega
  rcases this with rfl | rfl | rfl | rfl | rfl | rfl | rfl | rfl | rfl | rfl | rfl | rfl | rfl | rfl | rfl | rfl | rfl
  ·obtain rfl:=Option.some.inj ((show subOs[0]? = some subO0 from rfl).symm.trans ho)
   rw [hdi] at hH'
   refine does_value (run_allocI a w _ _ _ _) (hk (w.heap.size,b1,b8) _ _ rfl (fun j hj hdj=>?_) (hH'.alloc0 _))
   have:j=0∨j=1∨j=2∨j=3∨j=4∨j=5∨j=6∨j=7∨j=8∨j=9∨j=10∨j=11∨j=12∨j=13∨j=14∨j=15∨j=16:=by omega
   rcases this with rfl | rfl | rfl | rfl | rfl | rfl | rfl | rfl | rfl | rfl | rfl | rfl | rfl | rfl | rfl | rfl | rfl
   all_goals first
    | rfl
    | (rw [hdi] at hdj;simp at hdj)
    | (exfalso;first | (have:=(hH'.hr hdj).1;simp at this) | (have:=(hH'.hr (hH'.hz hdj)).1;simp at this))
  ·obtain rfl:=Option.some.inj ((show subOs[1]? = some subO1 from rfl).symm.trans ho)
   rw [hdi] at hH'
   refine does_value (run_allocI a w _ _ _ _) (hk (b0,w.heap.size,b8) _ _ rfl (fun j hj hdj=>?_) (hH'.alloc1 _))
   have:j=0∨j=1∨j=2∨j=3∨j=4∨j=5∨j=6∨j=7∨j=8∨j=9∨j=10∨j=11∨j=12∨j=13∨j=14∨j=15∨j=16:=by omega
   rcases this with rfl | rfl | rfl | rfl | rfl | rfl | rfl | rfl | rfl | rfl | rfl | rfl | rfl | rfl | rfl | rfl | rfl
   all_goals first
    | rfl
    | (rw [hdi] at hdj;simp at hdj)
    | (exfalso;have:=(hH'.hp hdj).1;simp at this)
  ·obtain rfl:=Option.some.inj ((show subOs[2]? = some subO2 from rfl).symm.trans ho)
   exact does_value (run_moveP a w _ _ _ _ _ _ e1') (hk (b0,b1,b8) _ _ rfl (fun _ _ _=>rfl) hH)
  ·obtain rfl:=Option.some.inj ((show subOs[3]? = some subO3 from rfl).symm.trans ho)
   exact does_value (run_nilP a w _ _ _ _ _ _ 0 (hD 2 (by simp)).2) (hk (b0,b1,b8) _ _ rfl (fun _ _ _=>rfl) hH)
  ·obtain rfl:=Option.some.inj ((show subOs[4]? = some subO4 from rfl).symm.trans ho)
   exact does_value (run_fieldR a w _ _ _ _ _ _ (hD 3 (by simp)).2 (by omega)) (hk (b0,b1,b8) _ _ rfl (fun _ _ _=>rfl) hH)
  ·obtain rfl:=Option.some.inj ((show subOs[5]? = some subO5 from rfl).symm.trans ho)
   exact does_value (run_moveP a w _ _ _ _ _ _ e2') (hk (b0,b1,b8) _ _ rfl (fun _ _ _=>rfl) hH)
  ·obtain rfl:=Option.some.inj ((show subOs[6]? = some subO6 from rfl).symm.trans ho)
   refine does_enter (run_callDen a w _ _ _ _ _ _ (hD 5 (by simp)).2) (R:=fun w' v=>v=.pointer (some ⟨yb,2,none⟩)∧w'=w) ((den_any yb y ny w (hy.but hB) hny).mono (fun e w' h=>⟨_,h.1,rfl,h.2⟩)) ?_
   rintro v w' ⟨rfl,rfl⟩
   exact hk (b0,b1,b8) _ _ rfl (fun _ _ _=>rfl) hH
  ·obtain rfl:=Option.some.inj ((show subOs[7]? = some subO7 from rfl).symm.trans ho)
   have hs1:=hH'.s1 (hD 1 (by simp)).1
   rw [hdi] at hs1
   refine does_enter (run_callMulI a w _ _ _ _ _ _ _ _ _ _ (hD 1 (by simp)).2 (hD 4 (by simp)).2 (hD 6 (by simp)).2) (R:=fun w' v=>v=.pointer (some ⟨b1,0,none⟩)∧But [] W0.drew w'∧IntAt w' b1 0 P∧(∀ B,B≠b1→Slot w B 0→Slot w' B 0)∧(∀ b o z',b≠b1→IntAt w b o z'→IntAt w' b o z')∧w.heap.size≤w'.heap.size) ((intMul_newU b1 xb 0 yb 2 x (ny:Int) P hP W0.drew w (hs1.2.2 rfl) hH'.but hs1.1 hx.drew.up hy.drew.low hxl (by rw [Int.natAbs_natCast];exact hnyl) hPl).mono (fun e w' h=>⟨_,h.1,rfl,h.2⟩)) ?_
   rintro v w' ⟨rfl,k1,k2,k3,k4,k5⟩
   rw [hdi,(hD 1 (by simp)).1] at hH'
   refine hk (b0,b1,b8) _ _ rfl (fun _ _ _=>rfl) ?_
   show SumH W0.drew P Z R b0 b1 b8 (d 0) (d 1) (d 8) true (d 14) (d 15) (d 16) w'
   rw [(hD 1 (by simp)).1]
   exact hH'.mulP k1 k2 k3 k4 k5
  ·obtain rfl:=Option.some.inj ((show subOs[8]? = some subO8 from rfl).symm.trans ho)
   rw [hdi] at hH'
   refine does_value (run_allocI a w _ _ _ _) (hk (b0,b1,w.heap.size) _ _ rfl (fun j hj hdj=>?_) (hH'.alloc8 _))
   have:j=0∨j=1∨j=2∨j=3∨j=4∨j=5∨j=6∨j=7∨j=8∨j=9∨j=10∨j=11∨j=12∨j=13∨j=14∨j=15∨j=16:=by omega
   rcases this with rfl | rfl | rfl | rfl | rfl | rfl | rfl | rfl | rfl | rfl | rfl | rfl | rfl | rfl | rfl | rfl | rfl
   all_goals first
    | rfl
    | (rw [hdi] at hdj;simp at hdj)
    | (exfalso;have:=(hH'.hq hdj).1;simp at this)
  ·obtain rfl:=Option.some.inj ((show subOs[9]? = some subO9 from rfl).symm.trans ho)
   exact does_value (run_moveP a w _ _ _ _ _ _ e2') (hk (b0,b1,b8) _ _ rfl (fun _ _ _=>rfl) hH)
  ·obtain rfl:=Option.some.inj ((show subOs[10]? = some subO10 from rfl).symm.trans ho)
   exact does_value (run_nilP a w _ _ _ _ _ _ 0 (hD 9 (by simp)).2) (hk (b0,b1,b8) _ _ rfl (fun _ _ _=>rfl) hH)
  ·obtain rfl:=Option.some.inj ((show subOs[11]? = some subO11 from rfl).symm.trans ho)
   exact does_value (run_fieldR a w _ _ _ _ _ _ (hD 10 (by simp)).2 (by omega)) (hk (b0,b1,b8) _ _ rfl (fun _ _ _=>rfl) hH)
  ·obtain rfl:=Option.some.inj ((show subOs[12]? = some subO12 from rfl).symm.trans ho)
   exact does_value (run_moveP a w _ _ _ _ _ _ e1') (hk (b0,b1,b8) _ _ rfl (fun _ _ _=>rfl) hH)
  ·obtain rfl:=Option.some.inj ((show subOs[13]? = some subO13 from rfl).symm.trans ho)
   refine does_enter (run_callDen a w _ _ _ _ _ _ (hD 12 (by simp)).2) (R:=fun w' v=>v=.pointer (some ⟨xb,2,none⟩)∧w'=w) ((den_any xb x nx w (hx.but hB) hnx).mono (fun e w' h=>⟨_,h.1,rfl,h.2⟩)) ?_
   rintro v w' ⟨rfl,rfl⟩
   exact hk (b0,b1,b8) _ _ rfl (fun _ _ _=>rfl) hH
  ·obtain rfl:=Option.some.inj ((show subOs[14]? = some subO14 from rfl).symm.trans ho)
   have hs1:=hH'.s8 (hD 8 (by simp)).1
   rw [hdi] at hs1
   refine does_enter (run_callMulI a w _ _ _ _ _ _ _ _ _ _ (hD 8 (by simp)).2 (hD 11 (by simp)).2 (hD 13 (by simp)).2) (R:=fun w' v=>v=.pointer (some ⟨b8,0,none⟩)∧But [] W0.drew w'∧IntAt w' b8 0 Z∧(∀ B,B≠b8→Slot w B 0→Slot w' B 0)∧(∀ b o z',b≠b8→IntAt w b o z'→IntAt w' b o z')∧w.heap.size≤w'.heap.size) ((intMul_newU b8 yb 0 xb 2 y (nx:Int) Z hZ W0.drew w (hs1.2.2 rfl) hH'.but hs1.1 hy.drew.up hx.drew.low hyl (by rw [Int.natAbs_natCast];exact hnxl) hZl).mono (fun e w' h=>⟨_,h.1,rfl,h.2⟩)) ?_
   rintro v w' ⟨rfl,k1,k2,k3,k4,k5⟩
   rw [hdi,(hD 8 (by simp)).1] at hH'
   refine hk (b0,b1,b8) _ _ rfl (fun _ _ _=>rfl) ?_
   show SumH W0.drew P Z R b0 b1 b8 (d 0) (d 1) (d 8) (d 7) true (d 15) (d 16) w'
   rw [(hD 8 (by simp)).1]
   exact hH'.mulQ k1 k2 k3 k4 k5
  ·obtain rfl:=Option.some.inj ((show subOs[15]? = some subO15 from rfl).symm.trans ho)
   have d0:=(hD 0 (by simp)).1
   have hs1:=hH'.s0 d0
   rw [hdi] at hs1
   have hp7:=hH'.hp (hD 7 (by simp)).1
   have hq14:=hH'.hq (hD 14 (by simp)).1
   refine does_enter (run_callSubI a w _ _ _ _ _ _ _ _ _ _ (hD 0 (by simp)).2 (hD 7 (by simp)).2 (hD 14 (by simp)).2) (R:=fun w' v=>v=.pointer (some ⟨b0,0,none⟩)∧But [] W0.drew w'∧IntAt w' b0 0 R∧(∀ B,B≠b0→Slot w B 0→Slot w' B 0)∧(∀ b o z',b≠b0→IntAt w b o z'→IntAt w' b o z')∧w.heap.size≤w'.heap.size) ((intSubU_any b0 0 b1 0 b8 0 P Z R w (hs1.2.2 rfl) (hH'.n01 d0 hp7.1) (hH'.n08 d0 hq14.1) hp7.2 hq14.2 hPl hZl (by omega) hR).mono (fun e w' h=>by
    obtain ⟨h1,w1,v,h2,h3,rfl⟩:=h
    exact ⟨_,h1,rfl,intSum_new (hs1.2.2 rfl) hH'.but hs1.1 h2 h3⟩)) ?_
   rintro v w' ⟨rfl,k1,k2,k3,k4,k5⟩
   rw [hdi,d0] at hH'
   refine hk (b0,b1,b8) _ _ rfl (fun _ _ _=>rfl) ?_
   show SumH W0.drew P Z R b0 b1 b8 (d 0) (d 1) (d 8) (d 7) (d 14) true (d 16) w'
   rw [d0]
   exact hH'.sumR k1 k2 k3 k4 k5
  ·obtain rfl:=Option.some.inj ((show subOs[16]? = some subO16 from rfl).symm.trans ho)
   have d15:=(hD 15 (by simp)).1
   rw [d15] at hH'
   refine does_value (run_assP a w _ _ _ _ _ _ (hD 15 (by simp)).2) (hk (b0,b1,b8) _ _ rfl (fun _ _ _=>rfl) ?_)
   show SumH W0.drew P Z R b0 b1 b8 (d 0) (d 1) (d 8) (d 7) (d 14) (d 15) true w
   rw [d15]
   exact hH'.done
 ·rintro ⟨b0,b1,b8⟩ d w hd hH
  have hH':SumH W0.drew P Z R b0 b1 b8 (d 0) (d 1) (d 8) (d 7) (d 14) (d 15) (d 16) w:=hH
  exact hQ w b0 b1 b8 (hdr hH'.but) (hH'.s0 (hd 0 (by omega))).1 (hH'.hr (hd 15 (by omega))).2
theorem ratSubU_any (zb xb yb:Nat) (x y:Int) (nx ny:Nat) (w:World) (hz0:Slot w zb 0) (hz2:Slot w zb 2) (hx:RatAt w xb x (nx:Int)) (hy:RatAt w yb y (ny:Int)) (hnx:0<nx) (hny:0<ny) (hxl:(wd 4294967296 x.natAbs).length<8388608) (hyl:(wd 4294967296 y.natAbs).length<8388608) (hnxl:(wd 4294967296 nx).length<8388608) (hnyl:(wd 4294967296 ny).length<8388608) (P Z R D:Int) (hP:x*(ny:Int)=P) (hZ:y*(nx:Int)=Z) (hR:R=P-Z) (hD:(nx:Int)*(ny:Int)=D) (hPl:(wd 4294967296 P.natAbs).length<8388608) (hZl:(wd 4294967296 Z.natAbs).length<8388608) (hRl:(wd 4294967296 R.natAbs).length<8388608) (hDl:(wd 4294967296 D.natAbs).length<8388608) (hD0:D≠0) (A B:Int) (eA:Hid (A=redN (if D<0 then -R else R) D.natAbs)) (eB:Hid (B=redD R D.natAbs)) :
  Calls Tryz.prog 71 #[.pointer (some ⟨zb,0,none⟩),.pointer (some ⟨xb,0,none⟩),.pointer (some ⟨yb,0,none⟩)] w fun e w'=>e=.returned (.pointer (some ⟨zb,0,none⟩))∧But [zb] w w'∧RatAt w' zb A B:=by
 have HX:=hide hx
 have HY:=hide hy
 have HZ0:=hide hz0
 have HZ2:=hide hz2
 have REG:=hide (fun (Q:Exit→Act→World→Prop) (base:Act) (hs:23<base.tmps.size) (e1:base.eval (.tmp 1)=.pointer (some ⟨xb,0,none⟩)) (e2:base.eval (.tmp 2)=.pointer (some ⟨yb,0,none⟩))=>sub_region 1 Q base w xb yb x y P Z R nx ny hs e1 e2 hx hy hnx hny hxl hyl hnxl hnyl hP hZ hR hPl hZl hRl)
 have DX:=hide (fun W (h:RatAt W xb x (nx:Int))=>den_any xb x nx W h hnx)
 have DY:=hide (fun W (h:RatAt W yb y (ny:Int))=>den_any yb y ny W h hny)
 have MU:=hide (fun (A:Nat) (w P:World) (hs:Slot P A 0) (hw:But [] w P) (hA:w.heap.size≤A) (hx:RatAt w xb x (nx:Int)) (hy:RatAt w yb y (ny:Int))=>intMul_newU A xb 2 yb 2 (nx:Int) (ny:Int) D hD w P hs hw hA hx.low hy.low (by rw [Int.natAbs_natCast];exact hnxl) (by rw [Int.natAbs_natCast];exact hnyl) hDl)
 have SF:=hide (fun (b0 b1:Nat) (W:World) (h0:Slot W zb 0) (h2:Slot W zb 2) (ha:IntAt W b0 0 R) (hb:IntAt W b1 0 D)=>setFracU_any zb b0 0 b1 0 R D W h0 h2 ha hb hRl hDl hD0 A B eA eB)
 clear hx hy hz0 hz2 hnx hny hxl hyl hnxl hnyl hP hZ hR hD hPl hZl hRl hDl hD0 eA eB
 go_enter Tryz.func71,Tryz.ntmps71
 go_wp2_with fail
 refine unhide REG _ _ (by simp) (by simp [Act.eval]) (by simp [Act.eval]) ?_
 intro w1 b0 b1 b8 hb1 hb0 hI
 simp only [putted,List.foldl_cons,List.foldl_nil,Act.put,List.setIfInBounds_toArray,List.set_cons_zero,List.set_cons_succ]
 obtain ⟨W0,hW0⟩:∃ W0,W0=w1.alloc (.cells #[.bool false,.slice none 0 0] 91):=⟨_,rfl⟩
 have hs:=slot_new w1 91
 rw [← hW0] at hs
 have hbw:But [] w1 W0:=by rw [hW0];exact (But.refl _ _).alloc _
 have hb2:=hb1.trans' hbw
 have K0:=hide (And.intro hs (And.intro hbw (And.intro hb1 (And.intro hb0 hI))))
 have KX:=hide ((unhide HX).but hb2)
 have KY:=hide ((unhide HY).but hb2)
 have HW0:=hide hW0
 clear hW0 hs hbw hb1 hb0 hb2 hI
 obtain ⟨g,hg⟩:∃ g,g=w1.heap.size:=⟨_,rfl⟩
 go_wp2_with fail
 rw [← unhide HW0,← hg]
 rw [← hg] at K0
 have HG:=hide hg
 clear hg
 refine (unhide DX _ (unhide KX)).mono ?_
 rintro e w2 ⟨rfl,hw⟩
 obtain rfl:=hw.symm
 clear hw
 go_wp2_with fail
 refine (unhide DY _ (unhide KY)).mono ?_
 rintro e w2 ⟨rfl,hw⟩
 obtain rfl:=hw.symm
 clear hw
 go_wp2_with fail
 refine (unhide MU g w1 W0 (unhide K0).1 (unhide K0).2.1 (Nat.le_of_eq (unhide HG).symm) ((unhide HX).but (unhide K0).2.2.1) ((unhide HY).but (unhide K0).2.2.1)).mono ?_
 rintro e w2 ⟨rfl,k1,k2,k3,k4,k5⟩
 have S0:=hide (And.intro (unhide HZ0) (unhide HZ2))
 have FIN:Hid (Slot w2 zb 0∧Slot w2 zb 2∧IntAt w2 b0 0 R∧IntAt w2 g 0 D∧But [] w w2):=by
  obtain ⟨hs,hbw,hb1,hb0,hI⟩:=unhide K0
  have hb3:=hb1.trans' k1
  exact ⟨(unhide HZ0).but hb3 (by simp),(unhide HZ2).but hb3 (by simp),hI.but k1,k2,hb3⟩
 clear k1 k2 k3 k4 k5 S0 K0 KX KY HW0 HG MU DX DY REG HX HY HZ0 HZ2
 go_wp2_with fail
 refine (unhide SF b0 g _ (unhide FIN).1 (unhide FIN).2.1 (unhide FIN).2.2.1 (unhide FIN).2.2.2.1).mono ?_
 rintro e w3 ⟨rfl,k1,k2⟩
 have F3:=hide (And.intro ((unhide FIN).2.2.2.2.of_nil.trans k1 (fun x hx=>.inl hx)) k2)
 clear k1 k2 FIN SF
 go_wp2
 go_ret
 exact ⟨rfl,(unhide F3).1,(unhide F3).2⟩
end Go.Proofs.YteipfplbcbaheaaGreatDoor

namespace Go.Proofs.YteipfplbcbaheaaGreatDoor
open Go.RowKit
set_option maxHeartbeats 4000000
set_option maxRecDepth 100000
theorem run_fieldI (a:Act) (w:World) (d t:Nat) (u:TypeId) (ps:String) (ed:Array Edge) (b o:Nat) (h:a.eval (.tmp t)=.pointer (some ⟨b,o,none⟩)) (_hl:b<w.heap.size) :
  (execOp a.eval { dst:=some d,op:=Op.fieldAddr 91 (.tmp t) 0,type:=u,pos:=ps,after:=ed,guard:=none }).run Tryz.prog w=.ok (.value (.pointer (some ⟨b,o,none⟩))) w:=by
 unfold execOp
 simp only [h]
 go_simp
theorem run_fieldJ (a:Act) (w:World) (d t:Nat) (u:TypeId) (ps:String) (ed:Array Edge) (b o:Nat) (h:a.eval (.tmp t)=.pointer (some ⟨b,o,none⟩)) (_hl:b<w.heap.size) :
  (execOp a.eval { dst:=some d,op:=Op.fieldAddr 91 (.tmp t) 1,type:=u,pos:=ps,after:=ed,guard:=none }).run Tryz.prog w=.ok (.value (.pointer (some ⟨b,o+1,none⟩))) w:=by
 unfold execOp
 simp only [h]
 go_simp
theorem run_loadB (a:Act) (w:World) (d t:Nat) (u:TypeId) (ps:String) (ed:Array Edge) (b o:Nat) (s:Bool) (h:a.eval (.tmp t)=.pointer (some ⟨b,o,none⟩)) (hc:w.cell? ⟨b,o,none⟩=some (.bool s)) :
  (execOp a.eval { dst:=some d,op:=Op.load 4 (.tmp t),type:=u,pos:=ps,after:=ed,guard:=none }).run Tryz.prog w=.ok (.value (.bool s)) w:=by
 unfold execOp
 simp only [h]
 go_simp
theorem run_loadW (a:Act) (w:World) (d t:Nat) (u:TypeId) (ps:String) (ed:Array Edge) (b o:Nat) (q:Option Addr) (n c:Nat) (h:a.eval (.tmp t)=.pointer (some ⟨b,o,none⟩)) (hc:w.cell? ⟨b,o,none⟩=some (.slice q n c)) :
  (execOp a.eval { dst:=some d,op:=Op.load 89 (.tmp t),type:=u,pos:=ps,after:=ed,guard:=none }).run Tryz.prog w=.ok (.value (.slice q n c)) w:=by
 unfold execOp
 simp only [h]
 go_simp
theorem run_notB (a:Act) (w:World) (d t:Nat) (u:TypeId) (ps:String) (ed:Array Edge) (s:Bool) (h:a.eval (.tmp t)=.bool s) :
  (execOp a.eval { dst:=some d,op:=Op.unOp UnOp.not 4 (.tmp t),type:=u,pos:=ps,after:=ed,guard:=none }).run Tryz.prog w=.ok (.value (.bool !s)) w:=by
 unfold execOp
 simp only [h]
 go_simp
theorem run_ext0 (a:Act) (w:World) (d t:Nat) (u:TypeId) (ps:String) (ed:Array Edge) (x y:Value) (h:a.eval (.tmp t)=.tuple #[x,y]) :
  (execOp a.eval { dst:=some d,op:=Op.extract (.tmp t) 0,type:=u,pos:=ps,after:=ed,guard:=none }).run Tryz.prog w=.ok (.value x) w:=by
 unfold execOp
 simp only [h]
 go_simp
theorem run_ext1 (a:Act) (w:World) (d t:Nat) (u:TypeId) (ps:String) (ed:Array Edge) (x y:Value) (h:a.eval (.tmp t)=.tuple #[x,y]) :
  (execOp a.eval { dst:=some d,op:=Op.extract (.tmp t) 1,type:=u,pos:=ps,after:=ed,guard:=none }).run Tryz.prog w=.ok (.value y) w:=by
 unfold execOp
 simp only [h]
 go_simp
theorem run_callSumW (a:Act) (w:World) (d t1 t2 t3 t4:Nat) (u:TypeId) (ps:String) (ed:Array Edge) (x1 x2 x3 x4:Value) (h1:a.eval (.tmp t1)=x1) (h2:a.eval (.tmp t2)=x2) (h3:a.eval (.tmp t3)=x3) (h4:a.eval (.tmp t4)=x4) :
  (execOp a.eval { dst:=some d,op:=Op.call { callee:=Callee.value (Operand.func 157),args:=#[Operand.tmp t1,Operand.tmp t2,Operand.tmp t3,Operand.tmp t4],argTypes:=#[4,89,4,89] },type:=u,pos:=ps,after:=ed,guard:=none }).run Tryz.prog w=.ok (.enter 157 #[x1,x2,x3,x4]) w:=by
 unfold execOp
 go_simp
 rw [← h1,← h2,← h3,← h4]
 simp [Act.eval]
theorem run_callGive (a:Act) (w:World) (d t1 t2 t3:Nat) (u:TypeId) (ps:String) (ed:Array Edge) (x1 x2 x3:Value) (h1:a.eval (.tmp t1)=x1) (h2:a.eval (.tmp t2)=x2) (h3:a.eval (.tmp t3)=x3) :
  (execOp a.eval { dst:=some d,op:=Op.call { callee:=Callee.value (Operand.func 146),args:=#[Operand.tmp t1,Operand.tmp t2,Operand.tmp t3],argTypes:=#[48,4,89] },type:=u,pos:=ps,after:=ed,guard:=none }).run Tryz.prog w=.ok (.enter 146 #[x1,x2,x3]) w:=by
 unfold execOp
 go_simp
 rw [← h1,← h2,← h3]
 simp [Act.eval]
structure GiveH (W:World) (b o:Nat) (z:Int) (c g s:Bool) (v:Value) (w:World):Prop where
 size:W.heap.size≤w.heap.size
 but:g=false→But [] W w
 sum:c=true→g=false→Sl .u32 w v (wd 4294967296 z.natAbs)
 sg:c=true→(s && decide (0<(wd 4294967296 z.natAbs).length))=decide (z<0)
 fin:g=true→∃ w1,But [] W w1∧Sl .u32 w1 v (wd 4294967296 z.natAbs)∧w=putI w1 b o v (decide (z<0))
def iaddO0:Oper:={ dst:=some 7,op:=Op.move (Operand.tmp 0),type:=48,pos:= "int.go:462",after:=#[],guard:=none }
def iaddO1:Oper:={ dst:=some 8,op:=Op.move (Operand.tmp 1),type:=48,pos:= "int.go:462",after:=#[],guard:=none }
def iaddO2:Oper:={ dst:=some 9,op:=Op.nilCheck (Operand.tmp 8),type:=0,pos:= "int.go:462",after:=#[⟨1,.data⟩],guard:=none }
def iaddO3:Oper:={ dst:=some 10,op:=Op.fieldAddr 91 (Operand.tmp 9) 0,type:=0,pos:= "int.go:462",after:=#[⟨2,.data⟩],guard:=none }
def iaddO4:Oper:={ dst:=some 11,op:=Op.load 4 (Operand.tmp 10),type:=4,pos:= "int.go:462",after:=#[⟨3,.data⟩],guard:=none }
def iaddO5:Oper:={ dst:=some 12,op:=Op.move (Operand.tmp 1),type:=48,pos:= "int.go:462",after:=#[],guard:=none }
def iaddO6:Oper:={ dst:=some 13,op:=Op.nilCheck (Operand.tmp 12),type:=0,pos:= "int.go:462",after:=#[⟨5,.data⟩],guard:=none }
def iaddO7:Oper:={ dst:=some 14,op:=Op.fieldAddr 91 (Operand.tmp 13) 1,type:=0,pos:= "int.go:462",after:=#[⟨6,.data⟩],guard:=none }
def iaddO8:Oper:={ dst:=some 15,op:=Op.load 89 (Operand.tmp 14),type:=89,pos:= "int.go:462",after:=#[⟨7,.data⟩],guard:=none }
def iaddO9:Oper:={ dst:=some 16,op:=Op.move (Operand.tmp 2),type:=48,pos:= "int.go:462",after:=#[],guard:=none }
def iaddO10:Oper:={ dst:=some 17,op:=Op.nilCheck (Operand.tmp 16),type:=0,pos:= "int.go:462",after:=#[⟨9,.data⟩],guard:=none }
def iaddO11:Oper:={ dst:=some 18,op:=Op.fieldAddr 91 (Operand.tmp 17) 0,type:=0,pos:= "int.go:462",after:=#[⟨10,.data⟩],guard:=none }
def iaddO12:Oper:={ dst:=some 19,op:=Op.load 4 (Operand.tmp 18),type:=4,pos:= "int.go:462",after:=#[⟨11,.data⟩],guard:=none }
def iaddO13:Oper:={ dst:=some 20,op:=Op.move (Operand.tmp 2),type:=48,pos:= "int.go:462",after:=#[],guard:=none }
def iaddO14:Oper:={ dst:=some 21,op:=Op.nilCheck (Operand.tmp 20),type:=0,pos:= "int.go:462",after:=#[⟨13,.data⟩],guard:=none }
def iaddO15:Oper:={ dst:=some 22,op:=Op.fieldAddr 91 (Operand.tmp 21) 1,type:=0,pos:= "int.go:462",after:=#[⟨14,.data⟩],guard:=none }
def iaddO16:Oper:={ dst:=some 23,op:=Op.load 89 (Operand.tmp 22),type:=89,pos:= "int.go:462",after:=#[⟨15,.data⟩],guard:=none }
def iaddO17:Oper:={ dst:=some 24,op:=Op.call { callee:=Callee.value (Operand.func 157),args:=#[Operand.tmp 11,Operand.tmp 15,Operand.tmp 19,Operand.tmp 23],argTypes:=#[4,89,4,89] },type:=186,pos:= "int.go:462",after:=#[⟨4,.data⟩,⟨8,.data⟩,⟨12,.data⟩,⟨16,.data⟩],guard:=none }
def iaddO18:Oper:={ dst:=some 25,op:=Op.extract (Operand.tmp 24) 0,type:=4,pos:= "int.go:462",after:=#[⟨17,.data⟩],guard:=none }
def iaddO19:Oper:={ dst:=some 26,op:=Op.extract (Operand.tmp 24) 1,type:=89,pos:= "int.go:462",after:=#[⟨17,.data⟩],guard:=none }
def iaddO20:Oper:={ dst:=some 27,op:=Op.call { callee:=Callee.value (Operand.func 146),args:=#[Operand.tmp 7,Operand.tmp 25,Operand.tmp 26],argTypes:=#[48,4,89] },type:=48,pos:= "int.go:462",after:=#[⟨0,.data⟩,⟨18,.data⟩,⟨19,.data⟩,⟨17,.chain⟩],guard:=none }
def iaddO21:Oper:={ dst:=some 6,op:=Op.assign (Operand.tmp 27),type:=48,pos:= "int.go:462",after:=#[⟨20,.data⟩,⟨20,.chain⟩,⟨0,.phase⟩,⟨1,.phase⟩,⟨2,.phase⟩,⟨3,.phase⟩,⟨4,.phase⟩,⟨5,.phase⟩,⟨6,.phase⟩,⟨7,.phase⟩,⟨8,.phase⟩,⟨9,.phase⟩,⟨10,.phase⟩,⟨11,.phase⟩,⟨12,.phase⟩,⟨13,.phase⟩,⟨14,.phase⟩,⟨15,.phase⟩,⟨16,.phase⟩,⟨17,.phase⟩,⟨18,.phase⟩,⟨19,.phase⟩,⟨20,.phase⟩],guard:=none }
def iaddOs:Array Oper:=#[iaddO0,iaddO1,iaddO2,iaddO3,iaddO4,iaddO5,iaddO6,iaddO7,iaddO8,iaddO9,iaddO10,iaddO11,iaddO12,iaddO13,iaddO14,iaddO15,iaddO16,iaddO17,iaddO18,iaddO19,iaddO20,iaddO21]
def iaddOT (i:Nat):Nat:=match i with
 | 0=>7
 | 1=>8
 | 2=>9
 | 3=>10
 | 4=>11
 | 5=>12
 | 6=>13
 | 7=>14
 | 8=>15
 | 9=>16
 | 10=>17
 | 11=>18
 | 12=>19
 | 13=>20
 | 14=>21
 | 15=>22
 | 16=>23
 | 17=>24
 | 18=>25
 | 19=>26
 | 20=>27
 | _=>6
def iaddOV (b o b1 o1 b2 o2:Nat) (sx sy:Bool) (qx qy:Option Addr) (lx cx ly cy:Nat) (N:Bool × Value) (i:Nat):Value:=match i with
 | 0=>.pointer (some ⟨b,o,none⟩)
 | 1=>.pointer (some ⟨b1,o1,none⟩)
 | 2=>.pointer (some ⟨b1,o1,none⟩)
 | 3=>.pointer (some ⟨b1,o1,none⟩)
 | 4=>.bool sx
 | 5=>.pointer (some ⟨b1,o1,none⟩)
 | 6=>.pointer (some ⟨b1,o1,none⟩)
 | 7=>.pointer (some ⟨b1,o1+1,none⟩)
 | 8=>.slice qx lx cx
 | 9=>.pointer (some ⟨b2,o2,none⟩)
 | 10=>.pointer (some ⟨b2,o2,none⟩)
 | 11=>.pointer (some ⟨b2,o2,none⟩)
 | 12=>.bool sy
 | 13=>.pointer (some ⟨b2,o2,none⟩)
 | 14=>.pointer (some ⟨b2,o2,none⟩)
 | 15=>.pointer (some ⟨b2,o2+1,none⟩)
 | 16=>.slice qy ly cy
 | 17=>.tuple #[.bool N.1,N.2]
 | 18=>.bool N.1
 | 19=>N.2
 | 20=>.pointer (some ⟨b,o,none⟩)
 | _=>.pointer (some ⟨b,o,none⟩)
theorem iaddOT_inj:∀ i j,i<22→j<22→iaddOT i=iaddOT j→i=j:=fun i j hi hj=>(by decide:∀ i,i<22→∀ j,j<22→iaddOT i=iaddOT j→i=j) i hi j hj
theorem iadd_region (id:Nat) (Q:Exit→Act→World→Prop) (base:Act) (W0:World) (b o b1 o1 b2 o2:Nat) (sx sy:Bool) (qx qy:Option Addr) (lx cx ly cy:Nat) (z:Int) (hs:27<base.tmps.size) (e0:base.eval (.tmp 0)=.pointer (some ⟨b,o,none⟩)) (e1:base.eval (.tmp 1)=.pointer (some ⟨b1,o1,none⟩)) (e2:base.eval (.tmp 2)=.pointer (some ⟨b2,o2,none⟩))
  (hz:Slot W0 b o) (x0:W0.cell? ⟨b1,o1,none⟩=some (.bool sx)) (x1:W0.cell? ⟨b1,o1+1,none⟩=some (.slice qx lx cx)) (y0:W0.cell? ⟨b2,o2,none⟩=some (.bool sy)) (y1:W0.cell? ⟨b2,o2+1,none⟩=some (.slice qy ly cy)) (hzl:(wd 4294967296 z.natAbs).length<2147483648)
  (SM:∀ W,But [] W0 W→Calls Tryz.prog 157 #[.bool sx,.slice qx lx cx,.bool sy,.slice qy ly cy] W fun e w'=>∃ s v,e=.returned (.tuple #[.bool s,v])∧Sl .u32 w' v (wd 4294967296 z.natAbs)∧But [] W w'∧(s && decide (0<(wd 4294967296 z.natAbs).length))=decide (z<0))
  (hQ:∀ w s v,(∃ w1,But [] W0 w1∧Sl .u32 w1 v (wd 4294967296 z.natAbs)∧w=putI w1 b o v (decide (z<0)))→Q .normal (putted base [(7,.pointer (some ⟨b,o,none⟩)),(8,.pointer (some ⟨b1,o1,none⟩)),(9,.pointer (some ⟨b1,o1,none⟩)),(10,.pointer (some ⟨b1,o1,none⟩)),(11,.bool sx),(12,.pointer (some ⟨b1,o1,none⟩)),(13,.pointer (some ⟨b1,o1,none⟩)),(14,.pointer (some ⟨b1,o1+1,none⟩)),(15,.slice qx lx cx),(16,.pointer (some ⟨b2,o2,none⟩)),(17,.pointer (some ⟨b2,o2,none⟩)),(18,.pointer (some ⟨b2,o2,none⟩)),(19,.bool sy),(20,.pointer (some ⟨b2,o2,none⟩)),(21,.pointer (some ⟨b2,o2,none⟩)),(22,.pointer (some ⟨b2,o2+1,none⟩)),(23,.slice qy ly cy),(24,.tuple #[.bool s,v]),(25,.bool s),(26,v),(27,.pointer (some ⟨b,o,none⟩)),(6,.pointer (some ⟨b,o,none⟩))]) w) :
  (Code.region id iaddOs true).wp Tryz.prog Q base W0:=by
 have hdr:∀ {w},But [] W0.drew w→But [] W0 w:=fun h=>(But.refl _ _).drew.trans' h
 have hT:∀ i,i<22→iaddOT i<base.tmps.size:=fun i hi=>by
  have h:iaddOT i≤27:=by revert i;decide
  omega
 have lx':=lt_of_cell x0
 have ly':=lt_of_cell y0
 simp only at lx' ly'
 refine region_names (by kernel_rfl) (low_of (by kernel_rfl)) (bare_of (by kernel_rfl)) (α:=Bool × Value) (fun N d w=>GiveH W0.drew b o z (d 17) (d 20) N.1 N.2 w) (iaddOV b o b1 o1 b2 o2 sx sy qx qy lx cx ly cy) iaddOT 22 (by kernel_rfl) iaddOT_inj hT (false,undef) ?_ ?_ ?_
 ·exact ⟨Nat.le_refl _,fun _=>But.refl _ _,by simp,by simp,by simp⟩
 ·rintro ⟨s,v⟩ d i o' a w K hi ho hdi hCl hH he hdep hk
  have hN:∀ i j,(i,j) ∈ [(20,17),(17,4),(17,8),(17,16),(18,17),(19,17),(17,12)]→d j=false→d i=false:=fun i j hij h=>hCl.not (ps:=[(20,17),(17,4),(17,8),(17,16),(18,17),(19,17),(17,12)]) (by kernel_rfl) hij h
  have hH':GiveH W0.drew b o z (d 17) (d 20) s v w:=hH
  have hD:=dep_is (ps:=[(2,1),(3,2),(4,3),(6,5),(7,6),(8,7),(10,9),(11,10),(12,11),(14,13),(15,14),(16,15),(17,4),(17,8),(17,12),(17,16),(18,17),(19,17),(20,0),(20,17),(20,18),(20,19),(21,0),(21,1),(21,2),(21,3),(21,4),(21,5),(21,6),(21,7),(21,8),(21,9),(21,10),(21,11),(21,12),(21,13),(21,14),(21,15),(21,16),(21,17),(21,18),(21,19),(21,20)]) (by kernel_rfl) ho (fun j=>d j=true∧a.eval (.tmp (iaddOT j))=iaddOV b o b1 o1 b2 o2 sx sy qx qy lx cx ly cy (s,v) j) hdep
  have e0':=(he 0 (fun j hj e=>absurd e.symm (by revert j;decide))).trans e0
  have e1':=(he 1 (fun j hj e=>absurd e.symm (by revert j;decide))).trans e1
  have e2':=(he 2 (fun j hj e=>absurd e.symm (by revert j;decide))).trans e2
  have hlw:W0.heap.size≤w.heap.size:=hH'.size
  have:i=0∨i=1∨i=2∨i=3∨i=4∨i=5∨i=6∨i=7∨i=8∨i=9∨i=10∨i=11∨i=12∨i=13∨i=14∨i=15∨i=16∨i=17∨i=18∨i=19∨i=20∨i=21:=by omega
  rcases this with rfl | rfl | rfl | rfl | rfl | rfl | rfl | rfl | rfl | rfl | rfl | rfl | rfl | rfl | rfl | rfl | rfl | rfl | rfl | rfl | rfl | rfl
  ·obtain rfl:=Option.some.inj ((show iaddOs[0]? = some iaddO0 from rfl).symm.trans ho)
   exact does_value (run_moveP a w _ _ _ _ _ _ e0') (hk (s,v) _ _ rfl (fun _ _ _=>rfl) hH)
  ·obtain rfl:=Option.some.inj ((show iaddOs[1]? = some iaddO1 from rfl).symm.trans ho)
   exact does_value (run_moveP a w _ _ _ _ _ _ e1') (hk (s,v) _ _ rfl (fun _ _ _=>rfl) hH)
  ·obtain rfl:=Option.some.inj ((show iaddOs[2]? = some iaddO2 from rfl).symm.trans ho)
   exact does_value (run_nilP a w _ _ _ _ _ _ _ (hD 1 (by simp)).2) (hk (s,v) _ _ rfl (fun _ _ _=>rfl) hH)
  ·obtain rfl:=Option.some.inj ((show iaddOs[3]? = some iaddO3 from rfl).symm.trans ho)
   exact does_value (run_fieldI a w _ _ _ _ _ _ _ (hD 2 (by simp)).2 (by omega)) (hk (s,v) _ _ rfl (fun _ _ _=>rfl) hH)
  ·obtain rfl:=Option.some.inj ((show iaddOs[4]? = some iaddO4 from rfl).symm.trans ho)
   have hb:=hdr (hH'.but (hN 20 17 (by simp) (hN 17 4 (by simp) hdi)))
   exact does_value (run_loadB a w _ _ _ _ _ _ _ _ (hD 3 (by simp)).2 (hb.cell_some x0 (by simp))) (hk (s,v) _ _ rfl (fun _ _ _=>rfl) hH)
  ·obtain rfl:=Option.some.inj ((show iaddOs[5]? = some iaddO5 from rfl).symm.trans ho)
   exact does_value (run_moveP a w _ _ _ _ _ _ e1') (hk (s,v) _ _ rfl (fun _ _ _=>rfl) hH)
  ·obtain rfl:=Option.some.inj ((show iaddOs[6]? = some iaddO6 from rfl).symm.trans ho)
   exact does_value (run_nilP a w _ _ _ _ _ _ _ (hD 5 (by simp)).2) (hk (s,v) _ _ rfl (fun _ _ _=>rfl) hH)
  ·obtain rfl:=Option.some.inj ((show iaddOs[7]? = some iaddO7 from rfl).symm.trans ho)
   exact does_value (run_fieldJ a w _ _ _ _ _ _ _ (hD 6 (by simp)).2 (by omega)) (hk (s,v) _ _ rfl (fun _ _ _=>rfl) hH)
  ·obtain rfl:=Option.some.inj ((show iaddOs[8]? = some iaddO8 from rfl).symm.trans ho)
   have hb:=hdr (hH'.but (hN 20 17 (by simp) (hN 17 8 (by simp) hdi)))
   exact does_value (run_loadW a w _ _ _ _ _ _ _ _ _ _ (hD 7 (by simp)).2 (hb.cell_some x1 (by simp))) (hk (s,v) _ _ rfl (fun _ _ _=>rfl) hH)
  ·obtain rfl:=Option.some.inj ((show iaddOs[9]? = some iaddO9 from rfl).symm.trans ho)
   exact does_value (run_moveP a w _ _ _ _ _ _ e2') (hk (s,v) _ _ rfl (fun _ _ _=>rfl) hH)
  ·obtain rfl:=Option.some.inj ((show iaddOs[10]? = some iaddO10 from rfl).symm.trans ho)
   exact does_value (run_nilP a w _ _ _ _ _ _ _ (hD 9 (by simp)).2) (hk (s,v) _ _ rfl (fun _ _ _=>rfl) hH)
  ·obtain rfl:=Option.some.inj ((show iaddOs[11]? = some iaddO11 from rfl).symm.trans ho)
   exact does_value (run_fieldI a w _ _ _ _ _ _ _ (hD 10 (by simp)).2 (by omega)) (hk (s,v) _ _ rfl (fun _ _ _=>rfl) hH)
  ·obtain rfl:=Option.some.inj ((show iaddOs[12]? = some iaddO12 from rfl).symm.trans ho)
   have hb:=hdr (hH'.but (hN 20 17 (by simp) (hN 17 12 (by simp) hdi)))
   exact does_value (run_loadB a w _ _ _ _ _ _ _ _ (hD 11 (by simp)).2 (hb.cell_some y0 (by simp))) (hk (s,v) _ _ rfl (fun _ _ _=>rfl) hH)
  ·obtain rfl:=Option.some.inj ((show iaddOs[13]? = some iaddO13 from rfl).symm.trans ho)
   exact does_value (run_moveP a w _ _ _ _ _ _ e2') (hk (s,v) _ _ rfl (fun _ _ _=>rfl) hH)
  ·obtain rfl:=Option.some.inj ((show iaddOs[14]? = some iaddO14 from rfl).symm.trans ho)
   exact does_value (run_nilP a w _ _ _ _ _ _ _ (hD 13 (by simp)).2) (hk (s,v) _ _ rfl (fun _ _ _=>rfl) hH)
  ·obtain rfl:=Option.some.inj ((show iaddOs[15]? = some iaddO15 from rfl).symm.trans ho)
   exact does_value (run_fieldJ a w _ _ _ _ _ _ _ (hD 14 (by simp)).2 (by omega)) (hk (s,v) _ _ rfl (fun _ _ _=>rfl) hH)
  ·obtain rfl:=Option.some.inj ((show iaddOs[16]? = some iaddO16 from rfl).symm.trans ho)
   have hb:=hdr (hH'.but (hN 20 17 (by simp) (hN 17 16 (by simp) hdi)))
   exact does_value (run_loadW a w _ _ _ _ _ _ _ _ _ _ (hD 15 (by simp)).2 (hb.cell_some y1 (by simp))) (hk (s,v) _ _ rfl (fun _ _ _=>rfl) hH)
  ·obtain rfl:=Option.some.inj ((show iaddOs[17]? = some iaddO17 from rfl).symm.trans ho)
   have hg:d 20=false:=hN 20 17 (by simp) hdi
   have hb:=hH'.but hg
   refine does_enter (run_callSumW a w _ _ _ _ _ _ _ _ _ _ _ _ (hD 4 (by simp)).2 (hD 8 (by simp)).2 (hD 12 (by simp)).2 (hD 16 (by simp)).2) (R:=fun w' u=>∃ s' v',u=.tuple #[.bool s',v']∧Sl .u32 w' v' (wd 4294967296 z.natAbs)∧But [] w w'∧(s' && decide (0<(wd 4294967296 z.natAbs).length))=decide (z<0)) ((SM w (hdr hb)).mono (fun e w' h=>by
    obtain ⟨s',v',h1,h2,h3,h4⟩:=h
    exact ⟨_,h1,s',v',rfl,h2,h3,h4⟩)) ?_
   rintro u w' ⟨s',v',rfl,h2,h3,h4⟩
   refine hk (s',v') _ _ rfl (fun j hj hdj=>?_) ?_
   ·have:j=0∨j=1∨j=2∨j=3∨j=4∨j=5∨j=6∨j=7∨j=8∨j=9∨j=10∨j=11∨j=12∨j=13∨j=14∨j=15∨j=16∨j=17∨j=18∨j=19∨j=20∨j=21:=by omega
    rcases this with rfl | rfl | rfl | rfl | rfl | rfl | rfl | rfl | rfl | rfl | rfl | rfl | rfl | rfl | rfl | rfl | rfl | rfl | rfl | rfl | rfl | rfl
    all_goals first
     | rfl
     | (rw [hdi] at hdj;simp at hdj)
     | (exfalso;first | (rw [hN 18 17 (by simp) hdi] at hdj;simp at hdj) | (rw [hN 19 17 (by simp) hdi] at hdj;simp at hdj))
   ·exact ⟨Nat.le_trans hH'.size h3.size,fun _=>hb.trans' h3,fun _ _=>h2,fun _=>h4,fun e=>by rw [show came d 17 20=d 20 from rfl,hg] at e;simp at e⟩
  ·obtain rfl:=Option.some.inj ((show iaddOs[18]? = some iaddO18 from rfl).symm.trans ho)
   exact does_value (run_ext0 a w _ _ _ _ _ _ _ (hD 17 (by simp)).2) (hk (s,v) _ _ rfl (fun _ _ _=>rfl) hH)
  ·obtain rfl:=Option.some.inj ((show iaddOs[19]? = some iaddO19 from rfl).symm.trans ho)
   exact does_value (run_ext1 a w _ _ _ _ _ _ _ (hD 17 (by simp)).2) (hk (s,v) _ _ rfl (fun _ _ _=>rfl) hH)
  ·obtain rfl:=Option.some.inj ((show iaddOs[20]? = some iaddO20 from rfl).symm.trans ho)
   have hc:=(hD 17 (by simp)).1
   have hb:=hH'.but hdi
   have hsl:=hH'.sum hc hdi
   obtain ⟨⟨s0,hc0⟩,⟨a0,n0,c0,hc1⟩,f0,f1⟩:=hz.but (hdr hb) (by simp)
   refine does_enter (run_callGive a w _ _ _ _ _ _ _ _ _ _ (hD 0 (by simp)).2 (hD 18 (by simp)).2 (hD 19 (by simp)).2) (R:=fun w' u=>u=.pointer (some ⟨b,o,none⟩)∧w'=putI w b o v (decide (z<0))) ((give_any b o s v _ (.bool s0) (.slice a0 n0 c0) w hsl hzl hc0 hc1 f0 f1).mono (fun e w' h=>⟨_,h.1,rfl,by rw [h.2,hH'.sg hc];rfl⟩)) ?_
   rintro u w' ⟨rfl,rfl⟩
   refine hk (s,v) _ _ rfl (fun _ _ _=>rfl) ⟨by rw [putI_size];exact hH'.size,fun e=>by simp [came] at e,fun _ e=>by simp [came] at e,hH'.sg,fun _=>⟨w,hb,hsl,rfl⟩⟩
  ·obtain rfl:=Option.some.inj ((show iaddOs[21]? = some iaddO21 from rfl).symm.trans ho)
   exact does_value (run_assP a w _ _ _ _ _ _ (hD 20 (by simp)).2) (hk (s,v) _ _ rfl (fun _ _ _=>rfl) hH)
 ·rintro ⟨s,v⟩ d w hd hH
  have hH':GiveH W0.drew b o z (d 17) (d 20) s v w:=hH
  obtain ⟨w1,h1,h2,h3⟩:=hH'.fin (hd 20 (by omega))
  exact hQ w s v ⟨w1,hdr h1,h2,h3⟩
theorem intAddU_all (b o b1 o1 b2 o2:Nat) (x y z:Int) (w:World) (hs:Slot w b o) (hx:IntAt w b1 o1 x) (hy:IntAt w b2 o2 y) (hlx:(wd 4294967296 x.natAbs).length<8388608) (hly:(wd 4294967296 y.natAbs).length<8388608) (hlz:(wd 4294967296 z.natAbs).length<2147483648) (hz:Hid (z=x+y)) :
  Calls Tryz.prog 93 #[.pointer (some ⟨b,o,none⟩),.pointer (some ⟨b1,o1,none⟩),.pointer (some ⟨b2,o2,none⟩)] w fun e w'=>e=.returned (.pointer (some ⟨b,o,none⟩))∧∃ w1 v,But [] w w1∧Sl .u32 w1 v (wd 4294967296 z.natAbs)∧w'=putI w1 b o v (decide (z<0)):=by
 obtain ⟨h0,v0,h1,hv⟩:=hx
 obtain ⟨g0,u0,g1,hu⟩:=hy
 have hv':=hv
 have hu':=hu
 obtain ⟨qx,cx,rfl,-,-⟩:=hv
 obtain ⟨qy,cy,rfl,-,-⟩:=hu
 have REG:=hide (fun (Q:Exit→Act→World→Prop) (base:Act) (hs':27<base.tmps.size) (e0:base.eval (.tmp 0)=.pointer (some ⟨b,o,none⟩)) (e1:base.eval (.tmp 1)=.pointer (some ⟨b1,o1,none⟩)) (e2:base.eval (.tmp 2)=.pointer (some ⟨b2,o2,none⟩))=>iadd_region 1 Q base w b o b1 o1 b2 o2 (decide (x<0)) (decide (y<0)) qx qy _ cx _ cy z hs' e0 e1 e2 hs h0 h1 g0 g1 hlz (fun W hW=>sumU_any (decide (x<0)) (decide (y<0)) _ _ x.natAbs y.natAbs z W (hv'.but_nil hW) (hu'.but_nil hW) hlx hly (by show _=_;rw [sgU_int,sgU_int,unhide hz])))
 clear hs h0 h1 g0 g1 hlx hly hlz hz hv' hu'
 go_enter Tryz.func93,Tryz.ntmps93
 go_wp2_with fail
 refine unhide REG _ _ (by simp) (by simp [Act.eval]) (by simp [Act.eval]) (by simp [Act.eval]) ?_
 rintro w2 s v ⟨w1,k1,k2,rfl⟩
 simp only [putted,List.foldl_cons,List.foldl_nil,Act.put,List.setIfInBounds_toArray,List.set_cons_zero,List.set_cons_succ]
 go_wp2
 go_ret
 exact ⟨rfl,w1,v,k1,k2,rfl⟩
def isubO0:Oper:={ dst:=some 7,op:=Op.move (Operand.tmp 0),type:=48,pos:= "int.go:465",after:=#[],guard:=none }
def isubO1:Oper:={ dst:=some 8,op:=Op.move (Operand.tmp 1),type:=48,pos:= "int.go:465",after:=#[],guard:=none }
def isubO2:Oper:={ dst:=some 9,op:=Op.nilCheck (Operand.tmp 8),type:=0,pos:= "int.go:465",after:=#[⟨1,.data⟩],guard:=none }
def isubO3:Oper:={ dst:=some 10,op:=Op.fieldAddr 91 (Operand.tmp 9) 0,type:=0,pos:= "int.go:465",after:=#[⟨2,.data⟩],guard:=none }
def isubO4:Oper:={ dst:=some 11,op:=Op.load 4 (Operand.tmp 10),type:=4,pos:= "int.go:465",after:=#[⟨3,.data⟩],guard:=none }
def isubO5:Oper:={ dst:=some 12,op:=Op.move (Operand.tmp 1),type:=48,pos:= "int.go:465",after:=#[],guard:=none }
def isubO6:Oper:={ dst:=some 13,op:=Op.nilCheck (Operand.tmp 12),type:=0,pos:= "int.go:465",after:=#[⟨5,.data⟩],guard:=none }
def isubO7:Oper:={ dst:=some 14,op:=Op.fieldAddr 91 (Operand.tmp 13) 1,type:=0,pos:= "int.go:465",after:=#[⟨6,.data⟩],guard:=none }
def isubO8:Oper:={ dst:=some 15,op:=Op.load 89 (Operand.tmp 14),type:=89,pos:= "int.go:465",after:=#[⟨7,.data⟩],guard:=none }
def isubO9:Oper:={ dst:=some 16,op:=Op.move (Operand.tmp 2),type:=48,pos:= "int.go:465",after:=#[],guard:=none }
def isubO10:Oper:={ dst:=some 17,op:=Op.nilCheck (Operand.tmp 16),type:=0,pos:= "int.go:465",after:=#[⟨9,.data⟩],guard:=none }
def isubO11:Oper:={ dst:=some 18,op:=Op.fieldAddr 91 (Operand.tmp 17) 0,type:=0,pos:= "int.go:465",after:=#[⟨10,.data⟩],guard:=none }
def isubO12:Oper:={ dst:=some 19,op:=Op.load 4 (Operand.tmp 18),type:=4,pos:= "int.go:465",after:=#[⟨11,.data⟩],guard:=none }
def isubO13:Oper:={ dst:=some 20,op:=Op.unOp UnOp.not 4 (Operand.tmp 19),type:=4,pos:= "int.go:465",after:=#[⟨12,.data⟩],guard:=none }
def isubO14:Oper:={ dst:=some 21,op:=Op.move (Operand.tmp 2),type:=48,pos:= "int.go:465",after:=#[],guard:=none }
def isubO15:Oper:={ dst:=some 22,op:=Op.nilCheck (Operand.tmp 21),type:=0,pos:= "int.go:465",after:=#[⟨14,.data⟩],guard:=none }
def isubO16:Oper:={ dst:=some 23,op:=Op.fieldAddr 91 (Operand.tmp 22) 1,type:=0,pos:= "int.go:465",after:=#[⟨15,.data⟩],guard:=none }
def isubO17:Oper:={ dst:=some 24,op:=Op.load 89 (Operand.tmp 23),type:=89,pos:= "int.go:465",after:=#[⟨16,.data⟩],guard:=none }
def isubO18:Oper:={ dst:=some 25,op:=Op.call { callee:=Callee.value (Operand.func 157),args:=#[Operand.tmp 11,Operand.tmp 15,Operand.tmp 20,Operand.tmp 24],argTypes:=#[4,89,4,89] },type:=186,pos:= "int.go:465",after:=#[⟨4,.data⟩,⟨8,.data⟩,⟨13,.data⟩,⟨17,.data⟩],guard:=none }
def isubO19:Oper:={ dst:=some 26,op:=Op.extract (Operand.tmp 25) 0,type:=4,pos:= "int.go:465",after:=#[⟨18,.data⟩],guard:=none }
def isubO20:Oper:={ dst:=some 27,op:=Op.extract (Operand.tmp 25) 1,type:=89,pos:= "int.go:465",after:=#[⟨18,.data⟩],guard:=none }
def isubO21:Oper:={ dst:=some 28,op:=Op.call { callee:=Callee.value (Operand.func 146),args:=#[Operand.tmp 7,Operand.tmp 26,Operand.tmp 27],argTypes:=#[48,4,89] },type:=48,pos:= "int.go:465",after:=#[⟨0,.data⟩,⟨19,.data⟩,⟨20,.data⟩,⟨18,.chain⟩],guard:=none }
def isubO22:Oper:={ dst:=some 6,op:=Op.assign (Operand.tmp 28),type:=48,pos:= "int.go:465",after:=#[⟨21,.data⟩,⟨21,.chain⟩,⟨0,.phase⟩,⟨1,.phase⟩,⟨2,.phase⟩,⟨3,.phase⟩,⟨4,.phase⟩,⟨5,.phase⟩,⟨6,.phase⟩,⟨7,.phase⟩,⟨8,.phase⟩,⟨9,.phase⟩,⟨10,.phase⟩,⟨11,.phase⟩,⟨12,.phase⟩,⟨13,.phase⟩,⟨14,.phase⟩,⟨15,.phase⟩,⟨16,.phase⟩,⟨17,.phase⟩,⟨18,.phase⟩,⟨19,.phase⟩,⟨20,.phase⟩,⟨21,.phase⟩],guard:=none }
def isubOs:Array Oper:=#[isubO0,isubO1,isubO2,isubO3,isubO4,isubO5,isubO6,isubO7,isubO8,isubO9,isubO10,isubO11,isubO12,isubO13,isubO14,isubO15,isubO16,isubO17,isubO18,isubO19,isubO20,isubO21,isubO22]
def isubOT (i:Nat):Nat:=match i with
 | 0=>7
 | 1=>8
 | 2=>9
 | 3=>10
 | 4=>11
 | 5=>12
 | 6=>13
 | 7=>14
 | 8=>15
 | 9=>16
 | 10=>17
 | 11=>18
 | 12=>19
 | 13=>20
 | 14=>21
 | 15=>22
 | 16=>23
 | 17=>24
 | 18=>25
 | 19=>26
 | 20=>27
 | 21=>28
 | _=>6
def isubOV (b o b1 o1 b2 o2:Nat) (sx sy:Bool) (qx qy:Option Addr) (lx cx ly cy:Nat) (N:Bool × Value) (i:Nat):Value:=match i with
 | 0=>.pointer (some ⟨b,o,none⟩)
 | 1=>.pointer (some ⟨b1,o1,none⟩)
 | 2=>.pointer (some ⟨b1,o1,none⟩)
 | 3=>.pointer (some ⟨b1,o1,none⟩)
 | 4=>.bool sx
 | 5=>.pointer (some ⟨b1,o1,none⟩)
 | 6=>.pointer (some ⟨b1,o1,none⟩)
 | 7=>.pointer (some ⟨b1,o1+1,none⟩)
 | 8=>.slice qx lx cx
 | 9=>.pointer (some ⟨b2,o2,none⟩)
 | 10=>.pointer (some ⟨b2,o2,none⟩)
 | 11=>.pointer (some ⟨b2,o2,none⟩)
 | 12=>.bool sy
 | 13=>.bool !sy
 | 14=>.pointer (some ⟨b2,o2,none⟩)
 | 15=>.pointer (some ⟨b2,o2,none⟩)
 | 16=>.pointer (some ⟨b2,o2+1,none⟩)
 | 17=>.slice qy ly cy
 | 18=>.tuple #[.bool N.1,N.2]
 | 19=>.bool N.1
 | 20=>N.2
 | 21=>.pointer (some ⟨b,o,none⟩)
 | _=>.pointer (some ⟨b,o,none⟩)
theorem isubOT_inj:∀ i j,i<23→j<23→isubOT i=isubOT j→i=j:=fun i j hi hj=>(by decide:∀ i,i<23→∀ j,j<23→isubOT i=isubOT j→i=j) i hi j hj
theorem isub_region (id:Nat) (Q:Exit→Act→World→Prop) (base:Act) (W0:World) (b o b1 o1 b2 o2:Nat) (sx sy:Bool) (qx qy:Option Addr) (lx cx ly cy:Nat) (z:Int) (hs:28<base.tmps.size) (e0:base.eval (.tmp 0)=.pointer (some ⟨b,o,none⟩)) (e1:base.eval (.tmp 1)=.pointer (some ⟨b1,o1,none⟩)) (e2:base.eval (.tmp 2)=.pointer (some ⟨b2,o2,none⟩))
  (hz:Slot W0 b o) (x0:W0.cell? ⟨b1,o1,none⟩=some (.bool sx)) (x1:W0.cell? ⟨b1,o1+1,none⟩=some (.slice qx lx cx)) (y0:W0.cell? ⟨b2,o2,none⟩=some (.bool sy)) (y1:W0.cell? ⟨b2,o2+1,none⟩=some (.slice qy ly cy)) (hzl:(wd 4294967296 z.natAbs).length<2147483648)
  (SM:∀ W,But [] W0 W→Calls Tryz.prog 157 #[.bool sx,.slice qx lx cx,.bool !sy,.slice qy ly cy] W fun e w'=>∃ s v,e=.returned (.tuple #[.bool s,v])∧Sl .u32 w' v (wd 4294967296 z.natAbs)∧But [] W w'∧(s && decide (0<(wd 4294967296 z.natAbs).length))=decide (z<0))
  (hQ:∀ w s v,(∃ w1,But [] W0 w1∧Sl .u32 w1 v (wd 4294967296 z.natAbs)∧w=putI w1 b o v (decide (z<0)))→Q .normal (putted base [(7,.pointer (some ⟨b,o,none⟩)),(8,.pointer (some ⟨b1,o1,none⟩)),(9,.pointer (some ⟨b1,o1,none⟩)),(10,.pointer (some ⟨b1,o1,none⟩)),(11,.bool sx),(12,.pointer (some ⟨b1,o1,none⟩)),(13,.pointer (some ⟨b1,o1,none⟩)),(14,.pointer (some ⟨b1,o1+1,none⟩)),(15,.slice qx lx cx),(16,.pointer (some ⟨b2,o2,none⟩)),(17,.pointer (some ⟨b2,o2,none⟩)),(18,.pointer (some ⟨b2,o2,none⟩)),(19,.bool sy),(20,.bool !sy),(21,.pointer (some ⟨b2,o2,none⟩)),(22,.pointer (some ⟨b2,o2,none⟩)),(23,.pointer (some ⟨b2,o2+1,none⟩)),(24,.slice qy ly cy),(25,.tuple #[.bool s,v]),(26,.bool s),(27,v),(28,.pointer (some ⟨b,o,none⟩)),(6,.pointer (some ⟨b,o,none⟩))]) w) :
  (Code.region id isubOs true).wp Tryz.prog Q base W0:=by
 have hdr:∀ {w},But [] W0.drew w→But [] W0 w:=fun h=>(But.refl _ _).drew.trans' h
 have hT:∀ i,i<23→isubOT i<base.tmps.size:=fun i hi=>by
  have h:isubOT i≤28:=by revert i;decide
  omega
 have lx':=lt_of_cell x0
 have ly':=lt_of_cell y0
 simp only at lx' ly'
 refine region_names (by kernel_rfl) (low_of (by kernel_rfl)) (bare_of (by kernel_rfl)) (α:=Bool × Value) (fun N d w=>GiveH W0.drew b o z (d 18) (d 21) N.1 N.2 w) (isubOV b o b1 o1 b2 o2 sx sy qx qy lx cx ly cy) isubOT 23 (by kernel_rfl) isubOT_inj hT (false,undef) ?_ ?_ ?_
 ·exact ⟨Nat.le_refl _,fun _=>But.refl _ _,by simp,by simp,by simp⟩
 ·rintro ⟨s,v⟩ d i o' a w K hi ho hdi hCl hH he hdep hk
  have hN:∀ i j,(i,j) ∈ [(21,18),(18,4),(18,8),(18,17),(19,18),(20,18),(18,13),(13,12)]→d j=false→d i=false:=fun i j hij h=>hCl.not (ps:=[(21,18),(18,4),(18,8),(18,17),(19,18),(20,18),(18,13),(13,12)]) (by kernel_rfl) hij h
  have hH':GiveH W0.drew b o z (d 18) (d 21) s v w:=hH
  have hD:=dep_is (ps:=[(2,1),(3,2),(4,3),(6,5),(7,6),(8,7),(10,9),(11,10),(12,11),(13,12),(15,14),(16,15),(17,16),(18,4),(18,8),(18,13),(18,17),(19,18),(20,18),(21,0),(21,18),(21,19),(21,20),(22,0),(22,1),(22,2),(22,3),(22,4),(22,5),(22,6),(22,7),(22,8),(22,9),(22,10),(22,11),(22,12),(22,13),(22,14),(22,15),(22,16),(22,17),(22,18),(22,19),(22,20),(22,21)]) (by kernel_rfl) ho (fun j=>d j=true∧a.eval (.tmp (isubOT j))=isubOV b o b1 o1 b2 o2 sx sy qx qy lx cx ly cy (s,v) j) hdep
  have e0':=(he 0 (fun j hj e=>absurd e.symm (by revert j;decide))).trans e0
  have e1':=(he 1 (fun j hj e=>absurd e.symm (by revert j;decide))).trans e1
  have e2':=(he 2 (fun j hj e=>absurd e.symm (by revert j;decide))).trans e2
  have hlw:W0.heap.size≤w.heap.size:=hH'.size
  have:i=0∨i=1∨i=2∨i=3∨i=4∨i=5∨i=6∨i=7∨i=8∨i=9∨i=10∨i=11∨i=12∨i=13∨i=14∨i=15∨i=16∨i=17∨i=18∨i=19∨i=20∨i=21∨i=22:=by omega
  rcases this with rfl | rfl | rfl | rfl | rfl | rfl | rfl | rfl | rfl | rfl | rfl | rfl | rfl | rfl | rfl | rfl | rfl | rfl | rfl | rfl | rfl | rfl | rfl
  ·obtain rfl:=Option.some.inj ((show isubOs[0]? = some isubO0 from rfl).symm.trans ho)
   exact does_value (run_moveP a w _ _ _ _ _ _ e0') (hk (s,v) _ _ rfl (fun _ _ _=>rfl) hH)
  ·obtain rfl:=Option.some.inj ((show isubOs[1]? = some isubO1 from rfl).symm.trans ho)
   exact does_value (run_moveP a w _ _ _ _ _ _ e1') (hk (s,v) _ _ rfl (fun _ _ _=>rfl) hH)
  ·obtain rfl:=Option.some.inj ((show isubOs[2]? = some isubO2 from rfl).symm.trans ho)
   exact does_value (run_nilP a w _ _ _ _ _ _ _ (hD 1 (by simp)).2) (hk (s,v) _ _ rfl (fun _ _ _=>rfl) hH)
  ·obtain rfl:=Option.some.inj ((show isubOs[3]? = some isubO3 from rfl).symm.trans ho)
   exact does_value (run_fieldI a w _ _ _ _ _ _ _ (hD 2 (by simp)).2 (by omega)) (hk (s,v) _ _ rfl (fun _ _ _=>rfl) hH)
  ·obtain rfl:=Option.some.inj ((show isubOs[4]? = some isubO4 from rfl).symm.trans ho)
   have hb:=hdr (hH'.but (hN 21 18 (by simp) (hN 18 4 (by simp) hdi)))
   exact does_value (run_loadB a w _ _ _ _ _ _ _ _ (hD 3 (by simp)).2 (hb.cell_some x0 (by simp))) (hk (s,v) _ _ rfl (fun _ _ _=>rfl) hH)
  ·obtain rfl:=Option.some.inj ((show isubOs[5]? = some isubO5 from rfl).symm.trans ho)
   exact does_value (run_moveP a w _ _ _ _ _ _ e1') (hk (s,v) _ _ rfl (fun _ _ _=>rfl) hH)
  ·obtain rfl:=Option.some.inj ((show isubOs[6]? = some isubO6 from rfl).symm.trans ho)
   exact does_value (run_nilP a w _ _ _ _ _ _ _ (hD 5 (by simp)).2) (hk (s,v) _ _ rfl (fun _ _ _=>rfl) hH)
  ·obtain rfl:=Option.some.inj ((show isubOs[7]? = some isubO7 from rfl).symm.trans ho)
   exact does_value (run_fieldJ a w _ _ _ _ _ _ _ (hD 6 (by simp)).2 (by omega)) (hk (s,v) _ _ rfl (fun _ _ _=>rfl) hH)
  ·obtain rfl:=Option.some.inj ((show isubOs[8]? = some isubO8 from rfl).symm.trans ho)
   have hb:=hdr (hH'.but (hN 21 18 (by simp) (hN 18 8 (by simp) hdi)))
   exact does_value (run_loadW a w _ _ _ _ _ _ _ _ _ _ (hD 7 (by simp)).2 (hb.cell_some x1 (by simp))) (hk (s,v) _ _ rfl (fun _ _ _=>rfl) hH)
  ·obtain rfl:=Option.some.inj ((show isubOs[9]? = some isubO9 from rfl).symm.trans ho)
   exact does_value (run_moveP a w _ _ _ _ _ _ e2') (hk (s,v) _ _ rfl (fun _ _ _=>rfl) hH)
  ·obtain rfl:=Option.some.inj ((show isubOs[10]? = some isubO10 from rfl).symm.trans ho)
   exact does_value (run_nilP a w _ _ _ _ _ _ _ (hD 9 (by simp)).2) (hk (s,v) _ _ rfl (fun _ _ _=>rfl) hH)
  ·obtain rfl:=Option.some.inj ((show isubOs[11]? = some isubO11 from rfl).symm.trans ho)
   exact does_value (run_fieldI a w _ _ _ _ _ _ _ (hD 10 (by simp)).2 (by omega)) (hk (s,v) _ _ rfl (fun _ _ _=>rfl) hH)
  ·obtain rfl:=Option.some.inj ((show isubOs[12]? = some isubO12 from rfl).symm.trans ho)
   have hb:=hdr (hH'.but (hN 21 18 (by simp) (hN 18 13 (by simp) (hN 13 12 (by simp) hdi))))
   exact does_value (run_loadB a w _ _ _ _ _ _ _ _ (hD 11 (by simp)).2 (hb.cell_some y0 (by simp))) (hk (s,v) _ _ rfl (fun _ _ _=>rfl) hH)
  ·obtain rfl:=Option.some.inj ((show isubOs[13]? = some isubO13 from rfl).symm.trans ho)
   exact does_value (run_notB a w _ _ _ _ _ _ (hD 12 (by simp)).2) (hk (s,v) _ _ rfl (fun _ _ _=>rfl) hH)
  ·obtain rfl:=Option.some.inj ((show isubOs[14]? = some isubO14 from rfl).symm.trans ho)
   exact does_value (run_moveP a w _ _ _ _ _ _ e2') (hk (s,v) _ _ rfl (fun _ _ _=>rfl) hH)
  ·obtain rfl:=Option.some.inj ((show isubOs[15]? = some isubO15 from rfl).symm.trans ho)
   exact does_value (run_nilP a w _ _ _ _ _ _ _ (hD 14 (by simp)).2) (hk (s,v) _ _ rfl (fun _ _ _=>rfl) hH)
  ·obtain rfl:=Option.some.inj ((show isubOs[16]? = some isubO16 from rfl).symm.trans ho)
   exact does_value (run_fieldJ a w _ _ _ _ _ _ _ (hD 15 (by simp)).2 (by omega)) (hk (s,v) _ _ rfl (fun _ _ _=>rfl) hH)
  ·obtain rfl:=Option.some.inj ((show isubOs[17]? = some isubO17 from rfl).symm.trans ho)
   have hb:=hdr (hH'.but (hN 21 18 (by simp) (hN 18 17 (by simp) hdi)))
   exact does_value (run_loadW a w _ _ _ _ _ _ _ _ _ _ (hD 16 (by simp)).2 (hb.cell_some y1 (by simp))) (hk (s,v) _ _ rfl (fun _ _ _=>rfl) hH)
  ·obtain rfl:=Option.some.inj ((show isubOs[18]? = some isubO18 from rfl).symm.trans ho)
   have hg:d 21=false:=hN 21 18 (by simp) hdi
   have hb:=hH'.but hg
   refine does_enter (run_callSumW a w _ _ _ _ _ _ _ _ _ _ _ _ (hD 4 (by simp)).2 (hD 8 (by simp)).2 (hD 13 (by simp)).2 (hD 17 (by simp)).2) (R:=fun w' u=>∃ s' v',u=.tuple #[.bool s',v']∧Sl .u32 w' v' (wd 4294967296 z.natAbs)∧But [] w w'∧(s' && decide (0<(wd 4294967296 z.natAbs).length))=decide (z<0)) ((SM w (hdr hb)).mono (fun e w' h=>by
    obtain ⟨s',v',h1,h2,h3,h4⟩:=h
    exact ⟨_,h1,s',v',rfl,h2,h3,h4⟩)) ?_
   rintro u w' ⟨s',v',rfl,h2,h3,h4⟩
   refine hk (s',v') _ _ rfl (fun j hj hdj=>?_) ?_
   ·have:j=0∨j=1∨j=2∨j=3∨j=4∨j=5∨j=6∨j=7∨j=8∨j=9∨j=10∨j=11∨j=12∨j=13∨j=14∨j=15∨j=16∨j=17∨j=18∨j=19∨j=20∨j=21∨j=22:=by omega
    rcases this with rfl | rfl | rfl | rfl | rfl | rfl | rfl | rfl | rfl | rfl | rfl | rfl | rfl | rfl | rfl | rfl | rfl | rfl | rfl | rfl | rfl | rfl | rfl
    all_goals first
     | rfl
     | (rw [hdi] at hdj;simp at hdj)
     | (exfalso;first | (rw [hN 19 18 (by simp) hdi] at hdj;simp at hdj) | (rw [hN 20 18 (by simp) hdi] at hdj;simp at hdj))
   ·exact ⟨Nat.le_trans hH'.size h3.size,fun _=>hb.trans' h3,fun _ _=>h2,fun _=>h4,fun e=>by rw [show came d 18 21=d 21 from rfl,hg] at e;simp at e⟩
  ·obtain rfl:=Option.some.inj ((show isubOs[19]? = some isubO19 from rfl).symm.trans ho)
   exact does_value (run_ext0 a w _ _ _ _ _ _ _ (hD 18 (by simp)).2) (hk (s,v) _ _ rfl (fun _ _ _=>rfl) hH)
  ·obtain rfl:=Option.some.inj ((show isubOs[20]? = some isubO20 from rfl).symm.trans ho)
   exact does_value (run_ext1 a w _ _ _ _ _ _ _ (hD 18 (by simp)).2) (hk (s,v) _ _ rfl (fun _ _ _=>rfl) hH)
  ·obtain rfl:=Option.some.inj ((show isubOs[21]? = some isubO21 from rfl).symm.trans ho)
   have hc:=(hD 18 (by simp)).1
   have hb:=hH'.but hdi
   have hsl:=hH'.sum hc hdi
   obtain ⟨⟨s0,hc0⟩,⟨a0,n0,c0,hc1⟩,f0,f1⟩:=hz.but (hdr hb) (by simp)
   refine does_enter (run_callGive a w _ _ _ _ _ _ _ _ _ _ (hD 0 (by simp)).2 (hD 19 (by simp)).2 (hD 20 (by simp)).2) (R:=fun w' u=>u=.pointer (some ⟨b,o,none⟩)∧w'=putI w b o v (decide (z<0))) ((give_any b o s v _ (.bool s0) (.slice a0 n0 c0) w hsl hzl hc0 hc1 f0 f1).mono (fun e w' h=>⟨_,h.1,rfl,by rw [h.2,hH'.sg hc];rfl⟩)) ?_
   rintro u w' ⟨rfl,rfl⟩
   refine hk (s,v) _ _ rfl (fun _ _ _=>rfl) ⟨by rw [putI_size];exact hH'.size,fun e=>by simp [came] at e,fun _ e=>by simp [came] at e,hH'.sg,fun _=>⟨w,hb,hsl,rfl⟩⟩
  ·obtain rfl:=Option.some.inj ((show isubOs[22]? = some isubO22 from rfl).symm.trans ho)
   exact does_value (run_assP a w _ _ _ _ _ _ (hD 21 (by simp)).2) (hk (s,v) _ _ rfl (fun _ _ _=>rfl) hH)
 ·rintro ⟨s,v⟩ d w hd hH
  have hH':GiveH W0.drew b o z (d 18) (d 21) s v w:=hH
  obtain ⟨w1,h1,h2,h3⟩:=hH'.fin (hd 21 (by omega))
  exact hQ w s v ⟨w1,hdr h1,h2,h3⟩
theorem intSubU_all (b o b1 o1 b2 o2:Nat) (x y z:Int) (w:World) (hs:Slot w b o) (hx:IntAt w b1 o1 x) (hy:IntAt w b2 o2 y) (hlx:(wd 4294967296 x.natAbs).length<8388608) (hly:(wd 4294967296 y.natAbs).length<8388608) (hlz:(wd 4294967296 z.natAbs).length<2147483648) (hz:Hid (z=x-y)) :
  Calls Tryz.prog 139 #[.pointer (some ⟨b,o,none⟩),.pointer (some ⟨b1,o1,none⟩),.pointer (some ⟨b2,o2,none⟩)] w fun e w'=>e=.returned (.pointer (some ⟨b,o,none⟩))∧∃ w1 v,But [] w w1∧Sl .u32 w1 v (wd 4294967296 z.natAbs)∧w'=putI w1 b o v (decide (z<0)):=by
 obtain ⟨h0,v0,h1,hv⟩:=hx
 obtain ⟨g0,u0,g1,hu⟩:=hy
 have hv':=hv
 have hu':=hu
 obtain ⟨qx,cx,rfl,-,-⟩:=hv
 obtain ⟨qy,cy,rfl,-,-⟩:=hu
 have REG:=hide (fun (Q:Exit→Act→World→Prop) (base:Act) (hs':28<base.tmps.size) (e0:base.eval (.tmp 0)=.pointer (some ⟨b,o,none⟩)) (e1:base.eval (.tmp 1)=.pointer (some ⟨b1,o1,none⟩)) (e2:base.eval (.tmp 2)=.pointer (some ⟨b2,o2,none⟩))=>isub_region 1 Q base w b o b1 o1 b2 o2 (decide (x<0)) (decide (y<0)) qx qy _ cx _ cy z hs' e0 e1 e2 hs h0 h1 g0 g1 hlz (fun W hW=>sumU_any (decide (x<0)) (!decide (y<0)) _ _ x.natAbs y.natAbs z W (hv'.but_nil hW) (hu'.but_nil hW) hlx hly (by show _=_;rw [sgU_int,sgU_not,unhide hz];omega)))
 clear hs h0 h1 g0 g1 hlx hly hlz hz hv' hu'
 go_enter Tryz.func139,Tryz.ntmps139
 go_wp2_with fail
 refine unhide REG _ _ (by simp) (by simp [Act.eval]) (by simp [Act.eval]) (by simp [Act.eval]) ?_
 rintro w2 s v ⟨w1,k1,k2,rfl⟩
 simp only [putted,List.foldl_cons,List.foldl_nil,Act.put,List.setIfInBounds_toArray,List.set_cons_zero,List.set_cons_succ]
 go_wp2
 go_ret
 exact ⟨rfl,w1,v,k1,k2,rfl⟩
end Go.Proofs.YteipfplbcbaheaaGreatDoor
