/- Regions that draw their order: what hold -/
import Derived.Deep.RegionHeld
import Derived.RangeFuncCalls
import Derived.OrdersIn
import Derived.Test.YthlnhheblhapgaaGreatDoorKMBase
namespace Go.Proofs.YthlnhheblhapgaaGreatDoor
open Go.RowKit
def came (d:Nat→Bool) (i:Nat):Nat→Bool:=fun j=>if j=i then true else d j
theorem came_self (d:Nat→Bool) (i:Nat):came d i i=true:=by simp [came]
theorem came_ne (d:Nat→Bool) {i j:Nat} (h:j≠i):came d i j=d j:=by simp [came,h]
theorem region_inv {P:Program} {id:Nat} {ops:Array Oper} {Q:Exit→Act→World→Prop} {base:Act} {W0:World} (hm:P.follows .mixedOrders=true)
  (hlow:∀ i o,ops[i]? = some o→∀ e ∈ o.after,Region.binds .any e=true→e.on<i)
  (J:(Nat→Bool)→Act→World→Prop) (h0:J (fun _=>false) base W0.drew)
  (hend:∀ d a w,(∀ i,i<ops.size→d i=true)→J d a w→Q .normal a w)
  (hstep:∀ d i o a w,ops[i]? = some o→d i=false→(∀ e ∈ o.after,Region.binds .any e=true→d e.on=true)→J d a w→wpOp P ops Q i (J (came d i)) a w) :
  (Code.region id ops true).wp P Q base W0:=by
 refine wp_region_any hm ?_
 show wpAny P .any ops Q ops.size (Array.replicate ops.size false) base W0.drew
 have none_ready:∀ (l:Array Bool),l.toList.count false=0→Region.ready .any ops l=[]:=fun l hc=>by
  refine List.eq_nil_iff_forall_not_mem.2 fun i hi=>?_
  obtain ⟨hf,o,ho,hd⟩:=mem_ready.1 hi
  rw [List.count_eq_zero] at hc
  rcases Nat.lt_or_ge i l.size with h1 | h1
  ·simp only [Array.getD_eq_getD_getElem?,Array.getElem?_eq_getElem h1,Option.getD_some] at hf
   exact hc (by rw [← hf];exact Array.getElem_mem_toList h1)
  ·simp [Array.getElem?_eq_none h1] at hf
 have end_:∀ (l:Array Bool) a w,l.size=ops.size→J (fun i=>l.getD i false) a w→Region.ready .any ops l=[]→Q .normal a w:=fun l a w hs hJ hr=>by
  refine hend _ a w (fun i=>?_) hJ
  induction i using Nat.strongRecOn with
  | _ i ih =>
   intro hi
   cases e:l.getD i false with
   | true=>rfl
   | false =>
    exfalso
    have hmem:i ∈ Region.ready .any ops l:=mem_ready.2 ⟨by
     simp only [Array.getD_eq_getD_getElem?,Array.getElem?_eq_getElem (show i<l.size by omega),Option.getD_some] at e ⊢
     exact e,ops[i],Array.getElem?_eq_getElem hi,fun e he hb=>by
      have hl:=hlow i ops[i] (Array.getElem?_eq_getElem hi) e he hb
      exact ih e.on hl (by omega)⟩
    rw [hr] at hmem
    simp at hmem
 have key:∀ n (l:Array Bool) a w,l.size=ops.size∧l.toList.count false=n∧J (fun i=>l.getD i false) a w→wpAny P .any ops Q n l a w:=by
  intro n
  induction n with
  | zero=>rintro l a w ⟨hs,hc,hJ⟩;exact ⟨none_ready l hc,end_ l a w hs hJ (none_ready l hc)⟩
  | succ n ih =>
   rintro l a w ⟨hs,hc,hJ⟩
   refine ⟨end_ l a w hs hJ,fun i hi=>?_⟩
   obtain ⟨hf,o,ho,hd⟩:=mem_ready.1 hi
   have hlt:i<l.size:=by rw [hs];exact (Array.getElem?_eq_some_iff.1 ho).1
   have hg:l[i]=false:=by simpa [hlt] using hf
   have hf':l.getD i false=false:=by simp [hlt,hg]
   refine wpOp_mono (fun a' w' h'=>ih _ a' w' ⟨by simp [hs],?_,?_⟩) (hstep _ i o a w ho hf' hd hJ)
   ·rw [Array.toList_setIfInBounds,List.count_set (by simpa using hlt)]
    simp [hg,hc]
   ·have e:(fun j=>(l.setIfInBounds i true).getD j false)=came (fun j=>l.getD j false) i:=funext fun j=>by
     by_cases hj:j=i
     ·subst hj;simp [came,hlt]
     ·simp [came,hj,Array.getElem?_setIfInBounds_ne (Ne.symm hj)]
    rw [e];exact h'
 exact key _ _ _ _ ⟨by simp,by simp,by
  have e:(fun i=>(Array.replicate ops.size false).getD i false)=fun _=>false:=funext fun i=>by
   simp only [Array.getD_eq_getD_getElem?,Array.getElem?_replicate]
   split <;> rfl
  rw [e];exact h0⟩
theorem at_ne (a:Act) (d t:Nat) (v:Value) (h:t≠d):(a.put (some d) v).eval (.tmp t)=a.eval (.tmp t):=by
 show (a.tmps.setIfInBounds d v).getD t undef=a.tmps.getD t undef
 simp only [Array.getD_eq_getD_getElem?,Array.getElem?_setIfInBounds_ne (Ne.symm h)]
theorem at_eq (a:Act) (d:Nat) (v:Value) (h:d<a.tmps.size):(a.put (some d) v).eval (.tmp d)=v:=by
 show (a.tmps.setIfInBounds d v).getD d undef=v
 simp [h]
theorem slot_is {a:Act} {t:Nat} {v:Value} (h:a.eval (.tmp t)=v) (hs:t<a.tmps.size):a.tmps[t]? = some v:=by
 have e:a.tmps.getD t undef=v:=h
 rw [Array.getD_eq_getD_getElem?,Array.getElem?_eq_getElem hs] at e
 rw [Array.getElem?_eq_getElem hs]
 exact congrArg some e
theorem slot_put (a:Act) (d t:Nat) (v:Value):(a.put (some d) v).tmps[t]? = if d=t then (if d<a.tmps.size then some v else none) else a.tmps[t]?:=by
 show (a.tmps.setIfInBounds d v)[t]? = _
 rw [Array.getElem?_setIfInBounds]
theorem size_putted (a:Act) (d:Nat) (v:Value):(a.put (some d) v).tmps.size=a.tmps.size:=by
 show (a.tmps.setIfInBounds d v).size=a.tmps.size
 simp
def putted (base:Act) (ps:List (Nat × Value)):Act:=ps.foldl (fun b p=>b.put (some p.1) p.2) base
theorem putted_eq:∀ (ps:List (Nat × Value)) (base a:Act),a.defers=base.defers→a.tmps.size=base.tmps.size→(∀ p ∈ ps,a.tmps[p.1]? = some p.2)→(∀ t,(∀ p ∈ ps,t≠p.1)→a.tmps[t]? = base.tmps[t]?)→a=putted base ps
 | [],base,a,h1,_,_,h4=>by
  cases a
  cases base
  simp only at h1 h4
  show Act.mk _ _=Act.mk _ _
  rw [Array.ext_getElem? (fun t=>h4 t (fun p hp=>by simp at hp)),h1]
 | (d,v)::ps,base,a,h1,h2,h3,h4=>by
  have hd:=h3 (d,v) (by simp)
  simp only at hd
  have hlt:d<base.tmps.size:=by
   rw [← h2]
   exact (Array.getElem?_eq_some_iff.1 hd).1
  refine putted_eq ps (base.put (some d) v) a h1 (by rw [size_putted];exact h2) (fun p hp=>h3 p (by simp [hp])) (fun t ht=>?_)
  rw [slot_put]
  by_cases e:d=t
  ·subst e
   rw [if_pos rfl,if_pos hlt]
   exact hd
  ·rw [if_neg e]
   refine h4 t (fun p hp=>?_)
   rcases List.mem_cons.1 hp with rfl | hp
   ·exact Ne.symm e
   ·exact ht p hp
theorem rest_eval {base a:Act} {t:Nat} (h:a.tmps[t]? = base.tmps[t]?):a.eval (.tmp t)=base.eval (.tmp t):=by
 show a.tmps.getD t undef=base.tmps.getD t undef
 simp only [Array.getD_eq_getD_getElem?,h]
end Go.Proofs.YthlnhheblhapgaaGreatDoor

namespace Go.Proofs.YthlnhheblhapgaaGreatDoor
open Go.RowKit
theorem wp_value {P:Program} {Q:Exit→Act→World→Prop} {K:Act→World→Prop} {a:Act} {w w':World} {o:Oper} {v:Value} (hr:(execOp a.eval o).run P w=.ok (.value v) w') (h:K (a.put o.dst v) w'):o.wp P a w K Q:=by
 unfold Oper.wp
 rw [hr]
 exact h
theorem wp_skipped {P:Program} {Q:Exit→Act→World→Prop} {K:Act→World→Prop} {a:Act} {w w':World} {o:Oper} (hr:(execOp a.eval o).run P w=.ok .skip w') (h:K (a.put o.dst undef) w'):o.wp P a w K Q:=by
 unfold Oper.wp
 rw [hr]
 exact h
theorem wp_enter {P:Program} {Q:Exit→Act→World→Prop} {K:Act→World→Prop} {a:Act} {w:World} {o:Oper} {f:FuncId} {args:Array Value} (hr:(execOp a.eval o).run P w=.ok (.enter f args) w) {R:World→Value→Prop} (hc:Calls P f args w fun e w'=>∃ v,e=.returned v∧R w' v) (h:∀ v w',R w' v→K (a.put o.dst v) w'):o.wp P a w K Q:=by
 unfold Oper.wp
 rw [hr]
 refine hc.mono ?_
 rintro e w' ⟨v,rfl,hv⟩
 exact h v w' hv
end Go.Proofs.YthlnhheblhapgaaGreatDoor

namespace Go.Proofs.YthlnhheblhapgaaGreatDoor
theorem quo_rem_of {X Y q r:Nat} (h:X=q*Y+r) (hr:r<Y):X/Y=q∧X%Y=r:=by
 subst h
 have hY:0<Y:=by omega
 constructor
 ·rw [Nat.mul_comm,Nat.mul_add_div hY,Nat.div_eq_of_lt hr,Nat.add_zero]
 ·rw [Nat.mul_comm,Nat.mul_add_mod,Nat.mod_eq_of_lt hr]
structure Mended (X Y T q m:Nat):Prop where
 eq:X+T=q*Y+m
 lt:m<T+Y
theorem Mended.start (X Y P:Nat) (hP:0<P) (hY:0<Y/P):Mended X Y (X/P/(Y/P)*(Y%P)) (X/P/(Y/P)) (X/P%(Y/P)*P+X%P):=by
 obtain ⟨YH,hYH⟩:∃ YH,YH=Y/P:=⟨_,rfl⟩
 obtain ⟨YL,hYL⟩:∃ YL,YL=Y%P:=⟨_,rfl⟩
 obtain ⟨XH,hXH⟩:∃ XH,XH=X/P:=⟨_,rfl⟩
 obtain ⟨XL,hXL⟩:∃ XL,XL=X%P:=⟨_,rfl⟩
 have e1:Y=P*YH+YL:=by rw [hYH,hYL];exact (Nat.div_add_mod Y P).symm
 have e2:X=P*XH+XL:=by rw [hXH,hXL];exact (Nat.div_add_mod X P).symm
 have l1:XL<P:=by rw [hXL];exact Nat.mod_lt _ hP
 rw [← hYH,← hYL,← hXH,← hXL]
 rw [← hYH] at hY
 have e3:=Nat.div_add_mod XH YH
 have l2:=Nat.mod_lt XH hY
 generalize XH/YH=q at *
 generalize XH%YH=r at *
 constructor
 ·rw [e2,e1,← e3];grind
 ·have h1:(r+1)*P≤YH*P:=Nat.mul_le_mul_right _ l2
  rw [e1]
  have h2:(r+1)*P=r*P+P:=Nat.succ_mul _ _
  have h3:YH*P=P*YH:=Nat.mul_comm _ _
  omega
theorem Mended.pos {X Y T q m:Nat} (h:Mended X Y T q m) (hm:m<T):0<q:=by
 rcases Nat.eq_zero_or_pos q with h0 | h0
 ·have:=h.eq
  rw [h0,Nat.zero_mul] at this
  omega
 ·exact h0
theorem Mended.next {X Y T q m:Nat} (h:Mended X Y T q m) (hm:m<T):Mended X Y T (q-1) (m+Y):=by
 have hq:=h.pos hm
 obtain ⟨p,rfl⟩:∃ p,q=p+1:=⟨q-1,by omega⟩
 have he:=h.eq
 rw [Nat.succ_mul] at he
 exact ⟨by rw [Nat.add_sub_cancel];omega,by omega⟩
theorem Mended.fin {X Y T q m:Nat} (h:Mended X Y T q m) (hm:T≤m):X/Y=q∧X%Y=m-T:=by
 have he:=h.eq
 have hl:=h.lt
 exact quo_rem_of (by omega) (by omega)
theorem halves (X Y P h r l s:Nat) (h1:X/P=h*Y+r) (h2:r*P+X%P=l*Y+s) (hs:s<Y):X/Y=h*P+l∧X%Y=s:=by
 refine quo_rem_of ?_ hs
 have e:=Nat.div_add_mod X P
 rw [h1] at e
 grind
end Go.Proofs.YthlnhheblhapgaaGreatDoor
