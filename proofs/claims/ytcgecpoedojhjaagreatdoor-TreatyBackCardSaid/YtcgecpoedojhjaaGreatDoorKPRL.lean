/- A region that draws its order and writes -/
import Derived.Test.YtcgecpoedojhjaaGreatDoorKPF13
namespace Go.Proofs.YtcgecpoedojhjaaGreatDoor
open Go.Proofs.Tryz
open Go.RowKit
set_option maxHeartbeats 4000000
set_option maxRecDepth 100000
def Down (ops:Array Oper) (d:Nat→Bool):Prop:=∀ i o,ops[i]? = some o→d i=true→∀ e ∈ o.after,Region.binds .any e=true→d e.on=true
structure Run (W:World) (ops:Array Oper) (base:Act) (C:Nat→World→Value→Prop) (T:Nat→Nat) (d:Nat→Bool) (a:Act) (w:World):Prop where
 down:Down ops d
 but:But [] W w
 size:a.tmps.size=base.tmps.size
 defers:a.defers=base.defers
 rest:∀ t,(∀ j,j<ops.size→d j=true→t≠T j)→a.tmps[t]? = base.tmps[t]?
 has:∀ i,i<ops.size→d i=true→C i w (a.eval (.tmp (T i)))
theorem Run.eval {W:World} {ops:Array Oper} {base:Act} {C:Nat→World→Value→Prop} {T:Nat→Nat} {d:Nat→Bool} {a:Act} {w:World} (h:Run W ops base C T d a w) (t:Nat) (ht:∀ j,j<ops.size→d j=true→t≠T j):a.eval (.tmp t)=base.eval (.tmp t):=by
 show a.tmps.getD t undef=base.tmps.getD t undef
 simp only[Array.getD_eq_getD_getElem?,h.rest t ht]
theorem Run.next {W:World} {ops:Array Oper} {base:Act} {C:Nat→World→Value→Prop} {T:Nat→Nat} {d:Nat→Bool} {a:Act} {w:World} (h:Run W ops base C T d a w)
  (hinj:∀ i j,i<ops.size→j<ops.size→T i=T j→i=j) (hT:∀ i,i<ops.size→T i<base.tmps.size) (hC:∀ i w w' v,i<ops.size→C i w v→But [] w w'→C i w' v)
  (i:Nat) (o:Oper) (ho:ops[i]? = some o) (hdep:∀ e ∈ o.after,Region.binds .any e=true→d e.on=true) (v:Value) (w':World) (hb:But [] w w') (hv:C i w' v):Run W ops base C T (came d i) (a.put (some (T i)) v) w':=by
 have hi:i<ops.size:=(Array.getElem?_eq_some_iff.1 ho).1
 refine⟨fun j oj hj hd e he hbi=>?_,h.but.trans' hb,by rw[zdc];exact h.size,h.defers,fun t ht=>?_,fun j hj hd=>?_⟩
 ·by_cases e1:e.on=i
  ·rw[e1];exact q9 d i
  ·rw[sj d e1]
   by_cases e2:j=i
   ·subst e2
    rw[ho] at hj
    obtain rfl:=Option.some.inj hj
    exact hdep e he hbi
   ·rw[sj d e2] at hd
    exact h.down j oj hj hd e he hbi
 ·rw[zkn,if_neg (fun e=>ht i hi (q9 d i) e.symm)]
  exact h.rest t (fun j hj hd=>by
   by_cases e:j=i
   ·subst e;exact ht j hj (q9 d j)
   ·exact ht j hj (by rw[sj d e];exact hd))
 ·by_cases e:j=i
  ·subst e
   rw[at_eq a (T j) v (by rw[h.size];exact hT j hj)]
   exact hv
  ·rw[sj d e] at hd
   rw[qop a (T i) (T j) v (fun e2=>e (hinj j i hj hi e2))]
   exact hC j w w' _ hj (h.has j hj hd) hb
def zdg (ops:Array Oper) (T:Nat→Nat):Bool:=(List.range ops.size).all fun i=>match ops[i]? with
 | some o=>(o.dst==some (T i)) && (match o.guard with | none=>true | some (j,_)=>decide (j<ops.size) && o.after.any fun e=>Region.binds .any e && e.on==j)
 | none=>true
theorem zsp {ops:Array Oper} {T:Nat→Nat} (h:zdg ops T=true):∀ (i:Nat) (o:Oper),ops[i]? = some o→o.dst=some (T i)∧∀ j want,o.guard=some (j,want)→j<ops.size∧∃ e ∈ o.after,Region.binds .any e=true∧e.on=j:=fun i o ho=>by
 have hi:i<ops.size:=(Array.getElem?_eq_some_iff.1 ho).1
 unfold zdg at h
 rw[List.all_eq_true] at h
 have h1:=h i (List.mem_range.2 hi)
 simp only[ho,Bool.and_eq_true,beq_iff_eq] at h1
 refine⟨h1.1,fun j want hg=>?_⟩
 have h2:=h1.2
 rw[hg] at h2
 simp only[Bool.and_eq_true,decide_eq_true_eq] at h2
 refine⟨h2.1,?_⟩
 have h3:=h2.2
 rw[Array.any_eq_true] at h3
 obtain⟨k,hk,h4⟩:=h3
 simp only[Bool.and_eq_true,beq_iff_eq] at h4
 exact⟨o.after[k],Array.getElem_mem hk,h4.1,h4.2⟩
theorem zbr {P:Program} {id:Nat} {ops:Array Oper} {Q:Exit→Act→World→Prop} {base:Act} {W0:World} (hm:P.follows .mixedOrders=true)
  (hlow:∀ i o,ops[i]? = some o→∀ e ∈ o.after,Region.binds .any e=true→e.on<i)
  (C:Nat→World→Value→Prop) (T:Nat→Nat) (hpl:zdg ops T=true)
  (hgd:∀ (i:Nat) (o:Oper) (j:Nat) (want:Bool),ops[i]? = some o→o.guard=some (j,want)→∀ w v,C j w v→v=.bool want)
  (hinj:∀ i j,i<ops.size→j<ops.size→T i=T j→i=j) (hT:∀ i,i<ops.size→T i<base.tmps.size) (hC:∀ i w w' v,i<ops.size→C i w v→But [] w w'→C i w' v)
  (hstep:∀ (i:Nat) (o:Oper) (a:Act) (w:World) (K:Act→World→Prop),ops[i]? = some o→But [] W0.drew w→(∀ t,(∀ j,j<ops.size→t=T j→∃ oj,ops[j]? = some oj∧∃ e ∈ oj.after,Region.binds .any e=true∧e.on=i)→a.eval (.tmp t)=base.eval (.tmp t))→(∀ e ∈ o.after,Region.binds .any e=true→C e.on w (a.eval (.tmp (T e.on))))→(∀ v w',But [] w w'→C i w' v→K (a.put o.dst v) w')→o.wp P a w K Q)
  (hend:∀ a w,Run W0.drew ops base C T (fun _=>true) a w→Q .normal a w) :
  (Code.region id ops true).wp P Q base W0:=by
 have hp:=zsp hpl
 refine zff hm hlow (fun d a w=>Run W0.drew ops base C T d a w) ?_ ?_ ?_
 ·exact⟨fun _ _ _ h=>by simp at h,But.refl _ _,rfl,rfl,fun _ _=>rfl,fun _ _ h=>by simp at h⟩
 ·intro d a w hd h
  refine hend a w ⟨fun _ _ _ _ _ _ _=>rfl,h.but,h.size,h.defers,fun t ht=>h.rest t (fun j hj _=>ht j hj rfl),fun i hi _=>h.has i hi (hd i hi)⟩
 ·intro d i o a w ho hdi hdep h
  have hi:i<ops.size:=(Array.getElem?_eq_some_iff.1 ho).1
  obtain⟨hdst,hg⟩:=hp i o ho
  have hw:Region.wanted o (yielded ops a.tmps)=true:=by
   unfold Region.wanted
   cases hgo:o.guard with
   | none=>rfl
   | some jw =>
    obtain⟨j,want⟩:=jw
    obtain⟨hj,e,he,hbi,hon⟩:=hg j want hgo
    have hdj:d j=true:=by rw[← hon];exact hdep e he hbi
    have hv:=hgd i o j want ho hgo w _ (h.has j hj hdj)
    have hoj:=Array.getElem?_eq_getElem hj
    have hdj2:=(hp j _ hoj).1
    have hsl:=zfq hv (by rw[h.size];exact hT j hj)
    show (yielded ops a.tmps j==some want)=true
    unfold yielded
    rw[hoj,Option.bind_some,hdj2,Option.bind_some,hsl]
    simp
  unfold wpOp
  simp only[ho,hw,if_true]
  refine .inl (hstep i o a w _ ho h.but (fun t ht=>h.eval t (fun j hj hd e=>?_)) (fun e he hb=>h.has _ (by have:=hlow i o ho e he hb;omega) (hdep e he hb)) (fun v w' hb hv=>?_))
  ·obtain⟨oj,hoj,ed,hed,hbi,hon⟩:=ht j hj e
   have:=h.down j oj hoj hd ed hed hbi
   rw[hon,hdi] at this
   simp at this
  ·rw[hdst]
   exact h.next hinj hT hC i o ho hdep v w' hb hv
theorem Run.puts {W:World} {ops:Array Oper} {base:Act} {C:Nat→World→Value→Prop} {T:Nat→Nat} {a:Act} {w:World} (h:Run W ops base C T (fun _=>true) a w) (hT:∀ i,i<ops.size→T i<base.tmps.size) (V:Nat→Value) (hV:∀ i,i<ops.size→a.eval (.tmp (T i))=V i):a=qx base ((List.range ops.size).map fun i=>(T i,V i)):=by
 refine zgs _ base a h.defers h.size (fun p hp=>?_) (fun t ht=>?_)
 ·obtain⟨i,hi,rfl⟩:=List.mem_map.1 hp
  have hi':=List.mem_range.1 hi
  exact zfq (hV i hi') (by rw[h.size];exact hT i hi')
 ·refine h.rest t (fun j hj _ e=>?_)
  exact ht (T j,V j) (List.mem_map.2 ⟨j,List.mem_range.2 hj,rfl⟩) e
theorem zsh {P:Program} {id:Nat} {ops:Array Oper} {Q:Exit→Act→World→Prop} {base:Act} {W0:World} (hm:P.follows .mixedOrders=true)
  (hlow:∀ i o,ops[i]? = some o→∀ e ∈ o.after,Region.binds .any e=true→e.on<i)
  (C:Nat→World→Value→Prop) (T:Nat→Nat) (hpl:zdg ops T=true) (sk:Nat→Bool)
  (hgd:∀ (i:Nat) (o:Oper) (j:Nat) (want:Bool),ops[i]? = some o→o.guard=some (j,want)→∀ w v,C j w v→v=.bool (if sk i then !want else want))
  (hsk:∀ (i:Nat) (o:Oper),ops[i]? = some o→sk i=true→o.guard≠none) (hCs:∀ i w,sk i=true→C i w undef)
  (hinj:∀ i j,i<ops.size→j<ops.size→T i=T j→i=j) (hT:∀ i,i<ops.size→T i<base.tmps.size) (hC:∀ i w w' v,i<ops.size→C i w v→But [] w w'→C i w' v)
  (hstep:∀ (i:Nat) (o:Oper) (a:Act) (w:World) (K:Act→World→Prop),sk i=false→ops[i]? = some o→But [] W0.drew w→(∀ t,(∀ j,j<ops.size→t=T j→∃ oj,ops[j]? = some oj∧∃ e ∈ oj.after,Region.binds .any e=true∧e.on=i)→a.eval (.tmp t)=base.eval (.tmp t))→(∀ e ∈ o.after,Region.binds .any e=true→C e.on w (a.eval (.tmp (T e.on))))→(∀ v w',But [] w w'→C i w' v→K (a.put o.dst v) w')→o.wp P a w K Q)
  (hend:∀ a w,Run W0.drew ops base C T (fun _=>true) a w→Q .normal a w) :
  (Code.region id ops true).wp P Q base W0:=by
 have hp:=zsp hpl
 refine zff hm hlow (fun d a w=>Run W0.drew ops base C T d a w) ?_ ?_ ?_
 ·exact⟨fun _ _ _ h=>by simp at h,But.refl _ _,rfl,rfl,fun _ _=>rfl,fun _ _ h=>by simp at h⟩
 ·intro d a w hd h
  refine hend a w ⟨fun _ _ _ _ _ _ _=>rfl,h.but,h.size,h.defers,fun t ht=>h.rest t (fun j hj _=>ht j hj rfl),fun i hi _=>h.has i hi (hd i hi)⟩
 ·intro d i o a w ho hdi hdep h
  have hi:i<ops.size:=(Array.getElem?_eq_some_iff.1 ho).1
  obtain⟨hdst,hg⟩:=hp i o ho
  have hw:Region.wanted o (yielded ops a.tmps)=!sk i:=by
   unfold Region.wanted
   cases hgo:o.guard with
   | none =>
    have:sk i=false:=by
     cases e:sk i with
     | false=>rfl
     | true=>exact absurd hgo (hsk i o ho e)
    rw[this];rfl
   | some jw =>
    obtain⟨j,want⟩:=jw
    obtain⟨hj,e,he,hbi,hon⟩:=hg j want hgo
    have hdj:d j=true:=by rw[← hon];exact hdep e he hbi
    have hv:=hgd i o j want ho hgo w _ (h.has j hj hdj)
    have hoj:=Array.getElem?_eq_getElem hj
    have hdj2:=(hp j _ hoj).1
    have hsl:=zfq hv (by rw[h.size];exact hT j hj)
    show (yielded ops a.tmps j==some want)=!sk i
    unfold yielded
    rw[hoj,Option.bind_some,hdj2,Option.bind_some,hsl]
    cases sk i <;> cases want <;> rfl
  unfold wpOp
  by_cases es:sk i=true
  ·rw[es] at hw
   simp only[ho,hw,Bool.not_true,Bool.false_eq_true,if_false]
   rw[hdst]
   exact h.next hinj hT hC i o ho hdep undef w (But.refl _ _) (hCs i w es)
  ·have es':sk i=false:=by simpa using es
   rw[es'] at hw
   simp only[ho,hw,Bool.not_false,if_true]
   refine .inl (hstep i o a w _ es' ho h.but (fun t ht=>h.eval t (fun j hj hd e=>?_)) (fun e he hb=>h.has _ (by have:=hlow i o ho e he hb;omega) (hdep e he hb)) (fun v w' hb hv=>?_))
   ·obtain⟨oj,hoj,ed,hed,hbi,hon⟩:=ht j hj e
    have:=h.down j oj hoj hd ed hed hbi
    rw[hon,hdi] at this
    simp at this
   ·rw[hdst]
    exact h.next hinj hT hC i o ho hdep v w' hb hv
theorem qey (X:Nat) (h:0<X):(wd 18446744073709551616 X)[0]?.getD 0%2=X%2:=by
 rw[zdb (by omega) h]
 simp only[List.getElem?_cons_zero,Option.getD_some]
 omega
theorem zvt (v:Value) (X:Nat) (w:World) (hv:Sl .u64 w v (wd 18446744073709551616 X)) (hl:(wd 18446744073709551616 X).length<2147483648) (r:Bool) (hr:Hid (r=decide (X%2=1))) :
  Calls prog 162 #[v] w fun e w'=>e=.returned (.bool r)∧w'=w:=by
 rcases hv.open with ⟨e,a,c,rfl⟩|⟨hp,b,o,c,rfl,hc,-,hcell⟩
 ·have hX:X=0:=(ou (by omega) X).1 e
  have er:Hid (r=false):=by show _=_;rw[za hr,hX];rfl
  clear hr e hv hl
  go_enter func162,ntmps162
  go_wp2
  go_ret
  exact⟨by rw[za er];rfl,rfl⟩
 ·have hX:0<X:=by
   rcases Nat.eq_zero_or_pos X with h0 | h0
   ·subst h0;rw[qd] at hp;simp at hp
   ·exact h0
  have c0:=hcell 0 hp
  rw[Nat.add_zero] at c0
  have hb:=qg (qy (B:=18446744073709551616) (by omega) X) (by omega:0 < 18446744073709551616) 0
  have ho:=qey X hX
  generalize (wd 18446744073709551616 X)[0]?.getD 0=x at *
  generalize (wd 18446744073709551616 X).length=n at *
  have E1:bits .and .u64 (x:Int) 1=((x%2:Nat):Int):=by
   have:=bits_and_u64_nat x 1 hb (by omega)
   rw[Nat.and_one_is_mod] at this
   exact this
  have er:Hid (r=(((x%2:Nat):Int)==1)):=by
   show _=_
   rw[za hr,← ho,Bool.eq_iff_iff,decide_eq_true_iff,beq_iff_eq]
   omega
  have hlt:(x%2:Nat)<2:=Nat.mod_lt _ (by omega)
  generalize x%2=y at *
  have n0:(0:Int)<(n:Int):=by omega
  clear hr hcell hv ho
  go_enter func162,ntmps162
  go_wp2
  go_ret
  exact⟨by rw[za er];rfl,rfl⟩
theorem ztp (v:Value) (f:Rat) (w:World) (hf:zi w v f) (hl:(wd 18446744073709551616 f.num.natAbs).length<2147483648) (r:Bool) (hr:Hid (r=decide (f.num.natAbs%2=1))) :
  Calls prog 127 #[v] w fun e w'=>e=.returned (.bool r)∧But [] w w':=by
 rcases hf with ⟨hp,hq,rfl⟩|⟨hbig,b,v1,v2,rfl,hc0,hc1,hs1,hs2⟩
 ·generalize decide (f.num<0)=s
  generalize f.num.natAbs=p at *
  generalize f.den=q at *
  have E1:bits .and .u64 (p:Int) 1=((p%2:Nat):Int):=by
   have:=bits_and_u64_nat p 1 hp (by omega)
   rw[Nat.and_one_is_mod] at this
   exact this
  have er:Hid (r=(((p%2:Nat):Int)==1)):=by
   show _=_
   rw[za hr,Bool.eq_iff_iff,decide_eq_true_iff,beq_iff_eq]
   omega
  have hlt:(p%2:Nat)<2:=Nat.mod_lt _ (by omega)
  generalize p%2=y at *
  clear hr hl
  go_enter func127,ntmps127
  go_wp2
  go_ret
  exact⟨by rw[za er];rfl,(But.refl _ _).alloc _⟩
 ·have OD:Hid (∀ W,But [] w W→Calls prog 162 #[v1] W fun e w'=>e=.returned (.bool r)∧w'=W):=fun W hb=>zvt v1 _ W (hs1.ze hb) hl r hr
  obtain⟨a1,e1,rfl,-,-⟩:=hs1
  clear hs2 hbig hr hl
  generalize (wd 18446744073709551616 f.num.natAbs).length=n1 at *
  generalize decide (f.num<0)=s
  have hbl:b<w.heap.size:=lt_of_cell hc0
  clear hc1
  go_enter func127,ntmps127
  go_wp2_with fail
  refine (za OD _ ((But.refl _ _).alloc _)).mono ?_
  rintro e w1 ⟨rfl,hw⟩
  obtain rfl:=hw.symm
  clear hw
  go_wp2
  go_ret
  exact⟨rfl,(But.refl _ _).alloc _⟩
def zn (P:Nat→Oper→Prop):Nat→List Oper→Prop
 | _,[]=>True
 | n,o::l=>P n o∧zn P (n+1) l
theorem zn.done {P:Nat→Oper→Prop} {n:Nat}:zn P n []:=trivial
theorem zn.more {P:Nat→Oper→Prop} {n:Nat} {o:Oper} {l:List Oper} (h:P n o) (t:zn P (n+1) l):zn P n (o::l):=⟨h,t⟩
theorem zn.get {P:Nat→Oper→Prop}:∀ {l:List Oper} {n:Nat},zn P n l→∀ {i:Nat} {o:Oper},l[i]? = some o→P (n+i) o
 | [],_,_,_,_,h=>by simp at h
 | _::_,_,hp,0,_,h=>by
  simp only[List.getElem?_cons_zero,Option.some.injEq] at h
  subst h
  exact hp.1
 | _::l,n,hp,i+1,o,h=>by
  have:=zn.get (l:=l) hp.2 (i:=i) (o:=o) (by simpa using h)
  rwa [show n+1+i=n+(i+1) by omega] at this
theorem ji {V:Nat→Value} {o:Oper} (ho:o.guard=none):∀ j want,o.guard=some (j,want)→V j=.bool want:=fun j want h=>by
 rw[ho] at h
 cases h
theorem zx {V:Nat→Value} {o:Oper} (k:Nat) (b:Bool) (ho:o.guard=some (k,b)) (hv:V k=.bool b):∀ j want,o.guard=some (j,want)→V j=.bool want:=fun j want h=>by
 rw[ho] at h
 cases h
 exact hv
theorem qfh {base a:Act} (t0 m:Nat) (V:Nat→Value) (hT:t0+m≤base.tmps.size) (h1:a.defers=base.defers) (h2:a.tmps.size=base.tmps.size) (h3:∀ i,i<m→a.tmps[t0+i]? = some (V i)) (h4:∀ t,(∀ i,i<m→t≠t0+i)→a.tmps[t]? = base.tmps[t]?) :
  a={ base with tmps:=(base.tmps.toList.take t0++(List.range m).map V++base.tmps.toList.drop (t0+m)).toArray }:=by
 cases a with | mk at1 ad =>
 cases base with | mk bt bd =>
 simp only at hT h1 h2 h3 h4 ⊢
 subst h1
 congr 1
 refine Array.ext_getElem? fun t=>?_
 have hl:(bt.toList.take t0).length=t0:=by rw[List.length_take,Array.length_toList];omega
 rw[List.getElem?_toArray (xs:=bt.toList.take t0++(List.range m).map V++bt.toList.drop (t0+m))]
 by_cases c1:t<t0
 ·rw[List.append_assoc,List.getElem?_append_left (by omega),List.getElem?_take_of_lt c1,Array.getElem?_toList]
  exact h4 t fun i hi e=>by omega
 ·by_cases c2:t<t0+m
  ·rw[List.getElem?_append_left (by rw[List.length_append,hl];simp;omega),List.getElem?_append_right (by omega),hl,List.getElem?_map,List.getElem?_range (by omega)]
   have:=h3 (t-t0) (by omega)
   rw[show t0+(t-t0)=t by omega] at this
   exact this
  ·rw[List.getElem?_append_right (by rw[List.length_append,hl];simp;omega),List.length_append,hl,List.getElem?_drop,Array.getElem?_toList]
   simp only[List.length_map,List.length_range]
   rw[show t0+m+(t-(t0+m))=t by omega]
   exact h4 t fun i hi e=>by omega
theorem zsi {P:Program} {id:Nat} {l:List Oper} {Q:Exit→Act→World→Prop} {base:Act} {W0:World} (hm:P.follows .mixedOrders=true)
  (hlow:∀ i o,l.toArray[i]? = some o→∀ e ∈ o.after,Region.binds .any e=true→e.on<i)
  (t0 m:Nat) (hsz:l.length=m) (V:Nat→Value) (hpl:zdg l.toArray (fun i=>t0+i)=true)
  (hgd:zn (fun _ o=>∀ j want,o.guard=some (j,want)→V j=.bool want) 0 l) (hT:t0+m≤base.tmps.size)
  (hstep:zn (fun i o=>∀ (a:Act) (w:World) (K:Act→World→Prop),But [] W0.drew w→(∀ t,t<t0→a.eval (.tmp t)=base.eval (.tmp t))→(∀ (k:Nat) (e:Edge),o.after[k]? = some e→Region.binds .any e=true→a.eval (.tmp (t0+e.on))=V e.on)→(∀ v w',But [] w w'→v=V i→K (a.put o.dst v) w')→o.wp P a w K Q) 0 l)
  (hend:∀ w,But [] W0.drew w→Q .normal { base with tmps:=(base.tmps.toList.take t0++(List.range m).map V++base.tmps.toList.drop (t0+m)).toArray } w) :
  (Code.region id l.toArray true).wp P Q base W0:=by
 have hs:l.toArray.size=m:=by simpa using hsz
 refine zbr hm hlow (fun i _ v=>v=V i) (fun i=>t0+i) hpl ?_ (fun i j _ _ e=>by omega) (fun i hi=>by omega) (fun _ _ _ _ _ h _=>h) ?_ ?_
 ·intro i o j want ho hg _ v hv
  have:=zn.get hgd (i:=i) (o:=o) (by simpa using ho) j want hg
  rw[hv,this]
 ·intro i o a w K ho hH he hdep hk
  have:=zn.get hstep (i:=i) (o:=o) (by simpa using ho)
  rw[Nat.zero_add] at this
  exact this a w K hH (fun t ht=>he t fun j _ e=>absurd e (by omega)) (fun k e hk' hb=>hdep e (Array.mem_of_getElem? hk') hb) hk
 ·intro a w h
  have ea:a={ base with tmps:=(base.tmps.toList.take t0++(List.range m).map V++base.tmps.toList.drop (t0+m)).toArray }:=by
   refine qfh t0 m V hT h.defers h.size (fun i hi=>?_) (fun t ht=>h.rest t fun j hj _=>ht j (by omega))
   have e:=h.has i (by omega) rfl
   exact zfq e (by rw[h.size];omega)
  rw[ea]
  exact hend w h.but
end Go.Proofs.YtcgecpoedojhjaaGreatDoor
