/- Regions that draw their order: what hold -/
import Derived.Deep.RegionHeld
import Derived.RangeFuncCalls
import Derived.OrdersIn
import Derived.Test.YtffghofheeleeaaGreatDoorProg
import Derived.Deep.LoopGhost
import Derived.Lib.ItoaNum
import Derived.Laws.IdiomStrings
import Derived.OwnWalk
import Derived.WalkSpells
import Derived.Shelf.Strconv.Itoa1
import Derived.Shelf.LaysM
import Derived.Shelf.Strconv.Itoa2
import Derived.Shelf.Small.Bits
import Derived.Laws.Bits64b
import Derived.Test.YtffghofheeleeaaGreatDoorKN15
namespace Go.Proofs.YtffghofheeleeaaGreatDoor
open Go.Proofs.Tryz
open Go.RowKit
def came (d:Nat→Bool) (i:Nat):Nat→Bool:=fun j=>if j=i then true else d j
theorem ko (d:Nat→Bool) (i:Nat):came d i i=true:=by simp[came]
theorem jh (d:Nat→Bool) {i j:Nat} (h:j≠i):came d i j=d j:=by simp[came,h]
theorem zck {P:Program} {id:Nat} {ops:Array Oper} {Q:Exit→Act→World→Prop} {base:Act} {W0:World} (hm:P.follows .mixedOrders=true)
  (hlow:∀ i o,ops[i]? = some o→∀ e ∈ o.after,Region.binds .any e=true→e.on<i)
  (J:(Nat→Bool)→Act→World→Prop) (h0:J (fun _=>false) base W0.drew)
  (hend:∀ d a w,(∀ i,i<ops.size→d i=true)→J d a w→Q .normal a w)
  (hstep:∀ d i o a w,ops[i]? = some o→d i=false→(∀ e ∈ o.after,Region.binds .any e=true→d e.on=true)→J d a w→wpOp P ops Q i (J (came d i)) a w) :
  (Code.region id ops true).wp P Q base W0:=by
 refine wp_region_any hm ?_
 show wpAny P .any ops Q ops.size (Array.replicate ops.size false) base W0.drew
 have none_ready:∀ (l:Array Bool),l.toList.count false=0→Region.ready .any ops l=[]:=fun l hc=>by
  refine List.eq_nil_iff_forall_not_mem.2 fun i hi=>?_
  obtain⟨hf,o,ho,hd⟩:=mem_ready.1 hi
  rw[List.count_eq_zero] at hc
  rcases Nat.lt_or_ge i l.size with h1 | h1
  ·simp only[Array.getD_eq_getD_getElem?,Array.getElem?_eq_getElem h1,Option.getD_some] at hf
   exact hc (by rw[← hf];exact Array.getElem_mem_toList h1)
  ·simp[Array.getElem?_eq_none h1] at hf
 have end_:∀ (l:Array Bool) a w,l.size=ops.size→J (fun i=>l.getD i false) a w→Region.ready .any ops l=[]→Q .normal a w:=fun l a w hs hJ hr=>by
  refine hend _ a w (fun i=>?_) hJ
  induction i using Nat.strongRecOn with
  | _ i ih =>
   intro hi
   cases e:l.getD i false with
   | true=>rfl
   | false =>
    exfalso
    have hmem:i ∈ Region.ready .any ops l:=mem_ready.2 ⟨by
     simp only[Array.getD_eq_getD_getElem?,Array.getElem?_eq_getElem (show i<l.size by omega),Option.getD_some] at e ⊢
     exact e,ops[i],Array.getElem?_eq_getElem hi,fun e he hb=>by
      have hl:=hlow i ops[i] (Array.getElem?_eq_getElem hi) e he hb
      exact ih e.on hl (by omega)⟩
    rw[hr] at hmem
    simp at hmem
 have key:∀ n (l:Array Bool) a w,l.size=ops.size∧l.toList.count false=n∧J (fun i=>l.getD i false) a w→wpAny P .any ops Q n l a w:=by
  intro n
  induction n with
  | zero=>rintro l a w ⟨hs,hc,hJ⟩;exact⟨none_ready l hc,end_ l a w hs hJ (none_ready l hc)⟩
  | succ n ih =>
   rintro l a w ⟨hs,hc,hJ⟩
   refine⟨end_ l a w hs hJ,fun i hi=>?_⟩
   obtain⟨hf,o,ho,hd⟩:=mem_ready.1 hi
   have hlt:i<l.size:=by rw[hs];exact (Array.getElem?_eq_some_iff.1 ho).1
   have hg:l[i]=false:=by simpa [hlt] using hf
   have hf':l.getD i false=false:=by simp[hlt,hg]
   refine wpOp_mono (fun a' w' h'=>ih _ a' w' ⟨by simp[hs],?_,?_⟩) (hstep _ i o a w ho hf' hd hJ)
   ·rw[Array.toList_setIfInBounds,List.count_set (by simpa using hlt)]
    simp[hg,hc]
   ·have e:(fun j=>(l.setIfInBounds i true).getD j false)=came (fun j=>l.getD j false) i:=funext fun j=>by
     by_cases hj:j=i
     ·subst hj;simp[came,hlt]
     ·simp[came,hj,Array.getElem?_setIfInBounds_ne (Ne.symm hj)]
    rw[e];exact h'
 exact key _ _ _ _ ⟨by simp,by simp,by
  have e:(fun i=>(Array.replicate ops.size false).getD i false)=fun _=>false:=funext fun i=>by
   simp only[Array.getD_eq_getD_getElem?,Array.getElem?_replicate]
   split <;> rfl
  rw[e];exact h0⟩
theorem qbu (a:Act) (d t:Nat) (v:Value) (h:t≠d):(a.put (some d) v).eval (.tmp t)=a.eval (.tmp t):=by
 show (a.tmps.setIfInBounds d v).getD t undef=a.tmps.getD t undef
 simp only[Array.getD_eq_getD_getElem?,Array.getElem?_setIfInBounds_ne (Ne.symm h)]
theorem at_eq (a:Act) (d:Nat) (v:Value) (h:d<a.tmps.size):(a.put (some d) v).eval (.tmp d)=v:=by
 show (a.tmps.setIfInBounds d v).getD d undef=v
 simp[h]
theorem zks {a:Act} {t:Nat} {v:Value} (h:a.eval (.tmp t)=v) (hs:t<a.tmps.size):a.tmps[t]? = some v:=by
 have e:a.tmps.getD t undef=v:=h
 rw[Array.getD_eq_getD_getElem?,Array.getElem?_eq_getElem hs] at e
 rw[Array.getElem?_eq_getElem hs]
 exact congrArg some e
theorem zia (a:Act) (d t:Nat) (v:Value):(a.put (some d) v).tmps[t]? = if d=t then (if d<a.tmps.size then some v else none) else a.tmps[t]?:=by
 show (a.tmps.setIfInBounds d v)[t]? = _
 rw[Array.getElem?_setIfInBounds]
theorem zdc (a:Act) (d:Nat) (v:Value):(a.put (some d) v).tmps.size=a.tmps.size:=by
 show (a.tmps.setIfInBounds d v).size=a.tmps.size
 simp
def bk (base:Act) (ps:List (Nat × Value)):Act:=ps.foldl (fun b p=>b.put (some p.1) p.2) base
theorem zgc:∀ (ps:List (Nat × Value)) (base a:Act),a.defers=base.defers→a.tmps.size=base.tmps.size→(∀ p ∈ ps,a.tmps[p.1]? = some p.2)→(∀ t,(∀ p ∈ ps,t≠p.1)→a.tmps[t]? = base.tmps[t]?)→a=bk base ps
 | [],base,a,h1,_,_,h4=>by
  cases a
  cases base
  simp only at h1 h4
  show Act.mk _ _=Act.mk _ _
  rw[Array.ext_getElem? (fun t=>h4 t (fun p hp=>by simp at hp)),h1]
 | (d,v)::ps,base,a,h1,h2,h3,h4=>by
  have hd:=h3 (d,v) (by simp)
  simp only at hd
  have hlt:d<base.tmps.size:=by
   rw[← h2]
   exact (Array.getElem?_eq_some_iff.1 hd).1
  refine zgc ps (base.put (some d) v) a h1 (by rw[zdc];exact h2) (fun p hp=>h3 p (by simp[hp])) (fun t ht=>?_)
  rw[zia]
  by_cases e:d=t
  ·subst e
   rw[if_pos rfl,if_pos hlt]
   exact hd
  ·rw[if_neg e]
   refine h4 t (fun p hp=>?_)
   rcases List.mem_cons.1 hp with rfl | hp
   ·exact Ne.symm e
   ·exact ht p hp
theorem zmw {base a:Act} {t:Nat} (h:a.tmps[t]? = base.tmps[t]?):a.eval (.tmp t)=base.eval (.tmp t):=by
 show a.tmps.getD t undef=base.tmps.getD t undef
 simp only[Array.getD_eq_getD_getElem?,h]
theorem an {P:Program} {Q:Exit→Act→World→Prop} {K:Act→World→Prop} {a:Act} {w w':World} {o:Oper} {v:Value} (hr:(execOp a.eval o).run P w=.ok (.value v) w') (h:K (a.put o.dst v) w'):o.wp P a w K Q:=by
 unfold Oper.wp
 rw[hr]
 exact h
theorem jo {P:Program} {Q:Exit→Act→World→Prop} {K:Act→World→Prop} {a:Act} {w w':World} {o:Oper} (hr:(execOp a.eval o).run P w=.ok .skip w') (h:K (a.put o.dst undef) w'):o.wp P a w K Q:=by
 unfold Oper.wp
 rw[hr]
 exact h
theorem az {P:Program} {Q:Exit→Act→World→Prop} {K:Act→World→Prop} {a:Act} {w:World} {o:Oper} {f:FuncId} {args:Array Value} (hr:(execOp a.eval o).run P w=.ok (.enter f args) w) {R:World→Value→Prop} (hc:Calls P f args w fun e w'=>∃ v,e=.returned v∧R w' v) (h:∀ v w',R w' v→K (a.put o.dst v) w'):o.wp P a w K Q:=by
 unfold Oper.wp
 rw[hr]
 refine hc.mono ?_
 rintro e w' ⟨v,rfl,hv⟩
 exact h v w' hv
def qno (ops:Array Oper):Bool:=(List.range ops.size).all fun i=>match ops[i]? with
 | some o=>o.after.all fun e=>!(Region.binds .any e) || decide (e.on<i)
 | none=>true
theorem xu {ops:Array Oper} (h:qno ops=true):∀ i o,ops[i]? = some o→∀ e ∈ o.after,Region.binds .any e=true→e.on<i:=fun i o ho e he hb=>by
 have hi:i<ops.size:=(Array.getElem?_eq_some_iff.1 ho).1
 unfold qno at h
 rw[List.all_eq_true] at h
 have h1:=h i (List.mem_range.2 hi)
 simp only[ho] at h1
 rw[Array.all_eq_true_iff_forall_mem] at h1
 have h2:=h1 e he
 simpa [hb] using h2
def zab (ops:Array Oper) (ps:List (Nat × Nat)):Bool:=ps.all fun p=>match ops[p.1]? with
 | some o=>o.after.any fun e=>Region.binds .any e && e.on==p.2
 | none=>false
theorem vv {ops:Array Oper} {ps:List (Nat × Nat)} (h:zab ops ps=true):∀ i j,(i,j) ∈ ps→∃ o,ops[i]? = some o∧∃ e ∈ o.after,Region.binds .any e=true∧e.on=j:=fun i j hij=>by
 unfold zab at h
 rw[List.all_eq_true] at h
 have h1:=h (i,j) hij
 cases ho:ops[i]? with
 | none=>simp[ho] at h1
 | some o =>
  simp only[ho] at h1
  rw[Array.any_eq_true] at h1
  obtain⟨k,hk,h2⟩:=h1
  simp only[Bool.and_eq_true,beq_iff_eq] at h2
  exact⟨o,rfl,o.after[k],Array.getElem_mem hk,h2.1,h2.2⟩
def P4 (w:World) (g:Nat) (s:Bool) (x y:Int) (p:Option Addr):Prop:=w.cell? ⟨g,0,none⟩=some (.bool s)∧w.cell? ⟨g,1,none⟩=some (.int .u64 x)∧w.cell? ⟨g,2,none⟩=some (.int .u64 y)∧w.cell? ⟨g,3,none⟩=some (.pointer p)
theorem P4.but {w w':World} {g:Nat} {s:Bool} {x y:Int} {p:Option Addr} {l:List Nat} (h:P4 w g s x y p) (hb:But l w w') (hn:g ∉ l):P4 w' g s x y p:=⟨hb.ag h.1 hn,hb.ag h.2.1 hn,hb.ag h.2.2.1 hn,hb.ag h.2.2.2 hn⟩
theorem o5 (w:World) (b i j:Nat) (v:Value) (hij:i≠j):(w.setCell ⟨b,i,none⟩ v).cell? ⟨b,j,none⟩=w.cell? ⟨b,j,none⟩:=World.cell?_setCell_other w ⟨b,i,none⟩ ⟨b,j,none⟩ v (fun e=>hij (Addr.mk.inj e).2.1)
theorem zyh (w:World) (b:Nat) (v0 v1 v2 v3:Value) (c0:(w.cell? ⟨b,0,none⟩).isSome=true) (c1:(w.cell? ⟨b,1,none⟩).isSome=true) (c2:(w.cell? ⟨b,2,none⟩).isSome=true) (c3:(w.cell? ⟨b,3,none⟩).isSome=true) :
  (∀ j,j<4→((((w.setCell ⟨b,0,none⟩ v0).setCell ⟨b,1,none⟩ v1).setCell ⟨b,2,none⟩ v2).setCell ⟨b,3,none⟩ v3).cell? ⟨b,j,none⟩=#[v0,v1,v2,v3][j]?)∧∀ j,4≤j→((((w.setCell ⟨b,0,none⟩ v0).setCell ⟨b,1,none⟩ v1).setCell ⟨b,2,none⟩ v2).setCell ⟨b,3,none⟩ v3).cell? ⟨b,j,none⟩=w.cell? ⟨b,j,none⟩:=by
 constructor
 ·intro j hj
  have:j=0∨j=1∨j=2∨j=3:=by omega
  rcases this with rfl|rfl|rfl|rfl
  ·rw[o5 _ _ 3 0 _ (by omega),o5 _ _ 2 0 _ (by omega),o5 _ _ 1 0 _ (by omega)]
   exact World.cell?_setCell_same' _ _ _ c0
  ·rw[o5 _ _ 3 1 _ (by omega),o5 _ _ 2 1 _ (by omega)]
   exact World.cell?_setCell_same' _ _ _ (by rw[o5 _ _ 0 1 _ (by omega)];exact c1)
  ·rw[o5 _ _ 3 2 _ (by omega)]
   exact World.cell?_setCell_same' _ _ _ (by rw[o5 _ _ 1 2 _ (by omega),o5 _ _ 0 2 _ (by omega)];exact c2)
  ·exact World.cell?_setCell_same' _ _ _ (by rw[o5 _ _ 2 3 _ (by omega),o5 _ _ 1 3 _ (by omega),o5 _ _ 0 3 _ (by omega)];exact c3)
 ·intro j hj
  rw[o5 _ _ 3 j _ (by omega),o5 _ _ 2 j _ (by omega),o5 _ _ 1 j _ (by omega),o5 _ _ 0 j _ (by omega)]
theorem But.grown {a w w':World} {row:Option Nat} (h:But [] a w) (hg:w.grownBy w' row) (hr:∀ k,row=some k→a.heap.size≤k):But [] a w' :=
 ⟨hg.os.trans h.os,hg.tape.trans h.tape,hg.output.trans h.output,Nat.le_trans h.size hg.size,fun k hk hn=>by
  rw[hg.block k (Nat.lt_of_lt_of_le hk h.size) (fun e=>by have:=hr k e.symm;omega)]
  exact h.block k hk hn⟩
theorem zjn {w w':World} {g:Nat} (hg:w.grownBy w' (some g)):But [g] w w' :=
 ⟨hg.os,hg.tape,hg.output,hg.size,fun k hk hn=>hg.block k hk (fun e=>hn (by simp only[Option.some.injEq] at e;simp[e]))⟩
theorem zby {w w':World} (hg:w.grownBy w' none):But [] w w' :=
 ⟨hg.os,hg.tape,hg.output,hg.size,fun k hk _=>hg.block k hk (by simp)⟩
theorem zdg {w w':World} {base:Nat} {e:TypeId} {size:Nat} {v:Value} {n:Nat} {xs:List Value} (h:w.ownsRow base e size v n xs) (hb:But [] w w'):w'.ownsRow base e size v n xs:=by
 obtain⟨h1,h2⟩:=h
 refine⟨h1,?_⟩
 rcases h2 with h2|⟨g,cap,cur,e1,e2,e3,e4⟩
 ·exact .inl h2
 ·refine .inr ⟨g,cap,cur,e1,e2,?_,e4⟩
  have hlt:g<w.heap.size:=by
   rcases Nat.lt_or_ge g w.heap.size with h | h
   ·exact h
   ·rw[Array.getElem?_eq_none h] at e3;cases e3
  rw[hb.block g hlt (by simp)];exact e3
def u8v (b:UInt8):Value:=.int .u8 (b.toNat:Int)
def oz (n:Nat):List UInt8:=if h:0<n then UInt8.ofNat (48+n%10)::oz (n/10) else []
 termination_by n
 decreasing_by exact Nat.div_lt_self h (by omega)
theorem zbd:oz 0=[]:=by rw[oz];simp
theorem zbt {n:Nat} (h:0<n):oz n=UInt8.ofNat (48+n%10)::oz (n/10):=by rw[oz,dif_pos h]
theorem zlh (n:Nat) (h:0<n):(oz n).reverse=Lib.decDigits n:=by
 induction n using Nat.strongRecOn with
 | _ n ih =>
  rw[zbt h,List.reverse_cons,Lib.decDigits]
  by_cases h10:n<10
  ·rw[dif_pos h10,Nat.div_eq_of_lt h10,zbd,Nat.mod_eq_of_lt h10];rfl
  ·rw[dif_neg h10,ih (n/10) (Nat.div_lt_self h (by omega)) (by omega)]
theorem zfo (n k:Nat) (h:n<10^k):(oz n).length≤k:=by
 induction k generalizing n with
 | zero =>
  have:n=0:=by simp at h;omega
  subst this;simp[zbd]
 | succ k ih =>
  by_cases hn:0<n
  ·rw[zbt hn,List.length_cons]
   have:=ih (n/10) (by rw[Nat.div_lt_iff_lt_mul (by omega)];rw[Nat.pow_succ] at h;exact h)
   omega
  ·have:n=0:=by omega
   subst this;simp[zbd]
theorem zpr:∃ i,prog.info? 5 = some i∧i.zero=some (.int .u8 0)∧i.size=1∧i.bytes=1:=by
 have h:(prog.info? 5).map (fun i=>(i.zero,i.size,i.bytes))=some (some (.int .u8 0),1,1):=by kernel_rfl
 obtain⟨i,hi,he⟩:=Option.map_eq_some_iff.1 h
 simp only[Prod.mk.injEq] at he
 exact⟨i,hi,he.1,he.2.1,he.2.2⟩
structure zcp (bs cs:List Nat) (i:Nat):Prop where
 len:cs.length=bs.length
 at':∀ k,k<bs.length→cs[k]?.getD 0=if k<i∨bs.length-i≤k then bs[bs.length-1-k]?.getD 0 else bs[k]?.getD 0
theorem zcp.start (bs:List Nat):zcp bs bs 0:=⟨rfl,fun k hk=>by rw[if_neg (by omega)]⟩
theorem qbk (l:List Nat) (i k x:Nat) (hi:i<l.length):(l.set i x)[k]?.getD 0=if k=i then x else l[k]?.getD 0:=by
 by_cases h:k=i
 ·subst h;rw[List.getElem?_set_self hi,if_pos rfl];rfl
 ·rw[List.getElem?_set_ne (Ne.symm h),if_neg h]
theorem zcp.step {bs cs:List Nat} {i:Nat} (h:zcp bs cs i) (hij:i<bs.length-1-i):zcp bs ((cs.set i (cs[bs.length-1-i]?.getD 0)).set (bs.length-1-i) (cs[i]?.getD 0)) (i+1):=by
 have hl:=h.len
 refine⟨by simp[hl],fun k hk=>?_⟩
 have e1:cs[i]?.getD 0=bs[i]?.getD 0:=by rw[h.at' i (by omega),if_neg (by omega)]
 have e2:cs[bs.length-1-i]?.getD 0=bs[bs.length-1-i]?.getD 0:=by rw[h.at' (bs.length-1-i) (by omega),if_neg (by omega)]
 rw[qbk _ _ _ _ (by simp[hl];omega),qbk _ _ _ _ (by omega),e1,e2]
 by_cases h1:k=bs.length-1-i
 ·subst h1
  rw[if_pos rfl,if_pos (by omega),show bs.length-1-(bs.length-1-i)=i from by omega]
 ·rw[if_neg h1]
  by_cases h2:k=i
  ·subst h2
   rw[if_pos rfl,if_pos (by omega)]
  ·rw[if_neg h2,h.at' k hk]
   by_cases h3:k<i∨bs.length-i≤k
   ·rw[if_pos h3,if_pos (by omega)]
   ·rw[if_neg h3,if_neg (by omega)]
theorem zcp.fin {bs cs:List Nat} {i:Nat} (h:zcp bs cs i) (hij:bs.length≤2*i+1):cs=bs.reverse:=by
 refine List.ext_getElem (by simp[h.len]) fun k h1 h2=>?_
 have hk:k<bs.length:=by rw[← h.len];exact h1
 have e:=h.at' k hk
 rw[List.getElem?_eq_getElem h1,Option.getD_some] at e
 rw[e,List.getElem_reverse]
 by_cases h3:k<i∨bs.length-i≤k
 ·rw[if_pos h3,List.getElem?_eq_getElem (by omega)];rfl
 ·rw[if_neg h3,List.getElem?_eq_getElem hk,Option.getD_some]
  have:bs.length-1-k=k:=by omega
  simp only[this]
theorem zgf {w:World} {base:Nat} {e:TypeId} {v:Value} {bs:List UInt8} (h:w.ownsRow base e 1 v bs.length (bs.map u8v)) (h0:0<bs.length) :
  ∃ g cap,v=.slice (some ⟨g,0,none⟩) bs.length cap∧base≤g∧bs.length≤cap∧Row .u8 w g (bs.map UInt8.toNat):=by
 obtain⟨h1,h2⟩:=h
 rcases h2 with ⟨-,h2⟩|⟨g,cap,cur,e1,e2,e3,e4,e5,e6,e7⟩
 ·omega
 ·refine⟨g,cap,e1,e2,e4,fun i hi=>?_⟩
  rw[List.length_map] at hi
  have hc:cur[i]? = some (u8v bs[i]):=by
   have:(cur.toList.take (bs.length*1))[i]? = some (u8v bs[i]):=by rw[e7,List.getElem?_map,List.getElem?_eq_getElem hi];rfl
   rw[List.getElem?_take_of_lt (by omega)] at this
   simpa using this
  refine⟨?_,by simp[World.frozen?,e3]⟩
  simp only[World.cell?,e3,hc]
  simp[u8v,hi]
theorem qkb {k:IntKind} {w2 w3:World} {v:Value} {xs:List Nat} {o:Obj} {row:Option Nat} {B:Nat} (h:Sl k w2 v xs) (hg:(w2.alloc o).grownBy w3 row) (hr:∀ k,row=some k→k<B) (hf:zbj B v):Sl k w3 v xs:=by
 have h1:=h.ah ((But.refl [] w2).alloc o)
 cases row with
 | none=>exact h1.ah (zby hg)
 | some g=>exact h1.but (zjn hg) (fun b off cap n e=>by have:=hf b off n cap e;have:=hr g rfl;simp;omega)
theorem zmp (r:Nat) (h:r<10):Value.int .u8 (48+(r:Int))=u8v (UInt8.ofNat (48+r)):=by
 unfold u8v
 rw[UInt8.toNat_ofNat_of_lt' (by simp[UInt8.size];omega)]
 simp
def uj:Nat→Nat→List UInt8
 | 0,_=>[]
 | k+1,r=>UInt8.ofNat (48+r%10)::uj k (r/10)
theorem zoh:∀ k r,(uj k r).length=k
 | 0,_=>rfl
 | k+1,r=>by rw[uj,List.length_cons,zoh k]
theorem zum:∀ k r,uj (k+1) r=uj k r++[UInt8.ofNat (48+r/10^k%10)]
 | 0,r=>by simp[uj]
 | k+1,r=>by
  rw[uj,zum k (r/10),uj,List.cons_append,Nat.div_div_eq_div_mul,Nat.pow_succ,Nat.mul_comm 10]
theorem zlj:∀ k r,uj k (r%10^k)=uj k r
 | 0,r=>rfl
 | k+1,r=>by
  have h1:r%10^(k+1)%10=r%10:=Nat.mod_mod_of_dvd _ ⟨10^k,by rw[Nat.pow_succ,Nat.mul_comm]⟩
  have h2:r%10^(k+1)/10=r/10%10^k:=by rw[Nat.pow_succ,Nat.mul_comm,Nat.mod_mul_right_div_self]
  rw[uj,uj,h1,h2,zlj k]
theorem zmx:∀ k n,10^k≤n→oz n=uj k n++oz (n/10^k)
 | 0,n,_=>by simp[uj]
 | k+1,n,h=>by
  have hp:0<10^k:=Nat.pow_pos (by omega)
  have h0:0<n:=by have:=Nat.pow_pos (n:=k+1) (show 0<10 from by omega);omega
  rw[zbt h0,zmx k (n/10) (by rw[Nat.le_div_iff_mul_le (by omega),← Nat.pow_succ];exact h),uj,List.cons_append,Nat.div_div_eq_div_mul,Nat.pow_succ,Nat.mul_comm 10]
end Go.Proofs.YtffghofheeleeaaGreatDoor
namespace Go.Proofs
open Go.Proofs.Tryz
open Go.Shelf
def Tryz.lays283_ren : Go.Shelf.Ren := ⟨fun | 283 => 169 | n => n, fun | 3 => 3 | 4 => 4 | 9 => 9 | n => n, fun | n => n⟩
theorem Tryz.lays283 : Go.Proofs.Lays.n283 Tryz.prog Tryz.lays283_ren := {
  mixed := by kernel_rfl
  f283 := Tryz.func169.trans (congrArg some (by kernel_rfl))
  t3 := Tryz.underlying3
  a3 := Tryz.isAgg3
  z3 := Tryz.sizeOf3
  v3 := Tryz.zeroValue3
  t4 := Tryz.underlying4
  a4 := Tryz.isAgg4
  z4 := Tryz.sizeOf4
  v4 := Tryz.zeroValue4
  t9 := Tryz.underlying9
  a9 := Tryz.isAgg9
  z9 := Tryz.sizeOf9
  v9 := Tryz.zeroValue9 }
open Go.Lib in
theorem Tryz.internal_strconv_small (i:Nat) (h:i<100) (w:World) :
  Calls prog 169 #[.int .i64 i] w fun e w'=>e=.returned (.string ⟨(Lib.decDigits i).toArray⟩)∧w'=w:=Any.internal_strconv_small Tryz.lays283 i h w
def Tryz.laysM284_ren : Go.Shelf.Ren := ⟨fun | 129 => 194 | 284 => 170 | 317 => 193 | 318 => 195 | n => n, fun | 0 => 0 | 3 => 3 | 4 => 4 | 5 => 5 | 9 => 9 | 46 => 213 | 53 => 24 | 212 => 239 | n => n, fun | 17 => 1 | n => n⟩
theorem Tryz.laysM284 : Go.Proofs.LaysM.n284 Tryz.prog Tryz.laysM284_ren := {
  mixed := by kernel_rfl
  f129 := Tryz.func194.trans (congrArg some (by kernel_rfl))
  f284 := Tryz.func170.trans (congrArg some (by kernel_rfl))
  f317 := Tryz.func193.trans (congrArg some (by kernel_rfl))
  f318 := Tryz.func195.trans (congrArg some (by kernel_rfl))
  t0 := Tryz.underlying0
  a0 := Tryz.isAgg0
  z0 := Tryz.sizeOf0
  v0 := Tryz.zeroValue0
  t3 := Tryz.underlying3
  a3 := Tryz.isAgg3
  z3 := Tryz.sizeOf3
  v3 := Tryz.zeroValue3
  t4 := Tryz.underlying4
  a4 := Tryz.isAgg4
  z4 := Tryz.sizeOf4
  v4 := Tryz.zeroValue4
  t5 := Tryz.underlying5
  a5 := Tryz.isAgg5
  z5 := Tryz.sizeOf5
  v5 := Tryz.zeroValue5
  t9 := Tryz.underlying9
  a9 := Tryz.isAgg9
  z9 := Tryz.sizeOf9
  v9 := Tryz.zeroValue9
  t46 := Tryz.underlying213
  a46 := Tryz.isAgg213
  z46 := Tryz.sizeOf213
  v46 := Tryz.zeroValue213
  t53 := Tryz.underlying24
  a53 := Tryz.isAgg24
  z53 := Tryz.sizeOf24
  v53 := Tryz.zeroValue24
  t212 := Tryz.underlying239
  a212 := Tryz.isAgg239
  z212 := Tryz.sizeOf239
  v212 := Tryz.zeroValue239
  g17 := by kernel_rfl
  m17 := by kernel_rfl
  i0 := by kernel_rfl
  i3 := by kernel_rfl
  i4 := by kernel_rfl
  i5 := by kernel_rfl
  i9 := by kernel_rfl
  i46 := by kernel_rfl
  i53 := by kernel_rfl
  i212 := by kernel_rfl }
open Go.Lib in
theorem Tryz.internal_strconv_numDigits (u:Nat) (h1:1≤u) (h2:u<18446744073709551616) (w:World) (htab:Lib.TabIs prog w "internal/strconv.uint64pow10" .u64 Lib.pow10Tab) :
  Calls prog 170 #[.int .u64 u] w fun e w'=>e=.returned (.int .i64 (Lib.nDigits u))∧w'=w:=Any.internal_strconv_numDigits Tryz.laysM284 u h1 h2 w htab
def Tryz.lays285_ren : Go.Shelf.Ren := ⟨fun | 285 => 171 | n => n, fun | 0 => 0 | 3 => 3 | 4 => 4 | 5 => 5 | 9 => 9 | 37 => 152 | 51 => 202 | 53 => 24 | n => n, fun | n => n⟩
theorem Tryz.lays285 : Go.Proofs.Lays.n285 Tryz.prog Tryz.lays285_ren := {
  mixed := by kernel_rfl
  f285 := Tryz.func171.trans (congrArg some (by kernel_rfl))
  t0 := Tryz.underlying0
  a0 := Tryz.isAgg0
  z0 := Tryz.sizeOf0
  v0 := Tryz.zeroValue0
  t3 := Tryz.underlying3
  a3 := Tryz.isAgg3
  z3 := Tryz.sizeOf3
  v3 := Tryz.zeroValue3
  t4 := Tryz.underlying4
  a4 := Tryz.isAgg4
  z4 := Tryz.sizeOf4
  v4 := Tryz.zeroValue4
  t5 := Tryz.underlying5
  a5 := Tryz.isAgg5
  z5 := Tryz.sizeOf5
  v5 := Tryz.zeroValue5
  t9 := Tryz.underlying9
  a9 := Tryz.isAgg9
  z9 := Tryz.sizeOf9
  v9 := Tryz.zeroValue9
  t37 := Tryz.underlying152
  a37 := Tryz.isAgg152
  z37 := Tryz.sizeOf152
  v37 := Tryz.zeroValue152
  t51 := Tryz.underlying202
  a51 := Tryz.isAgg202
  z51 := Tryz.sizeOf202
  v51 := Tryz.zeroValue202
  t53 := Tryz.underlying24
  a53 := Tryz.isAgg24
  z53 := Tryz.sizeOf24
  v53 := Tryz.zeroValue24 }
open Go.RowKit Go.Sort Go.Lib in
theorem Tryz.internal_strconv_formatBase10 (blk off cap:Nat) (u:Nat) (d:Array UInt8) (w:World) (hH:Holds (fun (b:UInt8)=>Value.int .u8 (b.toNat:Int)) w blk off d) (hu:u<10^d.size) (hu64:u<18446744073709551616) (hsz:d.size<4611686018427387904) :
  Calls prog 171 #[.slice (some ⟨blk,off,none⟩) d.size cap,.int .u64 u] w fun e w' =>
   e=.returned (.tuple #[])∧∃ (n v':Nat) (dk:Array UInt8),w'=(putRow (fun (b:UInt8)=>Value.int .u8 (b.toNat:Int)) w blk off dk).drewN n∧FmtInv d.size u 0 v' dk:=Any.internal_strconv_formatBase10 Tryz.lays285 blk off cap u d w hH hu hu64 hsz
def Tryz.lays125_ren : Go.Shelf.Ren := ⟨fun | 125 => 178 | 128 => 201 | 129 => 194 | n => n, fun | 3 => 3 | 4 => 4 | 5 => 5 | 9 => 9 | 46 => 213 | 51 => 202 | 53 => 24 | n => n, fun | n => n⟩
theorem Tryz.lays125 : Go.Proofs.Lays.n125 Tryz.prog Tryz.lays125_ren := {
  mixed := by kernel_rfl
  f125 := Tryz.func178.trans (congrArg some (by kernel_rfl))
  f128 := Tryz.func201.trans (congrArg some (by kernel_rfl))
  f129 := Tryz.func194.trans (congrArg some (by kernel_rfl))
  t3 := Tryz.underlying3
  a3 := Tryz.isAgg3
  z3 := Tryz.sizeOf3
  v3 := Tryz.zeroValue3
  t4 := Tryz.underlying4
  a4 := Tryz.isAgg4
  z4 := Tryz.sizeOf4
  v4 := Tryz.zeroValue4
  t5 := Tryz.underlying5
  a5 := Tryz.isAgg5
  z5 := Tryz.sizeOf5
  v5 := Tryz.zeroValue5
  t9 := Tryz.underlying9
  a9 := Tryz.isAgg9
  z9 := Tryz.sizeOf9
  v9 := Tryz.zeroValue9
  t46 := Tryz.underlying213
  a46 := Tryz.isAgg213
  z46 := Tryz.sizeOf213
  v46 := Tryz.zeroValue213
  t51 := Tryz.underlying202
  a51 := Tryz.isAgg202
  z51 := Tryz.sizeOf202
  v51 := Tryz.zeroValue202
  t53 := Tryz.underlying24
  a53 := Tryz.isAgg24
  z53 := Tryz.sizeOf24
  v53 := Tryz.zeroValue24 }
theorem Tryz.bits_Len (x:Int) (w:World) (h0:0≤x) (h1:x≤18446744073709551615) :
  Calls prog 178 #[.int .u64 x] w fun e w'=>e=.returned (.int .i64 (Lib.bitLen x.toNat))∧w'=w:=Any.bits_Len Tryz.lays125 x w h0 h1
end Go.Proofs
namespace Go.Proofs.YtffghofheeleeaaGreatDoor
open Go.Proofs.Tryz
open Go.RowKit
set_option maxHeartbeats 4000000
set_option maxRecDepth 100000
theorem qnz (a:Nat) (ha:a<9223372036854775808):bits .and .i64 (a:Int) 1=((a%2:Nat):Int):=by
 have h1:(BitVec.ofInt 64 (a:Int)).toNat=a:=by
  rw[BitVec.ofInt_natCast,BitVec.toNat_ofNat];exact Nat.mod_eq_of_lt (by omega)
 have h2:(BitVec.ofInt 64 (1:Int)).toNat=1:=rfl
 show IntKind.i64.wrap ((BitVec.ofInt 64 (a:Int) &&& BitVec.ofInt 64 (1:Int)).toNat:Int)=_
 rw[BitVec.toNat_and,h1,h2,Nat.and_one_is_mod,IntKind.wrap_i64]
 omega
theorem znn (n i:Nat):n/2^i=2*(n/2^(i+1))+n/2^i%2:=by
 rw[Nat.pow_succ,← Nat.div_div_eq_div_mul];omega
theorem pow_even (X n i:Nat) (h:n/2^i%2=0):X^(n/2^(i+1))*X^(n/2^(i+1))=X^(n/2^i):=by
 rw[znn n i,h,← Nat.pow_add];congr 1;omega
theorem pow_odd (X n i:Nat) (h:n/2^i%2=1):X^(n/2^(i+1))*X^(n/2^(i+1))*X=X^(n/2^i):=by
 rw[znn n i,h,← Nat.pow_add,← Nat.pow_succ];congr 1;omega
theorem qik (n:Nat) (h:n < 18446744073709551616):n<2^Lib.bitLen n∧Lib.bitLen n≤64:=by
 by_cases h0:n=0
 ·subst h0;exact⟨by decide,by decide⟩
 ·exact⟨(Lib.bitLenAux_bounds 64 n h h0).2.2,Lib.bitLen_le n 64 (by omega) h⟩
theorem qdk (v:Value) (X n:Nat) (w:World) (hv:Sl .u64 w v (wd 18446744073709551616 X)) (hX:0<X) (hn:n<2147483648) (hl:(wd 18446744073709551616 X).length+(wd 18446744073709551616 (X^n)).length<67108864) :
  Calls prog 143 #[v,.int .i64 (n:Int)] w fun e w'=>∃ v',e=.returned v'∧Sl .u64 w' v' (wd 18446744073709551616 (X^n))∧But [] w w':=by
 obtain⟨L,hL⟩:∃ L,L=Lib.bitLen n:=⟨_,rfl⟩
 have hb:=qik n (by omega)
 have BL:=af (fun W=>Tryz.bits_Len (n:Int) W (by omega) (by omega))
 rw[Int.toNat_natCast,← hL] at BL
 rw[← hL] at hb
 obtain⟨hb1,hb2⟩:=hb
 have hlen:Hid (∀ i,(wd 18446744073709551616 (X^(n/2^i))).length<67108864∧(wd 18446744073709551616 X).length+(wd 18446744073709551616 (X^(n/2^i))).length<67108864):=fun i=>by
  have:=aw (Nat.pow_le_pow_right hX (Nat.div_le_self n (2^i)))
  omega
 have hlen2:Hid (∀ i,(wd 18446744073709551616 (X^(n/2^(i+1))*X^(n/2^(i+1)))).length+(wd 18446744073709551616 X).length<67108864):=fun i=>by
  rw[← Nat.pow_add]
  have h3:=znn n i
  have h4:=Nat.div_le_self n (2^i)
  have:=aw (Nat.pow_le_pow_right hX (show n/2^(i+1)+n/2^(i+1)≤n from by omega))
  omega
 have HV:=af hv
 have hdiv:n/2^L=0:=Nat.div_eq_of_lt hb1
 have hst:Hid ((1:Nat)=X^(n/2^L)):=by show _=_;rw[hdiv,Nat.pow_zero]
 clear hv hl hdiv hb1 hL
 obtain⟨xa,xc,rfl,-,-⟩:=ae HV
 generalize hnx:(wd 18446744073709551616 X).length=nx at *
 have HNX:=af hnx
 clear hnx
 go_enter func143,ntmps143
 go_wp2_with fail
 refine (zbf 1 (by omega) _).mono ?_
 rintro e w1 ⟨v1,rfl,hv1,hb1,-⟩
 have H1:=af hv1
 have B1:=af hb1
 clear hv1 hb1
 go_wp2_with fail
 refine (ae BL _).mono ?_
 rintro e w2 ⟨rfl,hw⟩
 obtain rfl:=hw.symm
 clear hw
 go_wp2
 go_loopw [5,6] (fun o i wr=>∃ k:Nat,k≤L∧i=.int .i64 ((k:Int)-1)∧Hid (Sl .u64 wr o (wd 18446744073709551616 (X^(n/2^k)))∧But [] w wr)) (fun _ i _=>(intOf i+1).toNat)
 case atStart=>exact⟨L,Nat.le_refl _,rfl,by rw[← ae hst];exact ae H1,ae B1⟩
 case round =>
  obtain⟨k,hk,rfl,HI⟩:=hrel
  rename World=>wr
  by_cases hk0:k=0
  ·subst hk0
   go_wp2
   go_ret
   have h:=(ae HI).1
   rw[Nat.pow_zero,Nat.div_one] at h
   exact⟨_,rfl,h,(ae HI).2⟩
  ·obtain⟨i,rfl⟩:∃ i,k=i+1:=⟨k-1,by omega⟩
   rw[show (((i+1:Nat):Int)-1)=(i:Int) from by omega]
   have hq:n/2^i<9223372036854775808:=by have:=Nat.div_le_self n (2^i);omega
   have E1:bits .and .i64 ((n:Int)/2^i) 1=((n/2^i%2:Nat):Int):=by
    have e:(n:Int)/2^i=((n/2^i:Nat):Int):=by simp
    rw[e,qnz _ hq]
   obtain⟨a,c,ho⟩:∃ a c,u5=.slice a (wd 18446744073709551616 (X^(n/2^(i+1)))).length c:=by obtain⟨a,c,e,-,-⟩:=(ae HI).1;exact⟨a,c,e⟩
   have MU:=af (ve u5 u5 _ _ wr (ae HI).1 (ae HI).1 (by have:=(ae hlen (i+1)).1;omega))
   have L2:=af (ae hlen2 i)
   subst ho
   generalize hm:(wd 18446744073709551616 (X^(n/2^(i+1)))).length=m at *
   clear hm
   rcases Nat.mod_two_eq_zero_or_one (n/2^i) with hpar | hpar
   ·have e1:(((n/2^i%2:Nat):Int)==1)=false:=by rw[hpar];rfl
    have EV:=af (pow_even X n i hpar)
    generalize n/2^i%2=b at *
    go_wp2_with fail
    refine (ae MU).mono ?_
    rintro e w3 ⟨v3,rfl,hv3,hb3,-⟩
    rw[ae EV] at hv3
    have H3:=af hv3
    have B3:Hid (But [] w w3):=(ae HI).2.trans' hb3
    clear hv3 hb3
    go_wp2
    refine⟨⟨i,by omega,rfl,ae H3,ae B3⟩,?_⟩
    simp[intOf]
   ·have e1:(((n/2^i%2:Nat):Int)==1)=true:=by rw[hpar];rfl
    have EV:=af (pow_odd X n i hpar)
    generalize n/2^i%2=b at *
    go_wp2_with fail
    refine (ae MU).mono ?_
    rintro e w3 ⟨v3,rfl,hv3,hb3,-⟩
    have B3:Hid (But [] w w3):=(ae HI).2.trans' hb3
    have MX:=af (ve v3 (.slice xa nx xc) _ X w3 hv3 ((ae HV).ah (ae B3)) (by rw[ae HNX];have:=ae L2;omega))
    obtain⟨a3,c3,e3,-,-⟩:=hv3
    subst e3
    clear hb3
    rw[ae EV] at MX
    generalize (wd 18446744073709551616 (X^(n/2^(i+1))*X^(n/2^(i+1)))).length=m3 at *
    go_wp2_with fail
    refine (ae MX).mono ?_
    rintro e w4 ⟨v4,rfl,hv4,hb4,-⟩
    have H4:=af hv4
    have B4:Hid (But [] w w4):=(ae B3).trans' hb4
    clear hv4 hb4
    go_wp2
    refine⟨⟨i,by omega,rfl,ae H4,ae B4⟩,?_⟩
    simp[intOf]
theorem Row.but {k:IntKind} {w w':World} {g:Nat} {rs:List Nat} {l:List Nat} (h:Row k w g rs) (hb:But l w w') (hn:g ∉ l):Row k w' g rs:=fun i hi=>by
 obtain⟨h1,h2⟩:=h i hi
 have hl:=ai h1
 exact⟨hb.ag h1 hn,(hb.frozen hl hn).trans h2⟩
theorem zod (g cap:Nat) (bs:List Nat) (w:World) (hr:Row .u8 w g bs) (h0:0<bs.length) (hl:bs.length<1073741824) :
  Calls prog 173 #[.slice (some ⟨g,0,none⟩) bs.length cap] w fun e w'=>e=.returned (.tuple #[])∧Row .u8 w' g bs.reverse∧But [g] w w':=by
 have mixed:prog.follows .mixedOrders=true:=by kernel_rfl
 have HR:=af hr
 clear hr
 obtain⟨n,hn⟩:∃ n,n=bs.length:=⟨_,rfl⟩
 rw[← hn] at h0 hl ⊢
 have HN:=af hn
 clear hn
 go_enter func173,ntmps173
 go_wp2
 go_loopw [2,3] (fun i j wq=>∃ (k q:Nat) (cs:List Nat),i=.int .i64 k∧j=.int .i64 q∧k≤q+1∧Hid (k+q+1=n∧zcp bs cs k∧Row .u8 wq g cs∧But [g] w wq)) (fun i _ _=>n-(intOf i).toNat)
 case atStart=>exact⟨0,n-1,bs,rfl,by congr 1;omega,by omega,by omega,zcp.start _,ae HR,But.refl _ _⟩
 case round =>
  obtain⟨k,q,cs,rfl,rfl,hkq,HJ⟩:=hrel
  rename World=>wq
  have hcl:cs.length=n:=by rw[(ae HJ).2.1.len,ae HN]
  have hsum:=(ae HJ).1
  by_cases hlt:k<q
  ·obtain⟨ck,fk⟩:=(ae HJ).2.2.1 k (by omega)
   obtain⟨cq,fq⟩:=(ae HJ).2.2.1 q (by omega)
   have ST:=af ((ae HJ).2.1.step (by rw[← ae HN];omega))
   have hq:q=n-1-k:=by omega
   rw[← ae HN,← hq] at ST
   have HC:=af hcl
   have HS:=af hsum
   have ne1:k≠q:=by omega
   have hk1:k<n:=by omega
   have hq1:q<n:=by omega
   clear hcl hsum hq
   generalize hx:cs[k]?.getD 0=x at *
   generalize hy:cs[q]?.getD 0=y at *
   clear hx hy
   go_wp2_with fail
   go_region_o
   go_wp2
   refine⟨⟨k+1,q-1,(cs.set k y).set q x,by go_num,by rw[Int.ofNat_sub (by omega)];rfl,by omega,by have:=ae HS;omega,ae ST,?_,?_⟩,?_⟩
   ·exact (((ae HJ).2.2.1.set k (by rw[ae HC];have:=ae HS;omega) y).set q (by rw[List.length_set,ae HC];have:=ae HS;omega) x).but ((But.refl [] _).drew) (by simp)
   ·exact (((ae HJ).2.2.2.setCell (p:=⟨g,k,none⟩) (.inl (by simp)) (.int .u8 (y:Int))).setCell (p:=⟨g,q,none⟩) (.inl (by simp)) (.int .u8 (x:Int))).drew
   ·have:=ae HS
    simp[intOf];omega
  ·have hfin:cs=bs.reverse:=(ae HJ).2.1.fin (by rw[← ae HN];omega)
   have HF:=af hfin
   clear hfin hcl hsum
   go_wp2
   go_end0
   exact⟨rfl,by rw[← ae HF];exact (ae HJ).2.2.1,(ae HJ).2.2.2⟩
theorem qjo:(10:Nat)^608 < 18446744073709551616^33:=by decide +kernel
def yj (W X:Nat):List UInt8:=oz X++List.replicate (W-(oz X).length) 48
theorem zmo (X:Nat):yj 0 X=oz X:=by simp[yj]
theorem zog:∀ k,uj k 0=List.replicate k 48
 | 0=>rfl
 | k+1=>by rw[uj,Nat.zero_div,zog k,List.replicate_succ];rfl
theorem zge:∀ k n,n<10^k→uj k n=yj k n
 | 0,n,h=>by
  have:n=0:=by simp at h;omega
  subst this;simp[uj,yj,zbd]
 | k+1,n,h=>by
  by_cases h0:0<n
  ·rw[uj,zge k (n/10) (by rw[Nat.div_lt_iff_lt_mul (by omega)];rw[Nat.pow_succ] at h;exact h),yj,yj,zbt h0,List.cons_append,List.length_cons,Nat.add_sub_add_right]
  ·have:n=0:=by omega
   subst this;rw[zog,yj,zbd];simp
theorem zzg:∀ a b n,uj (a+b) n=uj a n++uj b (n/10^a)
 | 0,b,n=>by simp[uj]
 | a+1,b,n=>by
  rw[Nat.succ_add,uj,zzg a b,uj,List.cons_append,Nat.div_div_eq_div_mul,Nat.pow_succ,Nat.mul_comm 10]
theorem qfx (D X:Nat) (h:10^D≤X):yj 0 X=yj D (X%10^D)++yj 0 (X/10^D):=by
 rw[zmo,zmo,zmx D X h,← zlj D X,zge D _ (Nat.mod_lt _ (Nat.pow_pos (by omega)))]
theorem qfw (D X:Nat) (h:X<10^(D+D)):yj (D+D) X=yj D (X%10^D)++yj D (X/10^D):=by
 have hp:0<10^D:=Nat.pow_pos (by omega)
 rw[← zge _ _ h,zzg,← zlj D X,zge D _ (Nat.mod_lt _ hp),zge D (X/10^D) (by rw[Nat.div_lt_iff_lt_mul hp,← Nat.pow_add];exact h)]
theorem zfk (W X:Nat):(yj W X).length=max W (oz X).length:=by
 rw[yj,List.length_append,List.length_replicate];omega
theorem zpt (W X:Nat) (h:0<X∨0<W):0<(yj W X).length:=by
 rw[zfk]
 rcases h with h | h
 ·rw[zbt h];simp;omega
 ·omega
def o7 (w w':World):Prop:=∀ v xs,Sl .u64 w v xs→Sl .u64 w' v xs
theorem o7.znh {w w':World} (h:But [] w w'):o7 w w':=fun _ _ hs=>hs.ah h
theorem o7.trans {a b c:World} (h:o7 a b) (k:o7 b c):o7 a c:=fun v xs hs=>k v xs (h v xs hs)
theorem zrx {w w':World} {base:Nat} {vo:Value} {ods:List UInt8} (ho:w.ownsRow base 5 1 vo ods.length (ods.map u8v)) (hn:vo=.slice none 0 0∨0<ods.length) (hg:w.grownBy w' vo.ownBlock):o7 w w':=by
 intro v xs hs
 rcases hn with rfl | h0
 ·exact hs.ah (zby hg)
 ·obtain⟨g,cap,rfl,-,-,hr⟩:=zgf ho h0
  exact hs.over (zjn hg) (hr 0 (by simpa using h0)).1 (by simp)
theorem below_grown {w w':World} {base:Nat} {vo:Value} {n:Nat} {xs:List Value} (ho:w.ownsRow base 5 1 vo n xs) (hb:base≤w.heap.size) (hg:w.grownBy w' vo.ownBlock):Below base w w' :=
 ⟨hg.os,hg.tape,hg.output,hg.size,fun k hk=>hg.block k (by omega) (fun e=>by have:=(ho.lt k e.symm).1;omega)⟩
theorem But.zgs {w w':World} {base:Nat} (h:But [] w w') (hb:base≤w.heap.size):Below base w w':=⟨h.os,h.tape,h.output,h.size,fun k hk=>h.block k (by omega) (by simp)⟩
theorem di {a b c:World} {n:Nat} (h:Below n a b) (k:Below n b c):Below n a c :=
 ⟨k.os.trans h.os,k.tape.trans h.tape,k.output.trans h.output,Nat.le_trans h.size k.size,fun i hi=>(k.block i hi).trans (h.block i hi)⟩
theorem ul {w:World} {base:Nat} {e:TypeId} {v:Value} {n:Nat} {xs:List Value} (h:w.ownsRow base e 1 v n xs):∃ a c,v=.slice a n c:=by
 obtain⟨-,h2⟩:=h
 rcases h2 with ⟨rfl,rfl⟩|⟨g,cap,cur,e1,-⟩
 ·exact⟨_,_,rfl⟩
 ·exact⟨_,_,e1⟩
structure zfx (base:Act) (H:(Nat→Bool)→World→Prop) (C:Nat→World→Value→Prop) (T:Nat→Nat) (m:Nat) (d:Nat→Bool) (a:Act) (w:World):Prop where
 mem:H d w
 size:a.tmps.size=base.tmps.size
 defers:a.defers=base.defers
 rest:∀ t,(∀ j,j<m→t≠T j)→a.tmps[t]? = base.tmps[t]?
 has:∀ i,i<m→d i=true→C i w (a.eval (.tmp (T i)))
theorem zfx.next {base:Act} {H:(Nat→Bool)→World→Prop} {C:Nat→World→Value→Prop} {T:Nat→Nat} {m:Nat} {d:Nat→Bool} {a:Act} {w:World} (h:zfx base H C T m d a w)
  (hinj:∀ i j,i<m→j<m→T i=T j→i=j) (hT:∀ i,i<m→T i<base.tmps.size)
  (i:Nat) (hi:i<m) (v:Value) (w':World) (hH:H (came d i) w') (hC:∀ j,j<m→d j=true→∀ u,C j w u→C j w' u) (hv:C i w' v):zfx base H C T m (came d i) (a.put (some (T i)) v) w' where
 mem:=hH
 size:=by rw[zdc];exact h.size
 defers:=h.defers
 rest:=fun t ht=>by rw[zia,if_neg (fun e=>ht i hi e.symm)];exact h.rest t ht
 has:=fun j hj hd=>by
  by_cases e:j=i
  ·subst e
   rw[at_eq a (T j) v (by rw[h.size];exact hT j hj)]
   exact hv
  ·rw[jh d e] at hd
   rw[qbu a (T i) (T j) v (fun e2=>e (hinj j i hj hi e2))]
   exact hC j hj hd _ (h.has j hj hd)
theorem zfx.eval {base:Act} {H:(Nat→Bool)→World→Prop} {C:Nat→World→Value→Prop} {T:Nat→Nat} {m:Nat} {d:Nat→Bool} {a:Act} {w:World} (h:zfx base H C T m d a w) (t:Nat) (ht:∀ j,j<m→t≠T j):a.eval (.tmp t)=base.eval (.tmp t):=by
 show a.tmps.getD t undef=base.tmps.getD t undef
 simp only[Array.getD_eq_getD_getElem?,h.rest t ht]
theorem zfx.puts {base:Act} {H:(Nat→Bool)→World→Prop} {C:Nat→World→Value→Prop} {T:Nat→Nat} {m:Nat} {d:Nat→Bool} {a:Act} {w:World} (h:zfx base H C T m d a w) (hT:∀ i,i<m→T i<base.tmps.size) (V:Nat→Value) (hV:∀ i,i<m→a.eval (.tmp (T i))=V i):a=bk base ((List.range m).map fun i=>(T i,V i)):=by
 refine zgc _ base a h.defers h.size (fun p hp=>?_) (fun t ht=>?_)
 ·obtain⟨i,hi,rfl⟩:=List.mem_map.1 hp
  have hi':=List.mem_range.1 hi
  exact zks (hV i hi') (by rw[h.size];exact hT i hi')
 ·refine h.rest t (fun j hj e=>?_)
  exact ht (T j,V j) (List.mem_map.2 ⟨j,List.mem_range.2 hj,rfl⟩) e
theorem ui (base:Act) (l:List (Nat × Value)) (t:Nat) (v:Value):(bk base l).put (some t) v=bk base (l++[(t,v)]):=by
 unfold bk
 rw[List.foldl_append]
 rfl
theorem l9 {P:Program} {id:Nat} {ops:Array Oper} {Q:Exit→Act→World→Prop} {base:Act} {W0:World} (hm:P.follows .mixedOrders=true)
  (hlow:∀ i o,ops[i]? = some o→∀ e ∈ o.after,Region.binds .any e=true→e.on<i)
  (hg:∀ (i:Nat) (o:Oper),ops[i]? = some o→o.guard=none)
  (H:(Nat→Bool)→World→Prop) (C:Nat→World→Value→Prop) (T:Nat→Nat) (m:Nat) (hsz:ops.size=m+1)
  (hinj:∀ i j,i<m→j<m→T i=T j→i=j) (hT:∀ i,i<m→T i<base.tmps.size) (h0:H (fun _=>false) W0.drew)
  (hall:∀ i,i<m→∃ o,ops[m]? = some o∧∃ e ∈ o.after,Region.binds .any e=true∧e.on=i)
  (hstep:∀ (d:Nat→Bool) (i:Nat) (o:Oper) (a:Act) (w:World) (K:Act→World→Prop),i<m→ops[i]? = some o→d i=false→H d w→(∀ t,(∀ j,j<m→t≠T j)→a.eval (.tmp t)=base.eval (.tmp t))→(∀ e ∈ o.after,Region.binds .any e=true→d e.on=true∧C e.on w (a.eval (.tmp (T e.on))))→(∀ v w',H (came d i) w'→(∀ j,j<m→d j=true→∀ u,C j w u→C j w' u)→C i w' v→K (a.put (some (T i)) v) w')→o.wp P a w K Q)
  (Fin:Act→World→Prop)
  (hlast:∀ (d:Nat→Bool) (o:Oper) (a:Act) (w:World) (K:Act→World→Prop),ops[m]? = some o→(∀ i,i<m→d i=true)→zfx base H C T m d a w→(∀ a' w',Fin a' w'→K a' w')→o.wp P a w K Q)
  (hend:∀ a w,Fin a w→Q .normal a w) :
  (Code.region id ops true).wp P Q base W0:=by
 have wpo:∀ i o a w (K:Act→World→Prop),ops[i]? = some o→o.wp P a w K Q→wpOp P ops Q i K a w:=fun i o a w K ho h=>by
  unfold wpOp
  simp only[ho,Region.wanted,hg i o ho,if_true]
  exact .inl h
 refine zck hm hlow (fun d a w=>if d m=true then (Fin a w∧∀ i,i<m→d i=true) else zfx base H C T m d a w) ?_ ?_ ?_
 ·simp only[Bool.false_eq_true,if_false]
  exact⟨h0,rfl,rfl,fun _ _=>rfl,fun _ _ h=>by simp at h⟩
 ·intro d a w hd h
  rw[if_pos (hd m (by omega))] at h
  exact hend a w h.1
 ·intro d i o a w ho hdi hdep h
  refine wpo i o a w _ ho ?_
  have hi:i<m+1:=by rw[← hsz];exact (Array.getElem?_eq_some_iff.1 ho).1
  by_cases e:i=m
  ·subst e
   rw[if_neg (by rw[hdi];simp)] at h
   have hd:∀ j,j<i→d j=true:=fun j hj=>by
    obtain⟨o',ho',ed,he,hb,rfl⟩:=hall j hj
    rw[ho] at ho'
    obtain rfl:=Option.some.inj ho'
    exact hdep ed he hb
   refine hlast d o a w _ ho hd h (fun a' w' hf=>?_)
   rw[if_pos (ko d i)]
   exact⟨hf,fun j hj=>by rw[jh d (by omega)];exact hd j hj⟩
  ·have him:i<m:=by omega
   by_cases hdm:d m=true
   ·exfalso
    rw[if_pos hdm] at h
    rw[h.2 i him] at hdi
    simp at hdi
   ·rw[if_neg hdm] at h
    refine hstep d i o a w _ him ho hdi h.mem (fun t ht=>h.eval t ht) (fun ed he hb=>⟨hdep ed he hb,h.has _ (by have:=hlow i o ho ed he hb;omega) (hdep ed he hb)⟩) (fun v w' hH hC hv=>?_)
    rw[if_neg (by rw[jh d (Ne.symm e)];exact hdm)]
    exact h.next hinj hT i him v w' hH hC hv
theorem zvw {P:Program} {id:Nat} {ops:Array Oper} {Q:Exit→Act→World→Prop} {base:Act} {W0:World} (hm:P.follows .mixedOrders=true)
  (hlow:∀ i o,ops[i]? = some o→∀ e ∈ o.after,Region.binds .any e=true→e.on<i)
  (hg:∀ (i:Nat) (o:Oper),ops[i]? = some o→o.guard=none)
  (H:World→Prop) (hH0:H W0.drew) (hHB:∀ w w',H w→But [] w w'→H w') (C:Nat→World→Value→Prop) (T:Nat→Nat) (m q ka:Nat) (hka:ka<m) (St:World→Value→Prop) (hsz:ops.size=m+1)
  (hinj:∀ i j,i<m→j<m→T i=T j→i=j) (hT:∀ i,i<m→T i<base.tmps.size)
  (hC:∀ i w w' v,i<m→C i w v→But [] w w'→C i w' v) (hCq:∀ w v,C q w v) (hSt:∀ w w' v,St w v→But [] w w'→St w' v)
  (hall:∀ i,i<m→∃ o,ops[m]? = some o∧∃ e ∈ o.after,Region.binds .any e=true∧e.on=i)
  (hqk:∃ o,ops[q]? = some o∧∃ e ∈ o.after,Region.binds .any e=true∧e.on=ka)
  (hstep:∀ (i:Nat) (o:Oper) (a:Act) (w:World) (K:Act→World→Prop),i<m→i≠q→ops[i]? = some o→H w→(∀ t,(∀ j,j<m→t≠T j)→a.eval (.tmp t)=base.eval (.tmp t))→(∀ e ∈ o.after,Region.binds .any e=true→C e.on w (a.eval (.tmp (T e.on))))→(∀ v w',But [] w w'→C i w' v→K (a.put (some (T i)) v) w')→o.wp P a w K Q)
  (hmute:∀ (o:Oper) (a:Act) (w:World) (K:Act→World→Prop),ops[q]? = some o→H w→(∀ t,(∀ j,j<m→t≠T j)→a.eval (.tmp t)=base.eval (.tmp t))→(∀ e ∈ o.after,Region.binds .any e=true→C e.on w (a.eval (.tmp (T e.on))))→(∀ w',H w'→(∀ j,j<m→∀ u,C j w u→C j w' u)→St w' (a.eval (.tmp (T ka)))→K a w')→o.wp P a w K Q)
  (Fin:Act→World→Prop)
  (hlast:∀ (d:Nat→Bool) (o:Oper) (a:Act) (w:World) (K:Act→World→Prop),ops[m]? = some o→(∀ i,i<m→d i=true)→zfx base (fun _ w=>H w) C T m d a w→St w (a.eval (.tmp (T ka)))→(∀ a' w',Fin a' w'→K a' w')→o.wp P a w K Q)
  (hend:∀ a w,Fin a w→Q .normal a w) (hqm:q<m) :
  (Code.region id ops true).wp P Q base W0:=by
 have wpo:∀ i o a w (K:Act→World→Prop),ops[i]? = some o→o.wp P a w K Q→wpOp P ops Q i K a w:=fun i o a w K ho h=>by
  unfold wpOp
  simp only[ho,Region.wanted,hg i o ho,if_true]
  exact .inl h
 refine zck hm hlow (fun d a w=>if d m=true then (Fin a w∧∀ i,i<m→d i=true) else (zfx base (fun _ w=>H w) C T m d a w∧(d q=true→d ka=true∧St w (a.eval (.tmp (T ka)))))) ?_ ?_ ?_
 ·simp only[Bool.false_eq_true,if_false]
  exact⟨⟨hH0,rfl,rfl,fun _ _=>rfl,fun _ _ h=>by simp at h⟩,fun h=>by simp at h⟩
 ·intro d a w hd h
  rw[if_pos (hd m (by omega))] at h
  exact hend a w h.1
 ·intro d i o a w ho hdi hdep h
  refine wpo i o a w _ ho ?_
  have hi:i<m+1:=by rw[← hsz];exact (Array.getElem?_eq_some_iff.1 ho).1
  by_cases e:i=m
  ·subst e
   rw[if_neg (by rw[hdi];simp)] at h
   have hd:∀ j,j<i→d j=true:=fun j hj=>by
    obtain⟨o',ho',ed,he,hb,rfl⟩:=hall j hj
    rw[ho] at ho'
    obtain rfl:=Option.some.inj ho'
    exact hdep ed he hb
   refine hlast d o a w _ ho hd h.1 (h.2 (hd q hqm)).2 (fun a' w' hf=>?_)
   rw[if_pos (ko d i)]
   exact⟨hf,fun j hj=>by rw[jh d (by omega)];exact hd j hj⟩
  ·have him:i<m:=by omega
   by_cases hdm:d m=true
   ·exfalso
    rw[if_pos hdm] at h
    rw[h.2 i him] at hdi
    simp at hdi
   ·rw[if_neg hdm] at h
    obtain⟨h,hs⟩:=h
    have hdp:=fun (ed:Edge) (he:ed ∈ o.after) (hb:Region.binds .any ed=true)=>h.has _ (show ed.on<m by have:=hlow i o ho ed he hb;omega) (hdep ed he hb)
    by_cases eq:i=q
    ·subst eq
     refine hmute o a w _ ho h.mem (fun t ht=>h.eval t ht) hdp (fun w' hB hCw hSw=>?_)
     rw[if_neg (by rw[jh d (Ne.symm e)];exact hdm)]
     refine⟨⟨hB,h.size,h.defers,h.rest,fun j hj hd=>?_⟩,fun _=>?_⟩
     ·by_cases ej:j=i
      ·rw[ej];exact hCq _ _
      ·rw[jh d ej] at hd
       exact hCw j hj _ (h.has j hj hd)
     ·obtain⟨o',ho',ed,he,hb,ek⟩:=hqk
      rw[ho] at ho'
      obtain rfl:=Option.some.inj ho'
      have hk:=hdep ed he hb
      rw[ek] at hk
      have hne:ka≠i:=fun e2=>by rw[e2,hdi] at hk;simp at hk
      exact⟨by rw[jh d hne];exact hk,hSw⟩
    ·refine hstep i o a w _ him eq ho h.mem (fun t ht=>h.eval t ht) hdp (fun v w' hB hv=>?_)
     rw[if_neg (by rw[jh d (Ne.symm e)];exact hdm)]
     refine⟨h.next hinj hT i him v w' (hHB _ _ h.mem hB) (fun j hj _ u hu=>hC j w w' u hj hu hB) hv,fun hq=>?_⟩
     rw[jh d (Ne.symm eq)] at hq
     obtain⟨h1,h2⟩:=hs hq
     have hne:ka≠i:=fun e2=>by rw[e2,hdi] at h1;simp at h1
     refine⟨by rw[jh d hne];exact h1,?_⟩
     rw[qbu a (T i) (T ka) v (fun e2=>hne (hinj ka i hka him e2))]
     exact hSt w w' _ h2 hB
theorem zdx {P:Program} {id:Nat} {ops:Array Oper} {Q:Exit→Act→World→Prop} {base:Act} {W0:World} (hm:P.follows .mixedOrders=true)
  (hlow:∀ i o,ops[i]? = some o→∀ e ∈ o.after,Region.binds .any e=true→e.on<i)
  (hg:∀ (i:Nat) (o:Oper),ops[i]? = some o→o.guard=none)
  (C:Nat→World→Value→Prop) (T:Nat→Nat) (m q ka:Nat) (hka:ka<m) (St:World→Value→Prop) (hsz:ops.size=m+1)
  (hinj:∀ i j,i<m→j<m→T i=T j→i=j) (hT:∀ i,i<m→T i<base.tmps.size)
  (hC:∀ i w w' v,i<m→C i w v→But [] w w'→C i w' v) (hCq:∀ w v,C q w v) (hSt:∀ w w' v,St w v→But [] w w'→St w' v)
  (hall:∀ i,i<m→∃ o,ops[m]? = some o∧∃ e ∈ o.after,Region.binds .any e=true∧e.on=i)
  (hqk:∃ o,ops[q]? = some o∧∃ e ∈ o.after,Region.binds .any e=true∧e.on=ka)
  (hstep:∀ (i:Nat) (o:Oper) (a:Act) (w:World) (K:Act→World→Prop),i<m→i≠q→ops[i]? = some o→But [] W0.drew w→(∀ t,(∀ j,j<m→t≠T j)→a.eval (.tmp t)=base.eval (.tmp t))→(∀ e ∈ o.after,Region.binds .any e=true→C e.on w (a.eval (.tmp (T e.on))))→(∀ v w',But [] w w'→C i w' v→K (a.put (some (T i)) v) w')→o.wp P a w K Q)
  (hmute:∀ (o:Oper) (a:Act) (w:World) (K:Act→World→Prop),ops[q]? = some o→But [] W0.drew w→(∀ t,(∀ j,j<m→t≠T j)→a.eval (.tmp t)=base.eval (.tmp t))→(∀ e ∈ o.after,Region.binds .any e=true→C e.on w (a.eval (.tmp (T e.on))))→(∀ w',But [] W0.drew w'→(∀ j,j<m→∀ u,C j w u→C j w' u)→St w' (a.eval (.tmp (T ka)))→K a w')→o.wp P a w K Q)
  (Fin:Act→World→Prop)
  (hlast:∀ (d:Nat→Bool) (o:Oper) (a:Act) (w:World) (K:Act→World→Prop),ops[m]? = some o→(∀ i,i<m→d i=true)→zfx base (fun _ w=>But [] W0.drew w) C T m d a w→St w (a.eval (.tmp (T ka)))→(∀ a' w',Fin a' w'→K a' w')→o.wp P a w K Q)
  (hend:∀ a w,Fin a w→Q .normal a w) (hqm:q<m) :
  (Code.region id ops true).wp P Q base W0 :=
 zvw hm hlow hg (fun w=>But [] W0.drew w) (But.refl _ _) (fun _ _ h hb=>h.trans' hb) C T m q ka hka St hsz hinj hT hC hCq hSt hall hqk hstep hmute Fin hlast hend hqm
theorem zgx {P:Program} {id:Nat} {ops:Array Oper} {Q:Exit→Act→World→Prop} {base:Act} {W0:World} (hm:P.follows .mixedOrders=true)
  (hlow:∀ i o,ops[i]? = some o→∀ e ∈ o.after,Region.binds .any e=true→e.on<i)
  (hg:∀ (i:Nat) (o:Oper),ops[i]? = some o→o.guard=none)
  (H:(Nat→Bool)→World→Prop) (C:Nat→World→Value→Prop) (T:Nat→Nat) (m:Nat) (hsz:ops.size=m+2)
  (hinj:∀ i j,i<m→j<m→T i=T j→i=j) (hT:∀ i,i<m→T i<base.tmps.size) (h0:H (fun _=>false) W0.drew)
  (hall:∀ i,i<m→∃ o,ops[m]? = some o∧∃ e ∈ o.after,Region.binds .any e=true∧e.on=i)
  (hall2:∃ o,ops[m+1]? = some o∧∃ e ∈ o.after,Region.binds .any e=true∧e.on=m)
  (hstep:∀ (d:Nat→Bool) (i:Nat) (o:Oper) (a:Act) (w:World) (K:Act→World→Prop),i<m→ops[i]? = some o→d i=false→H d w→(∀ t,(∀ j,j<m→t≠T j)→a.eval (.tmp t)=base.eval (.tmp t))→(∀ e ∈ o.after,Region.binds .any e=true→d e.on=true∧C e.on w (a.eval (.tmp (T e.on))))→(∀ v w',H (came d i) w'→(∀ j,j<m→d j=true→∀ u,C j w u→C j w' u)→C i w' v→K (a.put (some (T i)) v) w')→o.wp P a w K Q)
  (Fin Fin2:Act→World→Prop)
  (hlast:∀ (d:Nat→Bool) (o:Oper) (a:Act) (w:World) (K:Act→World→Prop),ops[m]? = some o→(∀ i,i<m→d i=true)→zfx base H C T m d a w→(∀ a' w',Fin a' w'→K a' w')→o.wp P a w K Q)
  (hlast2:∀ (o:Oper) (a:Act) (w:World) (K:Act→World→Prop),ops[m+1]? = some o→Fin a w→(∀ a' w',Fin2 a' w'→K a' w')→o.wp P a w K Q)
  (hend:∀ a w,Fin2 a w→Q .normal a w) :
  (Code.region id ops true).wp P Q base W0:=by
 have wpo:∀ i o a w (K:Act→World→Prop),ops[i]? = some o→o.wp P a w K Q→wpOp P ops Q i K a w:=fun i o a w K ho h=>by
  unfold wpOp
  simp only[ho,Region.wanted,hg i o ho,if_true]
  exact .inl h
 refine zck hm hlow (fun d a w=>if d (m+1)=true then (Fin2 a w∧∀ i,i<m+1→d i=true) else if d m=true then (Fin a w∧∀ i,i<m→d i=true) else zfx base H C T m d a w) ?_ ?_ ?_
 ·simp only[Bool.false_eq_true,if_false]
  exact⟨h0,rfl,rfl,fun _ _=>rfl,fun _ _ h=>by simp at h⟩
 ·intro d a w hd h
  rw[if_pos (hd (m+1) (by omega))] at h
  exact hend a w h.1
 ·intro d i o a w ho hdi hdep h
  refine wpo i o a w _ ho ?_
  have hi:i<m+2:=by rw[← hsz];exact (Array.getElem?_eq_some_iff.1 ho).1
  by_cases e2:i=m+1
  ·subst e2
   rw[if_neg (by rw[hdi];simp)] at h
   have hdm:d m=true:=by
    obtain⟨o',ho',ed,he,hb,e⟩:=hall2
    rw[ho] at ho'
    obtain rfl:=Option.some.inj ho'
    rw[← e]
    exact hdep ed he hb
   rw[if_pos hdm] at h
   refine hlast2 o a w _ ho h.1 (fun a' w' hf=>?_)
   rw[if_pos (ko d (m+1))]
   exact⟨hf,fun j hj=>by
    rw[jh d (by omega)]
    by_cases ej:j=m
    ·rw[ej];exact hdm
    ·exact h.2 j (by omega)⟩
  by_cases hd2:d (m+1)=true
  ·exfalso
   rw[if_pos hd2] at h
   rw[h.2 i (by omega)] at hdi
   simp at hdi
  rw[if_neg hd2] at h
  by_cases e:i=m
  ·subst e
   rw[if_neg (by rw[hdi];simp)] at h
   have hd:∀ j,j<i→d j=true:=fun j hj=>by
    obtain⟨o',ho',ed,he,hb,rfl⟩:=hall j hj
    rw[ho] at ho'
    obtain rfl:=Option.some.inj ho'
    exact hdep ed he hb
   refine hlast d o a w _ ho hd h (fun a' w' hf=>?_)
   rw[if_neg (by rw[jh d (by omega)];exact hd2),if_pos (ko d i)]
   exact⟨hf,fun j hj=>by rw[jh d (by omega)];exact hd j hj⟩
  ·have him:i<m:=by omega
   by_cases hdm:d m=true
   ·exfalso
    rw[if_pos hdm] at h
    rw[h.2 i him] at hdi
    simp at hdi
   ·rw[if_neg hdm] at h
    refine hstep d i o a w _ him ho hdi h.mem (fun t ht=>h.eval t ht) (fun ed he hb=>⟨hdep ed he hb,h.has _ (by have:=hlow i o ho ed he hb;omega) (hdep ed he hb)⟩) (fun v w' hH hC hv=>?_)
    rw[if_neg (by rw[jh d (Ne.symm e2)];exact hd2),if_neg (by rw[jh d (Ne.symm e)];exact hdm)]
    exact h.next hinj hT i him v w' hH hC hv
def qfs (ops:Array Oper):Bool:=(List.range ops.size).all fun i=>match ops[i]? with
 | some o=>o.guard.isNone
 | none=>true
theorem zaw {ops:Array Oper} (h:qfs ops=true):∀ (i:Nat) (o:Oper),ops[i]? = some o→o.guard=none:=fun i o ho=>by
 have hi:i<ops.size:=(Array.getElem?_eq_some_iff.1 ho).1
 unfold qfs at h
 rw[List.all_eq_true] at h
 have h1:=h i (List.mem_range.2 hi)
 simp only[ho] at h1
 simpa using h1
theorem zco {ops:Array Oper} {ps:List (Nat × Nat)} (h:zab ops ps=true) {i:Nat} {o:Oper} (ho:ops[i]? = some o) (R:Nat→Prop) (hdep:∀ e ∈ o.after,Region.binds .any e=true→R e.on) (j:Nat) (hij:(i,j) ∈ ps):R j:=by
 obtain⟨o',ho',e,he,hb,rfl⟩:=vv h i j hij
 rw[ho] at ho'
 obtain rfl:=Option.some.inj ho'
 exact hdep e he hb
theorem zi {P:Program} {Q:Exit→Act→World→Prop} {K:Act→World→Prop} {a:Act} {w w':World} {o:Oper} {v:Value} (hr:(execOp a.eval o).run P w=.ok (.value v) w') (h:K (a.put o.dst v) w'):o.wp P a w K Q:=by
 unfold Oper.wp
 rw[hr]
 exact h
theorem jc {P:Program} {Q:Exit→Act→World→Prop} {K:Act→World→Prop} {a:Act} {w:World} {o:Oper} {f:FuncId} {args:Array Value} (hr:(execOp a.eval o).run P w=.ok (.enter f args) w) {R:World→Value→Prop} (hc:Calls P f args w fun e w'=>∃ v,e=.returned v∧R w' v) (h:∀ v w',R w' v→K (a.put o.dst v) w'):o.wp P a w K Q:=by
 unfold Oper.wp
 rw[hr]
 refine hc.mono ?_
 rintro e w' ⟨v,rfl,hv⟩
 exact h v w' hv
def Closed (ops:Array Oper) (d:Nat→Bool):Prop:=∀ i o,ops[i]? = some o→d i=true→∀ e ∈ o.after,Region.binds .any e=true→d e.on=true
theorem Closed.dep {ops:Array Oper} {d:Nat→Bool} (h:Closed ops d) {ps:List (Nat × Nat)} (hp:zab ops ps=true) {i j:Nat} (hij:(i,j) ∈ ps) (hd:d i=true):d j=true:=by
 obtain⟨o,ho,e,he,hb,rfl⟩:=vv hp i j hij
 exact h i o ho hd e he hb
theorem Closed.not {ops:Array Oper} {d:Nat→Bool} (h:Closed ops d) {ps:List (Nat × Nat)} (hp:zab ops ps=true) {i j:Nat} (hij:(i,j) ∈ ps) (hd:d j=false):d i=false:=by
 cases e:d i with
 | false=>rfl
 | true=>rw[h.dep hp hij e] at hd;simp at hd
theorem Closed.next {ops:Array Oper} {d:Nat→Bool} (h:Closed ops d) {i:Nat} {o:Oper} (ho:ops[i]? = some o) (hdep:∀ e ∈ o.after,Region.binds .any e=true→d e.on=true):Closed ops (came d i):=fun j oj hj hd e he hbi=>by
 by_cases e1:e.on=i
 ·rw[e1];exact ko d i
 ·rw[jh d e1]
  by_cases e2:j=i
  ·subst e2
   rw[ho] at hj
   obtain rfl:=Option.some.inj hj
   exact hdep e he hbi
  ·rw[jh d e2] at hd
   exact h j oj hj hd e he hbi
structure jak {α:Type} (ops:Array Oper) (base:Act) (H:α→(Nat→Bool)→World→Prop) (V:α→Nat→Value) (T:Nat→Nat) (m:Nat) (d:Nat→Bool) (a:Act) (w:World) (N:α):Prop where
 down:Closed ops d
 mem:H N d w
 size:a.tmps.size=base.tmps.size
 defers:a.defers=base.defers
 rest:∀ t,(∀ j,j<m→t≠T j)→a.tmps[t]? = base.tmps[t]?
 has:∀ i,i<m→d i=true→a.eval (.tmp (T i))=V N i
theorem zbs {P:Program} {id:Nat} {ops:Array Oper} {Q:Exit→Act→World→Prop} {base:Act} {W0:World} (hm:P.follows .mixedOrders=true)
  (hlow:∀ i o,ops[i]? = some o→∀ e ∈ o.after,Region.binds .any e=true→e.on<i)
  (hg:∀ (i:Nat) (o:Oper),ops[i]? = some o→o.guard=none)
  {α:Type} (H:α→(Nat→Bool)→World→Prop) (V:α→Nat→Value) (T:Nat→Nat) (m:Nat) (hsz:ops.size=m)
  (hinj:∀ i j,i<m→j<m→T i=T j→i=j) (hT:∀ i,i<m→T i<base.tmps.size) (N0:α) (h0:H N0 (fun _=>false) W0.drew)
  (hstep:∀ (N:α) (d:Nat→Bool) (i:Nat) (o:Oper) (a:Act) (w:World) (K:Act→World→Prop),i<m→ops[i]? = some o→d i=false→Closed ops d→H N d w→(∀ t,(∀ j,j<m→t≠T j)→a.eval (.tmp t)=base.eval (.tmp t))→(∀ e ∈ o.after,Region.binds .any e=true→d e.on=true∧a.eval (.tmp (T e.on))=V N e.on)→(∀ N' v w',v=V N' i→(∀ j,j<m→d j=true→V N' j=V N j)→H N' (came d i) w'→K (a.put (some (T i)) v) w')→o.wp P a w K Q)
  (hend:∀ N d w,(∀ i,i<m→d i=true)→H N d w→Q .normal (bk base ((List.range m).map fun i=>(T i,V N i))) w) :
  (Code.region id ops true).wp P Q base W0:=by
 have wpo:∀ i o a w (K:Act→World→Prop),ops[i]? = some o→o.wp P a w K Q→wpOp P ops Q i K a w:=fun i o a w K ho h=>by
  unfold wpOp
  simp only[ho,Region.wanted,hg i o ho,if_true]
  exact .inl h
 refine zck hm hlow (fun d a w=>∃ N,jak ops base H V T m d a w N) ?_ ?_ ?_
 ·exact⟨N0,fun _ _ _ h=>by simp at h,h0,rfl,rfl,fun _ _=>rfl,fun _ _ h=>by simp at h⟩
 ·rintro d a w hd ⟨N,h⟩
  have ea:a=bk base ((List.range m).map fun i=>(T i,V N i)):=by
   refine zgc _ base a h.defers h.size (fun p hp=>?_) (fun t ht=>?_)
   ·obtain⟨i,hi,rfl⟩:=List.mem_map.1 hp
    have hi':=List.mem_range.1 hi
    exact zks (h.has i hi' (hd i (by omega))) (by rw[h.size];exact hT i hi')
   ·refine h.rest t (fun j hj e=>?_)
    exact ht (T j,V N j) (List.mem_map.2 ⟨j,List.mem_range.2 hj,rfl⟩) e
  rw[ea]
  exact hend N d w (fun i hi=>hd i (by omega)) h.mem
 ·rintro d i o a w ho hdi hdep ⟨N,h⟩
  refine wpo i o a w _ ho ?_
  have hi:i<m:=by rw[← hsz];exact (Array.getElem?_eq_some_iff.1 ho).1
  refine hstep N d i o a w _ hi ho hdi h.down h.mem (fun t ht=>zmw (h.rest t ht)) (fun ed he hb=>⟨hdep ed he hb,h.has _ (by have:=hlow i o ho ed he hb;omega) (hdep ed he hb)⟩) ?_
  rintro N' v w' rfl hV hH
  refine⟨N',h.down.next ho hdep,hH,by rw[zdc];exact h.size,h.defers,fun t ht=>?_,fun j hj hd=>?_⟩
  ·rw[zia,if_neg (fun e=>ht i hi e.symm)];exact h.rest t ht
  ·by_cases e:j=i
   ·subst e
    exact at_eq a (T j) _ (by rw[h.size];exact hT j hj)
   ·rw[jh d e] at hd
    rw[qbu a (T i) (T j) _ (fun e2=>e (hinj j i hj hi e2)),h.has j hj hd]
    exact (hV j hj hd).symm
end Go.Proofs.YtffghofheeleeaaGreatDoor
