/- Whether a fraction is a chance, and not  -/
import Derived.Test.YtlckjpelcmjimaaGreatDoorKPF8
namespace Go.Proofs.YtlckjpelcmjimaaGreatDoor
open Go.RowKit
set_option maxHeartbeats 8000000
set_option maxRecDepth 100000
theorem run_signK (a:Act) (w:World) (d t1:Nat) (u:TypeId) (ps:String) (ed:Array Edge) (gd:Option (Nat × Bool)) (x1:Value) (h1:a.eval (.tmp t1)=x1) :
  (execOp a.eval { dst:=some d,op:=Op.call { callee:=Callee.value (Operand.func 18),args:=#[Operand.tmp t1],argTypes:=#[29] },type:=u,pos:=ps,after:=ed,guard:=gd }).run Tryz.prog w=.ok (.enter 18 #[x1]) w:=by
 unfold execOp
 go_simp
 rw [← h1]
 simp [Act.eval]
theorem run_ge0K (a:Act) (w:World) (d t:Nat) (u:TypeId) (ps:String) (ed:Array Edge) (gd:Option (Nat × Bool)) (x:Int) (h:a.eval (.tmp t)=.int .i64 x) :
  (execOp a.eval { dst:=some d,op:=Op.binOp BinOp.geq 3 (.tmp t) (.const (.int .i64 0)) 3,type:=u,pos:=ps,after:=ed,guard:=gd }).run Tryz.prog w=.ok (.value (.bool (decide (0≤x)))) w:=by
 have e:a.eval (.const (.int .i64 0))=.int .i64 0:=rfl
 unfold execOp
 simp only [h,e]
 go_simp
theorem run_lt0K (a:Act) (w:World) (d t:Nat) (u:TypeId) (ps:String) (ed:Array Edge) (gd:Option (Nat × Bool)) (x:Int) (h:a.eval (.tmp t)=.int .i64 x) :
  (execOp a.eval { dst:=some d,op:=Op.binOp BinOp.lss 3 (.tmp t) (.const (.int .i64 0)) 3,type:=u,pos:=ps,after:=ed,guard:=gd }).run Tryz.prog w=.ok (.value (.bool (decide (x<0)))) w:=by
 have e:a.eval (.const (.int .i64 0))=.int .i64 0:=rfl
 unfold execOp
 simp only [h,e]
 go_simp
theorem run_andK (a:Act) (w:World) (d t1 t2:Nat) (u:TypeId) (ps:String) (ed:Array Edge) (gd:Option (Nat × Bool)) (b:Bool) (h1:a.eval (.tmp t1)=.bool true) (h2:a.eval (.tmp t2)=.bool b) :
  (execOp a.eval { dst:=some d,op:=Op.pick (.tmp t1) (.tmp t2) (.const (.bool false)),type:=u,pos:=ps,after:=ed,guard:=gd }).run Tryz.prog w=.ok (.value (.bool b)) w:=by
 unfold execOp
 simp only [h1,h2]
 go_simp
theorem run_asK (a:Act) (w:World) (d t:Nat) (u:TypeId) (ps:String) (ed:Array Edge) (gd:Option (Nat × Bool)) (N:Value) (h:a.eval (.tmp t)=N) :
  (execOp a.eval { dst:=some d,op:=Op.assign (.tmp t),type:=u,pos:=ps,after:=ed,guard:=gd }).run Tryz.prog w=.ok (.value N) w:=by
 unfold execOp
 simp only [h]
 go_simp
def opKj0:Oper:={ dst:=some 3,op:=Op.load 29 (Operand.tmp 1),type:=29,pos:= "claims.go:114",after:=#[],guard:=none }
def opKj1:Oper:={ dst:=some 4,op:=Op.call { callee:=Callee.value (Operand.func 18),args:=#[Operand.tmp 3],argTypes:=#[29] },type:=3,pos:= "claims.go:114",after:=#[⟨0,.data⟩],guard:=none }
def opKj2:Oper:={ dst:=some 5,op:=Op.binOp BinOp.geq 3 (Operand.tmp 4) (Operand.const (Value.int IntKind.i64 0)) 3,type:=4,pos:= "claims.go:114",after:=#[⟨1,.data⟩],guard:=none }
def opKj3:Oper:={ dst:=some 6,op:=Op.move (Operand.tmp 5),type:=4,pos:= "claims.go:114",after:=#[⟨2,.data⟩,⟨1,.chain⟩],guard:=none }
def opKj4:Oper:={ dst:=some 7,op:=Op.load 29 (Operand.tmp 1),type:=29,pos:= "claims.go:114",after:=#[⟨3,.guard⟩],guard:=some (3,true) }
def opKj5:Oper:={ dst:=some 8,op:=Op.call { callee:=Callee.value (Operand.func 27),args:=#[Operand.const (Value.int IntKind.i64 1)],argTypes:=#[3] },type:=29,pos:= "claims.go:114",after:=#[⟨3,.chain⟩,⟨3,.guard⟩],guard:=some (3,true) }
def opKj6:Oper:={ dst:=some 9,op:=Op.call { callee:=Callee.value (Operand.func 25),args:=#[Operand.tmp 7,Operand.tmp 8],argTypes:=#[29,29] },type:=3,pos:= "claims.go:114",after:=#[⟨4,.data⟩,⟨5,.data⟩,⟨5,.chain⟩,⟨3,.guard⟩],guard:=some (3,true) }
def opKj7:Oper:={ dst:=some 10,op:=Op.binOp BinOp.lss 3 (Operand.tmp 9) (Operand.const (Value.int IntKind.i64 0)) 3,type:=4,pos:= "claims.go:114",after:=#[⟨6,.data⟩,⟨3,.guard⟩],guard:=some (3,true) }
def opKj8:Oper:={ dst:=some 11,op:=Op.pick (Operand.tmp 6) (Operand.tmp 10) (Operand.const (Value.bool false)),type:=4,pos:= "claims.go:114",after:=#[⟨3,.data⟩,⟨7,.data⟩],guard:=none }
def opKj9:Oper:={ dst:=some 2,op:=Op.assign (Operand.tmp 11),type:=4,pos:= "claims.go:114",after:=#[⟨8,.data⟩,⟨6,.chain⟩,⟨0,.phase⟩,⟨1,.phase⟩,⟨2,.phase⟩,⟨3,.phase⟩,⟨4,.phase⟩,⟨5,.phase⟩,⟨6,.phase⟩,⟨7,.phase⟩,⟨8,.phase⟩],guard:=none }
def opKjs:Array Oper:=#[opKj0,opKj1,opKj2,opKj3,opKj4,opKj5,opKj6,opKj7,opKj8,opKj9]
def opKjT (i:Nat):Nat:=match i with
 | 0=>3
 | 1=>4
 | 2=>5
 | 3=>6
 | 4=>7
 | 5=>8
 | 6=>9
 | 7=>10
 | 8=>11
 | _=>2
def opKjC (s1:Bool) (x1:Int) (y1:Int) (p1:Option Addr) (sg:Int) (ws:Bool) (wx:Int) (r:Int) (i:Nat) (_w:World) (v:Value):Prop:=match i with
 | 0=>v=.agg #[.bool s1,.int .u64 x1,.int .u64 y1,.pointer p1]
 | 1=>v=.int .i64 sg
 | 2=>v=.bool true
 | 3=>v=.bool true
 | 4=>v=.agg #[.bool s1,.int .u64 x1,.int .u64 y1,.pointer p1]
 | 5=>v=.agg #[.bool ws,.int .u64 wx,.int .u64 0,.pointer none]
 | 6=>v=.int .i64 r
 | 7=>v=.bool (decide (r<0))
 | 8=>v=.bool (decide (r<0))
 | _=>v=.bool (decide (r<0))
theorem opKjC_but {s1:Bool} {x1:Int} {y1:Int} {p1:Option Addr} {sg:Int} {ws:Bool} {wx:Int} {r:Int} {i:Nat} {w w':World} {v:Value} (h:opKjC s1 x1 y1 p1 sg ws wx r i w v) (hi:i<10) (_hb:But [] w w'):opKjC s1 x1 y1 p1 sg ws wx r i w' v:=by
 have:i=0∨i=1∨i=2∨i=3∨i=4∨i=5∨i=6∨i=7∨i=8∨i=9:=by omega
 rcases this with rfl | rfl | rfl | rfl | rfl | rfl | rfl | rfl | rfl | rfl
 all_goals exact h
theorem opKjT_inj:∀ i j,i<10→j<10→opKjT i=opKjT j→i=j:=fun i j hi hj=>(by decide:∀ i,i<10→∀ j,j<10→opKjT i=opKjT j→i=j) i hi j hj
theorem below_region (id:Nat) (Q:Exit→Act→World→Prop) (base:Act) (W0:World) (s1:Bool) (x1:Int) (y1:Int) (p1:Option Addr) (sg:Int) (ws:Bool) (wx:Int) (r:Int) (hs:11<base.tmps.size) (g1:Nat) (e1:base.eval (.tmp 1)=.pointer (some ⟨g1,0,none⟩))
  (hsg:0≤sg) (c1:P4 W0 g1 s1 x1 y1 p1)
  (SG:∀ w,But [] W0 w→Calls Tryz.prog 18 #[.agg #[.bool s1,.int .u64 x1,.int .u64 y1,.pointer p1]] w fun e w'=>e=.returned (.int .i64 sg)∧But [] w w')
  (WH:∀ w,Calls Tryz.prog 27 #[.int .i64 1] w fun e w'=>e=.returned (.agg #[.bool ws,.int .u64 wx,.int .u64 0,.pointer none])∧But [] w w')
  (CM:∀ w,But [] W0 w→Calls Tryz.prog 25 #[.agg #[.bool s1,.int .u64 x1,.int .u64 y1,.pointer p1],.agg #[.bool ws,.int .u64 wx,.int .u64 0,.pointer none]] w fun e w'=>e=.returned (.int .i64 r)∧But [] w w')
  (hQ:∀ w,But [] W0 w→Q .normal (bb base [(3,.agg #[.bool s1,.int .u64 x1,.int .u64 y1,.pointer p1]),(4,.int .i64 sg),(5,.bool true),(6,.bool true),(7,.agg #[.bool s1,.int .u64 x1,.int .u64 y1,.pointer p1]),(8,.agg #[.bool ws,.int .u64 wx,.int .u64 0,.pointer none]),(9,.int .i64 r),(10,.bool (decide (r<0))),(11,.bool (decide (r<0))),(2,.bool (decide (r<0)))]) w) :
  (Code.region id opKjs true).wp Tryz.prog Q base W0:=by
 have hdr:∀ {w},But [] W0.drew w→But [] W0 w:=fun h=>(But.refl _ _).drew.trans' h
 have hT:∀ i,i<10→opKjT i<base.tmps.size:=fun i hi=>by
  have h:opKjT i≤11:=by revert i;decide
  omega
 refine region_go (by kernel_rfl) (low_of (by kernel_rfl)) (opKjC s1 x1 y1 p1 sg ws wx r) opKjT (by kernel_rfl) ?_ opKjT_inj hT (fun i w w' v hi h hb=>opKjC_but h hi hb) ?_ ?_
 ·intro i o j want ho hg w v hv
  have hi:i<10:=(Array.getElem?_eq_some_iff.1 ho).1
  have:i=0∨i=1∨i=2∨i=3∨i=4∨i=5∨i=6∨i=7∨i=8∨i=9:=by omega
  rcases this with rfl | rfl | rfl | rfl | rfl | rfl | rfl | rfl | rfl | rfl
  ·obtain rfl:=Option.some.inj ((show opKjs[0]? = some opKj0 from rfl).symm.trans ho)
   exact absurd (show (none:Option (Nat × Bool))=some (j,want) from hg) (by simp)
  ·obtain rfl:=Option.some.inj ((show opKjs[1]? = some opKj1 from rfl).symm.trans ho)
   exact absurd (show (none:Option (Nat × Bool))=some (j,want) from hg) (by simp)
  ·obtain rfl:=Option.some.inj ((show opKjs[2]? = some opKj2 from rfl).symm.trans ho)
   exact absurd (show (none:Option (Nat × Bool))=some (j,want) from hg) (by simp)
  ·obtain rfl:=Option.some.inj ((show opKjs[3]? = some opKj3 from rfl).symm.trans ho)
   exact absurd (show (none:Option (Nat × Bool))=some (j,want) from hg) (by simp)
  ·obtain rfl:=Option.some.inj ((show opKjs[4]? = some opKj4 from rfl).symm.trans ho)
   obtain ⟨rfl,rfl⟩:=Prod.mk.inj (Option.some.inj (show some (3,true)=some (j,want) from hg))
   exact hv
  ·obtain rfl:=Option.some.inj ((show opKjs[5]? = some opKj5 from rfl).symm.trans ho)
   obtain ⟨rfl,rfl⟩:=Prod.mk.inj (Option.some.inj (show some (3,true)=some (j,want) from hg))
   exact hv
  ·obtain rfl:=Option.some.inj ((show opKjs[6]? = some opKj6 from rfl).symm.trans ho)
   obtain ⟨rfl,rfl⟩:=Prod.mk.inj (Option.some.inj (show some (3,true)=some (j,want) from hg))
   exact hv
  ·obtain rfl:=Option.some.inj ((show opKjs[7]? = some opKj7 from rfl).symm.trans ho)
   obtain ⟨rfl,rfl⟩:=Prod.mk.inj (Option.some.inj (show some (3,true)=some (j,want) from hg))
   exact hv
  ·obtain rfl:=Option.some.inj ((show opKjs[8]? = some opKj8 from rfl).symm.trans ho)
   exact absurd (show (none:Option (Nat × Bool))=some (j,want) from hg) (by simp)
  ·obtain rfl:=Option.some.inj ((show opKjs[9]? = some opKj9 from rfl).symm.trans ho)
   exact absurd (show (none:Option (Nat × Bool))=some (j,want) from hg) (by simp)
 ·intro i o a w K ho hH he hdep hk
  have hi:i<10:=(Array.getElem?_eq_some_iff.1 ho).1
  have hD:=dep_have (ps:=[(1,0),(2,1),(3,1),(3,2),(4,3),(5,3),(6,3),(6,4),(6,5),(7,3),(7,6),(8,3),(8,7),(9,0),(9,1),(9,2),(9,3),(9,4),(9,5),(9,6),(9,7),(9,8)]) (by kernel_rfl) ho (fun j=>opKjC s1 x1 y1 p1 sg ws wx r j w (a.eval (.tmp (opKjT j)))) hdep
  have e1':=(he 1 (fun j hj e=>absurd e.symm (by revert j;decide))).trans e1
  have:i=0∨i=1∨i=2∨i=3∨i=4∨i=5∨i=6∨i=7∨i=8∨i=9:=by omega
  rcases this with rfl | rfl | rfl | rfl | rfl | rfl | rfl | rfl | rfl | rfl
  ·obtain rfl:=Option.some.inj ((show opKjs[0]? = some opKj0 from rfl).symm.trans ho)
   exact al (aq a w _ _ _ _ _ _ g1 0 _ _ _ _ e1' (c1.but (hdr hH) (by simp))) (hk _ _ (But.refl _ _) rfl)
  ·obtain rfl:=Option.some.inj ((show opKjs[1]? = some opKj1 from rfl).symm.trans ho)
   exact av (run_signK a w _ _ _ _ _ _ _ (hD 0 (by simp))) (R:=fun w' v=>But [] w w'∧v=_) ((SG w (hdr hH)).mono fun e w' ⟨he,hb⟩=>⟨_,he,hb,rfl⟩) (fun v w' hv=>hk v w' hv.1 hv.2)
  ·obtain rfl:=Option.some.inj ((show opKjs[2]? = some opKj2 from rfl).symm.trans ho)
   refine al (run_ge0K a w _ _ _ _ _ _ _ (hD 1 (by simp))) (hk _ _ (But.refl _ _) ?_)
   show Value.bool _=Value.bool _
   rw [decide_eq_true hsg]
  ·obtain rfl:=Option.some.inj ((show opKjs[3]? = some opKj3 from rfl).symm.trans ho)
   exact al (bh a w _ _ _ _ _ _ _ (hD 2 (by simp))) (hk _ _ (But.refl _ _) rfl)
  ·obtain rfl:=Option.some.inj ((show opKjs[4]? = some opKj4 from rfl).symm.trans ho)
   exact al (aq a w _ _ _ _ _ _ g1 0 _ _ _ _ e1' (c1.but (hdr hH) (by simp))) (hk _ _ (But.refl _ _) rfl)
  ·obtain rfl:=Option.some.inj ((show opKjs[5]? = some opKj5 from rfl).symm.trans ho)
   exact av (run_oneK a w _ _ _ _ _ 1) (R:=fun w' v=>But [] w w'∧v=_) ((WH w).mono fun e w' ⟨he,hb⟩=>⟨_,he,hb,rfl⟩) (fun v w' hv=>hk v w' hv.1 hv.2)
  ·obtain rfl:=Option.some.inj ((show opKjs[6]? = some opKj6 from rfl).symm.trans ho)
   exact av (run_cmpK a w _ _ _ _ _ _ _ _ _ (hD 4 (by simp)) (hD 5 (by simp))) (R:=fun w' v=>But [] w w'∧v=_) ((CM w (hdr hH)).mono fun e w' ⟨he,hb⟩=>⟨_,he,hb,rfl⟩) (fun v w' hv=>hk v w' hv.1 hv.2)
  ·obtain rfl:=Option.some.inj ((show opKjs[7]? = some opKj7 from rfl).symm.trans ho)
   exact al (run_lt0K a w _ _ _ _ _ _ _ (hD 6 (by simp))) (hk _ _ (But.refl _ _) rfl)
  ·obtain rfl:=Option.some.inj ((show opKjs[8]? = some opKj8 from rfl).symm.trans ho)
   exact al (run_andK a w _ _ _ _ _ _ _ _ (hD 3 (by simp)) (hD 7 (by simp))) (hk _ _ (But.refl _ _) rfl)
  ·obtain rfl:=Option.some.inj ((show opKjs[9]? = some opKj9 from rfl).symm.trans ho)
   exact al (run_asK a w _ _ _ _ _ _ _ (hD 8 (by simp))) (hk _ _ (But.refl _ _) rfl)
 ·intro a w h
  have ea:=h.puts hT (fun i=>match i with
   | 0=>.agg #[.bool s1,.int .u64 x1,.int .u64 y1,.pointer p1]
   | 1=>.int .i64 sg
   | 2=>.bool true
   | 3=>.bool true
   | 4=>.agg #[.bool s1,.int .u64 x1,.int .u64 y1,.pointer p1]
   | 5=>.agg #[.bool ws,.int .u64 wx,.int .u64 0,.pointer none]
   | 6=>.int .i64 r
   | 7=>.bool (decide (r<0))
   | 8=>.bool (decide (r<0))
   | _=>.bool (decide (r<0))) (fun i hi=>by
   have hi':i<10:=hi
   have hc:=h.has i hi rfl
   have:i=0∨i=1∨i=2∨i=3∨i=4∨i=5∨i=6∨i=7∨i=8∨i=9:=by omega
   rcases this with rfl | rfl | rfl | rfl | rfl | rfl | rfl | rfl | rfl | rfl
   all_goals first | exact hc | rfl)
  rw [ea]
  exact hQ w (hdr h.but)
theorem region_skip {P:Program} {id:Nat} {ops:Array Oper} {Q:Exit→Act→World→Prop} {base:Act} {W0:World} (hm:P.follows .mixedOrders=true)
  (hlow:∀ i o,ops[i]? = some o→∀ e ∈ o.after,Region.binds .any e=true→e.on<i)
  (C:Nat→World→Value→Prop) (T:Nat→Nat) (hpl:plainOps ops T=true) (sk:Nat→Bool)
  (hgd:∀ (i:Nat) (o:Oper) (j:Nat) (want:Bool),ops[i]? = some o→o.guard=some (j,want)→∀ w v,C j w v→v=.bool (if sk i then !want else want))
  (hsk:∀ (i:Nat) (o:Oper),ops[i]? = some o→sk i=true→o.guard≠none) (hCs:∀ i w,sk i=true→C i w undef)
  (hinj:∀ i j,i<ops.size→j<ops.size→T i=T j→i=j) (hT:∀ i,i<ops.size→T i<base.tmps.size) (hC:∀ i w w' v,i<ops.size→C i w v→But [] w w'→C i w' v)
  (hstep:∀ (i:Nat) (o:Oper) (a:Act) (w:World) (K:Act→World→Prop),sk i=false→ops[i]? = some o→But [] W0.drew w→(∀ t,(∀ j,j<ops.size→t=T j→∃ oj,ops[j]? = some oj∧∃ e ∈ oj.after,Region.binds .any e=true∧e.on=i)→a.eval (.tmp t)=base.eval (.tmp t))→(∀ e ∈ o.after,Region.binds .any e=true→C e.on w (a.eval (.tmp (T e.on))))→(∀ v w',But [] w w'→C i w' v→K (a.put o.dst v) w')→o.wp P a w K Q)
  (hend:∀ a w,Run W0.drew ops base C T (fun _=>true) a w→Q .normal a w) :
  (Code.region id ops true).wp P Q base W0:=by
 have hp:=plain_of hpl
 refine region_inv hm hlow (fun d a w=>Run W0.drew ops base C T d a w) ?_ ?_ ?_
 ·exact ⟨fun _ _ _ h=>by simp at h,But.refl _ _,rfl,rfl,fun _ _=>rfl,fun _ _ h=>by simp at h⟩
 ·intro d a w hd h
  refine hend a w ⟨fun _ _ _ _ _ _ _=>rfl,h.but,h.size,h.defers,fun t ht=>h.rest t (fun j hj _=>ht j hj rfl),fun i hi _=>h.has i hi (hd i hi)⟩
 ·intro d i o a w ho hdi hdep h
  have hi:i<ops.size:=(Array.getElem?_eq_some_iff.1 ho).1
  obtain ⟨hdst,hg⟩:=hp i o ho
  have hw:Region.wanted o (yielded ops a.tmps)=!sk i:=by
   unfold Region.wanted
   cases hgo:o.guard with
   | none =>
    have:sk i=false:=by
     cases e:sk i with
     | false=>rfl
     | true=>exact absurd hgo (hsk i o ho e)
    rw [this];rfl
   | some jw =>
    obtain ⟨j,want⟩:=jw
    obtain ⟨hj,e,he,hbi,hon⟩:=hg j want hgo
    have hdj:d j=true:=by rw [← hon];exact hdep e he hbi
    have hv:=hgd i o j want ho hgo w _ (h.has j hj hdj)
    have hoj:=Array.getElem?_eq_getElem hj
    have hdj2:=(hp j _ hoj).1
    have hsl:=slot_is hv (by rw [h.size];exact hT j hj)
    show (yielded ops a.tmps j==some want)=!sk i
    unfold yielded
    rw [hoj,Option.bind_some,hdj2,Option.bind_some,hsl]
    cases sk i <;> cases want <;> rfl
  unfold wpOp
  by_cases es:sk i=true
  ·rw [es] at hw
   simp only [ho,hw,Bool.not_true,Bool.false_eq_true,if_false]
   rw [hdst]
   exact h.next hinj hT hC i o ho hdep undef w (But.refl _ _) (hCs i w es)
  ·have es':sk i=false:=by simpa using es
   rw [es'] at hw
   simp only [ho,hw,Bool.not_false,if_true]
   refine .inl (hstep i o a w _ es' ho h.but (fun t ht=>h.eval t (fun j hj hd e=>?_)) (fun e he hb=>h.has _ (by have:=hlow i o ho e he hb;omega) (hdep e he hb)) (fun v w' hb hv=>?_))
   ·obtain ⟨oj,hoj,ed,hed,hbi,hon⟩:=ht j hj e
    have:=h.down j oj hoj hd ed hed hbi
    rw [hon,hdi] at this
    simp at this
   ·rw [hdst]
    exact h.next hinj hT hC i o ho hdep v w' hb hv
def FracErr (f:Rat) (w:World) (v:Value):Prop:=∃ u,v=.tuple #[u,.nilIface]∧am w u f
theorem FracErr.but {f:Rat} {w w':World} {v:Value} (h:FracErr f w v) (hb:But [] w w'):FracErr f w' v:=by
 obtain ⟨u,e,hu⟩:=h
 exact ⟨u,e,hu.but hb⟩
theorem put4_loose (w:World) (g:Nat) (s:Bool) (x y:Int) (p:Option Addr) (q:Addr):(put4 w g s x y p).frozen? q=w.frozen? q:=by
 unfold put4
 simp only [World.frozen?_setCell]
def LaidAny (B:Nat) (w:World) (v:Value):Prop:=∃ b,v=.pointer (some ⟨b,0,none⟩)∧B≤b∧(∃ s x y p,P4 w b s x y p)∧∀ j,w.frozen? ⟨b,j,none⟩=false
theorem LaidAny.but {B:Nat} {w w':World} {v:Value} (h:LaidAny B w v) (hb:But [] w w'):LaidAny B w' v:=by
 obtain ⟨b,e,h1,⟨s,x,y,p,h2⟩,h3⟩:=h
 have hl:b<w.heap.size:=ai h2.1
 exact ⟨b,e,h1,⟨s,x,y,p,h2.but hb (by simp)⟩,fun j=>(hb.frozen (p:=⟨b,j,none⟩) hl (by simp)).trans (h3 j)⟩
theorem LaidAny.put {B:Nat} {w:World} {v:Value} {g:Nat} {s0:Bool} {x0 y0:Int} {p0:Option Addr} (h:LaidAny B w v) (hg:P4 w g s0 x0 y0 p0) (s':Bool) (x' y':Int) (p':Option Addr):LaidAny B (put4 w g s' x' y' p') v:=by
 obtain ⟨b,e,h1,⟨s,x,y,p,h2⟩,h3⟩:=h
 refine ⟨b,e,h1,?_,fun j=>by rw [put4_loose];exact h3 j⟩
 by_cases eb:b=g
 ·subst eb
  exact ⟨s',x',y',p',put4_p4 w b s' x' y' p' hg⟩
 ·exact ⟨s,x,y,p,h2.but (au w g s' x' y' p') (by simpa using eb)⟩
theorem FracErr.put {f:Rat} {w:World} {v:Value} {g:Nat} {s0:Bool} {x0 y0:Int} {p0:Option Addr} (h:FracErr f w v) (hg:P4 w g s0 x0 y0 p0) (s':Bool) (x' y':Int) (p':Option Addr):FracErr f (put4 w g s' x' y' p') v:=by
 obtain ⟨u,e,hu⟩:=h
 exact ⟨u,e,hu.over hg.1 (au w g s' x' y' p')⟩
def Stored (B:Nat) (f:Rat) (w:World) (v:Value):Prop:=∃ b s x y p,v=.pointer (some ⟨b,0,none⟩)∧B≤b∧P4 w b s x y p∧am w (.agg #[.bool s,.int .u64 x,.int .u64 y,.pointer p]) f
theorem Stored.but {B:Nat} {f:Rat} {w w':World} {v:Value} (h:Stored B f w v) (hb:But [] w w'):Stored B f w' v:=by
 obtain ⟨b,s,x,y,p,e,h1,h2,h3⟩:=h
 exact ⟨b,s,x,y,p,e,h1,h2.but hb (by simp),h3.but hb⟩
theorem run_as (a:Act) (w:World) (d t:Nat) (u:TypeId) (ps:String) (ed:Array Edge) (gd:Option (Nat × Bool)) (N:Value) (h:a.eval (.tmp t)=N) :
  (execOp a.eval { dst:=some d,op:=Op.assign (.tmp t),type:=u,pos:=ps,after:=ed,guard:=gd }).run Tryz.prog w=.ok (.value N) w:=run_asK a w d t u ps ed gd N h
theorem run_alloc4 (a:Act) (w:World) (d:Nat) (u:TypeId) (ps:String) (ed:Array Edge) (gd:Option (Nat × Bool)) :
  (execOp a.eval { dst:=some d,op:=Op.alloc 29,type:=u,pos:=ps,after:=ed,guard:=gd }).run Tryz.prog w=.ok (.value (.pointer (some ⟨w.heap.size,0,none⟩))) (w.alloc (.cells #[.bool false,.int .u64 0,.int .u64 0,.pointer none] 29)):=by
 unfold execOp
 go_simp
theorem cmpZ_tells (x y:Rat) (r:Int) (hr:r=cmpZ (x.num*(y.den:Int)) (y.num*(x.den:Int))):(r<0↔x<y)∧(0<r↔y<x)∧(r=0↔x=y):=by
 have h1:x<y↔x.num*(y.den:Int)<y.num*(x.den:Int):=Rat.lt_iff x y
 have h2:y<x↔y.num*(x.den:Int)<x.num*(y.den:Int):=Rat.lt_iff y x
 have h3:x=y↔x.num*(y.den:Int)=y.num*(x.den:Int):=by
  constructor
  ·intro h;rw [h]
  ·intro h
   exact Rat.le_antisymm ((Rat.le_iff _ _).2 (by omega)) ((Rat.le_iff _ _).2 (by omega))
 rw [h1,h2,h3,hr]
 unfold cmpZ
 split
 ·omega
 ·split <;> omega
theorem run_andFK (a:Act) (w:World) (d t1 t2:Nat) (u:TypeId) (ps:String) (ed:Array Edge) (gd:Option (Nat × Bool)) (v:Value) (h1:a.eval (.tmp t1)=.bool false) (h2:a.eval (.tmp t2)=v) :
  (execOp a.eval { dst:=some d,op:=Op.pick (.tmp t1) (.tmp t2) (.const (.bool false)),type:=u,pos:=ps,after:=ed,guard:=gd }).run Tryz.prog w=.ok (.value (.bool false)) w:=by
 unfold execOp
 simp only [h1,h2]
 go_simp
def opKk0:Oper:={ dst:=some 3,op:=Op.load 29 (Operand.tmp 1),type:=29,pos:= "claims.go:114",after:=#[],guard:=none }
def opKk1:Oper:={ dst:=some 4,op:=Op.call { callee:=Callee.value (Operand.func 18),args:=#[Operand.tmp 3],argTypes:=#[29] },type:=3,pos:= "claims.go:114",after:=#[⟨0,.data⟩],guard:=none }
def opKk2:Oper:={ dst:=some 5,op:=Op.binOp BinOp.geq 3 (Operand.tmp 4) (Operand.const (Value.int IntKind.i64 0)) 3,type:=4,pos:= "claims.go:114",after:=#[⟨1,.data⟩],guard:=none }
def opKk3:Oper:={ dst:=some 6,op:=Op.move (Operand.tmp 5),type:=4,pos:= "claims.go:114",after:=#[⟨2,.data⟩,⟨1,.chain⟩],guard:=none }
def opKk4:Oper:={ dst:=some 7,op:=Op.load 29 (Operand.tmp 1),type:=29,pos:= "claims.go:114",after:=#[⟨3,.guard⟩],guard:=some (3,true) }
def opKk5:Oper:={ dst:=some 8,op:=Op.call { callee:=Callee.value (Operand.func 27),args:=#[Operand.const (Value.int IntKind.i64 1)],argTypes:=#[3] },type:=29,pos:= "claims.go:114",after:=#[⟨3,.chain⟩,⟨3,.guard⟩],guard:=some (3,true) }
def opKk6:Oper:={ dst:=some 9,op:=Op.call { callee:=Callee.value (Operand.func 25),args:=#[Operand.tmp 7,Operand.tmp 8],argTypes:=#[29,29] },type:=3,pos:= "claims.go:114",after:=#[⟨4,.data⟩,⟨5,.data⟩,⟨5,.chain⟩,⟨3,.guard⟩],guard:=some (3,true) }
def opKk7:Oper:={ dst:=some 10,op:=Op.binOp BinOp.lss 3 (Operand.tmp 9) (Operand.const (Value.int IntKind.i64 0)) 3,type:=4,pos:= "claims.go:114",after:=#[⟨6,.data⟩,⟨3,.guard⟩],guard:=some (3,true) }
def opKk8:Oper:={ dst:=some 11,op:=Op.pick (Operand.tmp 6) (Operand.tmp 10) (Operand.const (Value.bool false)),type:=4,pos:= "claims.go:114",after:=#[⟨3,.data⟩,⟨7,.data⟩],guard:=none }
def opKk9:Oper:={ dst:=some 2,op:=Op.assign (Operand.tmp 11),type:=4,pos:= "claims.go:114",after:=#[⟨8,.data⟩,⟨6,.chain⟩,⟨0,.phase⟩,⟨1,.phase⟩,⟨2,.phase⟩,⟨3,.phase⟩,⟨4,.phase⟩,⟨5,.phase⟩,⟨6,.phase⟩,⟨7,.phase⟩,⟨8,.phase⟩],guard:=none }
def opKks:Array Oper:=#[opKk0,opKk1,opKk2,opKk3,opKk4,opKk5,opKk6,opKk7,opKk8,opKk9]
def opKkT (i:Nat):Nat:=match i with
 | 0=>3
 | 1=>4
 | 2=>5
 | 3=>6
 | 4=>7
 | 5=>8
 | 6=>9
 | 7=>10
 | 8=>11
 | _=>2
def opKkC (s1:Bool) (x1:Int) (y1:Int) (p1:Option Addr) (sg:Int) (i:Nat) (_w:World) (v:Value):Prop:=match i with
 | 0=>v=.agg #[.bool s1,.int .u64 x1,.int .u64 y1,.pointer p1]
 | 1=>v=.int .i64 sg
 | 2=>v=.bool false
 | 3=>v=.bool false
 | 4=>v=undef
 | 5=>v=undef
 | 6=>v=undef
 | 7=>v=undef
 | 8=>v=.bool false
 | _=>v=.bool false
def opKkK (i:Nat):Bool:=match i with
 | 4=>true
 | 5=>true
 | 6=>true
 | 7=>true
 | _=>false
theorem opKkT_inj:∀ i j,i<10→j<10→opKkT i=opKkT j→i=j:=fun i j hi hj=>(by decide:∀ i,i<10→∀ j,j<10→opKkT i=opKkT j→i=j) i hi j hj
theorem below_neg (id:Nat) (Q:Exit→Act→World→Prop) (base:Act) (W0:World) (s1:Bool) (x1:Int) (y1:Int) (p1:Option Addr) (sg:Int) (hs:11<base.tmps.size) (g1:Nat) (e1:base.eval (.tmp 1)=.pointer (some ⟨g1,0,none⟩))
  (hsg:¬ 0≤sg) (c1:P4 W0 g1 s1 x1 y1 p1)
  (SG:∀ w,But [] W0 w→Calls Tryz.prog 18 #[.agg #[.bool s1,.int .u64 x1,.int .u64 y1,.pointer p1]] w fun e w'=>e=.returned (.int .i64 sg)∧But [] w w')
  (hQ:∀ w,But [] W0 w→Q .normal (bb base [(3,.agg #[.bool s1,.int .u64 x1,.int .u64 y1,.pointer p1]),(4,.int .i64 sg),(5,.bool false),(6,.bool false),(7,undef),(8,undef),(9,undef),(10,undef),(11,.bool false),(2,.bool false)]) w) :
  (Code.region id opKks true).wp Tryz.prog Q base W0:=by
 have hdr:∀ {w},But [] W0.drew w→But [] W0 w:=fun h=>(But.refl _ _).drew.trans' h
 have hT:∀ i,i<10→opKkT i<base.tmps.size:=fun i hi=>by
  have h:opKkT i≤11:=by revert i;decide
  omega
 have hCb:∀ i w w' v,i<10→opKkC s1 x1 y1 p1 sg i w v→opKkC s1 x1 y1 p1 sg i w' v:=fun i w w' v hi h=>by
  have:i=0∨i=1∨i=2∨i=3∨i=4∨i=5∨i=6∨i=7∨i=8∨i=9:=by omega
  rcases this with rfl | rfl | rfl | rfl | rfl | rfl | rfl | rfl | rfl | rfl
  ·exact (show v=.agg #[.bool s1,.int .u64 x1,.int .u64 y1,.pointer p1] from h)
  ·exact (show v=.int .i64 sg from h)
  ·exact (show v=.bool false from h)
  ·exact (show v=.bool false from h)
  ·exact (show v=undef from h)
  ·exact (show v=undef from h)
  ·exact (show v=undef from h)
  ·exact (show v=undef from h)
  ·exact (show v=.bool false from h)
  ·exact (show v=.bool false from h)
 refine region_skip (by kernel_rfl) (low_of (by kernel_rfl)) (opKkC s1 x1 y1 p1 sg) opKkT (by kernel_rfl) opKkK ?_ ?_ ?_ opKkT_inj hT (fun i w w' v hi h _=>hCb i w w' v hi h) ?_ ?_
 ·intro i o j want ho hg w v hv
  have hi:i<10:=(Array.getElem?_eq_some_iff.1 ho).1
  have:i=0∨i=1∨i=2∨i=3∨i=4∨i=5∨i=6∨i=7∨i=8∨i=9:=by omega
  rcases this with rfl | rfl | rfl | rfl | rfl | rfl | rfl | rfl | rfl | rfl
  ·obtain rfl:=Option.some.inj ((show opKks[0]? = some opKk0 from rfl).symm.trans ho)
   exact absurd (show (none:Option (Nat × Bool))=some (j,want) from hg) (by simp)
  ·obtain rfl:=Option.some.inj ((show opKks[1]? = some opKk1 from rfl).symm.trans ho)
   exact absurd (show (none:Option (Nat × Bool))=some (j,want) from hg) (by simp)
  ·obtain rfl:=Option.some.inj ((show opKks[2]? = some opKk2 from rfl).symm.trans ho)
   exact absurd (show (none:Option (Nat × Bool))=some (j,want) from hg) (by simp)
  ·obtain rfl:=Option.some.inj ((show opKks[3]? = some opKk3 from rfl).symm.trans ho)
   exact absurd (show (none:Option (Nat × Bool))=some (j,want) from hg) (by simp)
  ·obtain rfl:=Option.some.inj ((show opKks[4]? = some opKk4 from rfl).symm.trans ho)
   obtain ⟨rfl,rfl⟩:=Prod.mk.inj (Option.some.inj (show some (3,true)=some (j,want) from hg))
   exact hv
  ·obtain rfl:=Option.some.inj ((show opKks[5]? = some opKk5 from rfl).symm.trans ho)
   obtain ⟨rfl,rfl⟩:=Prod.mk.inj (Option.some.inj (show some (3,true)=some (j,want) from hg))
   exact hv
  ·obtain rfl:=Option.some.inj ((show opKks[6]? = some opKk6 from rfl).symm.trans ho)
   obtain ⟨rfl,rfl⟩:=Prod.mk.inj (Option.some.inj (show some (3,true)=some (j,want) from hg))
   exact hv
  ·obtain rfl:=Option.some.inj ((show opKks[7]? = some opKk7 from rfl).symm.trans ho)
   obtain ⟨rfl,rfl⟩:=Prod.mk.inj (Option.some.inj (show some (3,true)=some (j,want) from hg))
   exact hv
  ·obtain rfl:=Option.some.inj ((show opKks[8]? = some opKk8 from rfl).symm.trans ho)
   exact absurd (show (none:Option (Nat × Bool))=some (j,want) from hg) (by simp)
  ·obtain rfl:=Option.some.inj ((show opKks[9]? = some opKk9 from rfl).symm.trans ho)
   exact absurd (show (none:Option (Nat × Bool))=some (j,want) from hg) (by simp)
 ·intro i o ho hk hg
  have hi:i<10:=(Array.getElem?_eq_some_iff.1 ho).1
  have:i=0∨i=1∨i=2∨i=3∨i=4∨i=5∨i=6∨i=7∨i=8∨i=9:=by omega
  rcases this with rfl | rfl | rfl | rfl | rfl | rfl | rfl | rfl | rfl | rfl
  ·exact absurd (show false=true from hk) (by simp)
  ·exact absurd (show false=true from hk) (by simp)
  ·exact absurd (show false=true from hk) (by simp)
  ·exact absurd (show false=true from hk) (by simp)
  ·obtain rfl:=Option.some.inj ((show opKks[4]? = some opKk4 from rfl).symm.trans ho)
   exact absurd (show some (3,true)=(none:Option (Nat × Bool)) from hg) (by simp)
  ·obtain rfl:=Option.some.inj ((show opKks[5]? = some opKk5 from rfl).symm.trans ho)
   exact absurd (show some (3,true)=(none:Option (Nat × Bool)) from hg) (by simp)
  ·obtain rfl:=Option.some.inj ((show opKks[6]? = some opKk6 from rfl).symm.trans ho)
   exact absurd (show some (3,true)=(none:Option (Nat × Bool)) from hg) (by simp)
  ·obtain rfl:=Option.some.inj ((show opKks[7]? = some opKk7 from rfl).symm.trans ho)
   exact absurd (show some (3,true)=(none:Option (Nat × Bool)) from hg) (by simp)
  ·exact absurd (show false=true from hk) (by simp)
  ·exact absurd (show false=true from hk) (by simp)
 ·intro i w hk
  by_cases hi:i<10
  ·have:i=0∨i=1∨i=2∨i=3∨i=4∨i=5∨i=6∨i=7∨i=8∨i=9:=by omega
   rcases this with rfl | rfl | rfl | rfl | rfl | rfl | rfl | rfl | rfl | rfl
   ·exact absurd (show false=true from hk) (by simp)
   ·exact absurd (show false=true from hk) (by simp)
   ·exact absurd (show false=true from hk) (by simp)
   ·exact absurd (show false=true from hk) (by simp)
   ·exact (show undef=undef from rfl)
   ·exact (show undef=undef from rfl)
   ·exact (show undef=undef from rfl)
   ·exact (show undef=undef from rfl)
   ·exact absurd (show false=true from hk) (by simp)
   ·exact absurd (show false=true from hk) (by simp)
  ·exfalso
   unfold opKkK at hk
   split at hk
   ·omega
   ·omega
   ·omega
   ·omega
   ·simp at hk
 ·intro i o a w K hki ho hH he hdep hk
  have hi:i<10:=(Array.getElem?_eq_some_iff.1 ho).1
  have hD:=dep_have (ps:=[(1,0),(2,1),(3,1),(3,2),(4,3),(5,3),(6,3),(6,4),(6,5),(7,3),(7,6),(8,3),(8,7),(9,0),(9,1),(9,2),(9,3),(9,4),(9,5),(9,6),(9,7),(9,8)]) (by kernel_rfl) ho (fun j=>opKkC s1 x1 y1 p1 sg j w (a.eval (.tmp (opKkT j)))) hdep
  have e1':=(he 1 (fun j hj e=>absurd e.symm (by revert j;decide))).trans e1
  have:i=0∨i=1∨i=2∨i=3∨i=4∨i=5∨i=6∨i=7∨i=8∨i=9:=by omega
  rcases this with rfl | rfl | rfl | rfl | rfl | rfl | rfl | rfl | rfl | rfl
  ·obtain rfl:=Option.some.inj ((show opKks[0]? = some opKk0 from rfl).symm.trans ho)
   exact al (aq a w _ _ _ _ _ _ g1 0 _ _ _ _ e1' (c1.but (hdr hH) (by simp))) (hk _ _ (But.refl _ _) rfl)
  ·obtain rfl:=Option.some.inj ((show opKks[1]? = some opKk1 from rfl).symm.trans ho)
   exact av (run_signK a w _ _ _ _ _ _ _ (hD 0 (by simp))) (R:=fun w' v=>But [] w w'∧v=_) ((SG w (hdr hH)).mono fun e w' ⟨he,hb⟩=>⟨_,he,hb,rfl⟩) (fun v w' hv=>hk v w' hv.1 hv.2)
  ·obtain rfl:=Option.some.inj ((show opKks[2]? = some opKk2 from rfl).symm.trans ho)
   refine al (run_ge0K a w _ _ _ _ _ _ _ (hD 1 (by simp))) (hk _ _ (But.refl _ _) ?_)
   show Value.bool _=Value.bool _
   rw [decide_eq_false hsg]
  ·obtain rfl:=Option.some.inj ((show opKks[3]? = some opKk3 from rfl).symm.trans ho)
   exact al (bh a w _ _ _ _ _ _ _ (hD 2 (by simp))) (hk _ _ (But.refl _ _) rfl)
  ·exact absurd (show true=false from hki) (by simp)
  ·exact absurd (show true=false from hki) (by simp)
  ·exact absurd (show true=false from hki) (by simp)
  ·exact absurd (show true=false from hki) (by simp)
  ·obtain rfl:=Option.some.inj ((show opKks[8]? = some opKk8 from rfl).symm.trans ho)
   exact al (run_andFK a w _ _ _ _ _ _ _ _ (hD 3 (by simp)) rfl) (hk _ _ (But.refl _ _) rfl)
  ·obtain rfl:=Option.some.inj ((show opKks[9]? = some opKk9 from rfl).symm.trans ho)
   exact al (run_asK a w _ _ _ _ _ _ _ (hD 8 (by simp))) (hk _ _ (But.refl _ _) rfl)
 ·intro a w h
  have ea:=h.puts hT (fun i=>match i with
   | 0=>.agg #[.bool s1,.int .u64 x1,.int .u64 y1,.pointer p1]
   | 1=>.int .i64 sg
   | 2=>.bool false
   | 3=>.bool false
   | 4=>undef
   | 5=>undef
   | 6=>undef
   | 7=>undef
   | 8=>.bool false
   | _=>.bool false) (fun i hi=>by
   have hi':i<10:=hi
   have hc:=h.has i hi rfl
   have:i=0∨i=1∨i=2∨i=3∨i=4∨i=5∨i=6∨i=7∨i=8∨i=9:=by omega
   rcases this with rfl | rfl | rfl | rfl | rfl | rfl | rfl | rfl | rfl | rfl
   all_goals first | exact hc | rfl)
  rw [ea]
  exact hQ w (hdr h.but)
theorem below1_any (vf:Value) (f:Rat) (w:World) (hf:am w vf f) (lf:Len f 1000000) :
  Calls Tryz.prog 73 #[vf] w fun e w'=>e=.returned (.bool (decide (0≤f∧f<1)))∧But [] w w':=by
 have h0n:0≤f↔0≤f.num:=Rat.num_nonneg.symm
 obtain ⟨x1,y1,p1,rfl,-⟩:=hf.agg
 generalize hsf:decide (f.num<0)=s1 at *
 clear hsf
 obtain ⟨sg,hsg⟩:∃ sg,sg=f.num.sign:=⟨_,rfl⟩
 have hs0:0≤sg↔0≤f.num:=by
  rw [hsg]
  rcases Int.lt_trichotomy f.num 0 with h | h | h
  ·rw [Int.sign_eq_neg_one_of_neg h];omega
  ·rw [h];decide
  ·rw [Int.sign_eq_one_of_pos h];omega
 have bA:But [] w (w.alloc (.cells #[.bool s1,.int .u64 x1,.int .u64 y1,.pointer p1] 29)):=(But.refl _ _).alloc _
 have SG:=af (fun W (h:But [] w W)=>fracSign_any _ f W (hf.but h))
 rw [← hsg] at SG
 have X1:=af (ax.new w s1 x1 y1 p1 f 29 hf)
 have c1:P4 (w.alloc (.cells #[.bool s1,.int .u64 x1,.int .u64 y1,.pointer p1] 29)) w.heap.size s1 x1 y1 p1:=⟨by simp,by simp,by simp,by simp⟩
 have C1:=af c1
 have HF:=af hf
 have BA:=af bA
 have HS0:=af hs0
 have H0N:=af h0n
 clear hf c1 bA hsg hs0 h0n
 go_enter Tryz.func73,Tryz.ntmps73
 go_wp2
 generalize w.heap.size=g1 at *
 generalize w.alloc (.cells #[.bool s1,.int .u64 x1,.int .u64 y1,.pointer p1] 29)=U at *
 by_cases hp:0≤sg
 ·obtain ⟨ws,wx,FW,CW⟩:=whole_is 1 (by omega) (by omega)
  obtain ⟨r,hr⟩:∃ r,r=cmpZ (f.num*((((1:Int):Rat)).den:Int)) ((((1:Int):Rat)).num*(f.den:Int)):=⟨_,rfl⟩
  have hlt:=(cmpZ_tells f ((1:Int):Rat) r hr).1
  refine below_region 1 _ _ U s1 x1 y1 p1 sg ws wx r (by simp) g1 (by simp [Act.eval]) hp (ae C1) (fun w' hb=>ae SG w' ((ae BA).trans' hb)) CW (fun w' hb=>fracCmp_any _ _ f ((1:Int):Rat) w' ((ae HF).but ((ae BA).trans' hb)) (FW w') (lf.mono (by omega)) ((len_int 1 (by decide)).mono (by omega)) r hr) ?_
  intro w1 hb1
  simp only [bb,List.foldl_cons,List.foldl_nil,Act.put,List.setIfInBounds_toArray,List.set_cons_zero,List.set_cons_succ]
  have e:decide (r<0)=decide (0≤f∧f<1):=by
   have hz:0≤f:=(ae H0N).2 ((ae HS0).1 hp)
   by_cases h:r<0
   ·rw [decide_eq_true h,decide_eq_true ⟨hz,hlt.1 h⟩]
   ·rw [decide_eq_false h,decide_eq_false (fun hh=>h (hlt.2 hh.2))]
  rw [e]
  go_wp2
  go_ret
  exact ⟨rfl,(ae BA).trans' hb1⟩
 ·refine below_neg 1 _ _ U s1 x1 y1 p1 sg (by simp) g1 (by simp [Act.eval]) hp (ae C1) (fun w' hb=>ae SG w' ((ae BA).trans' hb)) ?_
  intro w1 hb1
  simp only [bb,List.foldl_cons,List.foldl_nil,Act.put,List.setIfInBounds_toArray,List.set_cons_zero,List.set_cons_succ]
  have e:false=decide (0≤f∧f<1):=by
   rw [decide_eq_false]
   intro hh
   exact hp ((ae HS0).2 ((ae H0N).1 hh.1))
  rw [e]
  go_wp2
  go_ret
  exact ⟨rfl,(ae BA).trans' hb1⟩
def FracOk (w:World) (v:Value) (r:Rat):Prop:=∃ s x y p,v=.tuple #[.agg #[.bool s,.int .u64 x,.int .u64 y,.pointer p],.nilIface]∧am w (.agg #[.bool s,.int .u64 x,.int .u64 y,.pointer p]) r
theorem FracOk.but {w w':World} {v:Value} {r:Rat} (h:FracOk w v r) (hb:But [] w w'):FracOk w' v r:=by
 obtain ⟨s,x,y,p,h1,h2⟩:=h
 exact ⟨s,x,y,p,h1,h2.but hb⟩
theorem FracOk.over {w w':World} {v:Value} {r:Rat} {g:Nat} {c:Bool} (h:FracOk w v r) (hc:w.cell? ⟨g,0,none⟩=some (.bool c)) (hb:But [g] w w'):FracOk w' v r:=by
 obtain ⟨s,x,y,p,h1,h2⟩:=h
 exact ⟨s,x,y,p,h1,h2.over hc hb⟩
theorem run_divK (a:Act) (w:World) (d t1 t2:Nat) (u:TypeId) (ps:String) (ed:Array Edge) (gd:Option (Nat × Bool)) (x1 x2:Value) (h1:a.eval (.tmp t1)=x1) (h2:a.eval (.tmp t2)=x2) :
  (execOp a.eval { dst:=some d,op:=Op.call { callee:=Callee.value (Operand.func 46),args:=#[Operand.tmp t1,Operand.tmp t2],argTypes:=#[29,29] },type:=u,pos:=ps,after:=ed,guard:=gd }).run Tryz.prog w=.ok (.enter 46 #[x1,x2]) w:=by
 unfold execOp
 go_simp
 rw [← h1,← h2]
 simp [Act.eval]
theorem run_exK (a:Act) (w:World) (d t1 k:Nat) (u:TypeId) (ps:String) (ed:Array Edge) (gd:Option (Nat × Bool)) (xs:Array Value) (v:Value) (h1:a.eval (.tmp t1)=.tuple xs) (h2:xs[k]? = some v) :
  (execOp a.eval { dst:=some d,op:=Op.extract (.tmp t1) k,type:=u,pos:=ps,after:=ed,guard:=gd }).run Tryz.prog w=.ok (.value v) w:=by
 unfold execOp
 simp only [h1]
 go_simp
def opKp0:Oper:={ dst:=some 7,op:=Op.load 29 (Operand.tmp 1),type:=29,pos:= "keep.go:458",after:=#[],guard:=none }
def opKp1:Oper:={ dst:=some 8,op:=Op.call { callee:=Callee.value (Operand.func 27),args:=#[Operand.const (Value.int IntKind.i64 2)],argTypes:=#[3] },type:=29,pos:= "keep.go:458",after:=#[],guard:=none }
def opKp2:Oper:={ dst:=some 9,op:=Op.call { callee:=Callee.value (Operand.func 46),args:=#[Operand.tmp 7,Operand.tmp 8],argTypes:=#[29,29] },type:=46,pos:= "keep.go:458",after:=#[⟨0,.data⟩,⟨1,.data⟩,⟨1,.chain⟩],guard:=none }
def opKp3:Oper:={ dst:=some 6,op:=Op.move (Operand.tmp 9),type:=46,pos:= "keep.go:458",after:=#[⟨2,.data⟩],guard:=none }
def opKp4:Oper:={ dst:=some 10,op:=Op.extract (Operand.tmp 6) 0,type:=29,pos:= "keep.go:458",after:=#[⟨3,.data⟩],guard:=none }
def opKp5:Oper:={ dst:=some 11,op:=Op.extract (Operand.tmp 6) 1,type:=35,pos:= "keep.go:458",after:=#[⟨3,.data⟩,{ on:=6,ground:=Ground.gcOnly Departure.lateStores }],guard:=none }
def opKp6:Oper:={ dst:=none,op:=Op.store 29 (Operand.tmp 1) (Operand.tmp 10),type:=0,pos:= "keep.go:458",after:=#[⟨4,.data⟩,⟨2,.chain⟩,⟨0,.phase⟩,⟨1,.phase⟩,⟨2,.phase⟩,⟨3,.phase⟩,⟨4,.phase⟩,{ on:=5,ground:=Ground.textOnly Departure.lateStores }],guard:=none }
def opKp7:Oper:={ dst:=some 2,op:=Op.assign (Operand.tmp 11),type:=35,pos:= "keep.go:458",after:=#[⟨5,.data⟩,⟨6,.chain⟩,⟨0,.phase⟩,⟨1,.phase⟩,⟨2,.phase⟩,⟨3,.phase⟩,⟨4,.phase⟩,⟨5,.phase⟩,⟨6,.phase⟩],guard:=none }
def opKps:Array Oper:=#[opKp0,opKp1,opKp2,opKp3,opKp4,opKp5,opKp6,opKp7]
def opKpT (i:Nat):Nat:=match i with
 | 0=>7
 | 1=>8
 | 2=>9
 | 3=>6
 | 4=>10
 | 5=>11
 | _=>2
def opKpC (s1:Bool) (x1 y1:Int) (p1:Option Addr) (ws:Bool) (wx:Int) (r:Rat) (i:Nat) (w:World) (v:Value):Prop:=match i with
 | 0=>v=.agg #[.bool s1,.int .u64 x1,.int .u64 y1,.pointer p1]
 | 1=>v=.agg #[.bool ws,.int .u64 wx,.int .u64 0,.pointer none]
 | 2=>FracOk w v r
 | 3=>FracOk w v r
 | 4=>am w v r
 | 5=>v=.nilIface
 | _=>True
theorem opKpC_but {s1:Bool} {x1 y1:Int} {p1:Option Addr} {ws:Bool} {wx:Int} {r:Rat} {i:Nat} {w w':World} {v:Value} (h:opKpC s1 x1 y1 p1 ws wx r i w v) (hi:i<7) (hb:But [] w w'):opKpC s1 x1 y1 p1 ws wx r i w' v:=by
 have:i=0∨i=1∨i=2∨i=3∨i=4∨i=5∨i=6:=by omega
 rcases this with rfl | rfl | rfl | rfl | rfl | rfl | rfl
 ·exact h
 ·exact h
 ·exact FracOk.but h hb
 ·exact FracOk.but h hb
 ·exact am.but h hb
 ·exact h
 ·exact h
theorem opKpC_over {s1:Bool} {x1 y1:Int} {p1:Option Addr} {ws:Bool} {wx:Int} {r:Rat} {i:Nat} {w w':World} {v:Value} {g:Nat} {c:Bool} (h:opKpC s1 x1 y1 p1 ws wx r i w v) (hi:i<7) (hc:w.cell? ⟨g,0,none⟩=some (.bool c)) (hb:But [g] w w'):opKpC s1 x1 y1 p1 ws wx r i w' v:=by
 have:i=0∨i=1∨i=2∨i=3∨i=4∨i=5∨i=6:=by omega
 rcases this with rfl | rfl | rfl | rfl | rfl | rfl | rfl
 ·exact h
 ·exact h
 ·exact FracOk.over h hc hb
 ·exact FracOk.over h hc hb
 ·exact am.over h hc hb
 ·exact h
 ·exact h
theorem opKpT_inj:∀ i j,i<7→j<7→opKpT i=opKpT j→i=j:=fun i j hi hj=>(by decide:∀ i,i<7→∀ j,j<7→opKpT i=opKpT j→i=j) i hi j hj
def opKpH (W0:World) (g:Nat) (r:Rat) (b:Bool) (w:World):Prop:=match b with
 | false=>But [] W0 w
 | true=>∃ w1 s x y p,But [] W0 w1∧am w1 (.agg #[.bool s,.int .u64 x,.int .u64 y,.pointer p]) r∧But [] (put4 w1 g s x y p) w
theorem dice_region (id:Nat) (Q:Exit→Act→World→Prop) (base:Act) (W0:World) (s1:Bool) (x1 y1:Int) (p1:Option Addr) (ws:Bool) (wx:Int) (r:Rat) (gb:Nat) (hs:11<base.tmps.size) (e1:base.eval (.tmp 1)=.pointer (some ⟨gb,0,none⟩)) (c1:P4 W0 gb s1 x1 y1 p1) (fzb:∀ j,W0.frozen? ⟨gb,j,none⟩=false)
  (WH:∀ w,Calls Tryz.prog 27 #[.int .i64 2] w fun e w'=>e=.returned (.agg #[.bool ws,.int .u64 wx,.int .u64 0,.pointer none])∧But [] w w')
  (DV:∀ w,But [] W0 w→Calls Tryz.prog 46 #[.agg #[.bool s1,.int .u64 x1,.int .u64 y1,.pointer p1],.agg #[.bool ws,.int .u64 wx,.int .u64 0,.pointer none]] w fun e w'=>∃ v,e=.returned v∧FracOk w' v r∧But [] w w')
  (hQ:∀ w1 w2 v2 v3 v4 v6 s x y p,But [] W0 w1→am w1 (.agg #[.bool s,.int .u64 x,.int .u64 y,.pointer p]) r→But [] (put4 w1 gb s x y p) w2→Q .normal (bb base [(7,.agg #[.bool s1,.int .u64 x1,.int .u64 y1,.pointer p1]),(8,.agg #[.bool ws,.int .u64 wx,.int .u64 0,.pointer none]),(9,v2),(6,v3),(10,v4),(11,.nilIface),(2,v6),(2,.nilIface)]) w2) :
  (Code.region id opKps true).wp Tryz.prog Q base W0:=by
 have hdr:∀ {w},But [] W0.drew w→But [] W0 w:=fun h=>(But.refl _ _).drew.trans' h
 have lgb:gb<W0.heap.size:=ai c1.1
 have hT:∀ i,i<7→opKpT i<base.tmps.size:=fun i hi=>by
  have h:opKpT i≤11:=by revert i;decide
  omega
 refine region_flow6 (by kernel_rfl) (low_of (by kernel_rfl)) (fun i o ho=>(calm_of (ops:=opKps) (by kernel_rfl) i o ho).1) (opKpH W0 gb r) (hdr (But.refl _ _)) ?_ (opKpC s1 x1 y1 p1 ws wx r) opKpT 7 6 rfl opKpT_inj hT (fun i w w' v hi h hb=>opKpC_but h hi hb) (fun _ _=>trivial) (fun i hi=>?_) ?_ ?_
  (fun a w=>∃ w1 v2 v3 v4 v6 s x y p,a=bb base [(7,.agg #[.bool s1,.int .u64 x1,.int .u64 y1,.pointer p1]),(8,.agg #[.bool ws,.int .u64 wx,.int .u64 0,.pointer none]),(9,v2),(6,v3),(10,v4),(11,.nilIface),(2,v6),(2,.nilIface)]∧But [] W0 w1∧am w1 (.agg #[.bool s,.int .u64 x,.int .u64 y,.pointer p]) r∧But [] (put4 w1 gb s x y p) w) ?_ ?_ (by omega)
 ·intro b w w' h hb
  cases b with
  | false=>exact But.trans' h hb
  | true =>
   obtain ⟨w1,s,x,y,p,h1,h2,h3⟩:=h
   exact ⟨w1,s,x,y,p,h1,h2,h3.trans' hb⟩
 ·exact dep_of (ops:=opKps) (ps:=[(7,0),(7,1),(7,2),(7,3),(7,4),(7,5),(7,6)]) (by kernel_rfl) 7 i (by
   have:i=0∨i=1∨i=2∨i=3∨i=4∨i=5∨i=6:=by omega
   rcases this with rfl | rfl | rfl | rfl | rfl | rfl | rfl <;> simp)
 ·intro b i o a w K hi hiq ho hH hbq he hdep hk
  have hD:=dep_have (ps:=[(2,0),(2,1),(3,2),(4,3),(5,3)]) (by kernel_rfl) ho (fun j=>opKpC s1 x1 y1 p1 ws wx r j w (a.eval (.tmp (opKpT j)))) hdep
  have hq:=fun (h:(6,i) ∈ [(6,0),(6,1),(6,2),(6,3),(6,4)])=>hbq (dep_of (ops:=opKps) (ps:=[(6,0),(6,1),(6,2),(6,3),(6,4)]) (by kernel_rfl) 6 i h)
  have e1':=(he 1 (fun j hj e=>absurd e.symm (by revert j;decide))).trans e1
  have:i=0∨i=1∨i=2∨i=3∨i=4∨i=5∨i=6:=by omega
  rcases this with rfl | rfl | rfl | rfl | rfl | rfl | rfl
  ·obtain rfl:=Option.some.inj ((show opKps[0]? = some opKp0 from rfl).symm.trans ho)
   obtain rfl:=hq (by simp)
   exact al (aq a w _ _ _ _ _ _ gb 0 _ _ _ _ e1' (c1.but hH (by simp))) (hk _ _ (But.refl _ _) rfl)
  ·obtain rfl:=Option.some.inj ((show opKps[1]? = some opKp1 from rfl).symm.trans ho)
   exact av (run_oneK a w _ _ _ _ _ 2) (R:=fun w' v=>But [] w w'∧v=_) ((WH w).mono fun e w' ⟨he,hb⟩=>⟨_,he,hb,rfl⟩) (fun v w' hv=>hk v w' hv.1 hv.2)
  ·obtain rfl:=Option.some.inj ((show opKps[2]? = some opKp2 from rfl).symm.trans ho)
   obtain rfl:=hq (by simp)
   exact av (run_divK a w _ _ _ _ _ _ _ _ _ (hD 0 (by simp)) (hD 1 (by simp))) (R:=fun w' v=>FracOk w' v r∧But [] w w') (DV w hH) (fun v w' hv=>hk v w' hv.2 hv.1)
  ·obtain rfl:=Option.some.inj ((show opKps[3]? = some opKp3 from rfl).symm.trans ho)
   exact al (bh a w _ _ _ _ _ _ _ rfl) (hk _ _ (But.refl _ _) (show FracOk w _ r from hD 2 (by simp)))
  ·obtain rfl:=Option.some.inj ((show opKps[4]? = some opKp4 from rfl).symm.trans ho)
   obtain ⟨s,x,y,p,ev,hf⟩:=(show FracOk w _ r from hD 3 (by simp))
   exact al (run_exK a w _ _ _ _ _ _ _ _ _ ev rfl) (hk _ _ (But.refl _ _) hf)
  ·obtain rfl:=Option.some.inj ((show opKps[5]? = some opKp5 from rfl).symm.trans ho)
   obtain ⟨s,x,y,p,ev,hf⟩:=(show FracOk w _ r from hD 3 (by simp))
   exact al (run_exK a w _ _ _ _ _ _ _ _ _ ev rfl) (hk _ _ (But.refl _ _) rfl)
  ·exact absurd rfl hiq
 ·intro o a w K ho hH he hdep hK
  have hD:=dep_have (ps:=[(6,4)]) (by kernel_rfl) ho (fun j=>opKpC s1 x1 y1 p1 ws wx r j w (a.eval (.tmp (opKpT j)))) hdep
  obtain rfl:=Option.some.inj ((show opKps[6]? = some opKp6 from rfl).symm.trans ho)
  have e1':=(he 1 (fun j hj e=>absurd e.symm (by revert j;decide))).trans e1
  have cl:am w (a.eval (.tmp 10)) r:=hD 4 (by simp)
  have cl':=cl
  obtain ⟨x',y',p',ev,-⟩:=cl.agg
  rw [ev] at cl'
  have hB:But [] W0 w:=hH
  exact wp_skipped (run_store4 a w _ _ _ _ _ gb _ x' y' p' e1' ev (c1.but hB (by simp)) (fun j=>(hB.frozen (p:=⟨gb,j,none⟩) lgb (by simp)).trans (fzb j))) (hK _ ⟨w,_,x',y',p',hB,cl',But.refl _ _⟩ (fun j hj u hu=>opKpC_over hu hj (c1.but hB (by simp)).1 (au w gb _ x' y' p')))
 ·intro dn o a w K ho hall h hst hK
  obtain rfl:=Option.some.inj ((show opKps[7]? = some opKp7 from rfl).symm.trans ho)
  obtain ⟨w1,s',x',y',p',h1,h2,h3⟩:=hst
  have ea:=h.puts hT (fun i=>match i with
   | 0=>.agg #[.bool s1,.int .u64 x1,.int .u64 y1,.pointer p1]
   | 1=>.agg #[.bool ws,.int .u64 wx,.int .u64 0,.pointer none]
   | 2=>a.eval (.tmp 9)
   | 3=>a.eval (.tmp 6)
   | 4=>a.eval (.tmp 10)
   | 5=>.nilIface
   | _=>a.eval (.tmp 2)) (fun i hi=>by
   have hc:=h.has i hi (hall i hi)
   have:i=0∨i=1∨i=2∨i=3∨i=4∨i=5∨i=6:=by omega
   rcases this with rfl | rfl | rfl | rfl | rfl | rfl | rfl
   ·exact hc
   ·exact hc
   ·rfl
   ·rfl
   ·rfl
   ·exact hc
   ·rfl)
  have hev:a.eval (.tmp 11)=.nilIface:=h.has 5 (by omega) (hall 5 (by omega))
  have ea3:a.put (some 2) .nilIface=bb base ([(7,.agg #[.bool s1,.int .u64 x1,.int .u64 y1,.pointer p1]),(8,.agg #[.bool ws,.int .u64 wx,.int .u64 0,.pointer none]),(9,a.eval (.tmp 9)),(6,a.eval (.tmp 6)),(10,a.eval (.tmp 10)),(11,.nilIface),(2,a.eval (.tmp 2))]++[(2,.nilIface)]):=(congrArg (fun z:Act=>z.put (some 2) .nilIface) ea).trans (putted_snoc _ _ _ _)
  exact al (run_asK _ _ _ _ _ _ _ _ _ hev) (hK _ _ ⟨w1,_,_,_,_,s',x',y',p',ea3,h1,h2,h3⟩)
 ·rintro a w ⟨w1,v2,v3,v4,v6,s,x,y,p,rfl,h1,h2,h3⟩
  exact hQ w1 w v2 v3 v4 v6 s x y p h1 h2 h3
end Go.Proofs.YtlckjpelcmjimaaGreatDoor
