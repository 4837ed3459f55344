/- A region that draws its order and makes  -/
import Derived.Test.YtagmkkiagjmimaaGreatDoorYH5
namespace Go.Proofs.YtagmkkiagjmimaaGreatDoor
open Go.Proofs.Tryz
open Go.RowKit
set_option maxHeartbeats 8000000
set_option maxRecDepth 100000
def zym (ops:Array Oper):Bool:=(List.range ops.size).all fun i=>match ops[i]? with
 | some o=>o.guard.isNone
 | none=>true
theorem zln {ops:Array Oper} (h:zym ops=true):∀ (i:Nat) (o:Oper),ops[i]? = some o→o.guard=none:=fun i o ho=>by
 have hi:i<ops.size:=(Array.getElem?_eq_some_iff.1 ho).1
 unfold zym at h
 rw[List.all_eq_true] at h
 have h1:=h i (List.mem_range.2 hi)
 simp only[ho] at h1
 simpa using h1
theorem zqx {ops:Array Oper} {ps:List (Nat × Nat)} (h:zfm ops ps=true) {i:Nat} {o:Oper} (ho:ops[i]? = some o) (R:Nat→Prop) (hdep:∀ e ∈ o.after,Region.binds .any e=true→R e.on) (j:Nat) (hij:(i,j) ∈ ps):R j:=by(
 obtain⟨o',ho',e,he,hb,rfl⟩:=zed h i j hij
 rw[ho] at ho'
 obtain rfl:=Option.some.inj ho'
 exact hdep e he hb)
theorem zi {P:Program} {Q:Exit→Act→World→Prop} {K:Act→World→Prop} {a:Act} {w w':World} {o:Oper} {v:Value} (hr:(execOp a.eval o).run P w=.ok (.value v) w') (h:K (a.put o.dst v) w'):o.wp P a w K Q:=by(
 unfold Oper.wp
 rw[hr]
 exact h)
theorem jd {P:Program} {Q:Exit→Act→World→Prop} {K:Act→World→Prop} {a:Act} {w:World} {o:Oper} {f:FuncId} {args:Array Value} (hr:(execOp a.eval o).run P w=.ok (.enter f args) w) {R:World→Value→Prop} (hc:Calls P f args w fun e w'=>∃ v,e=.returned v∧R w' v) (h:∀ v w',R w' v→K (a.put o.dst v) w'):o.wp P a w K Q:=by(
 unfold Oper.wp
 rw[hr]
 refine hc.mono ?_
 rintro e w' ⟨v,rfl,hv⟩
 exact h v w' hv)
def Closed (ops:Array Oper) (d:Nat→Bool):Prop:=∀ i o,ops[i]? = some o→d i=true→∀ e ∈ o.after,Region.binds .any e=true→d e.on=true
theorem Closed.dep {ops:Array Oper} {d:Nat→Bool} (h:Closed ops d) {ps:List (Nat × Nat)} (hp:zfm ops ps=true) {i j:Nat} (hij:(i,j) ∈ ps) (hd:d i=true):d j=true:=by
 obtain⟨o,ho,e,he,hb,rfl⟩:=zed hp i j hij
 exact h i o ho hd e he hb
theorem Closed.not {ops:Array Oper} {d:Nat→Bool} (h:Closed ops d) {ps:List (Nat × Nat)} (hp:zfm ops ps=true) {i j:Nat} (hij:(i,j) ∈ ps) (hd:d j=false):d i=false:=by(
 cases e:d i with
 | false=>rfl
 | true=>rw[h.dep hp hij e] at hd;simp at hd)
theorem Closed.next {ops:Array Oper} {d:Nat→Bool} (h:Closed ops d) {i:Nat} {o:Oper} (ho:ops[i]? = some o) (hdep:∀ e ∈ o.after,Region.binds .any e=true→d e.on=true):Closed ops (came d i):=fun j oj hj hd e he hbi=>by
 by_cases e1:e.on=i
 ·rw[e1];exact ek d i
 ·rw[kr d e1]
  by_cases e2:j=i
  ·subst e2
   rw[ho] at hj
   obtain rfl:=Option.some.inj hj
   exact hdep e he hbi
  ·rw[kr d e2] at hd
   exact h j oj hj hd e he hbi
structure qms {α:Type} (ops:Array Oper) (base:Act) (H:α→(Nat→Bool)→World→Prop) (V:α→Nat→Value) (T:Nat→Nat) (m:Nat) (d:Nat→Bool) (a:Act) (w:World) (N:α):Prop where
 down:Closed ops d
 mem:H N d w
 size:a.tmps.size=base.tmps.size
 defers:a.defers=base.defers
 rest:∀ t,(∀ j,j<m→t≠T j)→a.tmps[t]? = base.tmps[t]?
 has:∀ i,i<m→d i=true→a.eval (.tmp (T i))=V N i
theorem zdv {P:Program} {id:Nat} {ops:Array Oper} {Q:Exit→Act→World→Prop} {base:Act} {W0:World} (hm:P.follows .mixedOrders=true)
   (hlow:∀ i o,ops[i]? = some o→∀ e ∈ o.after,Region.binds .any e=true→e.on<i)
   (hg:∀ (i:Nat) (o:Oper),ops[i]? = some o→o.guard=none)
   {α:Type} (H:α→(Nat→Bool)→World→Prop) (V:α→Nat→Value) (T:Nat→Nat) (m:Nat) (hsz:ops.size=m)
   (hinj:∀ i j,i<m→j<m→T i=T j→i=j) (hT:∀ i,i<m→T i<base.tmps.size) (N0:α) (h0:H N0 (fun _=>false) W0.drew)
   (hstep:∀ (N:α) (d:Nat→Bool) (i:Nat) (o:Oper) (a:Act) (w:World) (K:Act→World→Prop),i<m→ops[i]? = some o→d i=false→Closed ops d→H N d w→(∀ t,(∀ j,j<m→t≠T j)→a.eval (.tmp t)=base.eval (.tmp t))→(∀ e ∈ o.after,Region.binds .any e=true→d e.on=true∧a.eval (.tmp (T e.on))=V N e.on)→(∀ N' v w',v=V N' i→(∀ j,j<m→d j=true→V N' j=V N j)→H N' (came d i) w'→K (a.put (some (T i)) v) w')→o.wp P a w K Q)
   (hend:∀ N d w,(∀ i,i<m→d i=true)→H N d w→Q .normal (bj base ((List.range m).map fun i=>(T i,V N i))) w) :
   (Code.region id ops true).wp P Q base W0:=by(
 have wpo:∀ i o a w (K:Act→World→Prop),ops[i]? = some o→o.wp P a w K Q→wpOp P ops Q i K a w:=fun i o a w K ho h=>by
  unfold wpOp
  simp only[ho,Region.wanted,hg i o ho,if_true]
  exact .inl h
 refine zbw hm hlow (fun d a w=>∃ N,qms ops base H V T m d a w N) ?_ ?_ ?_
 ·exact⟨N0,fun _ _ _ h=>by simp at h,h0,rfl,rfl,fun _ _=>rfl,fun _ _ h=>by simp at h⟩
 ·(
 rintro d a w hd ⟨N,h⟩
 have ea:a=bj base ((List.range m).map fun i=>(T i,V N i)):=by
  refine zdi _ base a h.defers h.size (fun p hp=>?_) (fun t ht=>?_)
  ·obtain⟨i,hi,rfl⟩:=List.mem_map.1 hp
   have hi':=List.mem_range.1 hi
   exact zfv (h.has i hi' (hd i (by omega))) (by rw[h.size];exact hT i hi')
  ·refine h.rest t (fun j hj e=>?_)
   exact ht (T j,V N j) (List.mem_map.2 ⟨j,List.mem_range.2 hj,rfl⟩) e
 rw[ea]
 exact hend N d w (fun i hi=>hd i (by omega)) h.mem)
 ·(
 rintro d i o a w ho hdi hdep ⟨N,h⟩
 refine wpo i o a w _ ho ?_
 have hi:i<m:=by rw[← hsz];exact (Array.getElem?_eq_some_iff.1 ho).1
 refine hstep N d i o a w _ hi ho hdi h.down h.mem (fun t ht=>zom (h.rest t ht)) (fun ed he hb=>⟨hdep ed he hb,h.has _ (by have:=hlow i o ho ed he hb;omega) (hdep ed he hb)⟩) ?_
 rintro N' v w' rfl hV hH
 refine⟨N',h.down.next ho hdep,hH,by rw[o9];exact h.size,h.defers,fun t ht=>?_,fun j hj hd=>?_⟩
 ·rw[zde,if_neg (fun e=>ht i hi e.symm)];exact h.rest t ht
 ·(
 by_cases e:j=i
 ·subst e
  exact at_eq a (T j) _ (by rw[h.size];exact hT j hj)
 ·rw[kr d e] at hd
  rw[zuj a (T i) (T j) _ (fun e2=>e (hinj j i hj hi e2)),h.has j hj hd]
  exact (hV j hj hd).symm)))
theorem di (a:Act) (w:World) (d:Nat) (u:TypeId) (ps:String) (ed:Array Edge) :
  (execOp a.eval { dst:=some d,op:=Op.alloc 111,type:=u,pos:=ps,after:=ed,guard:=none }).run prog w=.ok (.value (.pointer (some ⟨w.heap.size,0,none⟩))) (w.alloc (.cells #[.bool false,.slice none 0 0] 111)):=by
 unfold execOp
 go_simp
theorem xu (a:Act) (w:World) (d t:Nat) (u:TypeId) (ps:String) (ed:Array Edge) (N:Value) (h:a.eval (.tmp t)=N) :
   (execOp a.eval { dst:=some d,op:=Op.move (.tmp t),type:=u,pos:=ps,after:=ed,guard:=none }).run prog w=.ok (.value N) w:=by(
 unfold execOp
 simp only[h]
 go_simp)
theorem zme (a:Act) (w:World) (d t:Nat) (u:TypeId) (ps:String) (ed:Array Edge) (N:Value) (h:a.eval (.tmp t)=N) :
   (execOp a.eval { dst:=some d,op:=Op.assign (.tmp t),type:=u,pos:=ps,after:=ed,guard:=none }).run prog w=.ok (.value N) w:=by(
 unfold execOp
 simp only[h]
 go_simp)
theorem zdf (a:Act) (w:World) (d t:Nat) (u:TypeId) (ps:String) (ed:Array Edge) (b o:Nat) (h:a.eval (.tmp t)=.pointer (some ⟨b,o,none⟩)) :
   (execOp a.eval { dst:=some d,op:=Op.nilCheck (.tmp t),type:=u,pos:=ps,after:=ed,guard:=none }).run prog w=.ok (.value (.pointer (some ⟨b,o,none⟩))) w:=by(
 unfold execOp
 simp only[h]
 go_simp)
theorem zai (a:Act) (w:World) (d t:Nat) (u:TypeId) (ps:String) (ed:Array Edge) (b:Nat) (h:a.eval (.tmp t)=.pointer (some ⟨b,0,none⟩)) (_hl:b<w.heap.size) :
   (execOp a.eval { dst:=some d,op:=Op.fieldAddr 113 (.tmp t) 0,type:=u,pos:=ps,after:=ed,guard:=none }).run prog w=.ok (.value (.pointer (some ⟨b,0,none⟩))) w:=by(
 unfold execOp
 simp only[h]
 go_simp)
theorem pg (a:Act) (w:World) (d t:Nat) (u:TypeId) (ps:String) (ed:Array Edge) (x:Value) (h:a.eval (.tmp t)=x) :
   (execOp a.eval { dst:=some d,op:=Op.call { callee:=Callee.value (Operand.func 83),args:=#[Operand.tmp t],argTypes:=#[37] },type:=u,pos:=ps,after:=ed,guard:=none }).run prog w=.ok (.enter 83 #[x]) w:=by(
 unfold execOp
 go_simp
 rw[← h]
 simp[Act.eval])
theorem mo (a:Act) (w:World) (d t1 t2 t3:Nat) (u:TypeId) (ps:String) (ed:Array Edge) (x1 x2 x3:Value) (h1:a.eval (.tmp t1)=x1) (h2:a.eval (.tmp t2)=x2) (h3:a.eval (.tmp t3)=x3) :
   (execOp a.eval { dst:=some d,op:=Op.call { callee:=Callee.value (Operand.func 85),args:=#[Operand.tmp t1,Operand.tmp t2,Operand.tmp t3],argTypes:=#[107,107,107] },type:=u,pos:=ps,after:=ed,guard:=none }).run prog w=.ok (.enter 85 #[x1,x2,x3]) w:=by(
 unfold execOp
 go_simp
 rw[← h1,← h2,← h3]
 simp[Act.eval])
theorem zhf (a:Act) (w:World) (d t1 t2 t3:Nat) (u:TypeId) (ps:String) (ed:Array Edge) (x1 x2 x3:Value) (h1:a.eval (.tmp t1)=x1) (h2:a.eval (.tmp t2)=x2) (h3:a.eval (.tmp t3)=x3) :
   (execOp a.eval { dst:=some d,op:=Op.call { callee:=Callee.value (Operand.func 68),args:=#[Operand.tmp t1,Operand.tmp t2,Operand.tmp t3],argTypes:=#[107,107,107] },type:=u,pos:=ps,after:=ed,guard:=none }).run prog w=.ok (.enter 68 #[x1,x2,x3]) w:=by(
 unfold execOp
 go_simp
 rw[← h1,← h2,← h3]
 simp[Act.eval])
theorem zpt (a:Act) (w:World) (d t1 t2 t3:Nat) (u:TypeId) (ps:String) (ed:Array Edge) (x1 x2 x3:Value) (h1:a.eval (.tmp t1)=x1) (h2:a.eval (.tmp t2)=x2) (h3:a.eval (.tmp t3)=x3) :
   (execOp a.eval { dst:=some d,op:=Op.call { callee:=Callee.value (Operand.func 194),args:=#[Operand.tmp t1,Operand.tmp t2,Operand.tmp t3],argTypes:=#[107,107,107] },type:=u,pos:=ps,after:=ed,guard:=none }).run prog w=.ok (.enter 194 #[x1,x2,x3]) w:=by(
 unfold execOp
 go_simp
 rw[← h1,← h2,← h3]
 simp[Act.eval])
theorem zgs {w P w1:World} {A:Nat} {v:Value} {z:Int} (hs:Slot P A 0) (hw:But [] w P) (hA:w.heap.size≤A) (hb:But [] P w1) (hv:Sl .u32 w1 v (wd 4294967296 z.natAbs)) :
  But [] w (sj w1 A 0 v (decide (z<0)))∧zh (sj w1 A 0 v (decide (z<0))) A 0 z∧(∀ B,B≠A→Slot P B 0→Slot (sj w1 A 0 v (decide (z<0))) B 0)∧(∀ b o z',b≠A→zh P b o z'→zh (sj w1 A 0 v (decide (z<0))) b o z')∧P.heap.size≤(sj w1 A 0 v (decide (z<0))).heap.size:=by
 have hs1:=hs.but hb (by simp)
 exact⟨(hw.trans' hb).trans (zcq ..) (by simp;exact hA),zcp hs1 _ _ hv,fun B hB hS=>yj _ _ (hS.but hb (by simp)) (.inl hB),fun b o z' hB hI=>dz hs1 _ _ (hI.but hb) (.inl hB),by rw[zga];exact hb.size⟩
structure xh (W:World) (P Q R:Int) (b0 b1 b8:Nat) (a0 a1 a8 p q r z:Bool) (w:World):Prop where
 but:But [] W w
 s0:a0=true→W.heap.size≤b0∧b0<w.heap.size∧(r=false→Slot w b0 0)
 s1:a1=true→W.heap.size≤b1∧b1<w.heap.size∧(p=false→Slot w b1 0)
 s8:a8=true→W.heap.size≤b8∧b8<w.heap.size∧(q=false→Slot w b8 0)
 n01:a0=true→a1=true→b0≠b1
 n08:a0=true→a8=true→b0≠b8
 n18:a1=true→a8=true→b1≠b8
 hp:p=true→a1=true∧zh w b1 0 P
 hq:q=true→a8=true∧zh w b8 0 Q
 hr:r=true→a0=true∧zh w b0 0 R
 hz:z=true→r=true
theorem xh.zwr {W:World} {P Q R:Int} {b0 b1 b8:Nat} {a1 a8 p q r z:Bool} {w:World} (h:xh W P Q R b0 b1 b8 false a1 a8 p q r z w) (t:TypeId):xh W P Q R w.heap.size b1 b8 true a1 a8 p q r z (w.alloc (.cells #[.bool false,.slice none 0 0] t)):=by(
 have hb:But [] w (w.alloc (.cells #[.bool false,.slice none 0 0] t)):=(But.refl _ _).alloc _
 have hs:=hb.size
 exact⟨h.but.trans' hb,fun _=>⟨h.but.size,by simp,fun _=>jq w t⟩,fun e=>⟨(h.s1 e).1,Nat.lt_of_lt_of_le (h.s1 e).2.1 hs,fun k=>((h.s1 e).2.2 k).but hb (by simp)⟩,fun e=>⟨(h.s8 e).1,Nat.lt_of_lt_of_le (h.s8 e).2.1 hs,fun k=>((h.s8 e).2.2 k).but hb (by simp)⟩,
  fun _ e=>Ne.symm (Nat.ne_of_lt (h.s1 e).2.1),fun _ e=>Ne.symm (Nat.ne_of_lt (h.s8 e).2.1),h.n18,fun e=>⟨(h.hp e).1,(h.hp e).2.but hb⟩,fun e=>⟨(h.hq e).1,(h.hq e).2.but hb⟩,fun e=>by have:=(h.hr e).1;simp at this,h.hz⟩)
theorem xh.zwq {W:World} {P Q R:Int} {b0 b1 b8:Nat} {a0 a8 p q r z:Bool} {w:World} (h:xh W P Q R b0 b1 b8 a0 false a8 p q r z w) (t:TypeId):xh W P Q R b0 w.heap.size b8 a0 true a8 p q r z (w.alloc (.cells #[.bool false,.slice none 0 0] t)):=by(
 have hb:But [] w (w.alloc (.cells #[.bool false,.slice none 0 0] t)):=(But.refl _ _).alloc _
 have hs:=hb.size
 exact⟨h.but.trans' hb,fun e=>⟨(h.s0 e).1,Nat.lt_of_lt_of_le (h.s0 e).2.1 hs,fun k=>((h.s0 e).2.2 k).but hb (by simp)⟩,fun _=>⟨h.but.size,by simp,fun _=>jq w t⟩,fun e=>⟨(h.s8 e).1,Nat.lt_of_lt_of_le (h.s8 e).2.1 hs,fun k=>((h.s8 e).2.2 k).but hb (by simp)⟩,
  fun e _=>Nat.ne_of_lt (h.s0 e).2.1,h.n08,fun _ e=>Ne.symm (Nat.ne_of_lt (h.s8 e).2.1),fun e=>by have:=(h.hp e).1;simp at this,fun e=>⟨(h.hq e).1,(h.hq e).2.but hb⟩,fun e=>⟨(h.hr e).1,(h.hr e).2.but hb⟩,h.hz⟩)
theorem xh.zwp {W:World} {P Q R:Int} {b0 b1 b8:Nat} {a0 a1 p q r z:Bool} {w:World} (h:xh W P Q R b0 b1 b8 a0 a1 false p q r z w) (t:TypeId):xh W P Q R b0 b1 w.heap.size a0 a1 true p q r z (w.alloc (.cells #[.bool false,.slice none 0 0] t)):=by(
 have hb:But [] w (w.alloc (.cells #[.bool false,.slice none 0 0] t)):=(But.refl _ _).alloc _
 have hs:=hb.size
 exact⟨h.but.trans' hb,fun e=>⟨(h.s0 e).1,Nat.lt_of_lt_of_le (h.s0 e).2.1 hs,fun k=>((h.s0 e).2.2 k).but hb (by simp)⟩,fun e=>⟨(h.s1 e).1,Nat.lt_of_lt_of_le (h.s1 e).2.1 hs,fun k=>((h.s1 e).2.2 k).but hb (by simp)⟩,fun _=>⟨h.but.size,by simp,fun _=>jq w t⟩,
  h.n01,fun e _=>Nat.ne_of_lt (h.s0 e).2.1,fun e _=>Nat.ne_of_lt (h.s1 e).2.1,fun e=>⟨(h.hp e).1,(h.hp e).2.but hb⟩,fun e=>by have:=(h.hq e).1;simp at this,fun e=>⟨(h.hr e).1,(h.hr e).2.but hb⟩,h.hz⟩)
theorem xh.qlv {W:World} {P Q R:Int} {b0 b1 b8:Nat} {a0 a8 q r z:Bool} {w w':World} (h:xh W P Q R b0 b1 b8 a0 true a8 false q r z w) (hw:But [] W w') (hI:zh w' b1 0 P) (hS:∀ B,B≠b1→Slot w B 0→Slot w' B 0) (hK:∀ b o z',b≠b1→zh w b o z'→zh w' b o z') (hl:w.heap.size≤w'.heap.size):xh W P Q R b0 b1 b8 a0 true a8 true q r z w' :=
 ⟨hw,fun e=>⟨(h.s0 e).1,Nat.lt_of_lt_of_le (h.s0 e).2.1 hl,fun k=>hS _ (h.n01 e rfl) ((h.s0 e).2.2 k)⟩,fun e=>⟨(h.s1 e).1,Nat.lt_of_lt_of_le (h.s1 e).2.1 hl,fun k=>by simp at k⟩,fun e=>⟨(h.s8 e).1,Nat.lt_of_lt_of_le (h.s8 e).2.1 hl,fun k=>hS _ (Ne.symm (h.n18 rfl e)) ((h.s8 e).2.2 k)⟩,
  h.n01,h.n08,h.n18,fun _=>⟨rfl,hI⟩,fun e=>⟨(h.hq e).1,hK _ _ _ (Ne.symm (h.n18 rfl (h.hq e).1)) (h.hq e).2⟩,fun e=>⟨(h.hr e).1,hK _ _ _ (h.n01 (h.hr e).1 rfl) (h.hr e).2⟩,h.hz⟩
theorem xh.qlu {W:World} {P Q R:Int} {b0 b1 b8:Nat} {a0 a1 p r z:Bool} {w w':World} (h:xh W P Q R b0 b1 b8 a0 a1 true p false r z w) (hw:But [] W w') (hI:zh w' b8 0 Q) (hS:∀ B,B≠b8→Slot w B 0→Slot w' B 0) (hK:∀ b o z',b≠b8→zh w b o z'→zh w' b o z') (hl:w.heap.size≤w'.heap.size):xh W P Q R b0 b1 b8 a0 a1 true p true r z w' :=
 ⟨hw,fun e=>⟨(h.s0 e).1,Nat.lt_of_lt_of_le (h.s0 e).2.1 hl,fun k=>hS _ (h.n08 e rfl) ((h.s0 e).2.2 k)⟩,fun e=>⟨(h.s1 e).1,Nat.lt_of_lt_of_le (h.s1 e).2.1 hl,fun k=>hS _ (h.n18 e rfl) ((h.s1 e).2.2 k)⟩,fun e=>⟨(h.s8 e).1,Nat.lt_of_lt_of_le (h.s8 e).2.1 hl,fun k=>by simp at k⟩,
  h.n01,h.n08,h.n18,fun e=>⟨(h.hp e).1,hK _ _ _ (h.n18 (h.hp e).1 rfl) (h.hp e).2⟩,fun _=>⟨rfl,hI⟩,fun e=>⟨(h.hr e).1,hK _ _ _ (h.n08 (h.hr e).1 rfl) (h.hr e).2⟩,h.hz⟩
theorem xh.si {W:World} {P Q R:Int} {b0 b1 b8:Nat} {a1 a8 p q z:Bool} {w w':World} (h:xh W P Q R b0 b1 b8 true a1 a8 p q false z w) (hw:But [] W w') (hI:zh w' b0 0 R) (hS:∀ B,B≠b0→Slot w B 0→Slot w' B 0) (hK:∀ b o z',b≠b0→zh w b o z'→zh w' b o z') (hl:w.heap.size≤w'.heap.size):xh W P Q R b0 b1 b8 true a1 a8 p q true z w' :=
 ⟨hw,fun e=>⟨(h.s0 e).1,Nat.lt_of_lt_of_le (h.s0 e).2.1 hl,fun k=>by simp at k⟩,fun e=>⟨(h.s1 e).1,Nat.lt_of_lt_of_le (h.s1 e).2.1 hl,fun k=>hS _ (Ne.symm (h.n01 rfl e)) ((h.s1 e).2.2 k)⟩,fun e=>⟨(h.s8 e).1,Nat.lt_of_lt_of_le (h.s8 e).2.1 hl,fun k=>hS _ (Ne.symm (h.n08 rfl e)) ((h.s8 e).2.2 k)⟩,
  h.n01,h.n08,h.n18,fun e=>⟨(h.hp e).1,hK _ _ _ (Ne.symm (h.n01 rfl (h.hp e).1)) (h.hp e).2⟩,fun e=>⟨(h.hq e).1,hK _ _ _ (Ne.symm (h.n08 rfl (h.hq e).1)) (h.hq e).2⟩,fun _=>⟨rfl,hI⟩,fun _=>rfl⟩
theorem xh.done {W:World} {P Q R:Int} {b0 b1 b8:Nat} {a0 a1 a8 p q z:Bool} {w:World} (h:xh W P Q R b0 b1 b8 a0 a1 a8 p q true z w):xh W P Q R b0 b1 b8 a0 a1 a8 p q true true w :=
 ⟨h.but,h.s0,h.s1,h.s8,h.n01,h.n08,h.n18,h.hp,h.hq,h.hr,fun _=>rfl⟩
def qgv:Oper:=⟨some 8,.alloc 111,107, "rat.go:118",#[],none⟩
def qgu:Oper:=⟨some 9,.alloc 111,107, "rat.go:118",#[],none⟩
def qgt:Oper:=⟨some 10,.move (.tmp 1),37, "rat.go:118",#[],none⟩
def qgs:Oper:=⟨some 11,.nilCheck (.tmp 10),0, "rat.go:118",#[⟨2,.data⟩],none⟩
def qgr:Oper:=⟨some 12,.fieldAddr 113 (.tmp 11) 0,0, "rat.go:118",#[⟨3,.data⟩],none⟩
def qgq:Oper:=⟨some 13,.move (.tmp 2),37, "rat.go:118",#[],none⟩
def qgp:Oper:=⟨some 14,.call { callee:=.value (.func 83),args:=#[.tmp 13],argTypes:=#[37] },107, "rat.go:118",#[⟨5,.data⟩],none⟩
def qgo:Oper:=⟨some 15,.call { callee:=.value (.func 85),args:=#[.tmp 9,.tmp 12,.tmp 14],argTypes:=#[107,107,107] },107, "rat.go:118",#[⟨1,.data⟩,⟨4,.data⟩,⟨6,.data⟩,⟨6,.chain⟩],none⟩
def qgn:Oper:=⟨some 16,.alloc 111,107, "rat.go:118",#[],none⟩
def qgm:Oper:=⟨some 17,.move (.tmp 2),37, "rat.go:118",#[],none⟩
def zwz:Oper:=⟨some 18,.nilCheck (.tmp 17),0, "rat.go:118",#[⟨9,.data⟩],none⟩
def zwy:Oper:=⟨some 19,.fieldAddr 113 (.tmp 18) 0,0, "rat.go:118",#[⟨10,.data⟩],none⟩
def zwx:Oper:=⟨some 20,.move (.tmp 1),37, "rat.go:118",#[],none⟩
def zww:Oper:=⟨some 21,.call { callee:=.value (.func 83),args:=#[.tmp 20],argTypes:=#[37] },107, "rat.go:118",#[⟨12,.data⟩,⟨7,.chain⟩],none⟩
def zwv:Oper:=⟨some 22,.call { callee:=.value (.func 85),args:=#[.tmp 16,.tmp 19,.tmp 21],argTypes:=#[107,107,107] },107, "rat.go:118",#[⟨8,.data⟩,⟨11,.data⟩,⟨13,.data⟩,⟨13,.chain⟩],none⟩
def zwu:Oper:=⟨some 23,.call { callee:=.value (.func 68),args:=#[.tmp 8,.tmp 15,.tmp 22],argTypes:=#[107,107,107] },107, "rat.go:118",#[⟨0,.data⟩,⟨7,.data⟩,⟨14,.data⟩,⟨14,.chain⟩],none⟩
def zwt:Oper:=⟨some 7,.assign (.tmp 23),107, "rat.go:118",#[⟨15,.data⟩,⟨15,.chain⟩,⟨0,.phase⟩,⟨1,.phase⟩,⟨2,.phase⟩,⟨3,.phase⟩,⟨4,.phase⟩,⟨5,.phase⟩,⟨6,.phase⟩,⟨7,.phase⟩,⟨8,.phase⟩,⟨9,.phase⟩,⟨10,.phase⟩,⟨11,.phase⟩,⟨12,.phase⟩,⟨13,.phase⟩,⟨14,.phase⟩,⟨15,.phase⟩],none⟩
def jk:Array Oper:=#[qgv,qgu,qgt,qgs,qgr,qgq,qgp,qgo,qgn,qgm,zwz,zwy,zwx,zww,zwv,zwu,zwt]
def zen (i:Nat):Nat:=match i with
 | 0=>8
 | 1=>9
 | 2=>10
 | 3=>11
 | 4=>12
 | 5=>13
 | 6=>14
 | 7=>15
 | 8=>16
 | 9=>17
 | 10=>18
 | 11=>19
 | 12=>20
 | 13=>21
 | 14=>22
 | 15=>23
 | _=>7
def qlb (xb yb:Nat) (N:Nat × Nat × Nat) (i:Nat):Value:=match i with
 | 0=>.pointer (some ⟨N.1,0,none⟩)
 | 1=>.pointer (some ⟨N.2.1,0,none⟩)
 | 2=>.pointer (some ⟨xb,0,none⟩)
 | 3=>.pointer (some ⟨xb,0,none⟩)
 | 4=>.pointer (some ⟨xb,0,none⟩)
 | 5=>.pointer (some ⟨yb,0,none⟩)
 | 6=>.pointer (some ⟨yb,2,none⟩)
 | 7=>.pointer (some ⟨N.2.1,0,none⟩)
 | 8=>.pointer (some ⟨N.2.2,0,none⟩)
 | 9=>.pointer (some ⟨yb,0,none⟩)
 | 10=>.pointer (some ⟨yb,0,none⟩)
 | 11=>.pointer (some ⟨yb,0,none⟩)
 | 12=>.pointer (some ⟨xb,0,none⟩)
 | 13=>.pointer (some ⟨xb,2,none⟩)
 | 14=>.pointer (some ⟨N.2.2,0,none⟩)
 | 15=>.pointer (some ⟨N.1,0,none⟩)
 | _=>.pointer (some ⟨N.1,0,none⟩)
theorem zph:∀ i j,i<17→j<17→zen i=zen j→i=j:=fun i j hi hj=>(by decide:∀ i,i<17→∀ j,j<17→zen i=zen j→i=j) i hi j hj
theorem zws (id:Nat) (Q:Exit→Act→World→Prop) (base:Act) (W0:World) (xb yb:Nat) (x y P Z R:Int) (nx ny:Nat) (hs:23<base.tmps.size) (e1:base.eval (.tmp 1)=.pointer (some ⟨xb,0,none⟩)) (e2:base.eval (.tmp 2)=.pointer (some ⟨yb,0,none⟩))
   (hx:zw W0 xb x (nx:Int)) (hy:zw W0 yb y (ny:Int)) (hnx:0<nx) (hny:0<ny) (hxl:(wd 4294967296 x.natAbs).length<8388608) (hyl:(wd 4294967296 y.natAbs).length<8388608) (hnxl:(wd 4294967296 nx).length<8388608) (hnyl:(wd 4294967296 ny).length<8388608) (hP:x*(ny:Int)=P) (hZ:y*(nx:Int)=Z) (hR:R=P+Z) (hPl:(wd 4294967296 P.natAbs).length<8388608) (hZl:(wd 4294967296 Z.natAbs).length<8388608) (hRl:(wd 4294967296 R.natAbs).length<8388608)
   (hQ:∀ w b0 b1 b8,But [] W0 w→W0.heap.size≤b0→zh w b0 0 R→Q .normal (bj base [(8,.pointer (some ⟨b0,0,none⟩)),(9,.pointer (some ⟨b1,0,none⟩)),(10,.pointer (some ⟨xb,0,none⟩)),(11,.pointer (some ⟨xb,0,none⟩)),(12,.pointer (some ⟨xb,0,none⟩)),(13,.pointer (some ⟨yb,0,none⟩)),(14,.pointer (some ⟨yb,2,none⟩)),(15,.pointer (some ⟨b1,0,none⟩)),(16,.pointer (some ⟨b8,0,none⟩)),(17,.pointer (some ⟨yb,0,none⟩)),(18,.pointer (some ⟨yb,0,none⟩)),(19,.pointer (some ⟨yb,0,none⟩)),(20,.pointer (some ⟨xb,0,none⟩)),(21,.pointer (some ⟨xb,2,none⟩)),(22,.pointer (some ⟨b8,0,none⟩)),(23,.pointer (some ⟨b0,0,none⟩)),(7,.pointer (some ⟨b0,0,none⟩))]) w) :
   (Code.region id jk true).wp prog Q base W0:=by(
 have hdr:∀ {w},But [] W0.drew w→But [] W0 w:=fun h=>(But.refl _ _).drew.trans' h
 have hT:∀ i,i<17→zen i<base.tmps.size:=fun i hi=>by
  have h:zen i≤23:=by revert i;decide
  omega
 have lx:=hx.lt
 have ly:=hy.lt
 refine zdv (by kernel_rfl) (ou (by kernel_rfl)) (zln (by kernel_rfl)) (α:=Nat × Nat × Nat) (fun N d w=>xh W0.drew P Z R N.1 N.2.1 N.2.2 (d 0) (d 1) (d 8) (d 7) (d 14) (d 15) (d 16) w) (qlb xb yb) zen 17 (by kernel_rfl) zph hT (0,0,0) ?_ ?_ ?_
 ·exact⟨But.refl _ _,by simp,by simp,by simp,by simp,by simp,by simp,by simp,by simp,by simp,by simp⟩
 ·(
 rintro ⟨b0,b1,b8⟩ d i o a w K hi ho hdi hCl hH he hdep hk
 have hH':xh W0.drew P Z R b0 b1 b8 (d 0) (d 1) (d 8) (d 7) (d 14) (d 15) (d 16) w:=hH
 have hD:=zqx (ps:=[(3,2),(4,3),(6,5),(7,1),(7,4),(7,6),(10,9),(11,10),(13,7),(13,12),(14,8),(14,11),(14,13),(15,0),(15,7),(15,14),(16,0),(16,1),(16,2),(16,3),(16,4),(16,5),(16,6),(16,7),(16,8),(16,9),(16,10),(16,11),(16,12),(16,13),(16,14),(16,15)]) (by kernel_rfl) ho (fun j=>d j=true∧a.eval (.tmp (zen j))=qlb xb yb (b0,b1,b8) j) hdep
 have e1':=(he 1 (fun j hj e=>absurd e.symm (by revert j;decide))).trans e1
 have e2':=(he 2 (fun j hj e=>absurd e.symm (by revert j;decide))).trans e2
 have hB:=hdr hH'.but
 have hlw:=hB.size
 have:i=0∨i=1∨i=2∨i=3∨i=4∨i=5∨i=6∨i=7∨i=8∨i=9∨i=10∨i=11∨i=12∨i=13∨i=14∨i=15∨i=16:=by omega
 rcases this with rfl|rfl|rfl|rfl|rfl|rfl|rfl|rfl|rfl|rfl|rfl|rfl|rfl|rfl|rfl|rfl|rfl
 ·(
 obtain rfl:=so (show jk[0]? =some qgv from rfl) ho
 rw[hdi] at hH'
 refine zi (di a w _ _ _ _) (hk (w.heap.size,b1,b8) _ _ rfl (fun j hj hdj=>?_) (hH'.zwr _))
 have:j=0∨j=1∨j=2∨j=3∨j=4∨j=5∨j=6∨j=7∨j=8∨j=9∨j=10∨j=11∨j=12∨j=13∨j=14∨j=15∨j=16:=by omega
 rcases this with rfl|rfl|rfl|rfl|rfl|rfl|rfl|rfl|rfl|rfl|rfl|rfl|rfl|rfl|rfl|rfl|rfl
 all_goals first
  | rfl
  | (rw[hdi] at hdj;simp at hdj)
  | (exfalso;first | (have:=(hH'.hr hdj).1;simp at this) | (have:=(hH'.hr (hH'.hz hdj)).1;simp at this)))
 ·(
 obtain rfl:=so (show jk[1]? =some qgu from rfl) ho
 rw[hdi] at hH'
 refine zi (di a w _ _ _ _) (hk (b0,w.heap.size,b8) _ _ rfl (fun j hj hdj=>?_) (hH'.zwq _))
 have:j=0∨j=1∨j=2∨j=3∨j=4∨j=5∨j=6∨j=7∨j=8∨j=9∨j=10∨j=11∨j=12∨j=13∨j=14∨j=15∨j=16:=by omega
 rcases this with rfl|rfl|rfl|rfl|rfl|rfl|rfl|rfl|rfl|rfl|rfl|rfl|rfl|rfl|rfl|rfl|rfl
 all_goals first
  | rfl
  | (rw[hdi] at hdj;simp at hdj)
  | (exfalso;have:=(hH'.hp hdj).1;simp at this))
 ·obtain rfl:=so (show jk[2]? =some qgt from rfl) ho
  exact zi (xu a w _ _ _ _ _ _ e1') (hk (b0,b1,b8) _ _ rfl (fun _ _ _=>rfl) hH)
 ·obtain rfl:=so (show jk[3]? =some qgs from rfl) ho
  exact zi (zdf a w _ _ _ _ _ _ 0 (hD 2 (by simp)).2) (hk (b0,b1,b8) _ _ rfl (fun _ _ _=>rfl) hH)
 ·obtain rfl:=so (show jk[4]? =some qgr from rfl) ho
  exact zi (zai a w _ _ _ _ _ _ (hD 3 (by simp)).2 (by omega)) (hk (b0,b1,b8) _ _ rfl (fun _ _ _=>rfl) hH)
 ·obtain rfl:=so (show jk[5]? =some qgq from rfl) ho
  exact zi (xu a w _ _ _ _ _ _ e2') (hk (b0,b1,b8) _ _ rfl (fun _ _ _=>rfl) hH)
 ·obtain rfl:=so (show jk[6]? =some qgp from rfl) ho
  refine jd (pg a w _ _ _ _ _ _ (hD 5 (by simp)).2) (R:=fun w' v=>v=.pointer (some ⟨yb,2,none⟩)∧w'=w) ((xg yb y ny w (hy.but hB) hny).mono (fun e w' h=>⟨_,h.1,rfl,h.2⟩)) ?_
  rintro v w' ⟨rfl,rfl⟩
  exact hk (b0,b1,b8) _ _ rfl (fun _ _ _=>rfl) hH
 ·(
 obtain rfl:=so (show jk[7]? =some qgo from rfl) ho
 have hs1:=hH'.s1 (hD 1 (by simp)).1
 rw[hdi] at hs1
 refine jd (mo a w _ _ _ _ _ _ _ _ _ _ (hD 1 (by simp)).2 (hD 4 (by simp)).2 (hD 6 (by simp)).2) (R:=fun w' v=>v=.pointer (some ⟨b1,0,none⟩)∧But [] W0.drew w'∧zh w' b1 0 P∧(∀ B,B≠b1→Slot w B 0→Slot w' B 0)∧(∀ b o z',b≠b1→zh w b o z'→zh w' b o z')∧w.heap.size≤w'.heap.size) ((je b1 xb 0 yb 2 x (ny:Int) P hP W0.drew w (hs1.2.2 rfl) hH'.but hs1.1 hx.drew.up hy.drew.low hxl (by rw[Int.natAbs_natCast];exact hnyl) hPl).mono (fun e w' h=>⟨_,h.1,rfl,h.2⟩)) ?_
 rintro v w' ⟨rfl,k1,k2,k3,k4,k5⟩
 rw[hdi,(hD 1 (by simp)).1] at hH'
 refine hk (b0,b1,b8) _ _ rfl (fun _ _ _=>rfl) ?_
 show xh W0.drew P Z R b0 b1 b8 (d 0) (d 1) (d 8) true (d 14) (d 15) (d 16) w'
 rw[(hD 1 (by simp)).1]
 exact hH'.qlv k1 k2 k3 k4 k5)
 ·(
 obtain rfl:=so (show jk[8]? =some qgn from rfl) ho
 rw[hdi] at hH'
 refine zi (di a w _ _ _ _) (hk (b0,b1,w.heap.size) _ _ rfl (fun j hj hdj=>?_) (hH'.zwp _))
 have:j=0∨j=1∨j=2∨j=3∨j=4∨j=5∨j=6∨j=7∨j=8∨j=9∨j=10∨j=11∨j=12∨j=13∨j=14∨j=15∨j=16:=by omega
 rcases this with rfl|rfl|rfl|rfl|rfl|rfl|rfl|rfl|rfl|rfl|rfl|rfl|rfl|rfl|rfl|rfl|rfl
 all_goals first
  | rfl
  | (rw[hdi] at hdj;simp at hdj)
  | (exfalso;have:=(hH'.hq hdj).1;simp at this))
 ·obtain rfl:=so (show jk[9]? =some qgm from rfl) ho
  exact zi (xu a w _ _ _ _ _ _ e2') (hk (b0,b1,b8) _ _ rfl (fun _ _ _=>rfl) hH)
 ·obtain rfl:=so (show jk[10]? =some zwz from rfl) ho
  exact zi (zdf a w _ _ _ _ _ _ 0 (hD 9 (by simp)).2) (hk (b0,b1,b8) _ _ rfl (fun _ _ _=>rfl) hH)
 ·obtain rfl:=so (show jk[11]? =some zwy from rfl) ho
  exact zi (zai a w _ _ _ _ _ _ (hD 10 (by simp)).2 (by omega)) (hk (b0,b1,b8) _ _ rfl (fun _ _ _=>rfl) hH)
 ·obtain rfl:=so (show jk[12]? =some zwx from rfl) ho
  exact zi (xu a w _ _ _ _ _ _ e1') (hk (b0,b1,b8) _ _ rfl (fun _ _ _=>rfl) hH)
 ·obtain rfl:=so (show jk[13]? =some zww from rfl) ho
  refine jd (pg a w _ _ _ _ _ _ (hD 12 (by simp)).2) (R:=fun w' v=>v=.pointer (some ⟨xb,2,none⟩)∧w'=w) ((xg xb x nx w (hx.but hB) hnx).mono (fun e w' h=>⟨_,h.1,rfl,h.2⟩)) ?_
  rintro v w' ⟨rfl,rfl⟩
  exact hk (b0,b1,b8) _ _ rfl (fun _ _ _=>rfl) hH
 ·(
 obtain rfl:=so (show jk[14]? =some zwv from rfl) ho
 have hs1:=hH'.s8 (hD 8 (by simp)).1
 rw[hdi] at hs1
 refine jd (mo a w _ _ _ _ _ _ _ _ _ _ (hD 8 (by simp)).2 (hD 11 (by simp)).2 (hD 13 (by simp)).2) (R:=fun w' v=>v=.pointer (some ⟨b8,0,none⟩)∧But [] W0.drew w'∧zh w' b8 0 Z∧(∀ B,B≠b8→Slot w B 0→Slot w' B 0)∧(∀ b o z',b≠b8→zh w b o z'→zh w' b o z')∧w.heap.size≤w'.heap.size) ((je b8 yb 0 xb 2 y (nx:Int) Z hZ W0.drew w (hs1.2.2 rfl) hH'.but hs1.1 hy.drew.up hx.drew.low hyl (by rw[Int.natAbs_natCast];exact hnxl) hZl).mono (fun e w' h=>⟨_,h.1,rfl,h.2⟩)) ?_
 rintro v w' ⟨rfl,k1,k2,k3,k4,k5⟩
 rw[hdi,(hD 8 (by simp)).1] at hH'
 refine hk (b0,b1,b8) _ _ rfl (fun _ _ _=>rfl) ?_
 show xh W0.drew P Z R b0 b1 b8 (d 0) (d 1) (d 8) (d 7) true (d 15) (d 16) w'
 rw[(hD 8 (by simp)).1]
 exact hH'.qlu k1 k2 k3 k4 k5)
 ·(
 obtain rfl:=so (show jk[15]? =some zwu from rfl) ho
 have d0:=(hD 0 (by simp)).1
 have hs1:=hH'.s0 d0
 rw[hdi] at hs1
 have hp7:=hH'.hp (hD 7 (by simp)).1
 have hq14:=hH'.hq (hD 14 (by simp)).1
 refine jd (zhf a w _ _ _ _ _ _ _ _ _ _ (hD 0 (by simp)).2 (hD 7 (by simp)).2 (hD 14 (by simp)).2) (R:=fun w' v=>v=.pointer (some ⟨b0,0,none⟩)∧But [] W0.drew w'∧zh w' b0 0 R∧(∀ B,B≠b0→Slot w B 0→Slot w' B 0)∧(∀ b o z',b≠b0→zh w b o z'→zh w' b o z')∧w.heap.size≤w'.heap.size) ((zku b0 0 b1 0 b8 0 P Z R w (hs1.2.2 rfl) (hH'.n01 d0 hp7.1) (hH'.n08 d0 hq14.1) hp7.2 hq14.2 hPl hZl (by omega) hR).mono (fun e w' h=>by
  obtain⟨h1,w1,v,h2,h3,rfl⟩:=h
  exact⟨_,h1,rfl,zgs (hs1.2.2 rfl) hH'.but hs1.1 h2 h3⟩)) ?_
 rintro v w' ⟨rfl,k1,k2,k3,k4,k5⟩
 rw[hdi,d0] at hH'
 refine hk (b0,b1,b8) _ _ rfl (fun _ _ _=>rfl) ?_
 show xh W0.drew P Z R b0 b1 b8 (d 0) (d 1) (d 8) (d 7) (d 14) true (d 16) w'
 rw[d0]
 exact hH'.si k1 k2 k3 k4 k5)
 ·(
 obtain rfl:=so (show jk[16]? =some zwt from rfl) ho
 have d15:=(hD 15 (by simp)).1
 rw[d15] at hH'
 refine zi (zme a w _ _ _ _ _ _ (hD 15 (by simp)).2) (hk (b0,b1,b8) _ _ rfl (fun _ _ _=>rfl) ?_)
 show xh W0.drew P Z R b0 b1 b8 (d 0) (d 1) (d 8) (d 7) (d 14) (d 15) true w
 rw[d15]
 exact hH'.done))
 ·rintro ⟨b0,b1,b8⟩ d w hd hH
  have hH':xh W0.drew P Z R b0 b1 b8 (d 0) (d 1) (d 8) (d 7) (d 14) (d 15) (d 16) w:=hH
  exact hQ w b0 b1 b8 (hdr hH'.but) (hH'.s0 (hd 0 (by omega))).1 (hH'.hr (hd 15 (by omega))).2)
theorem zsn (zb xb yb:Nat) (x y:Int) (nx ny:Nat) (w:World) (hz0:Slot w zb 0) (hz2:Slot w zb 2) (hx:zw w xb x (nx:Int)) (hy:zw w yb y (ny:Int)) (hnx:0<nx) (hny:0<ny) (hxl:(wd 4294967296 x.natAbs).length<8388608) (hyl:(wd 4294967296 y.natAbs).length<8388608) (hnxl:(wd 4294967296 nx).length<8388608) (hnyl:(wd 4294967296 ny).length<8388608) (P Z R D:Int) (hP:x*(ny:Int)=P) (hZ:y*(nx:Int)=Z) (hR:R=P+Z) (hD:(nx:Int)*(ny:Int)=D) (hPl:(wd 4294967296 P.natAbs).length<8388608) (hZl:(wd 4294967296 Z.natAbs).length<8388608) (hRl:(wd 4294967296 R.natAbs).length<8388608) (hDl:(wd 4294967296 D.natAbs).length<8388608) (hD0:D≠0) (A B:Int) (eA:Hid (A=zdg (if D<0 then -R else R) D.natAbs)) (eB:Hid (B=zdh R D.natAbs)) :
   Calls prog 162 #[.pointer (some ⟨zb,0,none⟩),.pointer (some ⟨xb,0,none⟩),.pointer (some ⟨yb,0,none⟩)] w fun e w'=>e=.returned (.pointer (some ⟨zb,0,none⟩))∧But [zb] w w'∧zw w' zb A B:=by(
 have HX:=af hx
 have HY:=af hy
 have HZ0:=af hz0
 have HZ2:=af hz2
 have REG:=af (fun (Q:Exit→Act→World→Prop) (base:Act) (hs:23<base.tmps.size) (e1:base.eval (.tmp 1)=.pointer (some ⟨xb,0,none⟩)) (e2:base.eval (.tmp 2)=.pointer (some ⟨yb,0,none⟩))=>zws 1 Q base w xb yb x y P Z R nx ny hs e1 e2 hx hy hnx hny hxl hyl hnxl hnyl hP hZ hR hPl hZl hRl)
 have DX:=af (fun W (h:zw W xb x (nx:Int))=>xg xb x nx W h hnx)
 have DY:=af (fun W (h:zw W yb y (ny:Int))=>xg yb y ny W h hny)
 have MU:=af (fun (A:Nat) (w P:World) (hs:Slot P A 0) (hw:But [] w P) (hA:w.heap.size≤A) (hx:zw w xb x (nx:Int)) (hy:zw w yb y (ny:Int))=>je A xb 2 yb 2 (nx:Int) (ny:Int) D hD w P hs hw hA hx.low hy.low (by rw[Int.natAbs_natCast];exact hnxl) (by rw[Int.natAbs_natCast];exact hnyl) hDl)
 have SF:=af (fun (b0 b1:Nat) (W:World) (h0:Slot W zb 0) (h2:Slot W zb 2) (ha:zh W b0 0 R) (hb:zh W b1 0 D)=>dh zb b0 0 b1 0 R D W h0 h2 ha hb hRl hDl hD0 A B eA eB)
 clear hx hy hz0 hz2 hnx hny hxl hyl hnxl hnyl hP hZ hR hD hPl hZl hRl hDl hD0 eA eB
 go_enter func162,ntmps162
 go_wp2_with fail
 refine ae REG _ _ (by simp) (by simp[Act.eval]) (by simp[Act.eval]) ?_
 intro w1 b0 b1 b8 hb1 hb0 hI
 simp only[bj,List.foldl_cons,List.foldl_nil,Act.put,List.setIfInBounds_toArray,List.set_cons_zero,List.set_cons_succ]
 obtain⟨W0,hW0⟩:∃ W0,W0=w1.alloc (.cells #[.bool false,.slice none 0 0] 111):=⟨_,rfl⟩
 have hs:=jq w1 111
 rw[← hW0] at hs
 have hbw:But [] w1 W0:=by rw[hW0];exact (But.refl _ _).alloc _
 have hb2:=hb1.trans' hbw
 have K0:=af (And.intro hs (And.intro hbw (And.intro hb1 (And.intro hb0 hI))))
 have KX:=af ((ae HX).but hb2)
 have KY:=af ((ae HY).but hb2)
 have HW0:=af hW0
 clear hW0 hs hbw hb1 hb0 hb2 hI
 obtain⟨g,hg⟩:∃ g,g=w1.heap.size:=⟨_,rfl⟩
 go_wp2_with fail
 rw[← ae HW0,← hg]
 rw[← hg] at K0
 have HG:=af hg
 clear hg
 refine (ae DX _ (ae KX)).mono ?_
 rintro e w2 ⟨rfl,hw⟩
 obtain rfl:=hw.symm
 clear hw
 go_wp2_with fail
 refine (ae DY _ (ae KY)).mono ?_
 rintro e w2 ⟨rfl,hw⟩
 obtain rfl:=hw.symm
 clear hw
 go_wp2_with fail
 refine (ae MU g w1 W0 (ae K0).1 (ae K0).2.1 (Nat.le_of_eq (ae HG).symm) ((ae HX).but (ae K0).2.2.1) ((ae HY).but (ae K0).2.2.1)).mono ?_
 rintro e w2 ⟨rfl,k1,k2,k3,k4,k5⟩
 have S0:=af (And.intro (ae HZ0) (ae HZ2))
 have FIN:Hid (Slot w2 zb 0∧Slot w2 zb 2∧zh w2 b0 0 R∧zh w2 g 0 D∧But [] w w2):=by
  obtain⟨hs,hbw,hb1,hb0,hI⟩:=ae K0
  have hb3:=hb1.trans' k1
  exact⟨(ae HZ0).but hb3 (by simp),(ae HZ2).but hb3 (by simp),hI.but k1,k2,hb3⟩
 clear k1 k2 k3 k4 k5 S0 K0 KX KY HW0 HG MU DX DY REG HX HY HZ0 HZ2
 go_wp2_with fail
 refine (ae SF b0 g _ (ae FIN).1 (ae FIN).2.1 (ae FIN).2.2.1 (ae FIN).2.2.2.1).mono ?_
 rintro e w3 ⟨rfl,k1,k2⟩
 have F3:=af (And.intro ((ae FIN).2.2.2.2.of_nil.trans k1 (fun x hx=>.inl hx)) k2)
 clear k1 k2 FIN SF
 go_wp2
 go_ret
 exact⟨rfl,(ae F3).1,(ae F3).2⟩)
def qit:Oper:=⟨some 8,.alloc 111,107, "rat.go:124",#[],none⟩
def qis:Oper:=⟨some 9,.alloc 111,107, "rat.go:124",#[],none⟩
def qir:Oper:=⟨some 10,.move (.tmp 1),37, "rat.go:124",#[],none⟩
def qiq:Oper:=⟨some 11,.nilCheck (.tmp 10),0, "rat.go:124",#[⟨2,.data⟩],none⟩
def qip:Oper:=⟨some 12,.fieldAddr 113 (.tmp 11) 0,0, "rat.go:124",#[⟨3,.data⟩],none⟩
def qio:Oper:=⟨some 13,.move (.tmp 2),37, "rat.go:124",#[],none⟩
def qin:Oper:=⟨some 14,.call { callee:=.value (.func 83),args:=#[.tmp 13],argTypes:=#[37] },107, "rat.go:124",#[⟨5,.data⟩],none⟩
def qim:Oper:=⟨some 15,.call { callee:=.value (.func 85),args:=#[.tmp 9,.tmp 12,.tmp 14],argTypes:=#[107,107,107] },107, "rat.go:124",#[⟨1,.data⟩,⟨4,.data⟩,⟨6,.data⟩,⟨6,.chain⟩],none⟩
def qil:Oper:=⟨some 16,.alloc 111,107, "rat.go:124",#[],none⟩
def qik:Oper:=⟨some 17,.move (.tmp 2),37, "rat.go:124",#[],none⟩
def qcf:Oper:=⟨some 18,.nilCheck (.tmp 17),0, "rat.go:124",#[⟨9,.data⟩],none⟩
def qce:Oper:=⟨some 19,.fieldAddr 113 (.tmp 18) 0,0, "rat.go:124",#[⟨10,.data⟩],none⟩
def qcd:Oper:=⟨some 20,.move (.tmp 1),37, "rat.go:124",#[],none⟩
def qcc:Oper:=⟨some 21,.call { callee:=.value (.func 83),args:=#[.tmp 20],argTypes:=#[37] },107, "rat.go:124",#[⟨12,.data⟩,⟨7,.chain⟩],none⟩
def qcb:Oper:=⟨some 22,.call { callee:=.value (.func 85),args:=#[.tmp 16,.tmp 19,.tmp 21],argTypes:=#[107,107,107] },107, "rat.go:124",#[⟨8,.data⟩,⟨11,.data⟩,⟨13,.data⟩,⟨13,.chain⟩],none⟩
def qca:Oper:=⟨some 23,.call { callee:=.value (.func 194),args:=#[.tmp 8,.tmp 15,.tmp 22],argTypes:=#[107,107,107] },107, "rat.go:124",#[⟨0,.data⟩,⟨7,.data⟩,⟨14,.data⟩,⟨14,.chain⟩],none⟩
def qbz:Oper:=⟨some 7,.assign (.tmp 23),107, "rat.go:124",#[⟨15,.data⟩,⟨15,.chain⟩,⟨0,.phase⟩,⟨1,.phase⟩,⟨2,.phase⟩,⟨3,.phase⟩,⟨4,.phase⟩,⟨5,.phase⟩,⟨6,.phase⟩,⟨7,.phase⟩,⟨8,.phase⟩,⟨9,.phase⟩,⟨10,.phase⟩,⟨11,.phase⟩,⟨12,.phase⟩,⟨13,.phase⟩,⟨14,.phase⟩,⟨15,.phase⟩],none⟩
def zae:Array Oper:=#[qit,qis,qir,qiq,qip,qio,qin,qim,qil,qik,qcf,qce,qcd,qcc,qcb,qca,qbz]
def zjv (i:Nat):Nat:=match i with
 | 0=>8
 | 1=>9
 | 2=>10
 | 3=>11
 | 4=>12
 | 5=>13
 | 6=>14
 | 7=>15
 | 8=>16
 | 9=>17
 | 10=>18
 | 11=>19
 | 12=>20
 | 13=>21
 | 14=>22
 | 15=>23
 | _=>7
def qij (xb yb:Nat) (N:Nat × Nat × Nat) (i:Nat):Value:=match i with
 | 0=>.pointer (some ⟨N.1,0,none⟩)
 | 1=>.pointer (some ⟨N.2.1,0,none⟩)
 | 2=>.pointer (some ⟨xb,0,none⟩)
 | 3=>.pointer (some ⟨xb,0,none⟩)
 | 4=>.pointer (some ⟨xb,0,none⟩)
 | 5=>.pointer (some ⟨yb,0,none⟩)
 | 6=>.pointer (some ⟨yb,2,none⟩)
 | 7=>.pointer (some ⟨N.2.1,0,none⟩)
 | 8=>.pointer (some ⟨N.2.2,0,none⟩)
 | 9=>.pointer (some ⟨yb,0,none⟩)
 | 10=>.pointer (some ⟨yb,0,none⟩)
 | 11=>.pointer (some ⟨yb,0,none⟩)
 | 12=>.pointer (some ⟨xb,0,none⟩)
 | 13=>.pointer (some ⟨xb,2,none⟩)
 | 14=>.pointer (some ⟨N.2.2,0,none⟩)
 | 15=>.pointer (some ⟨N.1,0,none⟩)
 | _=>.pointer (some ⟨N.1,0,none⟩)
theorem zyy:∀ i j,i<17→j<17→zjv i=zjv j→i=j:=fun i j hi hj=>(by decide:∀ i,i<17→∀ j,j<17→zjv i=zjv j→i=j) i hi j hj
theorem zvb (id:Nat) (Q:Exit→Act→World→Prop) (base:Act) (W0:World) (xb yb:Nat) (x y P Z R:Int) (nx ny:Nat) (hs:23<base.tmps.size) (e1:base.eval (.tmp 1)=.pointer (some ⟨xb,0,none⟩)) (e2:base.eval (.tmp 2)=.pointer (some ⟨yb,0,none⟩))
   (hx:zw W0 xb x (nx:Int)) (hy:zw W0 yb y (ny:Int)) (hnx:0<nx) (hny:0<ny) (hxl:(wd 4294967296 x.natAbs).length<8388608) (hyl:(wd 4294967296 y.natAbs).length<8388608) (hnxl:(wd 4294967296 nx).length<8388608) (hnyl:(wd 4294967296 ny).length<8388608) (hP:x*(ny:Int)=P) (hZ:y*(nx:Int)=Z) (hR:R=P-Z) (hPl:(wd 4294967296 P.natAbs).length<8388608) (hZl:(wd 4294967296 Z.natAbs).length<8388608) (hRl:(wd 4294967296 R.natAbs).length<8388608)
   (hQ:∀ w b0 b1 b8,But [] W0 w→W0.heap.size≤b0→zh w b0 0 R→Q .normal (bj base [(8,.pointer (some ⟨b0,0,none⟩)),(9,.pointer (some ⟨b1,0,none⟩)),(10,.pointer (some ⟨xb,0,none⟩)),(11,.pointer (some ⟨xb,0,none⟩)),(12,.pointer (some ⟨xb,0,none⟩)),(13,.pointer (some ⟨yb,0,none⟩)),(14,.pointer (some ⟨yb,2,none⟩)),(15,.pointer (some ⟨b1,0,none⟩)),(16,.pointer (some ⟨b8,0,none⟩)),(17,.pointer (some ⟨yb,0,none⟩)),(18,.pointer (some ⟨yb,0,none⟩)),(19,.pointer (some ⟨yb,0,none⟩)),(20,.pointer (some ⟨xb,0,none⟩)),(21,.pointer (some ⟨xb,2,none⟩)),(22,.pointer (some ⟨b8,0,none⟩)),(23,.pointer (some ⟨b0,0,none⟩)),(7,.pointer (some ⟨b0,0,none⟩))]) w) :
   (Code.region id zae true).wp prog Q base W0:=by(
 have hdr:∀ {w},But [] W0.drew w→But [] W0 w:=fun h=>(But.refl _ _).drew.trans' h
 have hT:∀ i,i<17→zjv i<base.tmps.size:=fun i hi=>by
  have h:zjv i≤23:=by revert i;decide
  omega
 have lx:=hx.lt
 have ly:=hy.lt
 refine zdv (by kernel_rfl) (ou (by kernel_rfl)) (zln (by kernel_rfl)) (α:=Nat × Nat × Nat) (fun N d w=>xh W0.drew P Z R N.1 N.2.1 N.2.2 (d 0) (d 1) (d 8) (d 7) (d 14) (d 15) (d 16) w) (qij xb yb) zjv 17 (by kernel_rfl) zyy hT (0,0,0) ?_ ?_ ?_
 ·exact⟨But.refl _ _,by simp,by simp,by simp,by simp,by simp,by simp,by simp,by simp,by simp,by simp⟩
 ·(
 rintro ⟨b0,b1,b8⟩ d i o a w K hi ho hdi hCl hH he hdep hk
 have hH':xh W0.drew P Z R b0 b1 b8 (d 0) (d 1) (d 8) (d 7) (d 14) (d 15) (d 16) w:=hH
 have hD:=zqx (ps:=[(3,2),(4,3),(6,5),(7,1),(7,4),(7,6),(10,9),(11,10),(13,7),(13,12),(14,8),(14,11),(14,13),(15,0),(15,7),(15,14),(16,0),(16,1),(16,2),(16,3),(16,4),(16,5),(16,6),(16,7),(16,8),(16,9),(16,10),(16,11),(16,12),(16,13),(16,14),(16,15)]) (by kernel_rfl) ho (fun j=>d j=true∧a.eval (.tmp (zjv j))=qij xb yb (b0,b1,b8) j) hdep
 have e1':=(he 1 (fun j hj e=>absurd e.symm (by revert j;decide))).trans e1
 have e2':=(he 2 (fun j hj e=>absurd e.symm (by revert j;decide))).trans e2
 have hB:=hdr hH'.but
 have hlw:=hB.size
 have:i=0∨i=1∨i=2∨i=3∨i=4∨i=5∨i=6∨i=7∨i=8∨i=9∨i=10∨i=11∨i=12∨i=13∨i=14∨i=15∨i=16:=by omega
 rcases this with rfl|rfl|rfl|rfl|rfl|rfl|rfl|rfl|rfl|rfl|rfl|rfl|rfl|rfl|rfl|rfl|rfl
 ·(
 obtain rfl:=so (show zae[0]? =some qit from rfl) ho
 rw[hdi] at hH'
 refine zi (di a w _ _ _ _) (hk (w.heap.size,b1,b8) _ _ rfl (fun j hj hdj=>?_) (hH'.zwr _))
 have:j=0∨j=1∨j=2∨j=3∨j=4∨j=5∨j=6∨j=7∨j=8∨j=9∨j=10∨j=11∨j=12∨j=13∨j=14∨j=15∨j=16:=by omega
 rcases this with rfl|rfl|rfl|rfl|rfl|rfl|rfl|rfl|rfl|rfl|rfl|rfl|rfl|rfl|rfl|rfl|rfl
 all_goals first
  | rfl
  | (rw[hdi] at hdj;simp at hdj)
  | (exfalso;first | (have:=(hH'.hr hdj).1;simp at this) | (have:=(hH'.hr (hH'.hz hdj)).1;simp at this)))
 ·(
 obtain rfl:=so (show zae[1]? =some qis from rfl) ho
 rw[hdi] at hH'
 refine zi (di a w _ _ _ _) (hk (b0,w.heap.size,b8) _ _ rfl (fun j hj hdj=>?_) (hH'.zwq _))
 have:j=0∨j=1∨j=2∨j=3∨j=4∨j=5∨j=6∨j=7∨j=8∨j=9∨j=10∨j=11∨j=12∨j=13∨j=14∨j=15∨j=16:=by omega
 rcases this with rfl|rfl|rfl|rfl|rfl|rfl|rfl|rfl|rfl|rfl|rfl|rfl|rfl|rfl|rfl|rfl|rfl
 all_goals first
  | rfl
  | (rw[hdi] at hdj;simp at hdj)
  | (exfalso;have:=(hH'.hp hdj).1;simp at this))
 ·obtain rfl:=so (show zae[2]? =some qir from rfl) ho
  exact zi (xu a w _ _ _ _ _ _ e1') (hk (b0,b1,b8) _ _ rfl (fun _ _ _=>rfl) hH)
 ·obtain rfl:=so (show zae[3]? =some qiq from rfl) ho
  exact zi (zdf a w _ _ _ _ _ _ 0 (hD 2 (by simp)).2) (hk (b0,b1,b8) _ _ rfl (fun _ _ _=>rfl) hH)
 ·obtain rfl:=so (show zae[4]? =some qip from rfl) ho
  exact zi (zai a w _ _ _ _ _ _ (hD 3 (by simp)).2 (by omega)) (hk (b0,b1,b8) _ _ rfl (fun _ _ _=>rfl) hH)
 ·obtain rfl:=so (show zae[5]? =some qio from rfl) ho
  exact zi (xu a w _ _ _ _ _ _ e2') (hk (b0,b1,b8) _ _ rfl (fun _ _ _=>rfl) hH)
 ·obtain rfl:=so (show zae[6]? =some qin from rfl) ho
  refine jd (pg a w _ _ _ _ _ _ (hD 5 (by simp)).2) (R:=fun w' v=>v=.pointer (some ⟨yb,2,none⟩)∧w'=w) ((xg yb y ny w (hy.but hB) hny).mono (fun e w' h=>⟨_,h.1,rfl,h.2⟩)) ?_
  rintro v w' ⟨rfl,rfl⟩
  exact hk (b0,b1,b8) _ _ rfl (fun _ _ _=>rfl) hH
 ·(
 obtain rfl:=so (show zae[7]? =some qim from rfl) ho
 have hs1:=hH'.s1 (hD 1 (by simp)).1
 rw[hdi] at hs1
 refine jd (mo a w _ _ _ _ _ _ _ _ _ _ (hD 1 (by simp)).2 (hD 4 (by simp)).2 (hD 6 (by simp)).2) (R:=fun w' v=>v=.pointer (some ⟨b1,0,none⟩)∧But [] W0.drew w'∧zh w' b1 0 P∧(∀ B,B≠b1→Slot w B 0→Slot w' B 0)∧(∀ b o z',b≠b1→zh w b o z'→zh w' b o z')∧w.heap.size≤w'.heap.size) ((je b1 xb 0 yb 2 x (ny:Int) P hP W0.drew w (hs1.2.2 rfl) hH'.but hs1.1 hx.drew.up hy.drew.low hxl (by rw[Int.natAbs_natCast];exact hnyl) hPl).mono (fun e w' h=>⟨_,h.1,rfl,h.2⟩)) ?_
 rintro v w' ⟨rfl,k1,k2,k3,k4,k5⟩
 rw[hdi,(hD 1 (by simp)).1] at hH'
 refine hk (b0,b1,b8) _ _ rfl (fun _ _ _=>rfl) ?_
 show xh W0.drew P Z R b0 b1 b8 (d 0) (d 1) (d 8) true (d 14) (d 15) (d 16) w'
 rw[(hD 1 (by simp)).1]
 exact hH'.qlv k1 k2 k3 k4 k5)
 ·(
 obtain rfl:=so (show zae[8]? =some qil from rfl) ho
 rw[hdi] at hH'
 refine zi (di a w _ _ _ _) (hk (b0,b1,w.heap.size) _ _ rfl (fun j hj hdj=>?_) (hH'.zwp _))
 have:j=0∨j=1∨j=2∨j=3∨j=4∨j=5∨j=6∨j=7∨j=8∨j=9∨j=10∨j=11∨j=12∨j=13∨j=14∨j=15∨j=16:=by omega
 rcases this with rfl|rfl|rfl|rfl|rfl|rfl|rfl|rfl|rfl|rfl|rfl|rfl|rfl|rfl|rfl|rfl|rfl
 all_goals first
  | rfl
  | (rw[hdi] at hdj;simp at hdj)
  | (exfalso;have:=(hH'.hq hdj).1;simp at this))
 ·obtain rfl:=so (show zae[9]? =some qik from rfl) ho
  exact zi (xu a w _ _ _ _ _ _ e2') (hk (b0,b1,b8) _ _ rfl (fun _ _ _=>rfl) hH)
 ·obtain rfl:=so (show zae[10]? =some qcf from rfl) ho
  exact zi (zdf a w _ _ _ _ _ _ 0 (hD 9 (by simp)).2) (hk (b0,b1,b8) _ _ rfl (fun _ _ _=>rfl) hH)
 ·obtain rfl:=so (show zae[11]? =some qce from rfl) ho
  exact zi (zai a w _ _ _ _ _ _ (hD 10 (by simp)).2 (by omega)) (hk (b0,b1,b8) _ _ rfl (fun _ _ _=>rfl) hH)
 ·obtain rfl:=so (show zae[12]? =some qcd from rfl) ho
  exact zi (xu a w _ _ _ _ _ _ e1') (hk (b0,b1,b8) _ _ rfl (fun _ _ _=>rfl) hH)
 ·obtain rfl:=so (show zae[13]? =some qcc from rfl) ho
  refine jd (pg a w _ _ _ _ _ _ (hD 12 (by simp)).2) (R:=fun w' v=>v=.pointer (some ⟨xb,2,none⟩)∧w'=w) ((xg xb x nx w (hx.but hB) hnx).mono (fun e w' h=>⟨_,h.1,rfl,h.2⟩)) ?_
  rintro v w' ⟨rfl,rfl⟩
  exact hk (b0,b1,b8) _ _ rfl (fun _ _ _=>rfl) hH
 ·(
 obtain rfl:=so (show zae[14]? =some qcb from rfl) ho
 have hs1:=hH'.s8 (hD 8 (by simp)).1
 rw[hdi] at hs1
 refine jd (mo a w _ _ _ _ _ _ _ _ _ _ (hD 8 (by simp)).2 (hD 11 (by simp)).2 (hD 13 (by simp)).2) (R:=fun w' v=>v=.pointer (some ⟨b8,0,none⟩)∧But [] W0.drew w'∧zh w' b8 0 Z∧(∀ B,B≠b8→Slot w B 0→Slot w' B 0)∧(∀ b o z',b≠b8→zh w b o z'→zh w' b o z')∧w.heap.size≤w'.heap.size) ((je b8 yb 0 xb 2 y (nx:Int) Z hZ W0.drew w (hs1.2.2 rfl) hH'.but hs1.1 hy.drew.up hx.drew.low hyl (by rw[Int.natAbs_natCast];exact hnxl) hZl).mono (fun e w' h=>⟨_,h.1,rfl,h.2⟩)) ?_
 rintro v w' ⟨rfl,k1,k2,k3,k4,k5⟩
 rw[hdi,(hD 8 (by simp)).1] at hH'
 refine hk (b0,b1,b8) _ _ rfl (fun _ _ _=>rfl) ?_
 show xh W0.drew P Z R b0 b1 b8 (d 0) (d 1) (d 8) (d 7) true (d 15) (d 16) w'
 rw[(hD 8 (by simp)).1]
 exact hH'.qlu k1 k2 k3 k4 k5)
 ·(
 obtain rfl:=so (show zae[15]? =some qca from rfl) ho
 have d0:=(hD 0 (by simp)).1
 have hs1:=hH'.s0 d0
 rw[hdi] at hs1
 have hp7:=hH'.hp (hD 7 (by simp)).1
 have hq14:=hH'.hq (hD 14 (by simp)).1
 refine jd (zpt a w _ _ _ _ _ _ _ _ _ _ (hD 0 (by simp)).2 (hD 7 (by simp)).2 (hD 14 (by simp)).2) (R:=fun w' v=>v=.pointer (some ⟨b0,0,none⟩)∧But [] W0.drew w'∧zh w' b0 0 R∧(∀ B,B≠b0→Slot w B 0→Slot w' B 0)∧(∀ b o z',b≠b0→zh w b o z'→zh w' b o z')∧w.heap.size≤w'.heap.size) ((ztp b0 0 b1 0 b8 0 P Z R w (hs1.2.2 rfl) (hH'.n01 d0 hp7.1) (hH'.n08 d0 hq14.1) hp7.2 hq14.2 hPl hZl (by omega) hR).mono (fun e w' h=>by
  obtain⟨h1,w1,v,h2,h3,rfl⟩:=h
  exact⟨_,h1,rfl,zgs (hs1.2.2 rfl) hH'.but hs1.1 h2 h3⟩)) ?_
 rintro v w' ⟨rfl,k1,k2,k3,k4,k5⟩
 rw[hdi,d0] at hH'
 refine hk (b0,b1,b8) _ _ rfl (fun _ _ _=>rfl) ?_
 show xh W0.drew P Z R b0 b1 b8 (d 0) (d 1) (d 8) (d 7) (d 14) true (d 16) w'
 rw[d0]
 exact hH'.si k1 k2 k3 k4 k5)
 ·(
 obtain rfl:=so (show zae[16]? =some qbz from rfl) ho
 have d15:=(hD 15 (by simp)).1
 rw[d15] at hH'
 refine zi (zme a w _ _ _ _ _ _ (hD 15 (by simp)).2) (hk (b0,b1,b8) _ _ rfl (fun _ _ _=>rfl) ?_)
 show xh W0.drew P Z R b0 b1 b8 (d 0) (d 1) (d 8) (d 7) (d 14) (d 15) true w
 rw[d15]
 exact hH'.done))
 ·rintro ⟨b0,b1,b8⟩ d w hd hH
  have hH':xh W0.drew P Z R b0 b1 b8 (d 0) (d 1) (d 8) (d 7) (d 14) (d 15) (d 16) w:=hH
  exact hQ w b0 b1 b8 (hdr hH'.but) (hH'.s0 (hd 0 (by omega))).1 (hH'.hr (hd 15 (by omega))).2)
theorem zsm (zb xb yb:Nat) (x y:Int) (nx ny:Nat) (w:World) (hz0:Slot w zb 0) (hz2:Slot w zb 2) (hx:zw w xb x (nx:Int)) (hy:zw w yb y (ny:Int)) (hnx:0<nx) (hny:0<ny) (hxl:(wd 4294967296 x.natAbs).length<8388608) (hyl:(wd 4294967296 y.natAbs).length<8388608) (hnxl:(wd 4294967296 nx).length<8388608) (hnyl:(wd 4294967296 ny).length<8388608) (P Z R D:Int) (hP:x*(ny:Int)=P) (hZ:y*(nx:Int)=Z) (hR:R=P-Z) (hD:(nx:Int)*(ny:Int)=D) (hPl:(wd 4294967296 P.natAbs).length<8388608) (hZl:(wd 4294967296 Z.natAbs).length<8388608) (hRl:(wd 4294967296 R.natAbs).length<8388608) (hDl:(wd 4294967296 D.natAbs).length<8388608) (hD0:D≠0) (A B:Int) (eA:Hid (A=zdg (if D<0 then -R else R) D.natAbs)) (eB:Hid (B=zdh R D.natAbs)) :
   Calls prog 158 #[.pointer (some ⟨zb,0,none⟩),.pointer (some ⟨xb,0,none⟩),.pointer (some ⟨yb,0,none⟩)] w fun e w'=>e=.returned (.pointer (some ⟨zb,0,none⟩))∧But [zb] w w'∧zw w' zb A B:=by(
 have HX:=af hx
 have HY:=af hy
 have HZ0:=af hz0
 have HZ2:=af hz2
 have REG:=af (fun (Q:Exit→Act→World→Prop) (base:Act) (hs:23<base.tmps.size) (e1:base.eval (.tmp 1)=.pointer (some ⟨xb,0,none⟩)) (e2:base.eval (.tmp 2)=.pointer (some ⟨yb,0,none⟩))=>zvb 1 Q base w xb yb x y P Z R nx ny hs e1 e2 hx hy hnx hny hxl hyl hnxl hnyl hP hZ hR hPl hZl hRl)
 have DX:=af (fun W (h:zw W xb x (nx:Int))=>xg xb x nx W h hnx)
 have DY:=af (fun W (h:zw W yb y (ny:Int))=>xg yb y ny W h hny)
 have MU:=af (fun (A:Nat) (w P:World) (hs:Slot P A 0) (hw:But [] w P) (hA:w.heap.size≤A) (hx:zw w xb x (nx:Int)) (hy:zw w yb y (ny:Int))=>je A xb 2 yb 2 (nx:Int) (ny:Int) D hD w P hs hw hA hx.low hy.low (by rw[Int.natAbs_natCast];exact hnxl) (by rw[Int.natAbs_natCast];exact hnyl) hDl)
 have SF:=af (fun (b0 b1:Nat) (W:World) (h0:Slot W zb 0) (h2:Slot W zb 2) (ha:zh W b0 0 R) (hb:zh W b1 0 D)=>dh zb b0 0 b1 0 R D W h0 h2 ha hb hRl hDl hD0 A B eA eB)
 clear hx hy hz0 hz2 hnx hny hxl hyl hnxl hnyl hP hZ hR hD hPl hZl hRl hDl hD0 eA eB
 go_enter func158,ntmps158
 go_wp2_with fail
 refine ae REG _ _ (by simp) (by simp[Act.eval]) (by simp[Act.eval]) ?_
 intro w1 b0 b1 b8 hb1 hb0 hI
 simp only[bj,List.foldl_cons,List.foldl_nil,Act.put,List.setIfInBounds_toArray,List.set_cons_zero,List.set_cons_succ]
 obtain⟨W0,hW0⟩:∃ W0,W0=w1.alloc (.cells #[.bool false,.slice none 0 0] 111):=⟨_,rfl⟩
 have hs:=jq w1 111
 rw[← hW0] at hs
 have hbw:But [] w1 W0:=by rw[hW0];exact (But.refl _ _).alloc _
 have hb2:=hb1.trans' hbw
 have K0:=af (And.intro hs (And.intro hbw (And.intro hb1 (And.intro hb0 hI))))
 have KX:=af ((ae HX).but hb2)
 have KY:=af ((ae HY).but hb2)
 have HW0:=af hW0
 clear hW0 hs hbw hb1 hb0 hb2 hI
 obtain⟨g,hg⟩:∃ g,g=w1.heap.size:=⟨_,rfl⟩
 go_wp2_with fail
 rw[← ae HW0,← hg]
 rw[← hg] at K0
 have HG:=af hg
 clear hg
 refine (ae DX _ (ae KX)).mono ?_
 rintro e w2 ⟨rfl,hw⟩
 obtain rfl:=hw.symm
 clear hw
 go_wp2_with fail
 refine (ae DY _ (ae KY)).mono ?_
 rintro e w2 ⟨rfl,hw⟩
 obtain rfl:=hw.symm
 clear hw
 go_wp2_with fail
 refine (ae MU g w1 W0 (ae K0).1 (ae K0).2.1 (Nat.le_of_eq (ae HG).symm) ((ae HX).but (ae K0).2.2.1) ((ae HY).but (ae K0).2.2.1)).mono ?_
 rintro e w2 ⟨rfl,k1,k2,k3,k4,k5⟩
 have S0:=af (And.intro (ae HZ0) (ae HZ2))
 have FIN:Hid (Slot w2 zb 0∧Slot w2 zb 2∧zh w2 b0 0 R∧zh w2 g 0 D∧But [] w w2):=by
  obtain⟨hs,hbw,hb1,hb0,hI⟩:=ae K0
  have hb3:=hb1.trans' k1
  exact⟨(ae HZ0).but hb3 (by simp),(ae HZ2).but hb3 (by simp),hI.but k1,k2,hb3⟩
 clear k1 k2 k3 k4 k5 S0 K0 KX KY HW0 HG MU DX DY REG HX HY HZ0 HZ2
 go_wp2_with fail
 refine (ae SF b0 g _ (ae FIN).1 (ae FIN).2.1 (ae FIN).2.2.1 (ae FIN).2.2.2.1).mono ?_
 rintro e w3 ⟨rfl,k1,k2⟩
 have F3:=af (And.intro ((ae FIN).2.2.2.2.of_nil.trans k1 (fun x hx=>.inl hx)) k2)
 clear k1 k2 FIN SF
 go_wp2
 go_ret
 exact⟨rfl,(ae F3).1,(ae F3).2⟩)
theorem zbj (x y:Int) (n:Nat) (hx:(wd 4294967296 x.natAbs).length≤n) (hy:(wd 4294967296 y.natAbs).length≤n):(wd 4294967296 (x+y).natAbs).length≤n+1 :=
 Nat.le_trans (zji (Int.natAbs_add_le x y)) (qfg _ _ n hx hy)
theorem zhy (x y:Int) (n:Nat) (hx:(wd 4294967296 x.natAbs).length≤n) (hy:(wd 4294967296 y.natAbs).length≤n):(wd 4294967296 (x-y).natAbs).length≤n+1:=by
 rw[Int.sub_eq_add_neg]
 exact zbj x (-y) n hx (by rw[Int.natAbs_neg];exact hy)
theorem zlk (f:Rat) (p q:Int) (n:Nat) (hq:q≠0) (h:f.num*q=p*(f.den:Int)) (hp:(wd 4294967296 p.natAbs).length≤n) (hl:(wd 4294967296 q.natAbs).length≤n):zu f n:=by(
 obtain⟨e1,e2⟩:=zdw p q hq f h
 constructor
 ·(
 have h1:f.num.natAbs=p.natAbs/Nat.gcd p.natAbs q.natAbs:=by
  rw[e1,zsl]
  split <;> simp
 rw[h1]
 exact Nat.le_trans (zji (Nat.div_le_self _ _)) hp)
 ·(
 have h2:f.den=q.natAbs/Nat.gcd p.natAbs q.natAbs:=by
  have:=e2
  rw[zdh] at this
  omega
 rw[h2]
 exact Nat.le_trans (zji (Nat.div_le_self _ _)) hl))
theorem zu.mono {f:Rat} {m n:Nat} (h:zu f m) (hmn:m≤n):zu f n:=⟨Nat.le_trans h.1 hmn,Nat.le_trans h.2 hmn⟩
theorem zgt (f g:Rat):(f+g).num*((f.den:Int)*(g.den:Int))=(f.num*(g.den:Int)+g.num*(f.den:Int))*((f+g).den:Int):=by
 have h:=zjr f g
 grind
theorem zmy (f g:Rat):(f-g).num*((f.den:Int)*(g.den:Int))=(f.num*(g.den:Int)-g.num*(f.den:Int))*((f-g).den:Int):=by(
 have h:=zjr f (-g)
 rw[← Rat.sub_eq_add_neg] at h
 simp only[Rat.neg_num,Rat.neg_den] at h
 grind)
theorem qp (x y:Int) (m n:Nat) (hx:(wd 4294967296 x.natAbs).length≤m) (hy:(wd 4294967296 y.natAbs).length≤n):(wd 4294967296 (x*y).natAbs).length≤m+n:=by(
 rw[Int.natAbs_mul]
 have:=zfj x.natAbs y.natAbs
 omega)
theorem zu.mul {f g:Rat} {m n:Nat} (hf:zu f m) (hg:zu g n):zu (f*g) (m+n):=by(
 have hfd:0<f.den:=Nat.pos_of_ne_zero f.den_nz
 have hgd:0<g.den:=Nat.pos_of_ne_zero g.den_nz
 have hc:=zdo f g
 rw[Int.natCast_mul] at hc
 exact zlk _ _ _ _ (Int.mul_ne_zero (by omega) (by omega)) hc (qp _ _ _ _ hf.1 hg.1) (qp _ _ _ _ (by rw[Int.natAbs_natCast];exact hf.2) (by rw[Int.natAbs_natCast];exact hg.2)))
theorem zu.sub {f g:Rat} {m n:Nat} (hf:zu f m) (hg:zu g n):zu (f-g) (m+n+1):=by(
 have hfd:0<f.den:=Nat.pos_of_ne_zero f.den_nz
 have hgd:0<g.den:=Nat.pos_of_ne_zero g.den_nz
 have d1:(wd 4294967296 ((f.den:Nat):Int).natAbs).length≤m:=by rw[Int.natAbs_natCast];exact hf.2
 have d2:(wd 4294967296 ((g.den:Nat):Int).natAbs).length≤n:=by rw[Int.natAbs_natCast];exact hg.2
 refine zlk _ _ _ _ (Int.mul_ne_zero (by omega) (by omega)) (zmy f g) (zhy _ _ _ (qp _ _ _ _ hf.1 d2) ?_) (Nat.le_succ_of_le (qp _ _ _ _ d1 d2))
 rw[Nat.add_comm m n]
 exact qp _ _ _ _ hg.1 d1)
theorem zu.add {f g:Rat} {m n:Nat} (hf:zu f m) (hg:zu g n):zu (f+g) (m+n+1):=by(
 have hfd:0<f.den:=Nat.pos_of_ne_zero f.den_nz
 have hgd:0<g.den:=Nat.pos_of_ne_zero g.den_nz
 have d1:(wd 4294967296 ((f.den:Nat):Int).natAbs).length≤m:=by rw[Int.natAbs_natCast];exact hf.2
 have d2:(wd 4294967296 ((g.den:Nat):Int).natAbs).length≤n:=by rw[Int.natAbs_natCast];exact hg.2
 refine zlk _ _ _ _ (Int.mul_ne_zero (by omega) (by omega)) (zgt f g) (zbj _ _ _ (qp _ _ _ _ hf.1 d2) ?_) (Nat.le_succ_of_le (qp _ _ _ _ d1 d2))
 rw[Nat.add_comm m n]
 exact qp _ _ _ _ hg.1 d1)
theorem zvo (xb yb:Nat) (f g:Rat) (w:World) (hx:ze w xb f) (hy:ze w yb g) (lf:zu f 2000000) (lg:zu g 2000000) :
   Calls prog 82 #[.pointer (some ⟨xb,0,none⟩),.pointer (some ⟨yb,0,none⟩)] w fun e w'=>∃ zb,e=.returned (.pointer (some ⟨zb,0,none⟩))∧But [] w w'∧ze w' zb (f+g)∧w.heap.size≤zb:=by(
 have hfd:0<f.den:=Nat.pos_of_ne_zero f.den_nz
 have hgd:0<g.den:=Nat.pos_of_ne_zero g.den_nz
 have hQ0:(f.den:Int)*(g.den:Int)≠0:=Int.mul_ne_zero (by omega) (by omega)
 obtain⟨e1,e2⟩:=zdw (f.num*(g.den:Int)+g.num*(f.den:Int)) ((f.den:Int)*(g.den:Int)) hQ0 (f+g) (zgt f g)
 obtain⟨W0,hW0⟩:∃ W0,W0=w.alloc (.cells #[.bool false,.slice none 0 0,.bool false,.slice none 0 0] 113):=⟨_,rfl⟩
 have hs:=zby w 113
 have hbw:But [] w W0:=by rw[hW0];exact (But.refl _ _).alloc _
 rw[← hW0] at hs
 obtain⟨lf1,lf2⟩:=lf
 obtain⟨lg1,lg2⟩:=lg
 have d1:(wd 4294967296 ((f.den:Nat):Int).natAbs).length≤2000000:=by rw[Int.natAbs_natCast];exact lf2
 have d2:(wd 4294967296 ((g.den:Nat):Int).natAbs).length≤2000000:=by rw[Int.natAbs_natCast];exact lg2
 have p1:=qp f.num (g.den:Int) _ _ lf1 d2
 have p2:=qp g.num (f.den:Int) _ _ lg1 d1
 have p3:=qp (f.den:Int) (g.den:Int) _ _ d1 d2
 have p4:=zbj _ _ _ p1 p2
 have MU:=af (zsn w.heap.size xb yb f.num g.num f.den g.den W0 hs.1 hs.2 (zw.but hx hbw) (zw.but hy hbw) hfd hgd (by omega) (by omega) (by omega) (by omega) _ _ _ _ rfl rfl rfl rfl (by omega) (by omega) (by omega) (by omega) hQ0 (f+g).num ((f+g).den:Int) e1 e2)
 have HW0:=af hW0
 have HBW:=af hbw
 clear hW0 hbw hs e1 e2 hQ0 p1 p2 p3 p4 d1 d2 lf1 lf2 lg1 lg2 hx hy hfd hgd
 go_enter func82,ntmps82
 go_wp2_with fail
 rw[← ae HW0]
 refine (ae MU).mono ?_
 rintro e w1 ⟨rfl,h1,h2⟩
 have FIN:=af (And.intro ((ae HBW).trans h1 (by simp)) h2)
 clear h1 h2 MU
 go_wp2
 go_ret
 exact⟨w.heap.size,rfl,(ae FIN).1,(ae FIN).2,Nat.le_refl _⟩)
theorem zvk (xb yb:Nat) (f g:Rat) (w:World) (hx:ze w xb f) (hy:ze w yb g) (lf:zu f 2000000) (lg:zu g 2000000) :
   Calls prog 71 #[.pointer (some ⟨xb,0,none⟩),.pointer (some ⟨yb,0,none⟩)] w fun e w'=>∃ zb,e=.returned (.pointer (some ⟨zb,0,none⟩))∧But [] w w'∧ze w' zb (f-g)∧w.heap.size≤zb:=by(
 have hfd:0<f.den:=Nat.pos_of_ne_zero f.den_nz
 have hgd:0<g.den:=Nat.pos_of_ne_zero g.den_nz
 have hQ0:(f.den:Int)*(g.den:Int)≠0:=Int.mul_ne_zero (by omega) (by omega)
 obtain⟨e1,e2⟩:=zdw (f.num*(g.den:Int)-g.num*(f.den:Int)) ((f.den:Int)*(g.den:Int)) hQ0 (f-g) (zmy f g)
 obtain⟨W0,hW0⟩:∃ W0,W0=w.alloc (.cells #[.bool false,.slice none 0 0,.bool false,.slice none 0 0] 113):=⟨_,rfl⟩
 have hs:=zby w 113
 have hbw:But [] w W0:=by rw[hW0];exact (But.refl _ _).alloc _
 rw[← hW0] at hs
 obtain⟨lf1,lf2⟩:=lf
 obtain⟨lg1,lg2⟩:=lg
 have d1:(wd 4294967296 ((f.den:Nat):Int).natAbs).length≤2000000:=by rw[Int.natAbs_natCast];exact lf2
 have d2:(wd 4294967296 ((g.den:Nat):Int).natAbs).length≤2000000:=by rw[Int.natAbs_natCast];exact lg2
 have p1:=qp f.num (g.den:Int) _ _ lf1 d2
 have p2:=qp g.num (f.den:Int) _ _ lg1 d1
 have p3:=qp (f.den:Int) (g.den:Int) _ _ d1 d2
 have p4:=zhy _ _ _ p1 p2
 have MU:=af (zsm w.heap.size xb yb f.num g.num f.den g.den W0 hs.1 hs.2 (zw.but hx hbw) (zw.but hy hbw) hfd hgd (by omega) (by omega) (by omega) (by omega) _ _ _ _ rfl rfl rfl rfl (by omega) (by omega) (by omega) (by omega) hQ0 (f-g).num ((f-g).den:Int) e1 e2)
 have HW0:=af hW0
 have HBW:=af hbw
 clear hW0 hbw hs e1 e2 hQ0 p1 p2 p3 p4 d1 d2 lf1 lf2 lg1 lg2 hx hy hfd hgd
 go_enter func71,ntmps71
 go_wp2_with fail
 rw[← ae HW0]
 refine (ae MU).mono ?_
 rintro e w1 ⟨rfl,h1,h2⟩
 have FIN:=af (And.intro ((ae HBW).trans h1 (by simp)) h2)
 clear h1 h2 MU
 go_wp2
 go_ret
 exact⟨w.heap.size,rfl,(ae FIN).1,(ae FIN).2,Nat.le_refl _⟩)
set_option linter.unusedVariables false
def om (w:World) (b:Nat):Prop:=zh w b 0 0∧w.cell? ⟨b,2,none⟩=some (.bool false)∧w.cell? ⟨b,3,none⟩=some (.slice none 0 0)
theorem om.but {w w':World} {b:Nat} (h:om w b) (hb:But [] w w'):om w' b:=⟨h.1.but hb,hb.ag h.2.1 (by simp),hb.ag h.2.2 (by simp)⟩
theorem om.lt {w:World} {b:Nat} (h:om w b):b<w.heap.size:=h.1.lt
theorem qbj (w:World) (t:TypeId):om (w.alloc (.cells #[.bool false,.slice none 0 0,.bool false,.slice none 0 0] t)) w.heap.size:=by(
 refine⟨⟨by simp,.slice none 0 0,by simp,?_⟩,by simp,by simp⟩
 have h0:wd 4294967296 (0:Int).natAbs=[]:=by rw[wh (by omega)];rfl
 rw[h0]
 exact⟨none,0,rfl,Nat.le_refl _,fun i hi=>by simp at hi,fun b off e h1=>by simp at h1⟩)
theorem zpd (b:Nat) (w:World) (h:om w b) :
   Calls prog 83 #[.pointer (some ⟨b,0,none⟩)] w fun e w'=>∃ q,e=.returned (.pointer (some ⟨q,0,none⟩))∧w.heap.size≤q∧But [] w w'∧zh w' q 0 1:=by(
 obtain⟨-,c2,c3⟩:=h
 go_enter func83,ntmps83
 go_wp2_with fail
 refine (zak 1 _ (by omega) (by omega)).mono ?_
 rintro e w1 ⟨rfl,hb,hI,-⟩
 go_wp2
 go_ret
 exact⟨_,rfl,Nat.le_refl _,hb,hI⟩)
theorem zkt (A b1 o1 b2 o2:Nat) (x y z:Int) (hz:x*y=z) (w P:World) (hs:Slot P A 0) (hw:But [] w P) (hA:w.heap.size≤A) (hx:zh P b1 o1 x) (hy:zh P b2 o2 y) (n1:A≠b1) (n2:A≠b2) (hlx:(wd 4294967296 x.natAbs).length<8388608) (hly:(wd 4294967296 y.natAbs).length<8388608) (hlz:(wd 4294967296 z.natAbs).length<8388608) :
   Calls prog 85 #[.pointer (some ⟨A,0,none⟩),.pointer (some ⟨b1,o1,none⟩),.pointer (some ⟨b2,o2,none⟩)] P fun e W1=>e=.returned (.pointer (some ⟨A,0,none⟩))∧But [] w W1∧zh W1 A 0 z∧(∀ B,B≠A→Slot P B 0→Slot W1 B 0)∧(∀ b o z,b≠A→zh P b o z→zh W1 b o z)∧P.heap.size≤W1.heap.size:=by(
 refine (zms A 0 b1 o1 b2 o2 x y P hs n1 n2 hx hy (by omega) (by omega) (by rw[← Int.natAbs_mul,hz];omega)).mono ?_
 rintro e W1 ⟨rfl,w1,v,hb,hv,rfl⟩
 rw[hz] at hv ⊢
 have hs1:=hs.but hb (by simp)
 exact⟨rfl,(hw.trans' hb).trans (zcq ..) (by simp;exact hA),zcp hs1 _ _ hv,fun B hB hS=>yj _ _ (hS.but hb (by simp)) (.inl hB),fun b o z' hB hI=>dz hs1 _ _ (hI.but hb) (.inl hB),by rw[zga];exact hb.size⟩)
theorem xh.stay {W:World} {P Q R:Int} {b0 b1 b8:Nat} {a0 a1 a8 p q r z:Bool} {w w':World} (h:xh W P Q R b0 b1 b8 a0 a1 a8 p q r z w) (hb:But [] w w'):xh W P Q R b0 b1 b8 a0 a1 a8 p q r z w' :=
 ⟨h.but.trans' hb,fun e=>⟨(h.s0 e).1,Nat.lt_of_lt_of_le (h.s0 e).2.1 hb.size,fun k=>((h.s0 e).2.2 k).but hb (by simp)⟩,fun e=>⟨(h.s1 e).1,Nat.lt_of_lt_of_le (h.s1 e).2.1 hb.size,fun k=>((h.s1 e).2.2 k).but hb (by simp)⟩,fun e=>⟨(h.s8 e).1,Nat.lt_of_lt_of_le (h.s8 e).2.1 hb.size,fun k=>((h.s8 e).2.2 k).but hb (by simp)⟩,
  h.n01,h.n08,h.n18,fun e=>⟨(h.hp e).1,(h.hp e).2.but hb⟩,fun e=>⟨(h.hq e).1,(h.hq e).2.but hb⟩,fun e=>⟨(h.hr e).1,(h.hr e).2.but hb⟩,h.hz⟩
def qlc (xb yb:Nat) (N:Nat × Nat × Nat × Nat) (i:Nat):Value:=match i with
 | 0=>.pointer (some ⟨N.1,0,none⟩)
 | 1=>.pointer (some ⟨N.2.1,0,none⟩)
 | 2=>.pointer (some ⟨xb,0,none⟩)
 | 3=>.pointer (some ⟨xb,0,none⟩)
 | 4=>.pointer (some ⟨xb,0,none⟩)
 | 5=>.pointer (some ⟨yb,0,none⟩)
 | 6=>.pointer (some ⟨yb,2,none⟩)
 | 7=>.pointer (some ⟨N.2.1,0,none⟩)
 | 8=>.pointer (some ⟨N.2.2.1,0,none⟩)
 | 9=>.pointer (some ⟨yb,0,none⟩)
 | 10=>.pointer (some ⟨yb,0,none⟩)
 | 11=>.pointer (some ⟨yb,0,none⟩)
 | 12=>.pointer (some ⟨xb,0,none⟩)
 | 13=>.pointer (some ⟨N.2.2.2,0,none⟩)
 | 14=>.pointer (some ⟨N.2.2.1,0,none⟩)
 | 15=>.pointer (some ⟨N.1,0,none⟩)
 | _=>.pointer (some ⟨N.1,0,none⟩)
theorem qig:zfm jk [(3,2),(4,3),(6,5),(7,1),(7,4),(7,6),(10,9),(11,10),(13,7),(13,12),(14,8),(14,11),(14,13),(15,0),(15,7),(15,14),(16,0),(16,1),(16,2),(16,3),(16,4),(16,5),(16,6),(16,7),(16,8),(16,9),(16,10),(16,11),(16,12),(16,13),(16,14),(16,15)]=true:=by kernel_rfl
theorem zxa (id:Nat) (Q:Exit→Act→World→Prop) (base:Act) (W0:World) (xb yb:Nat) (x y P Z R:Int) (nx ny:Nat) (hs:23<base.tmps.size) (e1:base.eval (.tmp 1)=.pointer (some ⟨xb,0,none⟩)) (e2:base.eval (.tmp 2)=.pointer (some ⟨yb,0,none⟩))
   (hx:om W0 xb) (hx0:x=0) (hnx1:(nx:Int)=1) (hy:zw W0 yb y (ny:Int)) (hny:0<ny) (hxl:(wd 4294967296 x.natAbs).length<8388608) (hyl:(wd 4294967296 y.natAbs).length<8388608) (hnxl:(wd 4294967296 nx).length<8388608) (hnyl:(wd 4294967296 ny).length<8388608) (hP:x*(ny:Int)=P) (hZ:y*(nx:Int)=Z) (hR:R=P+Z) (hPl:(wd 4294967296 P.natAbs).length<8388608) (hZl:(wd 4294967296 Z.natAbs).length<8388608) (hRl:(wd 4294967296 R.natAbs).length<8388608)
   (hQ:∀ w b0 b1 b8 bd,But [] W0 w→W0.heap.size≤b0→zh w b0 0 R→Q .normal (bj base [(8,.pointer (some ⟨b0,0,none⟩)),(9,.pointer (some ⟨b1,0,none⟩)),(10,.pointer (some ⟨xb,0,none⟩)),(11,.pointer (some ⟨xb,0,none⟩)),(12,.pointer (some ⟨xb,0,none⟩)),(13,.pointer (some ⟨yb,0,none⟩)),(14,.pointer (some ⟨yb,2,none⟩)),(15,.pointer (some ⟨b1,0,none⟩)),(16,.pointer (some ⟨b8,0,none⟩)),(17,.pointer (some ⟨yb,0,none⟩)),(18,.pointer (some ⟨yb,0,none⟩)),(19,.pointer (some ⟨yb,0,none⟩)),(20,.pointer (some ⟨xb,0,none⟩)),(21,.pointer (some ⟨bd,0,none⟩)),(22,.pointer (some ⟨b8,0,none⟩)),(23,.pointer (some ⟨b0,0,none⟩)),(7,.pointer (some ⟨b0,0,none⟩))]) w) :
   (Code.region id jk true).wp prog Q base W0:=by(
 have hdr:∀ {w},But [] W0.drew w→But [] W0 w:=fun h=>(But.refl _ _).drew.trans' h
 have hT:∀ i,i<17→zen i<base.tmps.size:=fun i hi=>by
  have h:zen i≤23:=by revert i;decide
  omega
 have lx:=hx.lt
 have ly:=hy.lt
 refine zdv (by kernel_rfl) (ou (by kernel_rfl)) (zln (by kernel_rfl)) (α:=Nat × Nat × Nat × Nat) (fun N d w=>xh W0.drew P Z R N.1 N.2.1 N.2.2.1 (d 0) (d 1) (d 8) (d 7) (d 14) (d 15) (d 16) w∧(d 13=true→d 14=false→zh w N.2.2.2 0 (nx:Int)∧(d 8=true→N.2.2.2≠N.2.2.1))) (qlc xb yb) zen 17 (by kernel_rfl) zph hT (0,0,0,0) ?_ ?_ ?_
 ·exact⟨⟨But.refl _ _,by simp,by simp,by simp,by simp,by simp,by simp,by simp,by simp,by simp,by simp⟩,fun h=>by simp at h⟩
 ·(
 rintro ⟨b0,b1,b8,bd⟩ d i o a w K hi ho hdi hCl hH he hdep hk
 have hH':xh W0.drew P Z R b0 b1 b8 (d 0) (d 1) (d 8) (d 7) (d 14) (d 15) (d 16) w:=hH.1
 have hX:d 13=true→d 14=false→zh w bd 0 (nx:Int)∧(d 8=true→bd≠b8):=hH.2
 have hD:=zqx (ps:=[(3,2),(4,3),(6,5),(7,1),(7,4),(7,6),(10,9),(11,10),(13,7),(13,12),(14,8),(14,11),(14,13),(15,0),(15,7),(15,14),(16,0),(16,1),(16,2),(16,3),(16,4),(16,5),(16,6),(16,7),(16,8),(16,9),(16,10),(16,11),(16,12),(16,13),(16,14),(16,15)]) (by kernel_rfl) ho (fun j=>d j=true∧a.eval (.tmp (zen j))=qlc xb yb (b0,b1,b8,bd) j) hdep
 have e1':=(he 1 (fun j hj e=>absurd e.symm (by revert j;decide))).trans e1
 have e2':=(he 2 (fun j hj e=>absurd e.symm (by revert j;decide))).trans e2
 have hB:=hdr hH'.but
 have hlw:=hB.size
 have:i=0∨i=1∨i=2∨i=3∨i=4∨i=5∨i=6∨i=7∨i=8∨i=9∨i=10∨i=11∨i=12∨i=13∨i=14∨i=15∨i=16:=by omega
 rcases this with rfl|rfl|rfl|rfl|rfl|rfl|rfl|rfl|rfl|rfl|rfl|rfl|rfl|rfl|rfl|rfl|rfl
 ·(
 obtain rfl:=so (show jk[0]? =some qgv from rfl) ho
 rw[hdi] at hH'
 refine zi (di a w _ _ _ _) (hk (w.heap.size,b1,b8,bd) _ _ rfl (fun j hj hdj=>?_) ⟨hH'.zwr _,fun h1 h2=>⟨(hX h1 h2).1.but ((But.refl _ _).alloc _),(hX h1 h2).2⟩⟩)
 have:j=0∨j=1∨j=2∨j=3∨j=4∨j=5∨j=6∨j=7∨j=8∨j=9∨j=10∨j=11∨j=12∨j=13∨j=14∨j=15∨j=16:=by omega
 rcases this with rfl|rfl|rfl|rfl|rfl|rfl|rfl|rfl|rfl|rfl|rfl|rfl|rfl|rfl|rfl|rfl|rfl
 all_goals first
  | rfl
  | (rw[hdi] at hdj;simp at hdj)
  | (exfalso;first | (have:=(hH'.hr hdj).1;simp at this) | (have:=(hH'.hr (hH'.hz hdj)).1;simp at this)))
 ·(
 obtain rfl:=so (show jk[1]? =some qgu from rfl) ho
 rw[hdi] at hH'
 refine zi (di a w _ _ _ _) (hk (b0,w.heap.size,b8,bd) _ _ rfl (fun j hj hdj=>?_) ⟨hH'.zwq _,fun h1 h2=>⟨(hX h1 h2).1.but ((But.refl _ _).alloc _),(hX h1 h2).2⟩⟩)
 have:j=0∨j=1∨j=2∨j=3∨j=4∨j=5∨j=6∨j=7∨j=8∨j=9∨j=10∨j=11∨j=12∨j=13∨j=14∨j=15∨j=16:=by omega
 rcases this with rfl|rfl|rfl|rfl|rfl|rfl|rfl|rfl|rfl|rfl|rfl|rfl|rfl|rfl|rfl|rfl|rfl
 all_goals first
  | rfl
  | (rw[hdi] at hdj;simp at hdj)
  | (exfalso;have:=(hH'.hp hdj).1;simp at this))
 ·obtain rfl:=so (show jk[2]? =some qgt from rfl) ho
  exact zi (xu a w _ _ _ _ _ _ e1') (hk (b0,b1,b8,bd) _ _ rfl (fun _ _ _=>rfl) hH)
 ·obtain rfl:=so (show jk[3]? =some qgs from rfl) ho
  exact zi (zdf a w _ _ _ _ _ _ 0 (hD 2 (by simp)).2) (hk (b0,b1,b8,bd) _ _ rfl (fun _ _ _=>rfl) hH)
 ·obtain rfl:=so (show jk[4]? =some qgr from rfl) ho
  exact zi (zai a w _ _ _ _ _ _ (hD 3 (by simp)).2 (by omega)) (hk (b0,b1,b8,bd) _ _ rfl (fun _ _ _=>rfl) hH)
 ·obtain rfl:=so (show jk[5]? =some qgq from rfl) ho
  exact zi (xu a w _ _ _ _ _ _ e2') (hk (b0,b1,b8,bd) _ _ rfl (fun _ _ _=>rfl) hH)
 ·obtain rfl:=so (show jk[6]? =some qgp from rfl) ho
  refine jd (pg a w _ _ _ _ _ _ (hD 5 (by simp)).2) (R:=fun w' v=>v=.pointer (some ⟨yb,2,none⟩)∧w'=w) ((xg yb y ny w (hy.but hB) hny).mono (fun e w' h=>⟨_,h.1,rfl,h.2⟩)) ?_
  rintro v w' ⟨rfl,rfl⟩
  exact hk (b0,b1,b8,bd) _ _ rfl (fun _ _ _=>rfl) hH
 ·(
 obtain rfl:=so (show jk[7]? =some qgo from rfl) ho
 have hs1:=hH'.s1 (hD 1 (by simp)).1
 rw[hdi] at hs1
 refine jd (mo a w _ _ _ _ _ _ _ _ _ _ (hD 1 (by simp)).2 (hD 4 (by simp)).2 (hD 6 (by simp)).2) (R:=fun w' v=>v=.pointer (some ⟨b1,0,none⟩)∧But [] W0.drew w'∧zh w' b1 0 P∧(∀ B,B≠b1→Slot w B 0→Slot w' B 0)∧(∀ b o z',b≠b1→zh w b o z'→zh w' b o z')∧w.heap.size≤w'.heap.size) ((je b1 xb 0 yb 2 x (ny:Int) P hP W0.drew w (hs1.2.2 rfl) hH'.but hs1.1 (by rw[hx0];exact hx.1) hy.drew.low hxl (by rw[Int.natAbs_natCast];exact hnyl) hPl).mono (fun e w' h=>⟨_,h.1,rfl,h.2⟩)) ?_
 rintro v w' ⟨rfl,k1,k2,k3,k4,k5⟩
 rw[hdi,(hD 1 (by simp)).1] at hH'
 refine hk (b0,b1,b8,bd) _ _ rfl (fun _ _ _=>rfl) ⟨?_,fun h1=>absurd ((hCl.not qig (i:=13) (j:=7) (by simp) hdi).symm.trans h1) (by simp)⟩
 show xh W0.drew P Z R b0 b1 b8 (d 0) (d 1) (d 8) true (d 14) (d 15) (d 16) w'
 rw[(hD 1 (by simp)).1]
 exact hH'.qlv k1 k2 k3 k4 k5)
 ·(
 obtain rfl:=so (show jk[8]? =some qgn from rfl) ho
 rw[hdi] at hH'
 refine zi (di a w _ _ _ _) (hk (b0,b1,w.heap.size,bd) _ _ rfl (fun j hj hdj=>?_) ⟨hH'.zwp _,fun h1 h2=>⟨(hX h1 h2).1.but ((But.refl _ _).alloc _),fun _=>Nat.ne_of_lt (hX h1 h2).1.lt⟩⟩)
 have:j=0∨j=1∨j=2∨j=3∨j=4∨j=5∨j=6∨j=7∨j=8∨j=9∨j=10∨j=11∨j=12∨j=13∨j=14∨j=15∨j=16:=by omega
 rcases this with rfl|rfl|rfl|rfl|rfl|rfl|rfl|rfl|rfl|rfl|rfl|rfl|rfl|rfl|rfl|rfl|rfl
 all_goals first
  | rfl
  | (rw[hdi] at hdj;simp at hdj)
  | (exfalso;have:=(hH'.hq hdj).1;simp at this))
 ·obtain rfl:=so (show jk[9]? =some qgm from rfl) ho
  exact zi (xu a w _ _ _ _ _ _ e2') (hk (b0,b1,b8,bd) _ _ rfl (fun _ _ _=>rfl) hH)
 ·obtain rfl:=so (show jk[10]? =some zwz from rfl) ho
  exact zi (zdf a w _ _ _ _ _ _ 0 (hD 9 (by simp)).2) (hk (b0,b1,b8,bd) _ _ rfl (fun _ _ _=>rfl) hH)
 ·obtain rfl:=so (show jk[11]? =some zwy from rfl) ho
  exact zi (zai a w _ _ _ _ _ _ (hD 10 (by simp)).2 (by omega)) (hk (b0,b1,b8,bd) _ _ rfl (fun _ _ _=>rfl) hH)
 ·obtain rfl:=so (show jk[12]? =some zwx from rfl) ho
  exact zi (xu a w _ _ _ _ _ _ e1') (hk (b0,b1,b8,bd) _ _ rfl (fun _ _ _=>rfl) hH)
 ·(
 obtain rfl:=so (show jk[13]? =some zww from rfl) ho
 refine jd (pg a w _ _ _ _ _ _ (hD 12 (by simp)).2) (R:=fun w' v=>∃ q,v=.pointer (some ⟨q,0,none⟩)∧w.heap.size≤q∧But [] w w'∧zh w' q 0 1) ((zpd xb w (hx.but hB)).mono (fun e w' ⟨q,h1,h2,h3,h4⟩=>⟨_,h1,q,rfl,h2,h3,h4⟩)) ?_
 rintro v w' ⟨q,rfl,hq,hb,hI⟩
 refine hk (b0,b1,b8,q) _ _ rfl (fun j hj hdj=>?_) ⟨hH'.stay hb,fun _ _=>⟨by rw[hnx1];exact hI,fun h8=>Ne.symm (Nat.ne_of_lt (Nat.lt_of_lt_of_le (hH'.s8 h8).2.1 hq))⟩⟩
 have:j=0∨j=1∨j=2∨j=3∨j=4∨j=5∨j=6∨j=7∨j=8∨j=9∨j=10∨j=11∨j=12∨j=13∨j=14∨j=15∨j=16:=by omega
 rcases this with rfl|rfl|rfl|rfl|rfl|rfl|rfl|rfl|rfl|rfl|rfl|rfl|rfl|rfl|rfl|rfl|rfl
 all_goals first
  | rfl
  | (rw[hdi] at hdj;simp at hdj))
 ·(
 obtain rfl:=so (show jk[14]? =some zwv from rfl) ho
 have hs1:=hH'.s8 (hD 8 (by simp)).1
 rw[hdi] at hs1
 refine jd (mo a w _ _ _ _ _ _ _ _ _ _ (hD 8 (by simp)).2 (hD 11 (by simp)).2 (hD 13 (by simp)).2) (R:=fun w' v=>v=.pointer (some ⟨b8,0,none⟩)∧But [] W0.drew w'∧zh w' b8 0 Z∧(∀ B,B≠b8→Slot w B 0→Slot w' B 0)∧(∀ b o z',b≠b8→zh w b o z'→zh w' b o z')∧w.heap.size≤w'.heap.size) ((zkt b8 yb 0 bd 0 y (nx:Int) Z hZ W0.drew w (hs1.2.2 rfl) hH'.but hs1.1 ((zh.drew hy.up).but hH'.but) (hX (hD 13 (by simp)).1 hdi).1 (Ne.symm (Nat.ne_of_lt (Nat.lt_of_lt_of_le ly hs1.1))) (Ne.symm ((hX (hD 13 (by simp)).1 hdi).2 (hD 8 (by simp)).1)) hyl (by rw[Int.natAbs_natCast];exact hnxl) hZl).mono (fun e w' h=>⟨_,h.1,rfl,h.2⟩)) ?_
 rintro v w' ⟨rfl,k1,k2,k3,k4,k5⟩
 rw[hdi,(hD 8 (by simp)).1] at hH'
 refine hk (b0,b1,b8,bd) _ _ rfl (fun _ _ _=>rfl) ⟨?_,fun _ h2=>absurd h2 (by rw[ek];simp)⟩
 show xh W0.drew P Z R b0 b1 b8 (d 0) (d 1) (d 8) (d 7) true (d 15) (d 16) w'
 rw[(hD 8 (by simp)).1]
 exact hH'.qlu k1 k2 k3 k4 k5)
 ·(
 obtain rfl:=so (show jk[15]? =some zwu from rfl) ho
 have d0:=(hD 0 (by simp)).1
 have hs1:=hH'.s0 d0
 rw[hdi] at hs1
 have hp7:=hH'.hp (hD 7 (by simp)).1
 have hq14:=hH'.hq (hD 14 (by simp)).1
 refine jd (zhf a w _ _ _ _ _ _ _ _ _ _ (hD 0 (by simp)).2 (hD 7 (by simp)).2 (hD 14 (by simp)).2) (R:=fun w' v=>v=.pointer (some ⟨b0,0,none⟩)∧But [] W0.drew w'∧zh w' b0 0 R∧(∀ B,B≠b0→Slot w B 0→Slot w' B 0)∧(∀ b o z',b≠b0→zh w b o z'→zh w' b o z')∧w.heap.size≤w'.heap.size) ((zku b0 0 b1 0 b8 0 P Z R w (hs1.2.2 rfl) (hH'.n01 d0 hp7.1) (hH'.n08 d0 hq14.1) hp7.2 hq14.2 hPl hZl (by omega) hR).mono (fun e w' h=>by
  obtain⟨h1,w1,v,h2,h3,rfl⟩:=h
  exact⟨_,h1,rfl,zgs (hs1.2.2 rfl) hH'.but hs1.1 h2 h3⟩)) ?_
 rintro v w' ⟨rfl,k1,k2,k3,k4,k5⟩
 rw[hdi,d0] at hH'
 refine hk (b0,b1,b8,bd) _ _ rfl (fun _ _ _=>rfl) ⟨?_,fun _ h2=>absurd ((hD 14 (by simp)).1.symm.trans h2) (by simp)⟩
 show xh W0.drew P Z R b0 b1 b8 (d 0) (d 1) (d 8) (d 7) (d 14) true (d 16) w'
 rw[d0]
 exact hH'.si k1 k2 k3 k4 k5)
 ·(
 obtain rfl:=so (show jk[16]? =some zwt from rfl) ho
 have d15:=(hD 15 (by simp)).1
 rw[d15] at hH'
 refine zi (zme a w _ _ _ _ _ _ (hD 15 (by simp)).2) (hk (b0,b1,b8,bd) _ _ rfl (fun _ _ _=>rfl) ⟨?_,fun _ h2=>absurd ((hD 14 (by simp)).1.symm.trans h2) (by simp)⟩)
 show xh W0.drew P Z R b0 b1 b8 (d 0) (d 1) (d 8) (d 7) (d 14) (d 15) true w
 rw[d15]
 exact hH'.done))
 ·rintro ⟨b0,b1,b8,bd⟩ d w hd hH
  have hH':xh W0.drew P Z R b0 b1 b8 (d 0) (d 1) (d 8) (d 7) (d 14) (d 15) (d 16) w:=hH.1
  exact hQ w b0 b1 b8 bd (hdr hH'.but) (hH'.s0 (hd 0 (by omega))).1 (hH'.hr (hd 15 (by omega))).2)
theorem zso (zb xb yb:Nat) (x y:Int) (nx ny:Nat) (w:World) (hz0:Slot w zb 0) (hz2:Slot w zb 2) (hx:om w xb) (hx0:x=0) (hnx1:(nx:Int)=1) (hy:zw w yb y (ny:Int)) (hny:0<ny) (hxl:(wd 4294967296 x.natAbs).length<8388608) (hyl:(wd 4294967296 y.natAbs).length<8388608) (hnxl:(wd 4294967296 nx).length<8388608) (hnyl:(wd 4294967296 ny).length<8388608) (P Z R D:Int) (hP:x*(ny:Int)=P) (hZ:y*(nx:Int)=Z) (hR:R=P+Z) (hD:(nx:Int)*(ny:Int)=D) (hPl:(wd 4294967296 P.natAbs).length<8388608) (hZl:(wd 4294967296 Z.natAbs).length<8388608) (hRl:(wd 4294967296 R.natAbs).length<8388608) (hDl:(wd 4294967296 D.natAbs).length<8388608) (hD0:D≠0) (A B:Int) (eA:Hid (A=zdg (if D<0 then -R else R) D.natAbs)) (eB:Hid (B=zdh R D.natAbs)) :
   Calls prog 162 #[.pointer (some ⟨zb,0,none⟩),.pointer (some ⟨xb,0,none⟩),.pointer (some ⟨yb,0,none⟩)] w fun e w'=>e=.returned (.pointer (some ⟨zb,0,none⟩))∧But [zb] w w'∧zw w' zb A B:=by(
 have HX:=af hx
 have HY:=af hy
 have HZ0:=af hz0
 have HZ2:=af hz2
 have REG:=af (fun (Q:Exit→Act→World→Prop) (base:Act) (hs:23<base.tmps.size) (e1:base.eval (.tmp 1)=.pointer (some ⟨xb,0,none⟩)) (e2:base.eval (.tmp 2)=.pointer (some ⟨yb,0,none⟩))=>zxa 1 Q base w xb yb x y P Z R nx ny hs e1 e2 hx hx0 hnx1 hy hny hxl hyl hnxl hnyl hP hZ hR hPl hZl hRl)
 have DX:=af (fun W (h:om W xb)=>zpd xb W h)
 have DY:=af (fun W (h:zw W yb y (ny:Int))=>xg yb y ny W h hny)
 have MU:=af (fun (A q:Nat) (w P:World) (hs:Slot P A 0) (hw:But [] w P) (hA:w.heap.size≤A) (hx:zh P q 0 1) (hy:zw P yb y (ny:Int)) (n1:A≠q) (n2:A≠yb)=>zkt A q 0 yb 2 (nx:Int) (ny:Int) D hD w P hs hw hA (by rw[hnx1];exact hx) hy.low n1 n2 (by rw[Int.natAbs_natCast];exact hnxl) (by rw[Int.natAbs_natCast];exact hnyl) hDl)
 have SF:=af (fun (b0 b1:Nat) (W:World) (h0:Slot W zb 0) (h2:Slot W zb 2) (ha:zh W b0 0 R) (hb:zh W b1 0 D)=>dh zb b0 0 b1 0 R D W h0 h2 ha hb hRl hDl hD0 A B eA eB)
 clear hx hy hz0 hz2 hny hx0 hnx1 hxl hyl hnxl hnyl hP hZ hR hD hPl hZl hRl hDl hD0 eA eB
 go_enter func162,ntmps162
 go_wp2_with fail
 refine ae REG _ _ (by simp) (by simp[Act.eval]) (by simp[Act.eval]) ?_
 intro w1 b0 b1 b8 bd hb1 hb0 hI
 simp only[bj,List.foldl_cons,List.foldl_nil,Act.put,List.setIfInBounds_toArray,List.set_cons_zero,List.set_cons_succ]
 obtain⟨W0,hW0⟩:∃ W0,W0=w1.alloc (.cells #[.bool false,.slice none 0 0] 111):=⟨_,rfl⟩
 have hs:=jq w1 111
 rw[← hW0] at hs
 have hbw:But [] w1 W0:=by rw[hW0];exact (But.refl _ _).alloc _
 have hb2:=hb1.trans' hbw
 have K0:=af (And.intro hs (And.intro hbw (And.intro hb1 (And.intro hb0 hI))))
 have KX:=af ((ae HX).but hb2)
 have KY:=af ((ae HY).but hb2)
 have HW0:=af hW0
 clear hW0 hs hbw hb1 hb0 hb2 hI
 obtain⟨g,hg⟩:∃ g,g=w1.heap.size:=⟨_,rfl⟩
 go_wp2_with fail
 rw[← ae HW0,← hg]
 rw[← hg] at K0
 have HG:=af hg
 clear hg
 refine (ae DX _ (ae KX)).mono ?_
 rintro e w2 ⟨q,rfl,hq,hbq,hIq⟩
 have hlg:g<W0.heap.size:=(ae K0).1.lt
 have KY2:=af ((ae KY).but hbq)
 have KQ:=af (And.intro hIq (And.intro ((ae K0).1.but hbq (by simp)) (And.intro ((ae K0).2.1.trans' hbq) (Nat.ne_of_lt (Nat.lt_of_lt_of_le hlg hq)))))
 clear hq hbq hIq hlg
 go_wp2_with fail
 refine (ae DY _ (ae KY2)).mono ?_
 rintro e w3 ⟨rfl,hw⟩
 obtain rfl:=hw.symm
 clear hw
 go_wp2_with fail
 refine (ae MU g q w1 w2 (ae KQ).2.1 (ae KQ).2.2.1 (Nat.le_of_eq (ae HG).symm) (ae KQ).1 (ae KY2) (ae KQ).2.2.2 (by
  have h1:=(ae HY).lt
  have h2:=(ae K0).2.2.1.size
  have h3:=ae HG
  omega)).mono ?_
 rintro e w4 ⟨rfl,k1,k2,k3,k4,k5⟩
 have FIN:Hid (Slot w4 zb 0∧Slot w4 zb 2∧zh w4 b0 0 R∧zh w4 g 0 D∧But [] w w4):=by
  obtain⟨hs,hbw,hb1,hb0,hI⟩:=ae K0
  have hb3:=hb1.trans' k1
  exact⟨(ae HZ0).but hb3 (by simp),(ae HZ2).but hb3 (by simp),hI.but k1,k2,hb3⟩
 clear k1 k2 k3 k4 k5 K0 KX KY KY2 KQ HW0 HG MU DX DY REG HX HY HZ0 HZ2
 go_wp2_with fail
 refine (ae SF b0 g _ (ae FIN).1 (ae FIN).2.1 (ae FIN).2.2.1 (ae FIN).2.2.2.1).mono ?_
 rintro e w3 ⟨rfl,k1,k2⟩
 have F3:=af (And.intro ((ae FIN).2.2.2.2.of_nil.trans k1 (fun x hx=>.inl hx)) k2)
 clear k1 k2 FIN SF
 go_wp2
 go_ret
 exact⟨rfl,(ae F3).1,(ae F3).2⟩)
theorem zpz (xb yb:Nat) (f g:Rat) (w:World) (hf0:f=0) (hx:om w xb) (hy:ze w yb g) (lf:zu f 2000000) (lg:zu g 2000000) :
   Calls prog 82 #[.pointer (some ⟨xb,0,none⟩),.pointer (some ⟨yb,0,none⟩)] w fun e w'=>∃ zb,e=.returned (.pointer (some ⟨zb,0,none⟩))∧But [] w w'∧ze w' zb (f+g)∧w.heap.size≤zb:=by(
 have hfd:0<f.den:=Nat.pos_of_ne_zero f.den_nz
 have hgd:0<g.den:=Nat.pos_of_ne_zero g.den_nz
 have hQ0:(f.den:Int)*(g.den:Int)≠0:=Int.mul_ne_zero (by omega) (by omega)
 obtain⟨e1,e2⟩:=zdw (f.num*(g.den:Int)+g.num*(f.den:Int)) ((f.den:Int)*(g.den:Int)) hQ0 (f+g) (zgt f g)
 obtain⟨W0,hW0⟩:∃ W0,W0=w.alloc (.cells #[.bool false,.slice none 0 0,.bool false,.slice none 0 0] 113):=⟨_,rfl⟩
 have hs:=zby w 113
 have hbw:But [] w W0:=by rw[hW0];exact (But.refl _ _).alloc _
 rw[← hW0] at hs
 obtain⟨lf1,lf2⟩:=lf
 obtain⟨lg1,lg2⟩:=lg
 have d1:(wd 4294967296 ((f.den:Nat):Int).natAbs).length≤2000000:=by rw[Int.natAbs_natCast];exact lf2
 have d2:(wd 4294967296 ((g.den:Nat):Int).natAbs).length≤2000000:=by rw[Int.natAbs_natCast];exact lg2
 have p1:=qp f.num (g.den:Int) _ _ lf1 d2
 have p2:=qp g.num (f.den:Int) _ _ lg1 d1
 have p3:=qp (f.den:Int) (g.den:Int) _ _ d1 d2
 have p4:=zbj _ _ _ p1 p2
 have MU:=af (zso w.heap.size xb yb f.num g.num f.den g.den W0 hs.1 hs.2 (hx.but hbw) (by rw[hf0];rfl) (by rw[hf0];rfl) (zw.but hy hbw) hgd (by omega) (by omega) (by omega) (by omega) _ _ _ _ rfl rfl rfl rfl (by omega) (by omega) (by omega) (by omega) hQ0 (f+g).num ((f+g).den:Int) e1 e2)
 have HW0:=af hW0
 have HBW:=af hbw
 clear hW0 hbw hs e1 e2 hQ0 p1 p2 p3 p4 d1 d2 lf1 lf2 lg1 lg2 hx hy hfd hgd
 go_enter func82,ntmps82
 go_wp2_with fail
 rw[← ae HW0]
 refine (ae MU).mono ?_
 rintro e w1 ⟨rfl,h1,h2⟩
 have FIN:=af (And.intro ((ae HBW).trans h1 (by simp)) h2)
 clear h1 h2 MU
 go_wp2
 go_ret
 exact⟨w.heap.size,rfl,(ae FIN).1,(ae FIN).2,Nat.le_refl _⟩)
end Go.Proofs.YtagmkkiagjmimaaGreatDoor
