/- A region that draws its order, whatever  -/
import Derived.Test.YtffghofheeleeaaGreatDoorKLXqS
namespace Go.Proofs.YtffghofheeleeaaGreatDoor
open Go.Proofs.Tryz
open Go.RowKit
set_option maxHeartbeats 8000000
set_option maxRecDepth 100000
structure qeq {α:Type} (ops:Array Oper) (base:Act) (H:α→(Nat→Bool)→World→Prop) (V:α→Nat→Value) (T:Nat→Nat) (wr:Nat→Bool) (m:Nat) (d:Nat→Bool) (a:Act) (w:World) (N:α):Prop where
 down:Closed ops d
 mem:H N d w
 size:a.tmps.size=base.tmps.size
 defers:a.defers=base.defers
 rest:∀ t,(∀ j,j<m→wr j=true→d j=true→t≠T j)→a.tmps[t]? = base.tmps[t]?
 has:∀ i,i<m→wr i=true→d i=true→a.eval (.tmp (T i))=V N i
def zsa (ops:Array Oper) (T:Nat→Nat) (wr:Nat→Bool) (gs:List (Nat × Bool)):Bool:=(List.range ops.size).all fun i=>match ops[i]? with
 | some o=>(match o.guard with | none=>true | some (j,b)=>wr j && gs.contains (j,b) && (match ops[j]? with | some oj=>oj.dst==some (T j) | none=>false) && o.after.any fun e=>Region.binds .any e && e.on==j)
 | none=>true
theorem guard_of {ops:Array Oper} {T:Nat→Nat} {wr:Nat→Bool} {gs:List (Nat × Bool)} (h:zsa ops T wr gs=true) {i:Nat} {o:Oper} {g:Nat × Bool} (ho:ops[i]? = some o) (hg:o.guard=some g):wr g.1=true∧g ∈ gs∧∃ oj,ops[g.1]? = some oj∧oj.dst=some (T g.1)∧∃ e ∈ o.after,Region.binds .any e=true∧e.on=g.1:=by
 have hi:i<ops.size:=(Array.getElem?_eq_some_iff.1 ho).1
 unfold zsa at h
 rw[List.all_eq_true] at h
 have h1:=h i (List.mem_range.2 hi)
 simp only[ho,hg,Bool.and_eq_true] at h1
 obtain⟨⟨⟨h2,h3⟩,h4⟩,h5⟩:=h1
 refine⟨h2,List.contains_iff_mem.1 h3,?_⟩
 cases hoj:ops[g.1]? with
 | none=>rw[hoj] at h4;simp at h4
 | some oj =>
  rw[hoj] at h4
  refine⟨oj,rfl,by simpa using h4,?_⟩
  rw[Array.any_eq_true] at h5
  obtain⟨k,hk,h6⟩:=h5
  simp only[Bool.and_eq_true,beq_iff_eq] at h6
  exact⟨o.after[k],Array.getElem_mem hk,h6.1,h6.2⟩
theorem zyr {P:Program} {id:Nat} {ops:Array Oper} {Q:Exit→Act→World→Prop} {base:Act} {W0:World} (hm:P.follows .mixedOrders=true)
  (hlow:∀ i o,ops[i]? = some o→∀ e ∈ o.after,Region.binds .any e=true→e.on<i)
  {α:Type} (H:α→(Nat→Bool)→World→Prop) (V:α→Nat→Value) (T:Nat→Nat) (wr:Nat→Bool) (m:Nat) (hsz:ops.size=m) (gs:List (Nat × Bool)) (hg:zsa ops T wr gs=true) (hgv:∀ g ∈ gs,∀ N,V N g.1=.bool g.2)
  (hinj:∀ i j,i<m→j<m→wr i=true→wr j=true→T i=T j→i=j) (hT:∀ i,i<m→wr i=true→T i<base.tmps.size) (N0:α) (h0:H N0 (fun _=>false) W0.drew)
  (hstep:∀ (N:α) (d:Nat→Bool) (i:Nat) (o:Oper) (a:Act) (w:World) (K:Act→World→Prop),i<m→ops[i]? = some o→d i=false→Closed ops d→H N d w→(∀ t,(∀ j,j<m→wr j=true→d j=true→t≠T j)→a.eval (.tmp t)=base.eval (.tmp t))→(∀ e ∈ o.after,Region.binds .any e=true→d e.on=true∧(wr e.on=true→a.eval (.tmp (T e.on))=V N e.on))→(∀ N' v w',(wr i=true→v=V N' i)→(∀ j,j<m→wr j=true→d j=true→V N' j=V N j)→H N' (came d i) w'→K (a.put (if wr i=true then some (T i) else none) v) w')→o.wp P a w K Q)
  (hend:∀ N d w,(∀ i,i<m→d i=true)→H N d w→Q .normal (bk base (((List.range m).filter wr).map fun i=>(T i,V N i))) w) :
  (Code.region id ops true).wp P Q base W0:=by
 have wpo:∀ i o a w (K:Act→World→Prop),ops[i]? = some o→Region.wanted o (yielded ops a.tmps)=true→o.wp P a w K Q→wpOp P ops Q i K a w:=fun i o a w K ho hw h=>by
  unfold wpOp
  simp only[ho,hw,if_true]
  exact .inl h
 refine zck hm hlow (fun d a w=>∃ N,qeq ops base H V T wr m d a w N) ?_ ?_ ?_
 ·exact⟨N0,fun _ _ _ h=>by simp at h,h0,rfl,rfl,fun _ _=>rfl,fun _ _ _ h=>by simp at h⟩
 ·rintro d a w hd ⟨N,h⟩
  have ea:a=bk base (((List.range m).filter wr).map fun i=>(T i,V N i)):=by
   refine zgc _ base a h.defers h.size (fun p hp=>?_) (fun t ht=>?_)
   ·obtain⟨i,hi,rfl⟩:=List.mem_map.1 hp
    obtain⟨hi1,hi2⟩:=List.mem_filter.1 hi
    have hi':=List.mem_range.1 hi1
    exact zks (h.has i hi' hi2 (hd i (by omega))) (by rw[h.size];exact hT i hi' hi2)
   ·refine h.rest t (fun j hj hw hdj e=>?_)
    exact ht (T j,V N j) (List.mem_map.2 ⟨j,List.mem_filter.2 ⟨List.mem_range.2 hj,hw⟩,rfl⟩) e
  rw[ea]
  exact hend N d w (fun i hi=>hd i (by omega)) h.mem
 ·rintro d i o a w ho hdi hdep ⟨N,h⟩
  have hi:i<m:=by rw[← hsz];exact (Array.getElem?_eq_some_iff.1 ho).1
  have hwt:Region.wanted o (yielded ops a.tmps)=true:=by
   unfold Region.wanted
   cases hgo:o.guard with
   | none=>rfl
   | some jw =>
    obtain⟨hwj,hgm,oj,hoj,hdj,e,he,hbi,hon⟩:=guard_of hg ho hgo
    have hjm:jw.1<m:=by rw[← hsz];exact (Array.getElem?_eq_some_iff.1 hoj).1
    have hv:a.eval (.tmp (T jw.1))=.bool jw.2:=by
     rw[h.has _ hjm hwj (by rw[← hon];exact hdep e he hbi)]
     exact hgv _ hgm N
    have hsl:=zks hv (by rw[h.size];exact hT _ hjm hwj)
    show (yielded ops a.tmps jw.1==some jw.2)=true
    unfold yielded
    rw[hoj,Option.bind_some,hdj,Option.bind_some,hsl]
    simp
  refine wpo i o a w _ ho hwt ?_
  refine hstep N d i o a w _ hi ho hdi h.down h.mem (fun t ht=>zmw (h.rest t ht)) (fun ed he hb=>⟨hdep ed he hb,fun hw=>h.has _ (by have:=hlow i o ho ed he hb;omega) hw (hdep ed he hb)⟩) ?_
  rintro N' v w' hv hV hH
  by_cases hw:wr i=true
  ·obtain rfl:=hv hw
   rw[if_pos hw]
   refine⟨N',h.down.next ho hdep,hH,by rw[zdc];exact h.size,h.defers,fun t ht=>?_,fun j hj hwj hd=>?_⟩
   ·rw[zia,if_neg (fun e=>ht i hi hw (ko d i) e.symm)]
    refine h.rest t (fun j hj hwj hdj=>ht j hj hwj ?_)
    by_cases e:j=i
    ·subst e;exact ko d j
    ·rw[jh d e];exact hdj
   ·by_cases e:j=i
    ·subst e
     exact at_eq a (T j) _ (by rw[h.size];exact hT j hj hwj)
    ·rw[jh d e] at hd
     rw[qbu a (T i) (T j) _ (fun e2=>e (hinj j i hj hi hwj hw e2)),h.has j hj hwj hd]
     exact (hV j hj hwj hd).symm
  ·rw[if_neg hw]
   have ne:∀ j,wr j=true→j≠i:=fun j hj e=>hw (e ▸ hj)
   refine⟨N',h.down.next ho hdep,hH,h.size,h.defers,fun t ht=>h.rest t (fun j hj hwj hdj=>ht j hj hwj (by rw[jh d (ne j hwj)];exact hdj)),fun j hj hwj hd=>?_⟩
   rw[jh d (ne j hwj)] at hd
   rw[show a.put none v=a from rfl,h.has j hj hwj hd]
   exact (hV j hj hwj hd).symm
structure zbl (B:Nat) (w:World) (g:Nat) (vs:List Value):Prop where
 cells:∀ k v,vs[k]? = some v→w.cell? ⟨g,k,none⟩=some v
 loose:∀ j,w.frozen? ⟨g,j,none⟩=false
 new:B≤g
 lt:g<w.heap.size
theorem zbl.but {B:Nat} {w w':World} {g:Nat} {vs:List Value} (h:zbl B w g vs) (hb:But [] w w'):zbl B w' g vs :=
 ⟨fun k v hv=>hb.ag (h.cells k v hv) (by simp),fun j=>(hb.frozen (p:=⟨g,j,none⟩) h.lt (by simp)).trans (h.loose j),h.new,Nat.lt_of_lt_of_le h.lt hb.size⟩
theorem zbl.made (B:Nat) (w:World) (vs:List Value) (t:TypeId) (h:B≤w.heap.size):zbl B (w.alloc (.cells vs.toArray t)) w.heap.size vs :=
 ⟨fun k v hv=>by rw[World.cell?_alloc_new];simpa using hv,fun j=>by simp,h,by simp⟩
set_option linter.unusedVariables false
theorem zbl.qjk {B:Nat} {w:World} {g:Nat} {s1 s2 s3 s4:ByteArray} (h:zbl B w g [.string s1,.string s2,.string s3,.string s4]):vw w (.slice (some ⟨g,0,none⟩) 4 4) [s1,s2,s3,s4]:=by
 refine⟨_,4,rfl,fun t f ht=>?_⟩
 match t,ht with
 | 0,ht=>simp at ht;subst ht;exact⟨_,0,rfl,h.cells 0 _ rfl⟩
 | 1,ht=>simp at ht;subst ht;exact⟨_,0,rfl,h.cells 1 _ rfl⟩
 | 2,ht=>simp at ht;subst ht;exact⟨_,0,rfl,h.cells 2 _ rfl⟩
 | 3,ht=>simp at ht;subst ht;exact⟨_,0,rfl,h.cells 3 _ rfl⟩
 | t+4,ht=>simp at ht
theorem qqb (a:Act) (w:World) (d t:Nat) (u:TypeId) (ps:String) (ed:Array Edge) (gd:Option (Nat × Bool)) (h1:a.eval (.tmp t)=.nilIface) :
  (execOp a.eval { dst:=some d,op:=Op.binOp BinOp.eql 29 (.tmp t) (Operand.const Value.nilIface) 29,type:=u,pos:=ps,after:=ed,guard:=gd }).run prog w=.ok (.value (.bool true)) w:=by
 have e0:a.eval (.const .nilIface)=.nilIface:=rfl
 unfold execOp
 simp only[h1,e0]
 go_simp
 try rfl
theorem qqa (a:Act) (w:World) (d t:Nat) (u:TypeId) (ps:String) (ed:Array Edge) (gd:Option (Nat × Bool)) (b o o':Nat) (ho:o+0=o') (h1:a.eval (.tmp t)=.pointer (some ⟨b,o,none⟩)) :
  (execOp a.eval { dst:=some d,op:=Op.fieldAddr 64 (.tmp t) 0,type:=u,pos:=ps,after:=ed,guard:=gd }).run prog w=.ok (.value (.pointer (some ⟨b,o',none⟩))) w:=by
 subst ho
 unfold execOp
 simp only[h1]
 go_simp
theorem zpl (a:Act) (w:World) (d t0:Nat) (u:TypeId) (ps:String) (ed:Array Edge) (gd:Option (Nat × Bool)) (z0:Value) (h0:a.eval (.tmp t0)=z0) :
  (execOp a.eval { dst:=some d,op:=Op.call { callee:=Callee.value (Operand.func 9),args:=#[Operand.tmp t0],argTypes:=#[27] },type:=u,pos:=ps,after:=ed,guard:=gd }).run prog w=.ok (.enter 9 #[z0]) w:=by
 unfold execOp
 go_simp
 rw[← h0]
 simp[Act.eval]
theorem qpz (a:Act) (w:World) (d t:Nat) (u:TypeId) (ps:String) (ed:Array Edge) (gd:Option (Nat × Bool)) (b o o':Nat) (ho:o+4=o') (h1:a.eval (.tmp t)=.pointer (some ⟨b,o,none⟩)) :
  (execOp a.eval { dst:=some d,op:=Op.fieldAddr 64 (.tmp t) 1,type:=u,pos:=ps,after:=ed,guard:=gd }).run prog w=.ok (.value (.pointer (some ⟨b,o',none⟩))) w:=by
 subst ho
 unfold execOp
 simp only[h1]
 go_simp
theorem qpy (a:Act) (w:World) (d t:Nat) (u:TypeId) (ps:String) (ed:Array Edge) (gd:Option (Nat × Bool)) (b o o':Nat) (ho:o+8=o') (h1:a.eval (.tmp t)=.pointer (some ⟨b,o,none⟩)) :
  (execOp a.eval { dst:=some d,op:=Op.fieldAddr 64 (.tmp t) 2,type:=u,pos:=ps,after:=ed,guard:=gd }).run prog w=.ok (.value (.pointer (some ⟨b,o',none⟩))) w:=by
 subst ho
 unfold execOp
 simp only[h1]
 go_simp
theorem qpx (a:Act) (w:World) (d t:Nat) (u:TypeId) (ps:String) (ed:Array Edge) (gd:Option (Nat × Bool)) (b o o':Nat) (ho:o+12=o') (h1:a.eval (.tmp t)=.pointer (some ⟨b,o,none⟩)) :
  (execOp a.eval { dst:=some d,op:=Op.fieldAddr 64 (.tmp t) 3,type:=u,pos:=ps,after:=ed,guard:=gd }).run prog w=.ok (.value (.pointer (some ⟨b,o',none⟩))) w:=by
 subst ho
 unfold execOp
 simp only[h1]
 go_simp
theorem qpw (a:Act) (w:World) (d t0 t1 t2 t3:Nat) (u:TypeId) (ps:String) (ed:Array Edge) (gd:Option (Nat × Bool)) (z0:ByteArray) (z1:ByteArray) (z2:ByteArray) (z3:ByteArray) (h0:a.eval (.tmp t0)=.string z0) (h1:a.eval (.tmp t1)=.string z1) (h2:a.eval (.tmp t2)=.string z2) (h3:a.eval (.tmp t3)=.string z3) :
  (execOp a.eval { dst:=some d,op:=Op.buildSlice 76 4 #[(0,Operand.tmp t0),(1,Operand.tmp t1),(2,Operand.tmp t2),(3,Operand.tmp t3)],type:=u,pos:=ps,after:=ed,guard:=gd }).run prog w=.ok (.value (.slice (some ⟨w.heap.size,0,none⟩) 4 4)) (w.alloc (.cells #[.string z0,.string z1,.string z2,.string z3] 9)):=by
 unfold execOp
 simp only[List.map_toArray,List.map_cons,List.map_nil,h0,h1,h2,h3]
 go_simp
theorem qfd (a:Act) (w:World) (d t0:Nat) (u:TypeId) (ps:String) (ed:Array Edge) (gd:Option (Nat × Bool)) (z0:Value) (h0:a.eval (.tmp t0)=z0) :
  (execOp a.eval { dst:=some d,op:=Op.call { callee:=Callee.value (Operand.func 27),args:=#[Operand.tmp t0],argTypes:=#[69] },type:=u,pos:=ps,after:=ed,guard:=gd }).run prog w=.ok (.enter 27 #[z0]) w:=by
 unfold execOp
 go_simp
 rw[← h0]
 simp[Act.eval]
theorem qfc (a:Act) (w:World) (d t0 t1:Nat) (u:TypeId) (ps:String) (ed:Array Edge) (gd:Option (Nat × Bool)) (z0 z1:Value) (h0:a.eval (.tmp t0)=z0) (h1:a.eval (.tmp t1)=z1) :
  (execOp a.eval { dst:=some d,op:=Op.call { callee:=Callee.value (Operand.func 26),args:=#[Operand.tmp t0,Operand.tmp t1],argTypes:=#[76,76] },type:=u,pos:=ps,after:=ed,guard:=gd }).run prog w=.ok (.enter 26 #[z0,z1]) w:=by
 unfold execOp
 go_simp
 rw[← h0,← h1]
 simp[Act.eval]
theorem qfb (a:Act) (w:World) (d t1 t2:Nat) (u:TypeId) (ps:String) (ed:Array Edge) (gd:Option (Nat × Bool)) (x:Value) (h1:a.eval (.tmp t1)=.bool true) (h2:a.eval (.tmp t2)=x) :
  (execOp a.eval { dst:=some d,op:=Op.pick (.tmp t1) (.tmp t2) (.const (.bool false)),type:=u,pos:=ps,after:=ed,guard:=gd }).run prog w=.ok (.value x) w:=by
 unfold execOp
 simp only[h1,h2]
 go_simp
 try rfl
theorem qkp (a:Act) (w:World) (d t:Nat) (u:TypeId) (ps:String) (ed:Array Edge) (gd:Option (Nat × Bool)) (b o o':Nat) (ho:o+16=o') (h1:a.eval (.tmp t)=.pointer (some ⟨b,o,none⟩)) :
  (execOp a.eval { dst:=some d,op:=Op.fieldAddr 64 (.tmp t) 4,type:=u,pos:=ps,after:=ed,guard:=gd }).run prog w=.ok (.value (.pointer (some ⟨b,o',none⟩))) w:=by
 subst ho
 unfold execOp
 simp only[h1]
 go_simp
theorem qko (a:Act) (w:World) (d t:Nat) (u:TypeId) (ps:String) (ed:Array Edge) (gd:Option (Nat × Bool)) (b o:Nat) (v:Value) (h1:a.eval (.tmp t)=.pointer (some ⟨b,o,none⟩)) (hc:w.cell? ⟨b,o,none⟩=some v) :
  (execOp a.eval { dst:=some d,op:=Op.load 62 (.tmp t),type:=u,pos:=ps,after:=ed,guard:=gd }).run prog w=.ok (.value v) w:=by
 unfold execOp
 simp only[h1]
 go_simp
theorem qkn (a:Act) (w:World) (d t0:Nat) (u:TypeId) (ps:String) (ed:Array Edge) (gd:Option (Nat × Bool)) (z0:Value) (h0:a.eval (.tmp t0)=z0) :
  (execOp a.eval { dst:=some d,op:=Op.call { callee:=Callee.value (Operand.func 28),args:=#[Operand.tmp t0],argTypes:=#[62] },type:=u,pos:=ps,after:=ed,guard:=gd }).run prog w=.ok (.enter 28 #[z0]) w:=by
 unfold execOp
 go_simp
 rw[← h0]
 simp[Act.eval]
def qrx:Oper:=⟨some 60,.move (.tmp 4),29, "law.go:902",#[],none⟩
def qrw:Oper:=⟨some 61,.binOp .eql 29 (.tmp 60) (.const .nilIface) 29,4, "law.go:902",#[⟨0,.data⟩],none⟩
def qrv:Oper:=⟨some 62,.move (.tmp 61),4, "law.go:902",#[⟨1,.data⟩],none⟩
def qru:Oper:=⟨some 63,.fieldAddr 64 (.tmp 3) 0,0, "law.go:902",#[⟨2,.guard⟩],some (2,true)⟩
def qrt:Oper:=⟨some 64,.load 27 (.tmp 63),27, "law.go:902",#[⟨3,.data⟩,⟨2,.guard⟩],some (2,true)⟩
def qrs:Oper:=⟨some 65,.call { callee:=.value (.func 9),args:=#[.tmp 64],argTypes:=#[27] },9, "law.go:902",#[⟨4,.data⟩,⟨2,.chain⟩,⟨2,.guard⟩],some (2,true)⟩
def qrr:Oper:=⟨some 66,.fieldAddr 64 (.tmp 3) 1,0, "law.go:902",#[⟨2,.guard⟩],some (2,true)⟩
def qrq:Oper:=⟨some 67,.load 27 (.tmp 66),27, "law.go:902",#[⟨6,.data⟩,⟨2,.guard⟩],some (2,true)⟩
def qrp:Oper:=⟨some 68,.call { callee:=.value (.func 9),args:=#[.tmp 67],argTypes:=#[27] },9, "law.go:902",#[⟨7,.data⟩,⟨5,.chain⟩,⟨2,.guard⟩],some (2,true)⟩
def qro:Oper:=⟨some 69,.fieldAddr 64 (.tmp 3) 2,0, "law.go:902",#[⟨2,.guard⟩],some (2,true)⟩
def qma:Oper:=⟨some 70,.load 27 (.tmp 69),27, "law.go:902",#[⟨9,.data⟩,⟨2,.guard⟩],some (2,true)⟩
def qlz:Oper:=⟨some 71,.call { callee:=.value (.func 9),args:=#[.tmp 70],argTypes:=#[27] },9, "law.go:902",#[⟨10,.data⟩,⟨8,.chain⟩,⟨2,.guard⟩],some (2,true)⟩
def qly:Oper:=⟨some 72,.fieldAddr 64 (.tmp 3) 3,0, "law.go:902",#[⟨2,.guard⟩],some (2,true)⟩
def qlx:Oper:=⟨some 73,.load 27 (.tmp 72),27, "law.go:902",#[⟨12,.data⟩,⟨2,.guard⟩],some (2,true)⟩
def qlw:Oper:=⟨some 74,.call { callee:=.value (.func 9),args:=#[.tmp 73],argTypes:=#[27] },9, "law.go:902",#[⟨13,.data⟩,⟨11,.chain⟩,⟨2,.guard⟩],some (2,true)⟩
def qlv:Oper:=⟨some 75,.buildSlice 76 4 #[(0,.tmp 65),(1,.tmp 68),(2,.tmp 71),(3,.tmp 74)],76, "law.go:902",#[⟨5,.data⟩,⟨8,.data⟩,⟨11,.data⟩,⟨14,.data⟩,⟨2,.guard⟩],some (2,true)⟩
def qlu:Oper:=⟨some 76,.move (.tmp 5),69, "law.go:902",#[⟨2,.guard⟩],some (2,true)⟩
def qlt:Oper:=⟨some 77,.call { callee:=.value (.func 27),args:=#[.tmp 76],argTypes:=#[69] },76, "law.go:902",#[⟨16,.data⟩,⟨14,.chain⟩,⟨2,.guard⟩],some (2,true)⟩
def qls:Oper:=⟨some 78,.call { callee:=.value (.func 26),args:=#[.tmp 75,.tmp 77],argTypes:=#[76,76] },4, "law.go:902",#[⟨15,.data⟩,⟨17,.data⟩,⟨17,.chain⟩,⟨2,.guard⟩],some (2,true)⟩
def qlr:Oper:=⟨some 79,.pick (.tmp 62) (.tmp 78) (.const (.bool false)),4, "law.go:902",#[⟨2,.data⟩,⟨18,.data⟩],none⟩
def qlq:Oper:=⟨some 80,.move (.tmp 79),4, "law.go:902",#[⟨19,.data⟩,⟨18,.chain⟩],none⟩
def qlp:Oper:=⟨some 81,.fieldAddr 64 (.tmp 3) 4,0, "law.go:902",#[⟨20,.guard⟩],some (20,true)⟩
def qlo:Oper:=⟨some 82,.load 62 (.tmp 81),62, "law.go:902",#[⟨21,.data⟩,⟨20,.guard⟩],some (20,true)⟩
def qln:Oper:=⟨some 83,.call { callee:=.value (.func 28),args:=#[.tmp 82],argTypes:=#[62] },76, "law.go:902",#[⟨22,.data⟩,⟨20,.chain⟩,⟨20,.guard⟩],some (20,true)⟩
def qlm:Oper:=⟨some 84,.move (.tmp 6),69, "law.go:902",#[⟨20,.guard⟩],some (20,true)⟩
def qlk:Oper:=⟨some 85,.call { callee:=.value (.func 27),args:=#[.tmp 84],argTypes:=#[69] },76, "law.go:902",#[⟨24,.data⟩,⟨23,.chain⟩,⟨20,.guard⟩],some (20,true)⟩
def qlj:Oper:=⟨some 86,.call { callee:=.value (.func 26),args:=#[.tmp 83,.tmp 85],argTypes:=#[76,76] },4, "law.go:902",#[⟨23,.data⟩,⟨25,.data⟩,⟨25,.chain⟩,⟨20,.guard⟩],some (20,true)⟩
def qli:Oper:=⟨some 87,.pick (.tmp 80) (.tmp 86) (.const (.bool false)),4, "law.go:902",#[⟨20,.data⟩,⟨26,.data⟩],none⟩
def qlh:Oper:=⟨some 2,.assign (.tmp 87),4, "law.go:902",#[⟨27,.data⟩,⟨26,.chain⟩,⟨0,.phase⟩,⟨1,.phase⟩,⟨2,.phase⟩,⟨3,.phase⟩,⟨4,.phase⟩,⟨5,.phase⟩,⟨6,.phase⟩,⟨7,.phase⟩,⟨8,.phase⟩,⟨9,.phase⟩,⟨10,.phase⟩,⟨11,.phase⟩,⟨12,.phase⟩,⟨13,.phase⟩,⟨14,.phase⟩,⟨15,.phase⟩,⟨16,.phase⟩,⟨17,.phase⟩,⟨18,.phase⟩,⟨19,.phase⟩,⟨20,.phase⟩,⟨21,.phase⟩,⟨22,.phase⟩,⟨23,.phase⟩,⟨24,.phase⟩,⟨25,.phase⟩,⟨26,.phase⟩,⟨27,.phase⟩],none⟩
def dx:Array Oper:=#[qrx,qrw,qrv,qru,qrt,qrs,qrr,qrq,qrp,qro,qma,qlz,qly,qlx,qlw,qlv,qlu,qlt,qls,qlr,qlq,qlp,qlo,qln,qlm,qlk,qlj,qli,qlh]
structure zce (W0:World) (g3:Nat) (nf:Nat) (cf:Nat) (qf:Option Addr) (v5:Value) (v6:Value) (L2:List ByteArray) (t1:ByteArray) (t2:ByteArray) (t3:ByteArray) (t4:ByteArray) (s1:Bool) (x1:Int) (y1:Int) (p1:Option Addr) (s2:Bool) (x2:Int) (y2:Int) (p2:Option Addr) (s3:Bool) (x3:Int) (y3:Int) (p3:Option Addr) (s4:Bool) (x4:Int) (y4:Int) (p4:Option Addr) (gs:Nat) (ta:Value) (tb:Value) (tc:Value) (b15:Bool) (b17:Bool) (b23:Bool) (b25:Bool) (w:World):Prop where
 mem:But [] W0 w
 f15:b15=true→zbl W0.heap.size w gs [.string t1,.string t2,.string t3,.string t4]
 f17:b17=true→vw w ta [t1,t2,t3,t4]
 f23:b23=true→vw w tb L2
 f25:b25=true→vw w tc L2
theorem zce.but {W0:World} {g3:Nat} {nf:Nat} {cf:Nat} {qf:Option Addr} {v5:Value} {v6:Value} {L2:List ByteArray} {t1:ByteArray} {t2:ByteArray} {t3:ByteArray} {t4:ByteArray} {s1:Bool} {x1:Int} {y1:Int} {p1:Option Addr} {s2:Bool} {x2:Int} {y2:Int} {p2:Option Addr} {s3:Bool} {x3:Int} {y3:Int} {p3:Option Addr} {s4:Bool} {x4:Int} {y4:Int} {p4:Option Addr} {gs:Nat} {ta:Value} {tb:Value} {tc:Value} {b15 b17 b23 b25:Bool} {w w':World} (h:zce W0 g3 nf cf qf v5 v6 L2 t1 t2 t3 t4 s1 x1 y1 p1 s2 x2 y2 p2 s3 x3 y3 p3 s4 x4 y4 p4 gs ta tb tc b15 b17 b23 b25 w) (hb:But [] w w'):zce W0 g3 nf cf qf v5 v6 L2 t1 t2 t3 t4 s1 x1 y1 p1 s2 x2 y2 p2 s3 x3 y3 p3 s4 x4 y4 p4 gs ta tb tc b15 b17 b23 b25 w' :=
 { mem:=h.mem.trans' hb,f15:=fun e=>(h.f15 e).but hb,f17:=fun e=>(h.f17 e).but hb,f23:=fun e=>(h.f23 e).but hb,f25:=fun e=>(h.f25 e).but hb }
theorem zce.s15 {W0:World} {g3:Nat} {nf:Nat} {cf:Nat} {qf:Option Addr} {v5:Value} {v6:Value} {L2:List ByteArray} {t1:ByteArray} {t2:ByteArray} {t3:ByteArray} {t4:ByteArray} {s1:Bool} {x1:Int} {y1:Int} {p1:Option Addr} {s2:Bool} {x2:Int} {y2:Int} {p2:Option Addr} {s3:Bool} {x3:Int} {y3:Int} {p3:Option Addr} {s4:Bool} {x4:Int} {y4:Int} {p4:Option Addr} {gs:Nat} {ta:Value} {tb:Value} {tc:Value} {b15 b17 b23 b25:Bool} {w:World} (h:zce W0 g3 nf cf qf v5 v6 L2 t1 t2 t3 t4 s1 x1 y1 p1 s2 x2 y2 p2 s3 x3 y3 p3 s4 x4 y4 p4 gs ta tb tc b15 b17 b23 b25 w) (gs':Nat) (hf:zbl W0.heap.size w gs' [.string t1,.string t2,.string t3,.string t4]):zce W0 g3 nf cf qf v5 v6 L2 t1 t2 t3 t4 s1 x1 y1 p1 s2 x2 y2 p2 s3 x3 y3 p3 s4 x4 y4 p4 gs' ta tb tc true b17 b23 b25 w :=
 { mem:=h.mem,f15:=fun _=>hf,f17:=h.f17,f23:=h.f23,f25:=h.f25 }
theorem zce.s17 {W0:World} {g3:Nat} {nf:Nat} {cf:Nat} {qf:Option Addr} {v5:Value} {v6:Value} {L2:List ByteArray} {t1:ByteArray} {t2:ByteArray} {t3:ByteArray} {t4:ByteArray} {s1:Bool} {x1:Int} {y1:Int} {p1:Option Addr} {s2:Bool} {x2:Int} {y2:Int} {p2:Option Addr} {s3:Bool} {x3:Int} {y3:Int} {p3:Option Addr} {s4:Bool} {x4:Int} {y4:Int} {p4:Option Addr} {gs:Nat} {ta:Value} {tb:Value} {tc:Value} {b15 b17 b23 b25:Bool} {w:World} (h:zce W0 g3 nf cf qf v5 v6 L2 t1 t2 t3 t4 s1 x1 y1 p1 s2 x2 y2 p2 s3 x3 y3 p3 s4 x4 y4 p4 gs ta tb tc b15 b17 b23 b25 w) (ta':Value) (hf:vw w ta' [t1,t2,t3,t4]):zce W0 g3 nf cf qf v5 v6 L2 t1 t2 t3 t4 s1 x1 y1 p1 s2 x2 y2 p2 s3 x3 y3 p3 s4 x4 y4 p4 gs ta' tb tc b15 true b23 b25 w :=
 { mem:=h.mem,f15:=h.f15,f17:=fun _=>hf,f23:=h.f23,f25:=h.f25 }
theorem zce.s23 {W0:World} {g3:Nat} {nf:Nat} {cf:Nat} {qf:Option Addr} {v5:Value} {v6:Value} {L2:List ByteArray} {t1:ByteArray} {t2:ByteArray} {t3:ByteArray} {t4:ByteArray} {s1:Bool} {x1:Int} {y1:Int} {p1:Option Addr} {s2:Bool} {x2:Int} {y2:Int} {p2:Option Addr} {s3:Bool} {x3:Int} {y3:Int} {p3:Option Addr} {s4:Bool} {x4:Int} {y4:Int} {p4:Option Addr} {gs:Nat} {ta:Value} {tb:Value} {tc:Value} {b15 b17 b23 b25:Bool} {w:World} (h:zce W0 g3 nf cf qf v5 v6 L2 t1 t2 t3 t4 s1 x1 y1 p1 s2 x2 y2 p2 s3 x3 y3 p3 s4 x4 y4 p4 gs ta tb tc b15 b17 b23 b25 w) (tb':Value) (hf:vw w tb' L2):zce W0 g3 nf cf qf v5 v6 L2 t1 t2 t3 t4 s1 x1 y1 p1 s2 x2 y2 p2 s3 x3 y3 p3 s4 x4 y4 p4 gs ta tb' tc b15 b17 true b25 w :=
 { mem:=h.mem,f15:=h.f15,f17:=h.f17,f23:=fun _=>hf,f25:=h.f25 }
theorem zce.s25 {W0:World} {g3:Nat} {nf:Nat} {cf:Nat} {qf:Option Addr} {v5:Value} {v6:Value} {L2:List ByteArray} {t1:ByteArray} {t2:ByteArray} {t3:ByteArray} {t4:ByteArray} {s1:Bool} {x1:Int} {y1:Int} {p1:Option Addr} {s2:Bool} {x2:Int} {y2:Int} {p2:Option Addr} {s3:Bool} {x3:Int} {y3:Int} {p3:Option Addr} {s4:Bool} {x4:Int} {y4:Int} {p4:Option Addr} {gs:Nat} {ta:Value} {tb:Value} {tc:Value} {b15 b17 b23 b25:Bool} {w:World} (h:zce W0 g3 nf cf qf v5 v6 L2 t1 t2 t3 t4 s1 x1 y1 p1 s2 x2 y2 p2 s3 x3 y3 p3 s4 x4 y4 p4 gs ta tb tc b15 b17 b23 b25 w) (tc':Value) (hf:vw w tc' L2):zce W0 g3 nf cf qf v5 v6 L2 t1 t2 t3 t4 s1 x1 y1 p1 s2 x2 y2 p2 s3 x3 y3 p3 s4 x4 y4 p4 gs ta tb tc' b15 b17 b23 true w :=
 { mem:=h.mem,f15:=h.f15,f17:=h.f17,f23:=h.f23,f25:=fun _=>hf }
def zhn (i:Nat):Nat:=match i with
 | 0=>60
 | 1=>61
 | 2=>62
 | 3=>63
 | 4=>64
 | 5=>65
 | 6=>66
 | 7=>67
 | 8=>68
 | 9=>69
 | 10=>70
 | 11=>71
 | 12=>72
 | 13=>73
 | 14=>74
 | 15=>75
 | 16=>76
 | 17=>77
 | 18=>78
 | 19=>79
 | 20=>80
 | 21=>81
 | 22=>82
 | 23=>83
 | 24=>84
 | 25=>85
 | 26=>86
 | 27=>87
 | _=>2
def zrd (i:Nat):Bool:=match i with
 | _=>true
def zoi (g3:Nat) (nf:Nat) (cf:Nat) (qf:Option Addr) (v5:Value) (v6:Value) (L2:List ByteArray) (t1:ByteArray) (t2:ByteArray) (t3:ByteArray) (t4:ByteArray) (s1:Bool) (x1:Int) (y1:Int) (p1:Option Addr) (s2:Bool) (x2:Int) (y2:Int) (p2:Option Addr) (s3:Bool) (x3:Int) (y3:Int) (p3:Option Addr) (s4:Bool) (x4:Int) (y4:Int) (p4:Option Addr) (gs:Nat) (ta:Value) (tb:Value) (tc:Value) (i:Nat):Value:=match i with
 | 0=>.nilIface
 | 1=>.bool true
 | 2=>.bool true
 | 3=>.pointer (some ⟨g3,0,none⟩)
 | 4=>.agg #[.bool s1,.int .u64 x1,.int .u64 y1,.pointer p1]
 | 5=>.string t1
 | 6=>.pointer (some ⟨g3,4,none⟩)
 | 7=>.agg #[.bool s2,.int .u64 x2,.int .u64 y2,.pointer p2]
 | 8=>.string t2
 | 9=>.pointer (some ⟨g3,8,none⟩)
 | 10=>.agg #[.bool s3,.int .u64 x3,.int .u64 y3,.pointer p3]
 | 11=>.string t3
 | 12=>.pointer (some ⟨g3,12,none⟩)
 | 13=>.agg #[.bool s4,.int .u64 x4,.int .u64 y4,.pointer p4]
 | 14=>.string t4
 | 15=>.slice (some ⟨gs,0,none⟩) 4 4
 | 16=>v5
 | 17=>ta
 | 18=>.bool true
 | 19=>.bool true
 | 20=>.bool true
 | 21=>.pointer (some ⟨g3,16,none⟩)
 | 22=>.slice qf nf cf
 | 23=>tb
 | 24=>v6
 | 25=>tc
 | 26=>.bool true
 | 27=>.bool true
 | _=>.bool true
theorem qlg:zab dx [(1,0),(2,1),(3,2),(4,2),(4,3),(5,2),(5,4),(6,2),(7,2),(7,6),(8,2),(8,5),(8,7),(9,2),(10,2),(10,9),(11,2),(11,8),(11,10),(12,2),(13,2),(13,12),(14,2),(14,11),(14,13),(15,2),(15,5),(15,8),(15,11),(15,14),(16,2),(17,2),(17,14),(17,16),(18,2),(18,15),(18,17),(19,2),(19,18),(20,18),(20,19),(21,20),(22,20),(22,21),(23,20),(23,22),(24,20),(25,20),(25,23),(25,24),(26,20),(26,23),(26,25),(27,20),(27,26),(28,0),(28,1),(28,2),(28,3),(28,4),(28,5),(28,6),(28,7),(28,8),(28,9),(28,10),(28,11),(28,12),(28,13),(28,14),(28,15),(28,16),(28,17),(28,18),(28,19),(28,20),(28,21),(28,22),(28,23),(28,24),(28,25),(28,26),(28,27)]=true:=by kernel_rfl
theorem qgx:∀ i j,i<29→j<29→zrd i=true→zrd j=true→zhn i=zhn j→i=j:=fun i j hi hj=>(by decide:∀ i,i<29→∀ j,j<29→zrd i=true→zrd j=true→zhn i=zhn j→i=j) i hi j hj
theorem zvs (id:Nat) (Q:Exit→Act→World→Prop) (base:Act) (W0:World) (g3:Nat) (nf:Nat) (cf:Nat) (qf:Option Addr) (v5:Value) (v6:Value) (L2:List ByteArray) (t1:ByteArray) (t2:ByteArray) (t3:ByteArray) (t4:ByteArray) (s1:Bool) (x1:Int) (y1:Int) (p1:Option Addr) (s2:Bool) (x2:Int) (y2:Int) (p2:Option Addr) (s3:Bool) (x3:Int) (y3:Int) (p3:Option Addr) (s4:Bool) (x4:Int) (y4:Int) (p4:Option Addr) (hs:87<base.tmps.size) (e4:base.eval (.tmp 4)=.nilIface) (e3:base.eval (.tmp 3)=.pointer (some ⟨g3,0,none⟩)) (e5:base.eval (.tmp 5)=v5) (e6:base.eval (.tmp 6)=v6)
  (cf5:W0.cell? ⟨g3,16,none⟩=some (.slice qf nf cf)) (c1:P4o W0 g3 (0) s1 x1 y1 p1) (c2:P4o W0 g3 (4) s2 x2 y2 p2) (c3:P4o W0 g3 (8) s3 x3 y3 p3) (c4:P4o W0 g3 (12) s4 x4 y4 p4) (TX1:∀ w,But [] W0 w→Calls prog 9 #[.agg #[.bool s1,.int .u64 x1,.int .u64 y1,.pointer p1]] w fun e w'=>e=.returned (.string t1)∧But [] w w') (TX2:∀ w,But [] W0 w→Calls prog 9 #[.agg #[.bool s2,.int .u64 x2,.int .u64 y2,.pointer p2]] w fun e w'=>e=.returned (.string t2)∧But [] w w') (TX3:∀ w,But [] W0 w→Calls prog 9 #[.agg #[.bool s3,.int .u64 x3,.int .u64 y3,.pointer p3]] w fun e w'=>e=.returned (.string t3)∧But [] w w') (TX4:∀ w,But [] W0 w→Calls prog 9 #[.agg #[.bool s4,.int .u64 x4,.int .u64 y4,.pointer p4]] w fun e w'=>e=.returned (.string t4)∧But [] w w') (RA:∀ w,But [] W0 w→Calls prog 27 #[v5] w fun e w'=>∃ v,e=.returned v∧vw w' v [t1,t2,t3,t4]∧But [] w w') (PA:∀ w,But [] W0 w→Calls prog 28 #[.slice qf nf cf] w fun e w'=>∃ v,e=.returned v∧vw w' v L2∧But [] w w') (RB:∀ w,But [] W0 w→Calls prog 27 #[v6] w fun e w'=>∃ v,e=.returned v∧vw w' v L2∧But [] w w') (SA:∀ w g y,zbl W0.heap.size w g [.string t1,.string t2,.string t3,.string t4]→vw w y [t1,t2,t3,t4]→Calls prog 26 #[.slice (some ⟨g,0,none⟩) 4 4,y] w fun e w'=>e=.returned (.bool true)∧But [] w w') (SB:∀ w x y,vw w x L2→vw w y L2→Calls prog 26 #[x,y] w fun e w'=>e=.returned (.bool true)∧But [] w w')
  (hQ:∀ (gs:Nat) (ta:Value) (tb:Value) (tc:Value) w1,zce W0 g3 nf cf qf v5 v6 L2 t1 t2 t3 t4 s1 x1 y1 p1 s2 x2 y2 p2 s3 x3 y3 p3 s4 x4 y4 p4 gs ta tb tc true true true true w1→Q .normal (bk base [(60,.nilIface),(61,.bool true),(62,.bool true),(63,.pointer (some ⟨g3,0,none⟩)),(64,.agg #[.bool s1,.int .u64 x1,.int .u64 y1,.pointer p1]),(65,.string t1),(66,.pointer (some ⟨g3,4,none⟩)),(67,.agg #[.bool s2,.int .u64 x2,.int .u64 y2,.pointer p2]),(68,.string t2),(69,.pointer (some ⟨g3,8,none⟩)),(70,.agg #[.bool s3,.int .u64 x3,.int .u64 y3,.pointer p3]),(71,.string t3),(72,.pointer (some ⟨g3,12,none⟩)),(73,.agg #[.bool s4,.int .u64 x4,.int .u64 y4,.pointer p4]),(74,.string t4),(75,.slice (some ⟨gs,0,none⟩) 4 4),(76,v5),(77,ta),(78,.bool true),(79,.bool true),(80,.bool true),(81,.pointer (some ⟨g3,16,none⟩)),(82,.slice qf nf cf),(83,tb),(84,v6),(85,tc),(86,.bool true),(87,.bool true),(2,.bool true)]) w1) :
  (Code.region id dx true).wp prog Q base W0:=by
 have hT:∀ i,i<29→zrd i=true→zhn i<base.tmps.size:=fun i hi _=>by
  have h:zhn i≤87:=by revert i;decide
  omega
 refine zyr (by kernel_rfl) (xu (by kernel_rfl)) (fun (N:(Nat) × (Value) × (Value) × (Value)) d w=>zce W0 g3 nf cf qf v5 v6 L2 t1 t2 t3 t4 s1 x1 y1 p1 s2 x2 y2 p2 s3 x3 y3 p3 s4 x4 y4 p4 N.1 N.2.1 N.2.2.1 N.2.2.2 (d 15) (d 17) (d 23) (d 25) w) (fun N=>zoi g3 nf cf qf v5 v6 L2 t1 t2 t3 t4 s1 x1 y1 p1 s2 x2 y2 p2 s3 x3 y3 p3 s4 x4 y4 p4 N.1 N.2.1 N.2.2.1 N.2.2.2) zhn zrd 29 (by kernel_rfl) [(2,true),(20,true)] (by kernel_rfl) (fun g hg N=>by
  simp only[List.mem_cons,List.not_mem_nil,or_false] at hg
  rcases hg with rfl|rfl <;> rfl) qgx hT (0,undef,undef,undef) { mem:=(But.refl _ _).drew,f15:=fun h=>by simp at h,f17:=fun h=>by simp at h,f23:=fun h=>by simp at h,f25:=fun h=>by simp at h } ?_ ?_
 ·intro N d i o a w K hi ho hdi hcl hH he hdep hK
  have hD:=zco qlg ho (fun j=>d j=true∧(zrd j=true→a.eval (.tmp (zhn j))=zoi g3 nf cf qf v5 v6 L2 t1 t2 t3 t4 s1 x1 y1 p1 s2 x2 y2 p2 s3 x3 y3 p3 s4 x4 y4 p4 N.1 N.2.1 N.2.2.1 N.2.2.2 j)) hdep
  have e4':=(he 4 (fun j hj _ _=>(by decide:∀ j,j<29→(4:Nat)≠zhn j) j hj)).trans e4
  have e3':=(he 3 (fun j hj _ _=>(by decide:∀ j,j<29→(3:Nat)≠zhn j) j hj)).trans e3
  have e5':=(he 5 (fun j hj _ _=>(by decide:∀ j,j<29→(5:Nat)≠zhn j) j hj)).trans e5
  have e6':=(he 6 (fun j hj _ _=>(by decide:∀ j,j<29→(6:Nat)≠zhn j) j hj)).trans e6
  have:i=0∨i=1∨i=2∨i=3∨i=4∨i=5∨i=6∨i=7∨i=8∨i=9∨i=10∨i=11∨i=12∨i=13∨i=14∨i=15∨i=16∨i=17∨i=18∨i=19∨i=20∨i=21∨i=22∨i=23∨i=24∨i=25∨i=26∨i=27∨i=28:=by omega
  rcases this with rfl|rfl|rfl|rfl|rfl|rfl|rfl|rfl|rfl|rfl|rfl|rfl|rfl|rfl|rfl|rfl|rfl|rfl|rfl|rfl|rfl|rfl|rfl|rfl|rfl|rfl|rfl|rfl|rfl
  ·obtain rfl:=so (show dx[0]? =some qrx from rfl) ho
   exact an (bz a w _ _ _ _ _ _ _ e4') (hK N _ _ (fun _=>rfl) (fun _ _ _ _=>rfl) hH)
  ·obtain rfl:=so (show dx[1]? =some qrw from rfl) ho
   exact an (qqb a w _ _ _ _ _ _ ((hD 0 (by simp)).2 rfl)) (hK N _ _ (fun _=>rfl) (fun _ _ _ _=>rfl) hH)
  ·obtain rfl:=so (show dx[2]? =some qrv from rfl) ho
   exact an (bz a w _ _ _ _ _ _ _ ((hD 1 (by simp)).2 rfl)) (hK N _ _ (fun _=>rfl) (fun _ _ _ _=>rfl) hH)
  ·obtain rfl:=so (show dx[3]? =some qru from rfl) ho
   exact an (qqa a w _ _ _ _ _ _ g3 (0) (0) rfl e3') (hK N _ _ (fun _=>rfl) (fun _ _ _ _=>rfl) hH)
  ·obtain rfl:=so (show dx[4]? =some qrt from rfl) ho
   have hP:=hH
   have hW:=hP.mem
   exact an (ax a w _ _ _ _ _ _ g3 (0) _ _ _ _ ((hD 3 (by simp)).2 rfl) (c1.but hW (by simp))) (hK N _ _ (fun _=>rfl) (fun _ _ _ _=>rfl) hH)
  ·obtain rfl:=so (show dx[5]? =some qrs from rfl) ho
   have hP:=hH
   have hW:=hP.mem
   exact az (zpl a w _ _ _ _ _ _ _ ((hD 4 (by simp)).2 rfl)) (R:=fun w' v=>v=zoi g3 nf cf qf v5 v6 L2 t1 t2 t3 t4 s1 x1 y1 p1 s2 x2 y2 p2 s3 x3 y3 p3 s4 x4 y4 p4 N.1 N.2.1 N.2.2.1 N.2.2.2 5∧But [] w w') ((TX1 w hW).mono fun e w' ⟨he,hb⟩=>⟨_,he,rfl,hb⟩) (fun v w' hv=>hK N _ _ (fun _=>hv.1) (fun _ _ _ _=>rfl) (hP.but hv.2))
  ·obtain rfl:=so (show dx[6]? =some qrr from rfl) ho
   exact an (qpz a w _ _ _ _ _ _ g3 (0) (4) rfl e3') (hK N _ _ (fun _=>rfl) (fun _ _ _ _=>rfl) hH)
  ·obtain rfl:=so (show dx[7]? =some qrq from rfl) ho
   have hP:=hH
   have hW:=hP.mem
   exact an (ax a w _ _ _ _ _ _ g3 (4) _ _ _ _ ((hD 6 (by simp)).2 rfl) (c2.but hW (by simp))) (hK N _ _ (fun _=>rfl) (fun _ _ _ _=>rfl) hH)
  ·obtain rfl:=so (show dx[8]? =some qrp from rfl) ho
   have hP:=hH
   have hW:=hP.mem
   exact az (zpl a w _ _ _ _ _ _ _ ((hD 7 (by simp)).2 rfl)) (R:=fun w' v=>v=zoi g3 nf cf qf v5 v6 L2 t1 t2 t3 t4 s1 x1 y1 p1 s2 x2 y2 p2 s3 x3 y3 p3 s4 x4 y4 p4 N.1 N.2.1 N.2.2.1 N.2.2.2 8∧But [] w w') ((TX2 w hW).mono fun e w' ⟨he,hb⟩=>⟨_,he,rfl,hb⟩) (fun v w' hv=>hK N _ _ (fun _=>hv.1) (fun _ _ _ _=>rfl) (hP.but hv.2))
  ·obtain rfl:=so (show dx[9]? =some qro from rfl) ho
   exact an (qpy a w _ _ _ _ _ _ g3 (0) (8) rfl e3') (hK N _ _ (fun _=>rfl) (fun _ _ _ _=>rfl) hH)
  ·obtain rfl:=so (show dx[10]? =some qma from rfl) ho
   have hP:=hH
   have hW:=hP.mem
   exact an (ax a w _ _ _ _ _ _ g3 (8) _ _ _ _ ((hD 9 (by simp)).2 rfl) (c3.but hW (by simp))) (hK N _ _ (fun _=>rfl) (fun _ _ _ _=>rfl) hH)
  ·obtain rfl:=so (show dx[11]? =some qlz from rfl) ho
   have hP:=hH
   have hW:=hP.mem
   exact az (zpl a w _ _ _ _ _ _ _ ((hD 10 (by simp)).2 rfl)) (R:=fun w' v=>v=zoi g3 nf cf qf v5 v6 L2 t1 t2 t3 t4 s1 x1 y1 p1 s2 x2 y2 p2 s3 x3 y3 p3 s4 x4 y4 p4 N.1 N.2.1 N.2.2.1 N.2.2.2 11∧But [] w w') ((TX3 w hW).mono fun e w' ⟨he,hb⟩=>⟨_,he,rfl,hb⟩) (fun v w' hv=>hK N _ _ (fun _=>hv.1) (fun _ _ _ _=>rfl) (hP.but hv.2))
  ·obtain rfl:=so (show dx[12]? =some qly from rfl) ho
   exact an (qpx a w _ _ _ _ _ _ g3 (0) (12) rfl e3') (hK N _ _ (fun _=>rfl) (fun _ _ _ _=>rfl) hH)
  ·obtain rfl:=so (show dx[13]? =some qlx from rfl) ho
   have hP:=hH
   have hW:=hP.mem
   exact an (ax a w _ _ _ _ _ _ g3 (12) _ _ _ _ ((hD 12 (by simp)).2 rfl) (c4.but hW (by simp))) (hK N _ _ (fun _=>rfl) (fun _ _ _ _=>rfl) hH)
  ·obtain rfl:=so (show dx[14]? =some qlw from rfl) ho
   have hP:=hH
   have hW:=hP.mem
   exact az (zpl a w _ _ _ _ _ _ _ ((hD 13 (by simp)).2 rfl)) (R:=fun w' v=>v=zoi g3 nf cf qf v5 v6 L2 t1 t2 t3 t4 s1 x1 y1 p1 s2 x2 y2 p2 s3 x3 y3 p3 s4 x4 y4 p4 N.1 N.2.1 N.2.2.1 N.2.2.2 14∧But [] w w') ((TX4 w hW).mono fun e w' ⟨he,hb⟩=>⟨_,he,rfl,hb⟩) (fun v w' hv=>hK N _ _ (fun _=>hv.1) (fun _ _ _ _=>rfl) (hP.but hv.2))
  ·obtain rfl:=so (show dx[15]? =some qlv from rfl) ho
   have hP:=hH
   have hW:=hP.mem
   have bA:But [] w (w.alloc (.cells #[.string t1,.string t2,.string t3,.string t4] 9)):=(But.refl _ _).alloc _
   have hsz:=hW.size
   exact an (qpw a w _ _ _ _ _ _ _ _ _ _ _ _ _ ((hD 5 (by simp)).2 rfl) ((hD 8 (by simp)).2 rfl) ((hD 11 (by simp)).2 rfl) ((hD 14 (by simp)).2 rfl)) (hK (w.heap.size,N.2.1,N.2.2.1,N.2.2.2) _ _ (fun _=>rfl) (fun j hj _ hdj=>by
    have:j=0∨j=1∨j=2∨j=3∨j=4∨j=5∨j=6∨j=7∨j=8∨j=9∨j=10∨j=11∨j=12∨j=13∨j=14∨j=15∨j=16∨j=17∨j=18∨j=19∨j=20∨j=21∨j=22∨j=23∨j=24∨j=25∨j=26∨j=27∨j=28:=by omega
    rcases this with rfl|rfl|rfl|rfl|rfl|rfl|rfl|rfl|rfl|rfl|rfl|rfl|rfl|rfl|rfl|rfl|rfl|rfl|rfl|rfl|rfl|rfl|rfl|rfl|rfl|rfl|rfl|rfl|rfl
    ·rfl
    ·rfl
    ·rfl
    ·rfl
    ·rfl
    ·rfl
    ·rfl
    ·rfl
    ·rfl
    ·rfl
    ·rfl
    ·rfl
    ·rfl
    ·rfl
    ·rfl
    ·exact absurd (hdi.symm.trans hdj) (by simp)
    ·rfl
    ·rfl
    ·rfl
    ·rfl
    ·rfl
    ·rfl
    ·rfl
    ·rfl
    ·rfl
    ·rfl
    ·rfl
    ·rfl
    ·rfl) ((hP.but bA).s15 w.heap.size (zbl.made _ w [.string t1,.string t2,.string t3,.string t4] _ hsz)))
  ·obtain rfl:=so (show dx[16]? =some qlu from rfl) ho
   exact an (bz a w _ _ _ _ _ _ _ e5') (hK N _ _ (fun _=>rfl) (fun _ _ _ _=>rfl) hH)
  ·obtain rfl:=so (show dx[17]? =some qlt from rfl) ho
   have hP:=hH
   have hW:=hP.mem
   exact az (qfd a w _ _ _ _ _ _ _ ((hD 16 (by simp)).2 rfl)) (R:=fun w' u=>∃ v,u=v∧(vw w' v [t1,t2,t3,t4])∧But [] w w') ((RA w hW).mono fun e w' ⟨v,he,hf,hb⟩=>⟨_,he,v,rfl,hf,hb⟩) (fun u w' ⟨v,hu,hf,hb⟩=>hK (N.1,v,N.2.2.1,N.2.2.2) _ _ (fun _=>hu) (fun j hj _ hdj=>by
    have:j=0∨j=1∨j=2∨j=3∨j=4∨j=5∨j=6∨j=7∨j=8∨j=9∨j=10∨j=11∨j=12∨j=13∨j=14∨j=15∨j=16∨j=17∨j=18∨j=19∨j=20∨j=21∨j=22∨j=23∨j=24∨j=25∨j=26∨j=27∨j=28:=by omega
    rcases this with rfl|rfl|rfl|rfl|rfl|rfl|rfl|rfl|rfl|rfl|rfl|rfl|rfl|rfl|rfl|rfl|rfl|rfl|rfl|rfl|rfl|rfl|rfl|rfl|rfl|rfl|rfl|rfl|rfl
    ·rfl
    ·rfl
    ·rfl
    ·rfl
    ·rfl
    ·rfl
    ·rfl
    ·rfl
    ·rfl
    ·rfl
    ·rfl
    ·rfl
    ·rfl
    ·rfl
    ·rfl
    ·rfl
    ·rfl
    ·exact absurd (hdi.symm.trans hdj) (by simp)
    ·rfl
    ·rfl
    ·rfl
    ·rfl
    ·rfl
    ·rfl
    ·rfl
    ·rfl
    ·rfl
    ·rfl
    ·rfl) ((hP.but hb).s17 v hf))
  ·obtain rfl:=so (show dx[18]? =some qls from rfl) ho
   have hP:=hH
   have hW:=hP.mem
   have t15:d 15=true:=(hD 15 (by simp)).1
   have t17:d 17=true:=(hD 17 (by simp)).1
   exact az (qfc a w _ _ _ _ _ _ _ _ _ ((hD 15 (by simp)).2 rfl) ((hD 17 (by simp)).2 rfl)) (R:=fun w' v=>v=zoi g3 nf cf qf v5 v6 L2 t1 t2 t3 t4 s1 x1 y1 p1 s2 x2 y2 p2 s3 x3 y3 p3 s4 x4 y4 p4 N.1 N.2.1 N.2.2.1 N.2.2.2 18∧But [] w w') ((SA w N.1 N.2.1 (hP.f15 t15) (hP.f17 t17)).mono fun e w' ⟨he,hb⟩=>⟨_,he,rfl,hb⟩) (fun v w' hv=>hK N _ _ (fun _=>hv.1) (fun _ _ _ _=>rfl) (hP.but hv.2))
  ·obtain rfl:=so (show dx[19]? =some qlr from rfl) ho
   exact an (qfb a w _ _ _ _ _ _ _ _ ((hD 2 (by simp)).2 rfl) ((hD 18 (by simp)).2 rfl)) (hK N _ _ (fun _=>rfl) (fun _ _ _ _=>rfl) hH)
  ·obtain rfl:=so (show dx[20]? =some qlq from rfl) ho
   exact an (bz a w _ _ _ _ _ _ _ ((hD 19 (by simp)).2 rfl)) (hK N _ _ (fun _=>rfl) (fun _ _ _ _=>rfl) hH)
  ·obtain rfl:=so (show dx[21]? =some qlp from rfl) ho
   exact an (qkp a w _ _ _ _ _ _ g3 (0) (16) rfl e3') (hK N _ _ (fun _=>rfl) (fun _ _ _ _=>rfl) hH)
  ·obtain rfl:=so (show dx[22]? =some qlo from rfl) ho
   have hP:=hH
   have hW:=hP.mem
   exact an (qko a w _ _ _ _ _ _ g3 (16) _ ((hD 21 (by simp)).2 rfl) (hW.ag cf5 (by simp))) (hK N _ _ (fun _=>rfl) (fun _ _ _ _=>rfl) hH)
  ·obtain rfl:=so (show dx[23]? =some qln from rfl) ho
   have hP:=hH
   have hW:=hP.mem
   exact az (qkn a w _ _ _ _ _ _ _ ((hD 22 (by simp)).2 rfl)) (R:=fun w' u=>∃ v,u=v∧(vw w' v L2)∧But [] w w') ((PA w hW).mono fun e w' ⟨v,he,hf,hb⟩=>⟨_,he,v,rfl,hf,hb⟩) (fun u w' ⟨v,hu,hf,hb⟩=>hK (N.1,N.2.1,v,N.2.2.2) _ _ (fun _=>hu) (fun j hj _ hdj=>by
    have:j=0∨j=1∨j=2∨j=3∨j=4∨j=5∨j=6∨j=7∨j=8∨j=9∨j=10∨j=11∨j=12∨j=13∨j=14∨j=15∨j=16∨j=17∨j=18∨j=19∨j=20∨j=21∨j=22∨j=23∨j=24∨j=25∨j=26∨j=27∨j=28:=by omega
    rcases this with rfl|rfl|rfl|rfl|rfl|rfl|rfl|rfl|rfl|rfl|rfl|rfl|rfl|rfl|rfl|rfl|rfl|rfl|rfl|rfl|rfl|rfl|rfl|rfl|rfl|rfl|rfl|rfl|rfl
    ·rfl
    ·rfl
    ·rfl
    ·rfl
    ·rfl
    ·rfl
    ·rfl
    ·rfl
    ·rfl
    ·rfl
    ·rfl
    ·rfl
    ·rfl
    ·rfl
    ·rfl
    ·rfl
    ·rfl
    ·rfl
    ·rfl
    ·rfl
    ·rfl
    ·rfl
    ·rfl
    ·exact absurd (hdi.symm.trans hdj) (by simp)
    ·rfl
    ·rfl
    ·rfl
    ·rfl
    ·rfl) ((hP.but hb).s23 v hf))
  ·obtain rfl:=so (show dx[24]? =some qlm from rfl) ho
   exact an (bz a w _ _ _ _ _ _ _ e6') (hK N _ _ (fun _=>rfl) (fun _ _ _ _=>rfl) hH)
  ·obtain rfl:=so (show dx[25]? =some qlk from rfl) ho
   have hP:=hH
   have hW:=hP.mem
   exact az (qfd a w _ _ _ _ _ _ _ ((hD 24 (by simp)).2 rfl)) (R:=fun w' u=>∃ v,u=v∧(vw w' v L2)∧But [] w w') ((RB w hW).mono fun e w' ⟨v,he,hf,hb⟩=>⟨_,he,v,rfl,hf,hb⟩) (fun u w' ⟨v,hu,hf,hb⟩=>hK (N.1,N.2.1,N.2.2.1,v) _ _ (fun _=>hu) (fun j hj _ hdj=>by
    have:j=0∨j=1∨j=2∨j=3∨j=4∨j=5∨j=6∨j=7∨j=8∨j=9∨j=10∨j=11∨j=12∨j=13∨j=14∨j=15∨j=16∨j=17∨j=18∨j=19∨j=20∨j=21∨j=22∨j=23∨j=24∨j=25∨j=26∨j=27∨j=28:=by omega
    rcases this with rfl|rfl|rfl|rfl|rfl|rfl|rfl|rfl|rfl|rfl|rfl|rfl|rfl|rfl|rfl|rfl|rfl|rfl|rfl|rfl|rfl|rfl|rfl|rfl|rfl|rfl|rfl|rfl|rfl
    ·rfl
    ·rfl
    ·rfl
    ·rfl
    ·rfl
    ·rfl
    ·rfl
    ·rfl
    ·rfl
    ·rfl
    ·rfl
    ·rfl
    ·rfl
    ·rfl
    ·rfl
    ·rfl
    ·rfl
    ·rfl
    ·rfl
    ·rfl
    ·rfl
    ·rfl
    ·rfl
    ·rfl
    ·rfl
    ·exact absurd (hdi.symm.trans hdj) (by simp)
    ·rfl
    ·rfl
    ·rfl) ((hP.but hb).s25 v hf))
  ·obtain rfl:=so (show dx[26]? =some qlj from rfl) ho
   have hP:=hH
   have hW:=hP.mem
   have t23:d 23=true:=(hD 23 (by simp)).1
   have t25:d 25=true:=(hD 25 (by simp)).1
   exact az (qfc a w _ _ _ _ _ _ _ _ _ ((hD 23 (by simp)).2 rfl) ((hD 25 (by simp)).2 rfl)) (R:=fun w' v=>v=zoi g3 nf cf qf v5 v6 L2 t1 t2 t3 t4 s1 x1 y1 p1 s2 x2 y2 p2 s3 x3 y3 p3 s4 x4 y4 p4 N.1 N.2.1 N.2.2.1 N.2.2.2 26∧But [] w w') ((SB w N.2.2.1 N.2.2.2 (hP.f23 t23) (hP.f25 t25)).mono fun e w' ⟨he,hb⟩=>⟨_,he,rfl,hb⟩) (fun v w' hv=>hK N _ _ (fun _=>hv.1) (fun _ _ _ _=>rfl) (hP.but hv.2))
  ·obtain rfl:=so (show dx[27]? =some qli from rfl) ho
   exact an (qfb a w _ _ _ _ _ _ _ _ ((hD 20 (by simp)).2 rfl) ((hD 26 (by simp)).2 rfl)) (hK N _ _ (fun _=>rfl) (fun _ _ _ _=>rfl) hH)
  ·obtain rfl:=so (show dx[28]? =some qlh from rfl) ho
   exact an (zbr a w _ _ _ _ _ _ _ ((hD 27 (by simp)).2 rfl)) (hK N _ _ (fun _=>rfl) (fun _ _ _ _=>rfl) hH)
 ·intro N d w hd hH
  have hP:zce W0 g3 nf cf qf v5 v6 L2 t1 t2 t3 t4 s1 x1 y1 p1 s2 x2 y2 p2 s3 x3 y3 p3 s4 x4 y4 p4 N.1 N.2.1 N.2.2.1 N.2.2.2 (d 15) (d 17) (d 23) (d 25) w:=hH
  rw[hd 15 (by omega),hd 17 (by omega),hd 23 (by omega),hd 25 (by omega)] at hP
  exact hQ N.1 N.2.1 N.2.2.1 N.2.2.2 w hP
end Go.Proofs.YtffghofheeleeaaGreatDoor
