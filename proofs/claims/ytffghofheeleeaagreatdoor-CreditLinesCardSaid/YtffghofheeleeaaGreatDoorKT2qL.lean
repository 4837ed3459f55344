/- Pairs' fractions, one behind the other,  -/
import Derived.Test.YtffghofheeleeaaGreatDoorRows
import Derived.Test.YtffghofheeleeaaGreatDoorTie
import Derived.Test.YtffghofheeleeaaGreatDoorCards
import Derived.Lib.SmallJoins
import Derived.ProofKit
import Derived.OpenShut
import Derived.LaidMore
import Derived.LaidHandle
import Derived.Stop.Joined
import Derived.SevenTiedAt
import Derived.Deep.SlicePairs
import Derived.Carry
import Derived.Shelf.Vars
import Derived.Test.YtffghofheeleeaaGreatDoorKPhqL
namespace Go.Proofs.YtffghofheeleeaaGreatDoor
open Go.Proofs.Tryz
open Go.RowKit
set_option maxHeartbeats 8000000
set_option maxRecDepth 100000
theorem znq (x:Rat):x*((x.den:Int):Rat)=((x.num:Int):Rat):=by
 obtain⟨i1,i2⟩:=bp (x.den:Int)
 obtain⟨j1,j2⟩:=bp x.num
 have h:=zek x ((x.den:Int):Rat)
 rw[i1,i2,Nat.mul_one] at h
 have hd:=den_pos x
 obtain⟨e1,e2⟩:=zbu x.num 1 (by omega) (by simp) (x*((x.den:Int):Rat)) (by
  refine Int.eq_of_mul_eq_mul_right (show (x.den:Int)≠0 by omega) ?_
  grind)
 exact Rat.ext (by rw[e1,j1]) (by rw[e2,j2])
theorem int_ne (z:Int) (h:z≠0):((z:Int):Rat)≠0:=fun e=>h (by
 have:=congrArg Rat.num e
 rwa [(bp z).1] at this)
def qf (q:Int × Int):Rat:=((q.1:Int):Rat)/(((if q.2=0 then 1 else q.2):Int):Rat)
theorem zzd (f:Rat) (q:Int × Int) (h:f.num*(if q.2=0 then 1 else q.2)=q.1*f.den):f=qf q:=by
 unfold qf
 have hy:(if q.2=0 then (1:Int) else q.2)≠0:=by split <;> omega
 generalize (if q.2=0 then (1:Int) else q.2)=y at *
 have h1:=znq f
 have h2:((f.num*y:Int):Rat)=((q.1*(f.den:Int):Int):Rat):=by rw[h]
 rw[Rat.intCast_mul,Rat.intCast_mul] at h2
 have hd:=int_ne (f.den:Int) (by have:=den_pos f;omega)
 have hy':=int_ne y hy
 generalize ((y:Int):Rat)=Y at *
 generalize ((f.den:Int):Rat)=D at *
 generalize ((f.num:Int):Rat)=M at *
 generalize ((q.1:Int):Rat)=X at *
 rw[← h1] at h2
 grind
def Fits (q:Int × Int):Prop:=-9223372036854775808≤q.1∧q.1<9223372036854775808∧-9223372036854775808≤q.2∧q.2<9223372036854775808
theorem zcl (q:Int × Int) (h:Fits q):∃ (r:Bool) (x y:Int),Len (qf q) 1∧(∀ W,aq W (.agg #[.bool r,.int .u64 x,.int .u64 y,.pointer none]) (qf q))∧∀ W,Calls prog 7 #[.agg #[.int .i64 q.1,.int .i64 q.2]] W fun e w'=>e=.returned (.agg #[.bool r,.int .u64 x,.int .u64 y,.pointer none])∧But [] W w':=by
 obtain⟨f,r,x,y,h1,h2,h3,h4⟩:=zet q.1 q.2 h.1 h.2.1 h.2.2.1 h.2.2.2
 have e:=zzd f q h2
 subst e
 exact⟨r,x,y,h1,h3,h4⟩
def zee (w:World) (v:Value) (qs:List (Int × Int)):Prop:=∃ a cap,v=.slice a qs.length cap∧qs.length≤cap∧∀ i q,qs[i]? = some q→∃ b off,a=some ⟨b,off,none⟩∧w.cell? ⟨b,off+i*2,none⟩=some (.int .i64 q.1)∧w.cell? ⟨b,off+i*2+1,none⟩=some (.int .i64 q.2)
theorem zee.but {w w':World} {v:Value} {qs:List (Int × Int)} (h:zee w v qs) (hb:But [] w w'):zee w' v qs:=by
 obtain⟨a,cap,e,hc,h⟩:=h
 refine⟨a,cap,e,hc,fun i q hq=>?_⟩
 obtain⟨b,off,e1,h1,h2⟩:=h i q hq
 exact⟨b,off,e1,hb.ag h1 (by simp),hb.ag h2 (by simp)⟩
set_option linter.unusedVariables false
theorem ownsRow_form {w:World} {base:Nat} {e:TypeId} {size:Nat} {v:Value} {n:Nat} {xs:List Value} (h:w.ownsRow base e size v n xs):∃ a c,v=.slice a n c:=by
 rcases h.2 with ⟨rfl,h0⟩|⟨g,cap,cur,rfl,-⟩
 ·exact⟨none,0,by rw[h0]⟩
 ·exact⟨_,_,rfl⟩
theorem wo {w0 w w':World} {base:Nat} {e:TypeId} {size:Nat} {v:Value} {n:Nat} {xs:List Value} (h:But [] w0 w) (ho:w.ownsRow base e size v n xs) (hb:w0.heap.size≤base) (hg:w.grownBy w' v.ownBlock):But [] w0 w' :=
 ⟨hg.os.trans h.os,hg.tape.trans h.tape,hg.output.trans h.output,Nat.le_trans h.size hg.size,fun k hk _=>by
  rw[hg.block k (Nat.lt_of_lt_of_le hk h.size) (fun e=>by have:=(ho.lt k e.symm).1;omega)]
  exact h.block k hk (by simp)⟩
theorem mg {w w':World} {base:Nat} {e:TypeId} {size:Nat} {v:Value} {n:Nat} {xs:List Value} (h:w.ownsRow base e size v n xs) (hb:But [] w w'):w'.ownsRow base e size v n xs :=
 h.kept (row:=none) ⟨hb.os,hb.tape,hb.output,hb.size,fun k hk _=>hb.block k hk (by simp)⟩ (by
  by_cases h0:v.ownBlock=none
  ·exact .inl h0
  ·exact .inr h0)
theorem zar {w:World} {b0 b1:Nat} {e0 e1:TypeId} {s0 s1:Nat} {u v:Value} {n m:Nat} {xs ys:List Value} (h0:w.ownsRow b0 e0 s0 u n xs) (h1:w.ownsRow b1 e1 s1 v m ys) (hne:e0≠e1):u.ownBlock=none∨u.ownBlock≠v.ownBlock:=by
 rcases h0.2 with ⟨rfl,-⟩|⟨g,cap,cur,rfl,-,hg,-⟩
 ·exact .inl rfl
 ·rcases h1.2 with ⟨rfl,-⟩|⟨g',cap',cur',rfl,-,hg',-⟩
  ·exact .inr (by simp[Value.ownBlock])
  ·refine .inr (fun e=>hne ?_)
   simp only[Value.ownBlock,Option.some.injEq] at e
   subst e
   rw[hg] at hg'
   simp only[Option.some.injEq,Obj.cells.injEq] at hg'
   exact hg'.2.1
open Go.ChangeShapes Go.WideShapes Go.ChangeAt Go.RowKit Go.Joins
theorem own:ownKnob prog.godebug=none:=by kernel_rfl
theorem qzv:prog.globalNamed "internal/strconv.uint64pow10" = some 1:=by kernel_rfl
theorem qzi:(prog.globals[1]?).map (·.type)=some 239:=by kernel_rfl
theorem qzw:prog.globalNamed "errors.errorType" = some 0:=by kernel_rfl
theorem qkv:(prog.cutTypes.find? (·.1== "internal/reflectlite.rtype")).map (·.2)=some 183:=by kernel_rfl
theorem qdf:((List.range 277).filter fun t=>prog.rowNamed t [101,114,114,111,114])=[29]:=by kernel_rfl
theorem qjl:prog.types.size=277:=by kernel_rfl
theorem zxi:prog.cellsOf 239 = 20:=by kernel_rfl
theorem znt:prog.cellsOf 23 = 2:=by kernel_rfl
theorem qec:prog.cellsOf 24 = 1:=by kernel_rfl
theorem zwd:(Rows.laid_internal_strconv_uint64pow10:DataW Unit)=Lib.tabData .u64 Lib.pow10Tab:=by kernel_rfl
theorem zwh {W:World} (h:laidMetH prog [("math/bits.deBruijn32tab",Rows.laid_math_bits_deBruijn32tab),("math/bits.deBruijn64tab",Rows.laid_math_bits_deBruijn64tab),("internal/strconv.uint64pow10",Rows.laid_internal_strconv_uint64pow10),("errors.errorType",Rows.laid_errors_errorType)] W):Lib.TabIs prog W "internal/strconv.uint64pow10" .u64 Lib.pow10Tab∧W.cell? ⟨0,0,none⟩=some (.iface 183 (.agg #[.pointer (some ⟨6,29,none⟩)])):=by
 have h':laidMet prog [("math/bits.deBruijn32tab",Rows.laid_math_bits_deBruijn32tab),("math/bits.deBruijn64tab",Rows.laid_math_bits_deBruijn64tab),("internal/strconv.uint64pow10",Rows.laid_internal_strconv_uint64pow10)] W∧handlesMet prog [("errors.errorType",Rows.laid_errors_errorType)] W:=h
 refine⟨?_,?_⟩
 ·obtain⟨ps,⟨g0,t0,cs0,f0,p0,q0,-,-,-,-,⟨g1,t1,cs1,f1,p1,q1,-,-,-,-,⟨g2,t2,cs2,f2,p2,q2,hg2,ht2,hv2,hd2,-,-⟩,-⟩,-⟩,-⟩:=h'.1
  obtain rfl:=Option.some.inj (qzv.symm.trans hg2)
  obtain rfl:=Option.some.inj (qzi.symm.trans ht2)
  rw[zwd] at hd2
  unfold Lib.TabIs
  rw[hv2,← Lib.cells_of_tab underlying239 underlying24 qec zxi hd2]
 ·obtain⟨name,u,ty,e1,e2,e3,e4,e5⟩:=h'.2 _ (List.mem_singleton.2 rfl)
  have en:name=[101,114,114,111,114]:=(Option.some.inj e1).symm
  subst en
  obtain rfl:=Option.some.inj (qkv.symm.trans e2)
  have hm:ty ∈ (List.range 277).filter fun t=>prog.rowNamed t [101,114,114,111,114]:=List.mem_filter.2 ⟨List.mem_range.2 (by rw[← qjl];exact e3),e4⟩
  rw[qdf] at hm
  obtain rfl:=List.mem_singleton.1 hm
  have hh:typeHandle prog 29 = .pointer (some ⟨6,29,none⟩):=by kernel_rfl
  rw[hh] at e5
  simpa using World.var?_cell qzw e5 0
theorem zix:laidOutB prog=true:=by kernel_rfl
theorem zsn:prog.cellsOf 3 = 1:=by kernel_rfl
theorem zaf {w:World} {a:Addr} {v:Value} (h:w.cell? a=some v):a.spot=none:=by
 unfold World.cell? at h
 cases hs:a.spot with
 | none=>rfl
 | some _ =>
  rw[hs] at h
  cases hb:w.heap[a.block]? with
  | none=>rw[hb] at h;simp at h
  | some o=>rw[hb] at h;cases o <;> simp at h
theorem zcc (a:Addr) (k:Nat) (h:(a.add k).spot=none):a.add k=⟨a.block,a.off+k,none⟩∧(0<k∨a.spot=none):=by
 unfold Addr.add at *
 split at h
 ·rename_i hk
  subst hk
  refine⟨?_,.inr h⟩
  rw[if_pos rfl]
  cases a
  simp only at h
  subst h
  rfl
 ·rename_i hk
  exact⟨by rw[if_neg hk],.inl (by omega)⟩
theorem zrb {H:Type} {enc:TypeId × Value→H} {W:World} {v:Value} {d:DataW H} {ps:List MemPlace} (hval:Value.okWide prog W .any 0 41 v) (h:DataW.Trod enc prog W 0 (fun _=>true) true 41 v d ps) :
  ∃ qs:List (Int × Int),zee W v qs∧(∀ q ∈ qs,Fits q)∧∀ x ∈ ps,x.block<W.heap.size:=by
 obtain⟨a,len,cap,rfl⟩:=okWide_slice underlying41 hval
 obtain⟨fuel,hf⟩:=h
 rcases Deep.open_slice_pairs underlying41 underlying23 znt rfl rfl zsn zsn hf with ⟨hc,hx⟩|⟨b,len',cap',m,k,V0,V1,D0,D1,P0,P1,hc,-,hl,hm,hmm,hx,hall⟩
 ·have hc':[Value.slice a len cap]=[.slice none 0 0]:=hc
  simp only[List.cons.injEq,Value.slice.injEq,and_true] at hc'
  obtain⟨rfl,rfl,rfl⟩:=hc'
  have:ps=[]:=(Prod.mk.inj hx).2
  subst this
  exact⟨[],⟨none,0,rfl,Nat.le_refl _,fun i q hq=>by simp at hq⟩,fun q hq=>by simp at hq,fun x hx=>by simp at hx⟩
 ·have hc':[Value.slice a len cap]=[.slice (some b) len' cap']:=hc
  simp only[List.cons.injEq,Value.slice.injEq,and_true] at hc'
  obtain⟨rfl,rfl,rfl⟩:=hc'
  have hlm:len≤m:=by rw[hmm];simpa using hl
  have each:∀ i,i<m→∃ q:Int × Int,Fits q∧W.cell? ⟨b.block,b.off+i*2,none⟩=some (.int .i64 q.1)∧W.cell? ⟨b.block,b.off+i*2+1,none⟩=some (.int .i64 q.2)∧P0 i=[]∧P1 i=[]:=fun i hi=>by
   obtain⟨c0,c1,t0,t1⟩:=hall i hi
   obtain⟨x,e1,e2,w1⟩:=DataW.trod_int underlying3 t0
   obtain⟨y,f1,f2,w2⟩:=DataW.trod_int underlying3 t1
   simp only[List.cons.injEq,and_true] at e1 f1
   rw[(zcc b _ (zaf c0)).1,e1] at c0
   rw[(zcc b _ (zaf c1)).1,f1] at c1
   have Bx:=bounds_i64 w1
   have By:=bounds_i64 w2
   exact⟨(x,y),⟨by omega,by omega,by omega,by omega⟩,c0,c1,(Prod.mk.inj e2).2,(Prod.mk.inj f2).2⟩
  have hspot:0<m→b.spot=none:=fun h0=>by
   obtain⟨c0,-⟩:=hall 0 h0
   have:=(zcc b _ (zaf c0)).2
   simpa using this
  obtain⟨q,hq⟩:=Classical.axiomOfChoice (fun i:Nat=>(by
   by_cases hi:i<m
   ·obtain⟨q,h⟩:=each i hi
    exact⟨q,fun _=>h⟩
   ·exact⟨(0,0),fun h=>absurd h hi⟩:∃ q:Int × Int,i<m→Fits q∧W.cell? ⟨b.block,b.off+i*2,none⟩=some (.int .i64 q.1)∧W.cell? ⟨b.block,b.off+i*2+1,none⟩=some (.int .i64 q.2)∧P0 i=[]∧P1 i=[]))
  refine⟨(List.range len).map q,⟨some b,cap,by simp,by simpa using hl,fun i z hz=>?_⟩,fun z hz=>?_,fun x hx'=>?_⟩
  ·rw[List.getElem?_map] at hz
   by_cases hi:i<len
   ·rw[List.getElem?_range hi,Option.map_some] at hz
    obtain rfl:=Option.some.inj hz
    have hs:=hspot (by omega)
    refine⟨b.block,b.off,?_,(hq i (by omega)).2.1,(hq i (by omega)).2.2.1⟩
    cases b
    simp only at hs
    subst hs
    rfl
   ·rw[List.getElem?_eq_none (by simpa using hi)] at hz
    simp at hz
  ·obtain⟨i,hi,rfl⟩:=List.mem_map.1 hz
   exact (hq i (by have:=List.mem_range.1 hi;omega)).1
  ·have hps:ps=MemPlace.row b (m*2)++(List.range m).flatMap fun i=>P0 i++P1 i:=(Prod.mk.inj hx).2
   rw[hps] at hx'
   have hfl:((List.range m).flatMap fun i=>P0 i++P1 i)=[]:=by
    rw[List.flatMap_eq_nil_iff]
    intro i hi
    have h:=hq i (List.mem_range.1 hi)
    rw[h.2.2.2.1,h.2.2.2.2]
    rfl
   rw[hfl,List.append_nil] at hx'
   rcases Nat.eq_zero_or_pos m with h0 | h0
   ·subst h0
    simp[MemPlace.row] at hx'
   ·have hb:b.block<W.heap.size:=by
     have h:=ai (hq 0 h0).2.1
     exact h
    have:x.block=b.block:=by
     unfold MemPlace.row at hx'
     obtain⟨i,-,rfl⟩:=List.mem_map.1 hx'
     rfl
    omega
theorem zde (a:Act) (w:World) (d t1 t2:Nat) (u:TypeId) (ps:String) (ed:Array Edge) (gd:Option (Nat × Bool)) (x1 x2:Value) (h1:a.eval (.tmp t1)=x1) (h2:a.eval (.tmp t2)=x2) :
  (execOp a.eval { dst:=some d,op:=Op.call { callee:=Callee.value (Operand.func 73),args:=#[Operand.tmp t1,Operand.tmp t2],argTypes:=#[27,27] },type:=u,pos:=ps,after:=ed,guard:=gd }).run prog w=.ok (.enter 73 #[x1,x2]) w:=by
 unfold execOp
 go_simp
 rw[← h1,← h2]
 simp[Act.eval]
theorem zeq (a:Act) (w:World) (d t1 t2:Nat) (u:TypeId) (ps:String) (ed:Array Edge) (gd:Option (Nat × Bool)) (x1 x2:Value) (h1:a.eval (.tmp t1)=x1) (h2:a.eval (.tmp t2)=x2) :
  (execOp a.eval { dst:=some d,op:=Op.call { callee:=Callee.value (Operand.func 56),args:=#[Operand.tmp t1,Operand.tmp t2],argTypes:=#[27,27] },type:=u,pos:=ps,after:=ed,guard:=gd }).run prog w=.ok (.enter 56 #[x1,x2]) w:=by
 unfold execOp
 go_simp
 rw[← h1,← h2]
 simp[Act.eval]
theorem qkg (a:Act) (w:World) (d:Nat) (u:TypeId) (ps:String) (ed:Array Edge) (gd:Option (Nat × Bool)) (n:Int) :
  (execOp a.eval { dst:=some d,op:=Op.call { callee:=Callee.value (Operand.func 71),args:=#[Operand.const (Value.int IntKind.i64 n)],argTypes:=#[3] },type:=u,pos:=ps,after:=ed,guard:=gd }).run prog w=.ok (.enter 71 #[.int .i64 n]) w:=by
 unfold execOp
 go_simp
theorem zkc (a:Act) (w:World) (d t1:Nat) (u:TypeId) (ps:String) (ed:Array Edge) (gd:Option (Nat × Bool)) (x1:Value) (h1:a.eval (.tmp t1)=x1) :
  (execOp a.eval { dst:=some d,op:=Op.call { callee:=Callee.value (Operand.func 71),args:=#[Operand.tmp t1],argTypes:=#[3] },type:=u,pos:=ps,after:=ed,guard:=gd }).run prog w=.ok (.enter 71 #[x1]) w:=by
 unfold execOp
 go_simp
 rw[← h1]
 simp[Act.eval]
theorem zga (a:Act) (w:World) (d t0 t1:Nat) (u:TypeId) (ps:String) (ed:Array Edge) (gd:Option (Nat × Bool)) (z0 z1:Value) (h0:a.eval (.tmp t0)=z0) (h1:a.eval (.tmp t1)=z1) :
  (execOp a.eval { dst:=some d,op:=Op.call { callee:=Callee.value (Operand.func 31),args:=#[Operand.tmp t0,Operand.tmp t1],argTypes:=#[27,27] },type:=u,pos:=ps,after:=ed,guard:=gd }).run prog w=.ok (.enter 31 #[z0,z1]) w:=by
 unfold execOp
 go_simp
 rw[← h0,← h1]
 simp[Act.eval]
theorem zfl (a:Act) (w:World) (d t0:Nat) (u:TypeId) (ps:String) (ed:Array Edge) (gd:Option (Nat × Bool)) (z0:Value) (h0:a.eval (.tmp t0)=z0) :
  (execOp a.eval { dst:=some d,op:=Op.call { callee:=Callee.value (Operand.func 117),args:=#[Operand.tmp t0],argTypes:=#[27] },type:=u,pos:=ps,after:=ed,guard:=gd }).run prog w=.ok (.enter 117 #[z0]) w:=by
 unfold execOp
 go_simp
 rw[← h0]
 simp[Act.eval]
theorem zms (a:Act) (w:World) (d t0 t1:Nat) (u:TypeId) (ps:String) (ed:Array Edge) (gd:Option (Nat × Bool)) (z0 z1:Value) (h0:a.eval (.tmp t0)=z0) (h1:a.eval (.tmp t1)=z1) :
  (execOp a.eval { dst:=some d,op:=Op.call { callee:=Callee.value (Operand.func 63),args:=#[Operand.tmp t0,Operand.tmp t1],argTypes:=#[27,3] },type:=u,pos:=ps,after:=ed,guard:=gd }).run prog w=.ok (.enter 63 #[z0,z1]) w:=by
 unfold execOp
 go_simp
 rw[← h0,← h1]
 simp[Act.eval]
theorem qgl (a:Act) (w:World) (d t0:Nat) (u:TypeId) (ps:String) (ed:Array Edge) (gd:Option (Nat × Bool)) (z0:Value) (h0:a.eval (.tmp t0)=z0) :
  (execOp a.eval { dst:=some d,op:=Op.call { callee:=Callee.value (Operand.func 55),args:=#[Operand.tmp t0],argTypes:=#[27] },type:=u,pos:=ps,after:=ed,guard:=gd }).run prog w=.ok (.enter 55 #[z0]) w:=by
 unfold execOp
 go_simp
 rw[← h0]
 simp[Act.eval]
theorem zkx (a:Act) (w:World) (d:Nat) (u:TypeId) (ps:String) (ed:Array Edge) (gd:Option (Nat × Bool)) :
  (execOp a.eval { dst:=some d,op:=Op.assign (Operand.const Value.nilIface),type:=u,pos:=ps,after:=ed,guard:=gd }).run prog w=.ok (.value .nilIface) w:=by
 unfold execOp
 go_simp
def qap:Oper:=⟨some 8,.load 27 (.tmp 2),27, "credit.go:99",#[],none⟩
def qao:Oper:=⟨some 9,.move (.tmp 1),3, "credit.go:99",#[],none⟩
def qan:Oper:=⟨some 10,.call { callee:=.value (.func 71),args:=#[.tmp 9],argTypes:=#[3] },27, "credit.go:99",#[⟨1,.data⟩],none⟩
def qam:Oper:=⟨some 11,.call { callee:=.value (.func 119),args:=#[.tmp 8,.tmp 10],argTypes:=#[27,27] },30, "credit.go:99",#[⟨0,.data⟩,⟨2,.data⟩,⟨2,.chain⟩],none⟩
def qal:Oper:=⟨some 7,.move (.tmp 11),30, "credit.go:99",#[⟨3,.data⟩],none⟩
def qak:Oper:=⟨some 12,.extract (.tmp 7) 0,27, "credit.go:99",#[⟨4,.data⟩],none⟩
def qaj:Oper:=⟨some 13,.extract (.tmp 7) 1,29, "credit.go:99",#[⟨4,.data⟩,{ on:=8,ground:=.gcOnly Departure.lateStores }],none⟩
def qai:Oper:=⟨some 5,.alloc 27,0, "credit.go:99",#[],none⟩
def qah:Oper:=⟨none,.store 27 (.tmp 5) (.tmp 12),0, "credit.go:99",#[⟨7,.data⟩,⟨5,.data⟩,⟨3,.chain⟩,⟨0,.phase⟩,⟨1,.phase⟩,⟨2,.phase⟩,⟨3,.phase⟩,⟨4,.phase⟩,⟨5,.phase⟩,{ on:=6,ground:=.textOnly Departure.lateStores },⟨7,.phase⟩],none⟩
def qag:Oper:=⟨some 6,.assign (.tmp 13),29, "credit.go:99",#[⟨6,.data⟩,⟨8,.chain⟩,⟨0,.phase⟩,⟨1,.phase⟩,⟨2,.phase⟩,⟨3,.phase⟩,⟨4,.phase⟩,⟨5,.phase⟩,⟨6,.phase⟩,⟨7,.phase⟩,⟨8,.phase⟩],none⟩
def mh:Array Oper:=#[qap,qao,qan,qam,qal,qak,qaj,qai,qah,qag]
def zau (i:Nat):Nat:=match i with
 | 0=>8
 | 1=>9
 | 2=>10
 | 3=>11
 | 4=>7
 | 5=>12
 | 6=>13
 | 7=>5
 | _=>6
def zdi (B:Nat) (n:Int) (s1:Bool) (x1:Int) (y1:Int) (p1:Option Addr) (ws:Bool) (wx:Int) (f:Rat) (i:Nat) (w:World) (v:Value):Prop:=match i with
 | 0=>v=.agg #[.bool s1,.int .u64 x1,.int .u64 y1,.pointer p1]
 | 1=>v=.int .i64 n
 | 2=>v=.agg #[.bool ws,.int .u64 wx,.int .u64 0,.pointer none]
 | 3=>zn (f) w v
 | 4=>zn (f) w v
 | 5=>aq w v f
 | 6=>v=.nilIface
 | 7=>qh B w v
 | _=>True
theorem zng {B:Nat} {n:Int} {s1:Bool} {x1:Int} {y1:Int} {p1:Option Addr} {ws:Bool} {wx:Int} {f:Rat} {i:Nat} {w w':World} {v:Value} (h:zdi B n s1 x1 y1 p1 ws wx f i w v) (hi:i<9) (hb:But [] w w'):zdi B n s1 x1 y1 p1 ws wx f i w' v:=by
 have:i=0∨i=1∨i=2∨i=3∨i=4∨i=5∨i=6∨i=7∨i=8:=by omega
 rcases this with rfl|rfl|rfl|rfl|rfl|rfl|rfl|rfl|rfl
 ·exact (show v=.agg #[.bool s1,.int .u64 x1,.int .u64 y1,.pointer p1] from h)
 ·exact (show v=.int .i64 n from h)
 ·exact (show v=.agg #[.bool ws,.int .u64 wx,.int .u64 0,.pointer none] from h)
 ·exact zn.but (show zn (f) w v from h) hb
 ·exact zn.but (show zn (f) w v from h) hb
 ·exact aq.but (show aq w v f from h) hb
 ·exact (show v=.nilIface from h)
 ·exact qh.but (show qh B w v from h) hb
 ·exact trivial
theorem znf {B:Nat} {n:Int} {s1:Bool} {x1:Int} {y1:Int} {p1:Option Addr} {ws:Bool} {wx:Int} {f:Rat} {i:Nat} {w:World} {v:Value} {g0:Nat} {s0:Bool} {x0 y0:Int} {p0:Option Addr} (hg:P4 w g0 s0 x0 y0 p0) (s':Bool) (x' y':Int) (p':Option Addr) (h:zdi B n s1 x1 y1 p1 ws wx f i w v) (hi:i<9):zdi B n s1 x1 y1 p1 ws wx f i (zy w g0 s' x' y' p') v:=by
 have:i=0∨i=1∨i=2∨i=3∨i=4∨i=5∨i=6∨i=7∨i=8:=by omega
 rcases this with rfl|rfl|rfl|rfl|rfl|rfl|rfl|rfl|rfl
 ·exact (show v=.agg #[.bool s1,.int .u64 x1,.int .u64 y1,.pointer p1] from h)
 ·exact (show v=.int .i64 n from h)
 ·exact (show v=.agg #[.bool ws,.int .u64 wx,.int .u64 0,.pointer none] from h)
 ·exact zn.put (show zn (f) w v from h) hg _ _ _ _
 ·exact zn.put (show zn (f) w v from h) hg _ _ _ _
 ·exact aq.over (show aq w v f from h) hg.1 (ay _ _ _ _ _ _)
 ·exact (show v=.nilIface from h)
 ·exact qh.put (show qh B w v from h) hg _ _ _ _
 ·exact trivial
theorem zne:∀ i j,i<9→j<9→zau i=zau j→i=j:=fun i j hi hj=>(by decide:∀ i,i<9→∀ j,j<9→zau i=zau j→i=j) i hi j hj
theorem zik (id:Nat) (Q:Exit→Act→World→Prop) (base:Act) (W0:World) (B:Nat) (n:Int) (s1:Bool) (x1:Int) (y1:Int) (p1:Option Addr) (ws:Bool) (wx:Int) (f:Rat) (hs:13<base.tmps.size) (g2:Nat) (hBW:B=W0.heap.size) (e2:base.eval (.tmp 2)=.pointer (some ⟨g2,0,none⟩)) (e1:base.eval (.tmp 1)=.int .i64 n)
  (c1:P4 W0 g2 s1 x1 y1 p1)
  (WH:∀ w,Calls prog 71 #[.int .i64 n] w fun e w'=>e=.returned (.agg #[.bool ws,.int .u64 wx,.int .u64 0,.pointer none])∧But [] w w')
  (DI:∀ w,But [] W0 w→Calls prog 119 #[.agg #[.bool s1,.int .u64 x1,.int .u64 y1,.pointer p1],.agg #[.bool ws,.int .u64 wx,.int .u64 0,.pointer none]] w fun e w'=>∃ v,e=.returned (.tuple #[v,.nilIface])∧aq w' v f∧But [] w w')
  (hQ:∀ w1 bn v3 v4 v5 v8 s' x' y' p',But [] W0 w1→B≤bn→P4 w1 bn s' x' y' p'→aq w1 (.agg #[.bool s',.int .u64 x',.int .u64 y',.pointer p']) (f)→Q .normal (bk base [(8,.agg #[.bool s1,.int .u64 x1,.int .u64 y1,.pointer p1]),(9,.int .i64 n),(10,.agg #[.bool ws,.int .u64 wx,.int .u64 0,.pointer none]),(11,v3),(7,v4),(12,v5),(13,.nilIface),(5,.pointer (some ⟨bn,0,none⟩)),(6,v8),(6,.nilIface)]) w1) :
  (Code.region id mh true).wp prog Q base W0:=by
 have hdr:∀ {w},But [] W0.drew w→But [] W0 w:=fun h=>(But.refl _ _).drew.trans' h
 have hT:∀ i,i<9→zau i<base.tmps.size:=fun i hi=>by
  have h:zau i≤13:=by revert i;decide
  omega
 refine zdx (by kernel_rfl) (xu (by kernel_rfl)) (fun i o ho=>(mo (ops:=mh) (by kernel_rfl) i o ho).1)
  (zdi B n s1 x1 y1 p1 ws wx f) zau 9 8 7 (by omega) (zfe B (f)) rfl zne hT (fun i w w' v hi h hb=>zng h hi hb) (fun _ _=>trivial) (fun w w' v h hb=>h.but hb)
  (fun i hi=>?_) (vv (ops:=mh) (ps:=[(8,7)]) (by kernel_rfl) 8 7 (by simp)) ?_ ?_ (fun a w=>∃ w1 bn v3 v4 v5 v8 s' x' y' p',a=bk base [(8,.agg #[.bool s1,.int .u64 x1,.int .u64 y1,.pointer p1]),(9,.int .i64 n),(10,.agg #[.bool ws,.int .u64 wx,.int .u64 0,.pointer none]),(11,v3),(7,v4),(12,v5),(13,.nilIface),(5,.pointer (some ⟨bn,0,none⟩)),(6,v8),(6,.nilIface)]∧w=w1∧But [] W0 w1∧B≤bn∧P4 w1 bn s' x' y' p'∧aq w1 (.agg #[.bool s',.int .u64 x',.int .u64 y',.pointer p']) (f)) ?_ ?_ (by omega)
 ·exact vv (ops:=mh) (ps:=[(9,0),(9,1),(9,2),(9,3),(9,4),(9,5),(9,6),(9,7),(9,8)]) (by kernel_rfl) 9 i (by
   have:i=0∨i=1∨i=2∨i=3∨i=4∨i=5∨i=6∨i=7∨i=8:=by omega
   rcases this with rfl|rfl|rfl|rfl|rfl|rfl|rfl|rfl|rfl <;> simp)
 ·intro i o a w K hi hiq ho hH he hdep hK
  have hD:=j4 (ps:=[(2,1),(3,0),(3,2),(4,3),(5,4),(6,4),(8,0),(8,1),(8,2),(8,3),(8,4),(8,5),(8,7)]) (by kernel_rfl) ho (fun j=>zdi B n s1 x1 y1 p1 ws wx f j w (a.eval (.tmp (zau j)))) hdep
  have hk:∀ v w',But [] w w'→zdi B n s1 x1 y1 p1 ws wx f i w' v→K (a.put (some (zau i)) v) w':=hK
  have e2':=(he 2 (fun j hj e=>absurd e.symm (by revert j;decide))).trans e2
  have e1':=(he 1 (fun j hj e=>absurd e.symm (by revert j;decide))).trans e1
  have:i=0∨i=1∨i=2∨i=3∨i=4∨i=5∨i=6∨i=7∨i=8:=by omega
  rcases this with rfl|rfl|rfl|rfl|rfl|rfl|rfl|rfl|rfl
  ·obtain rfl:=so (show mh[0]? =some qap from rfl) ho
   exact an (ax a w _ _ _ _ _ _ g2 0 _ _ _ _ e2' (c1.but (hdr hH) (by simp))) (hk _ _ (But.refl _ _) rfl)
  ·obtain rfl:=so (show mh[1]? =some qao from rfl) ho
   exact an (bz a w _ _ _ _ _ _ _ e1') (hk _ _ (But.refl _ _) rfl)
  ·obtain rfl:=so (show mh[2]? =some qan from rfl) ho
   exact az (zkc a w _ _ _ _ _ _ _ (hD 1 (by simp))) (R:=fun w' v=>But [] w w'∧v=_) ((WH w).mono fun e w' ⟨he,hb⟩=>⟨_,he,hb,rfl⟩) (fun v w' hv=>hk v w' hv.1 hv.2)
  ·obtain rfl:=so (show mh[3]? =some qam from rfl) ho
   exact az (zie a w _ _ _ _ _ _ _ _ _ (hD 0 (by simp)) (hD 2 (by simp))) (R:=fun w' v=>zn (f) w' v∧But [] w w') ((DI w (hdr hH)).mono fun e w' ⟨v,he,hf,hb⟩=>⟨_,he,⟨v,rfl,hf⟩,hb⟩) (fun v w' hv=>hk v w' hv.2 hv.1)
  ·obtain rfl:=so (show mh[4]? =some qal from rfl) ho
   exact an (bz a w _ _ _ _ _ _ _ rfl) (hk _ _ (But.refl _ _) (hD 3 (by simp)))
  ·obtain rfl:=so (show mh[5]? =some qak from rfl) ho
   obtain⟨u,eu,hu⟩:zn (f) w _:=(hD 4 (by simp))
   exact an (zbq a w _ _ _ _ _ _ _ _ u eu rfl) (hk _ _ (But.refl _ _) hu)
  ·obtain rfl:=so (show mh[6]? =some qaj from rfl) ho
   obtain⟨u,eu,hu⟩:zn (f) w _:=(hD 4 (by simp))
   exact an (zbq a w _ _ _ _ _ _ _ _ .nilIface eu rfl) (hk _ _ (But.refl _ _) rfl)
  ·obtain rfl:=so (show mh[7]? =some qai from rfl) ho
   exact an (uh a w _ _ _ _ _) (hk _ _ ((But.refl _ _).alloc _) ⟨w.heap.size,rfl,by rw[hBW];exact (hdr hH).size,⟨false,0,0,none,by simp,by simp,by simp,by simp⟩,fun j=>by simp⟩)
  ·exact absurd rfl hiq
 ·intro o a w K ho hH he hdep hK
  have hD:=j4 (ps:=[(8,7),(8,5)]) (by kernel_rfl) ho (fun j=>zdi B n s1 x1 y1 p1 ws wx f j w (a.eval (.tmp (zau j)))) hdep
  obtain rfl:=so (show mh[8]? =some qah from rfl) ho
  have cl:aq w (a.eval (.tmp 12)) (f):=hD 5 (by simp)
  obtain⟨bn,eb,hb1,⟨s0,x0,y0,p0,hb2⟩,hb3⟩:qh B w (a.eval (.tmp 5)):=hD 7 (by simp)
  have cl':=cl
  obtain⟨x',y',p',ev,-⟩:=cl.agg
  rw[ev] at cl'
  exact jo (kz a w _ _ _ _ _ bn _ x' y' p' eb ev hb2 hb3) (hK _ (hH.trans (ay w bn _ x' y' p') (fun x hx=>by simp at hx;subst hx;exact .inr (by rw[hBW] at hb1;exact hb1))) (fun j hj u hu=>znf hb2 _ x' y' p' hu hj) ⟨bn,_,x',y',p',eb,hb1,jl w bn _ x' y' p' hb2,cl'.over hb2.1 (ay w bn _ x' y' p')⟩)
 ·intro dn o a w K ho hall h hst hK
  obtain rfl:=so (show mh[9]? =some qag from rfl) ho
  obtain⟨bn,s',x',y',p',eb,hb1,hb2,hb3⟩:=hst
  have eb:a.eval (.tmp 5)=.pointer (some ⟨bn,0,none⟩):=eb
  have ea:=h.puts hT (fun i=>match i with
   | 0=>.agg #[.bool s1,.int .u64 x1,.int .u64 y1,.pointer p1]
   | 1=>.int .i64 n
   | 2=>.agg #[.bool ws,.int .u64 wx,.int .u64 0,.pointer none]
   | 3=>a.eval (.tmp 11)
   | 4=>a.eval (.tmp 7)
   | 5=>a.eval (.tmp 12)
   | 6=>.nilIface
   | 7=>.pointer (some ⟨bn,0,none⟩)
   | _=>a.eval (.tmp 6)) (fun i hi=>by
   have hc:=h.has i hi (hall i hi)
   have:i=0∨i=1∨i=2∨i=3∨i=4∨i=5∨i=6∨i=7∨i=8:=by omega
   rcases this with rfl|rfl|rfl|rfl|rfl|rfl|rfl|rfl|rfl
   ·exact hc
   ·exact hc
   ·exact hc
   ·rfl
   ·rfl
   ·rfl
   ·exact hc
   ·exact eb
   ·rfl)
  have ea2:a=bk base [(8,.agg #[.bool s1,.int .u64 x1,.int .u64 y1,.pointer p1]),(9,.int .i64 n),(10,.agg #[.bool ws,.int .u64 wx,.int .u64 0,.pointer none]),(11,a.eval (.tmp 11)),(7,a.eval (.tmp 7)),(12,a.eval (.tmp 12)),(13,.nilIface),(5,.pointer (some ⟨bn,0,none⟩)),(6,a.eval (.tmp 6))]:=ea
  have ea3:a.put (some 6) (.nilIface)=bk base ([(8,.agg #[.bool s1,.int .u64 x1,.int .u64 y1,.pointer p1]),(9,.int .i64 n),(10,.agg #[.bool ws,.int .u64 wx,.int .u64 0,.pointer none]),(11,a.eval (.tmp 11)),(7,a.eval (.tmp 7)),(12,a.eval (.tmp 12)),(13,.nilIface),(5,.pointer (some ⟨bn,0,none⟩)),(6,a.eval (.tmp 6))]++[(6,.nilIface)]):=(congrArg (fun z:Act=>z.put (some 6) (.nilIface)) ea2).trans (ui _ _ _ _)
  have hev:a.eval (.tmp 13)=.nilIface:=h.has 6 (by omega) (hall 6 (by omega))
  exact an (zqm _ _ _ _ _ _ _ _ _ hev) (hK _ _ ⟨w,bn,a.eval (.tmp 11),a.eval (.tmp 7),a.eval (.tmp 12),a.eval (.tmp 6),s',x',y',p',ea3,rfl,hdr h.mem,hb1,hb2,hb3⟩)
 ·rintro a w ⟨w1,bn,v3,v4,v5,v8,s',x',y',p',rfl,rfl,h1,h2,h3,h4⟩
  exact hQ _ bn v3 v4 v5 v8 s' x' y' p' h1 h2 h3 h4
def qaf:Oper:=⟨some 12,.load 27 (.tmp 2),27, "credit.go:73",#[],none⟩
def qae:Oper:=⟨some 13,.load 27 (.tmp 2),27, "credit.go:73",#[],none⟩
def qad:Oper:=⟨some 14,.load 27 (.tmp 3),27, "credit.go:73",#[],none⟩
def qac:Oper:=⟨some 15,.call { callee:=.value (.func 73),args:=#[.tmp 13,.tmp 14],argTypes:=#[27,27] },27, "credit.go:73",#[⟨1,.data⟩,⟨2,.data⟩],none⟩
def qab:Oper:=⟨some 16,.call { callee:=.value (.func 119),args:=#[.tmp 12,.tmp 15],argTypes:=#[27,27] },30, "credit.go:73",#[⟨0,.data⟩,⟨3,.data⟩,⟨3,.chain⟩],none⟩
def qaa:Oper:=⟨some 11,.move (.tmp 16),30, "credit.go:73",#[⟨4,.data⟩],none⟩
def zzz:Oper:=⟨some 17,.extract (.tmp 11) 0,27, "credit.go:73",#[⟨5,.data⟩],none⟩
def zzy:Oper:=⟨some 18,.extract (.tmp 11) 1,29, "credit.go:73",#[⟨5,.data⟩,{ on:=9,ground:=.gcOnly Departure.lateStores }],none⟩
def zzx:Oper:=⟨some 5,.alloc 27,0, "credit.go:73",#[],none⟩
def zzw:Oper:=⟨none,.store 27 (.tmp 5) (.tmp 17),0, "credit.go:73",#[⟨8,.data⟩,⟨6,.data⟩,⟨4,.chain⟩,⟨0,.phase⟩,⟨1,.phase⟩,⟨2,.phase⟩,⟨3,.phase⟩,⟨4,.phase⟩,⟨5,.phase⟩,⟨6,.phase⟩,{ on:=7,ground:=.textOnly Departure.lateStores },⟨8,.phase⟩],none⟩
def zrp:Oper:=⟨some 6,.assign (.tmp 18),29, "credit.go:73",#[⟨7,.data⟩,⟨9,.chain⟩,⟨0,.phase⟩,⟨1,.phase⟩,⟨2,.phase⟩,⟨3,.phase⟩,⟨4,.phase⟩,⟨5,.phase⟩,⟨6,.phase⟩,⟨7,.phase⟩,⟨8,.phase⟩,⟨9,.phase⟩],none⟩
def dz:Array Oper:=#[qaf,qae,qad,qac,qab,qaa,zzz,zzy,zzx,zzw,zrp]
def zat (i:Nat):Nat:=match i with
 | 0=>12
 | 1=>13
 | 2=>14
 | 3=>15
 | 4=>16
 | 5=>11
 | 6=>17
 | 7=>18
 | 8=>5
 | _=>6
def zdh (B:Nat) (s1:Bool) (x1:Int) (y1:Int) (p1:Option Addr) (s2:Bool) (x2:Int) (y2:Int) (p2:Option Addr) (f1:Rat) (f2:Rat) (i:Nat) (w:World) (v:Value):Prop:=match i with
 | 0=>v=.agg #[.bool s1,.int .u64 x1,.int .u64 y1,.pointer p1]
 | 1=>v=.agg #[.bool s1,.int .u64 x1,.int .u64 y1,.pointer p1]
 | 2=>v=.agg #[.bool s2,.int .u64 x2,.int .u64 y2,.pointer p2]
 | 3=>aq w v (f1+f2)
 | 4=>zn (f1/(f1+f2)) w v
 | 5=>zn (f1/(f1+f2)) w v
 | 6=>aq w v (f1/(f1+f2))
 | 7=>v=.nilIface
 | 8=>qh B w v
 | _=>True
theorem znd {B:Nat} {s1:Bool} {x1:Int} {y1:Int} {p1:Option Addr} {s2:Bool} {x2:Int} {y2:Int} {p2:Option Addr} {f1:Rat} {f2:Rat} {i:Nat} {w w':World} {v:Value} (h:zdh B s1 x1 y1 p1 s2 x2 y2 p2 f1 f2 i w v) (hi:i<10) (hb:But [] w w'):zdh B s1 x1 y1 p1 s2 x2 y2 p2 f1 f2 i w' v:=by
 have:i=0∨i=1∨i=2∨i=3∨i=4∨i=5∨i=6∨i=7∨i=8∨i=9:=by omega
 rcases this with rfl|rfl|rfl|rfl|rfl|rfl|rfl|rfl|rfl|rfl
 ·exact (show v=.agg #[.bool s1,.int .u64 x1,.int .u64 y1,.pointer p1] from h)
 ·exact (show v=.agg #[.bool s1,.int .u64 x1,.int .u64 y1,.pointer p1] from h)
 ·exact (show v=.agg #[.bool s2,.int .u64 x2,.int .u64 y2,.pointer p2] from h)
 ·exact aq.but (show aq w v (f1+f2) from h) hb
 ·exact zn.but (show zn (f1/(f1+f2)) w v from h) hb
 ·exact zn.but (show zn (f1/(f1+f2)) w v from h) hb
 ·exact aq.but (show aq w v (f1/(f1+f2)) from h) hb
 ·exact (show v=.nilIface from h)
 ·exact qh.but (show qh B w v from h) hb
 ·exact trivial
theorem znc {B:Nat} {s1:Bool} {x1:Int} {y1:Int} {p1:Option Addr} {s2:Bool} {x2:Int} {y2:Int} {p2:Option Addr} {f1:Rat} {f2:Rat} {i:Nat} {w:World} {v:Value} {g0:Nat} {s0:Bool} {x0 y0:Int} {p0:Option Addr} (hg:P4 w g0 s0 x0 y0 p0) (s':Bool) (x' y':Int) (p':Option Addr) (h:zdh B s1 x1 y1 p1 s2 x2 y2 p2 f1 f2 i w v) (hi:i<10):zdh B s1 x1 y1 p1 s2 x2 y2 p2 f1 f2 i (zy w g0 s' x' y' p') v:=by
 have:i=0∨i=1∨i=2∨i=3∨i=4∨i=5∨i=6∨i=7∨i=8∨i=9:=by omega
 rcases this with rfl|rfl|rfl|rfl|rfl|rfl|rfl|rfl|rfl|rfl
 ·exact (show v=.agg #[.bool s1,.int .u64 x1,.int .u64 y1,.pointer p1] from h)
 ·exact (show v=.agg #[.bool s1,.int .u64 x1,.int .u64 y1,.pointer p1] from h)
 ·exact (show v=.agg #[.bool s2,.int .u64 x2,.int .u64 y2,.pointer p2] from h)
 ·exact aq.over (show aq w v (f1+f2) from h) hg.1 (ay _ _ _ _ _ _)
 ·exact zn.put (show zn (f1/(f1+f2)) w v from h) hg _ _ _ _
 ·exact zn.put (show zn (f1/(f1+f2)) w v from h) hg _ _ _ _
 ·exact aq.over (show aq w v (f1/(f1+f2)) from h) hg.1 (ay _ _ _ _ _ _)
 ·exact (show v=.nilIface from h)
 ·exact qh.put (show qh B w v from h) hg _ _ _ _
 ·exact trivial
theorem znb:∀ i j,i<10→j<10→zat i=zat j→i=j:=fun i j hi hj=>(by decide:∀ i,i<10→∀ j,j<10→zat i=zat j→i=j) i hi j hj
theorem zkf (id:Nat) (Q:Exit→Act→World→Prop) (base:Act) (W0:World) (B:Nat) (s1:Bool) (x1:Int) (y1:Int) (p1:Option Addr) (s2:Bool) (x2:Int) (y2:Int) (p2:Option Addr) (f1:Rat) (f2:Rat) (hs:18<base.tmps.size) (g2 g3:Nat) (hBW:B=W0.heap.size) (e2:base.eval (.tmp 2)=.pointer (some ⟨g2,0,none⟩)) (e3:base.eval (.tmp 3)=.pointer (some ⟨g3,0,none⟩))
  (c1:P4 W0 g2 s1 x1 y1 p1) (c2:P4 W0 g3 s2 x2 y2 p2)
  (AD:∀ w,But [] W0 w→Calls prog 73 #[.agg #[.bool s1,.int .u64 x1,.int .u64 y1,.pointer p1],.agg #[.bool s2,.int .u64 x2,.int .u64 y2,.pointer p2]] w fun e w'=>∃ v,e=.returned v∧aq w' v (f1+f2)∧But [] w w')
  (DI:∀ w,But [] W0 w→∀ v,aq w v (f1+f2)→Calls prog 119 #[.agg #[.bool s1,.int .u64 x1,.int .u64 y1,.pointer p1],v] w fun e w'=>∃ v,e=.returned (.tuple #[v,.nilIface])∧aq w' v (f1/(f1+f2))∧But [] w w')
  (hQ:∀ w1 bn v3 v4 v5 v6 v9 s' x' y' p',But [] W0 w1→B≤bn→P4 w1 bn s' x' y' p'→aq w1 (.agg #[.bool s',.int .u64 x',.int .u64 y',.pointer p']) (f1/(f1+f2))→Q .normal (bk base [(12,.agg #[.bool s1,.int .u64 x1,.int .u64 y1,.pointer p1]),(13,.agg #[.bool s1,.int .u64 x1,.int .u64 y1,.pointer p1]),(14,.agg #[.bool s2,.int .u64 x2,.int .u64 y2,.pointer p2]),(15,v3),(16,v4),(11,v5),(17,v6),(18,.nilIface),(5,.pointer (some ⟨bn,0,none⟩)),(6,v9),(6,.nilIface)]) w1) :
  (Code.region id dz true).wp prog Q base W0:=by
 have hdr:∀ {w},But [] W0.drew w→But [] W0 w:=fun h=>(But.refl _ _).drew.trans' h
 have hT:∀ i,i<10→zat i<base.tmps.size:=fun i hi=>by
  have h:zat i≤18:=by revert i;decide
  omega
 refine zdx (by kernel_rfl) (xu (by kernel_rfl)) (fun i o ho=>(mo (ops:=dz) (by kernel_rfl) i o ho).1)
  (zdh B s1 x1 y1 p1 s2 x2 y2 p2 f1 f2) zat 10 9 8 (by omega) (zfe B (f1/(f1+f2))) rfl znb hT (fun i w w' v hi h hb=>znd h hi hb) (fun _ _=>trivial) (fun w w' v h hb=>h.but hb)
  (fun i hi=>?_) (vv (ops:=dz) (ps:=[(9,8)]) (by kernel_rfl) 9 8 (by simp)) ?_ ?_ (fun a w=>∃ w1 bn v3 v4 v5 v6 v9 s' x' y' p',a=bk base [(12,.agg #[.bool s1,.int .u64 x1,.int .u64 y1,.pointer p1]),(13,.agg #[.bool s1,.int .u64 x1,.int .u64 y1,.pointer p1]),(14,.agg #[.bool s2,.int .u64 x2,.int .u64 y2,.pointer p2]),(15,v3),(16,v4),(11,v5),(17,v6),(18,.nilIface),(5,.pointer (some ⟨bn,0,none⟩)),(6,v9),(6,.nilIface)]∧w=w1∧But [] W0 w1∧B≤bn∧P4 w1 bn s' x' y' p'∧aq w1 (.agg #[.bool s',.int .u64 x',.int .u64 y',.pointer p']) (f1/(f1+f2))) ?_ ?_ (by omega)
 ·exact vv (ops:=dz) (ps:=[(10,0),(10,1),(10,2),(10,3),(10,4),(10,5),(10,6),(10,7),(10,8),(10,9)]) (by kernel_rfl) 10 i (by
   have:i=0∨i=1∨i=2∨i=3∨i=4∨i=5∨i=6∨i=7∨i=8∨i=9:=by omega
   rcases this with rfl|rfl|rfl|rfl|rfl|rfl|rfl|rfl|rfl|rfl <;> simp)
 ·intro i o a w K hi hiq ho hH he hdep hK
  have hD:=j4 (ps:=[(3,1),(3,2),(4,0),(4,3),(5,4),(6,5),(7,5),(9,0),(9,1),(9,2),(9,3),(9,4),(9,5),(9,6),(9,8)]) (by kernel_rfl) ho (fun j=>zdh B s1 x1 y1 p1 s2 x2 y2 p2 f1 f2 j w (a.eval (.tmp (zat j)))) hdep
  have hk:∀ v w',But [] w w'→zdh B s1 x1 y1 p1 s2 x2 y2 p2 f1 f2 i w' v→K (a.put (some (zat i)) v) w':=hK
  have e2':=(he 2 (fun j hj e=>absurd e.symm (by revert j;decide))).trans e2
  have e3':=(he 3 (fun j hj e=>absurd e.symm (by revert j;decide))).trans e3
  have:i=0∨i=1∨i=2∨i=3∨i=4∨i=5∨i=6∨i=7∨i=8∨i=9:=by omega
  rcases this with rfl|rfl|rfl|rfl|rfl|rfl|rfl|rfl|rfl|rfl
  ·obtain rfl:=so (show dz[0]? =some qaf from rfl) ho
   exact an (ax a w _ _ _ _ _ _ g2 0 _ _ _ _ e2' (c1.but (hdr hH) (by simp))) (hk _ _ (But.refl _ _) rfl)
  ·obtain rfl:=so (show dz[1]? =some qae from rfl) ho
   exact an (ax a w _ _ _ _ _ _ g2 0 _ _ _ _ e2' (c1.but (hdr hH) (by simp))) (hk _ _ (But.refl _ _) rfl)
  ·obtain rfl:=so (show dz[2]? =some qad from rfl) ho
   exact an (ax a w _ _ _ _ _ _ g3 0 _ _ _ _ e3' (c2.but (hdr hH) (by simp))) (hk _ _ (But.refl _ _) rfl)
  ·obtain rfl:=so (show dz[3]? =some qac from rfl) ho
   exact az (zde a w _ _ _ _ _ _ _ _ _ (hD 1 (by simp)) (hD 2 (by simp))) (R:=fun w' v=>aq w' v (f1+f2)∧But [] w w') (AD w (hdr hH)) (fun v w' hv=>hk v w' hv.2 hv.1)
  ·obtain rfl:=so (show dz[4]? =some qab from rfl) ho
   exact az (zie a w _ _ _ _ _ _ _ _ _ (hD 0 (by simp)) rfl) (R:=fun w' v=>zn (f1/(f1+f2)) w' v∧But [] w w') ((DI w (hdr hH) _ (hD 3 (by simp))).mono fun e w' ⟨v,he,hf,hb⟩=>⟨_,he,⟨v,rfl,hf⟩,hb⟩) (fun v w' hv=>hk v w' hv.2 hv.1)
  ·obtain rfl:=so (show dz[5]? =some qaa from rfl) ho
   exact an (bz a w _ _ _ _ _ _ _ rfl) (hk _ _ (But.refl _ _) (hD 4 (by simp)))
  ·obtain rfl:=so (show dz[6]? =some zzz from rfl) ho
   obtain⟨u,eu,hu⟩:zn (f1/(f1+f2)) w _:=(hD 5 (by simp))
   exact an (zbq a w _ _ _ _ _ _ _ _ u eu rfl) (hk _ _ (But.refl _ _) hu)
  ·obtain rfl:=so (show dz[7]? =some zzy from rfl) ho
   obtain⟨u,eu,hu⟩:zn (f1/(f1+f2)) w _:=(hD 5 (by simp))
   exact an (zbq a w _ _ _ _ _ _ _ _ .nilIface eu rfl) (hk _ _ (But.refl _ _) rfl)
  ·obtain rfl:=so (show dz[8]? =some zzx from rfl) ho
   exact an (uh a w _ _ _ _ _) (hk _ _ ((But.refl _ _).alloc _) ⟨w.heap.size,rfl,by rw[hBW];exact (hdr hH).size,⟨false,0,0,none,by simp,by simp,by simp,by simp⟩,fun j=>by simp⟩)
  ·exact absurd rfl hiq
 ·intro o a w K ho hH he hdep hK
  have hD:=j4 (ps:=[(9,8),(9,6)]) (by kernel_rfl) ho (fun j=>zdh B s1 x1 y1 p1 s2 x2 y2 p2 f1 f2 j w (a.eval (.tmp (zat j)))) hdep
  obtain rfl:=so (show dz[9]? =some zzw from rfl) ho
  have cl:aq w (a.eval (.tmp 17)) (f1/(f1+f2)):=hD 6 (by simp)
  obtain⟨bn,eb,hb1,⟨s0,x0,y0,p0,hb2⟩,hb3⟩:qh B w (a.eval (.tmp 5)):=hD 8 (by simp)
  have cl':=cl
  obtain⟨x',y',p',ev,-⟩:=cl.agg
  rw[ev] at cl'
  exact jo (kz a w _ _ _ _ _ bn _ x' y' p' eb ev hb2 hb3) (hK _ (hH.trans (ay w bn _ x' y' p') (fun x hx=>by simp at hx;subst hx;exact .inr (by rw[hBW] at hb1;exact hb1))) (fun j hj u hu=>znc hb2 _ x' y' p' hu hj) ⟨bn,_,x',y',p',eb,hb1,jl w bn _ x' y' p' hb2,cl'.over hb2.1 (ay w bn _ x' y' p')⟩)
 ·intro dn o a w K ho hall h hst hK
  obtain rfl:=so (show dz[10]? =some zrp from rfl) ho
  obtain⟨bn,s',x',y',p',eb,hb1,hb2,hb3⟩:=hst
  have eb:a.eval (.tmp 5)=.pointer (some ⟨bn,0,none⟩):=eb
  have ea:=h.puts hT (fun i=>match i with
   | 0=>.agg #[.bool s1,.int .u64 x1,.int .u64 y1,.pointer p1]
   | 1=>.agg #[.bool s1,.int .u64 x1,.int .u64 y1,.pointer p1]
   | 2=>.agg #[.bool s2,.int .u64 x2,.int .u64 y2,.pointer p2]
   | 3=>a.eval (.tmp 15)
   | 4=>a.eval (.tmp 16)
   | 5=>a.eval (.tmp 11)
   | 6=>a.eval (.tmp 17)
   | 7=>.nilIface
   | 8=>.pointer (some ⟨bn,0,none⟩)
   | _=>a.eval (.tmp 6)) (fun i hi=>by
   have hc:=h.has i hi (hall i hi)
   have:i=0∨i=1∨i=2∨i=3∨i=4∨i=5∨i=6∨i=7∨i=8∨i=9:=by omega
   rcases this with rfl|rfl|rfl|rfl|rfl|rfl|rfl|rfl|rfl|rfl
   ·exact hc
   ·exact hc
   ·exact hc
   ·rfl
   ·rfl
   ·rfl
   ·rfl
   ·exact hc
   ·exact eb
   ·rfl)
  have ea2:a=bk base [(12,.agg #[.bool s1,.int .u64 x1,.int .u64 y1,.pointer p1]),(13,.agg #[.bool s1,.int .u64 x1,.int .u64 y1,.pointer p1]),(14,.agg #[.bool s2,.int .u64 x2,.int .u64 y2,.pointer p2]),(15,a.eval (.tmp 15)),(16,a.eval (.tmp 16)),(11,a.eval (.tmp 11)),(17,a.eval (.tmp 17)),(18,.nilIface),(5,.pointer (some ⟨bn,0,none⟩)),(6,a.eval (.tmp 6))]:=ea
  have ea3:a.put (some 6) (.nilIface)=bk base ([(12,.agg #[.bool s1,.int .u64 x1,.int .u64 y1,.pointer p1]),(13,.agg #[.bool s1,.int .u64 x1,.int .u64 y1,.pointer p1]),(14,.agg #[.bool s2,.int .u64 x2,.int .u64 y2,.pointer p2]),(15,a.eval (.tmp 15)),(16,a.eval (.tmp 16)),(11,a.eval (.tmp 11)),(17,a.eval (.tmp 17)),(18,.nilIface),(5,.pointer (some ⟨bn,0,none⟩)),(6,a.eval (.tmp 6))]++[(6,.nilIface)]):=(congrArg (fun z:Act=>z.put (some 6) (.nilIface)) ea2).trans (ui _ _ _ _)
  have hev:a.eval (.tmp 18)=.nilIface:=h.has 7 (by omega) (hall 7 (by omega))
  exact an (zqm _ _ _ _ _ _ _ _ _ hev) (hK _ _ ⟨w,bn,a.eval (.tmp 15),a.eval (.tmp 16),a.eval (.tmp 11),a.eval (.tmp 17),a.eval (.tmp 6),s',x',y',p',ea3,rfl,hdr h.mem,hb1,hb2,hb3⟩)
 ·rintro a w ⟨w1,bn,v3,v4,v5,v6,v9,s',x',y',p',rfl,rfl,h1,h2,h3,h4⟩
  exact hQ _ bn v3 v4 v5 v6 v9 s' x' y' p' h1 h2 h3 h4
def qza:Oper:=⟨some 3,.call { callee:=.value (.func 71),args:=#[.const (.int .i64 1)],argTypes:=#[3] },27, "line.go:79",#[],none⟩
def qyz:Oper:=⟨some 4,.load 27 (.tmp 1),27, "line.go:79",#[],none⟩
def qyy:Oper:=⟨some 5,.call { callee:=.value (.func 31),args:=#[.tmp 3,.tmp 4],argTypes:=#[27,27] },27, "line.go:79",#[⟨0,.data⟩,⟨1,.data⟩,⟨0,.chain⟩],none⟩
def qyx:Oper:=⟨none,.store 27 (.tmp 2) (.tmp 5),0, "line.go:79",#[⟨2,.data⟩,⟨2,.chain⟩,⟨0,.phase⟩,⟨1,.phase⟩,⟨2,.phase⟩],none⟩
def zro:Array Oper:=#[qza,qyz,qyy,qyx]
def zly (i:Nat):Nat:=match i with
 | 0=>3
 | 1=>4
 | _=>5
def zzv (ws:Bool) (wx:Int) (s1:Bool) (x1:Int) (y1:Int) (p1:Option Addr) (f1:Rat) (i:Nat) (w:World) (v:Value):Prop:=match i with
 | 0=>v=.agg #[.bool ws,.int .u64 wx,.int .u64 0,.pointer none]
 | 1=>v=.agg #[.bool s1,.int .u64 x1,.int .u64 y1,.pointer p1]
 | _=>aq w v (((1:Int):Rat)-f1)
theorem qid {ws:Bool} {wx:Int} {s1:Bool} {x1:Int} {y1:Int} {p1:Option Addr} {f1:Rat} {i:Nat} {w w':World} {v:Value} (h:zzv ws wx s1 x1 y1 p1 f1 i w v) (hi:i<3) (hb:But [] w w'):zzv ws wx s1 x1 y1 p1 f1 i w' v:=by
 have:i=0∨i=1∨i=2:=by omega
 rcases this with rfl|rfl|rfl
 all_goals first | exact h | exact aq.but h hb | exact au.but h hb
theorem qic:∀ i j,i<3→j<3→zly i=zly j→i=j:=fun i j hi hj=>(by decide:∀ i,i<3→∀ j,j<3→zly i=zly j→i=j) i hi j hj
theorem zyq (id:Nat) (Q:Exit→Act→World→Prop) (base:Act) (W0:World) (ws:Bool) (wx:Int) (s1:Bool) (x1:Int) (y1:Int) (p1:Option Addr) (f1:Rat) (gb g1:Nat) {sb:Bool} {xb yb:Int} {pb:Option Addr} (hs:5<base.tmps.size) (eb:base.eval (.tmp 2)=.pointer (some ⟨gb,0,none⟩)) (cb:P4 W0 gb sb xb yb pb) (fzb:∀ j,W0.frozen? ⟨gb,j,none⟩=false) (e1:base.eval (.tmp 1)=.pointer (some ⟨g1,0,none⟩))
  (c1:P4 W0 g1 s1 x1 y1 p1)
  (WH:∀ w,Calls prog 71 #[.int .i64 1] w fun e w'=>e=.returned (.agg #[.bool ws,.int .u64 wx,.int .u64 0,.pointer none])∧But [] w w')
  (SU:∀ w,But [] W0 w→Calls prog 31 #[.agg #[.bool ws,.int .u64 wx,.int .u64 0,.pointer none],.agg #[.bool s1,.int .u64 x1,.int .u64 y1,.pointer p1]] w fun e w'=>∃ v,e=.returned v∧aq w' v (((1:Int):Rat)-f1)∧But [] w w')
  (hQ:∀ w1 s' x' y' p',But [] W0 w1→aq w1 (.agg #[.bool s',.int .u64 x',.int .u64 y',.pointer p']) (((1:Int):Rat)-f1)→Q .normal (bk base [(3,.agg #[.bool ws,.int .u64 wx,.int .u64 0,.pointer none]),(4,.agg #[.bool s1,.int .u64 x1,.int .u64 y1,.pointer p1]),(5,(.agg #[.bool s',.int .u64 x',.int .u64 y',.pointer p']))]) (zy w1 gb s' x' y' p')) :
  (Code.region id zro true).wp prog Q base W0:=by
 have hdr:∀ {w},But [] W0.drew w→But [] W0 w:=fun h=>(But.refl _ _).drew.trans' h
 have lgb:gb<W0.heap.size:=ai cb.1
 have hT:∀ i,i<3→zly i<base.tmps.size:=fun i hi=>by
  have h:zly i≤5:=by revert i;decide
  omega
 refine l9 (by kernel_rfl) (xu (by kernel_rfl)) (fun i o ho=>(mo (ops:=zro) (by kernel_rfl) i o ho).1)
  (fun _ w=>But [] W0.drew w) (zzv ws wx s1 x1 y1 p1 f1) zly 3 rfl qic hT (But.refl _ _)
  (fun i hi=>?_) ?_ (fun a w=>∃ w1 s' x' y' p',a=bk base [(3,.agg #[.bool ws,.int .u64 wx,.int .u64 0,.pointer none]),(4,.agg #[.bool s1,.int .u64 x1,.int .u64 y1,.pointer p1]),(5,(.agg #[.bool s',.int .u64 x',.int .u64 y',.pointer p']))]∧w=zy w1 gb s' x' y' p'∧But [] W0 w1∧aq w1 (.agg #[.bool s',.int .u64 x',.int .u64 y',.pointer p']) (((1:Int):Rat)-f1)) ?_ ?_
 ·exact vv (ops:=zro) (ps:=[(3,0),(3,1),(3,2)]) (by kernel_rfl) 3 i (by
   have:i=0∨i=1∨i=2:=by omega
   rcases this with rfl|rfl|rfl <;> simp)
 ·intro dn i o a w K hi ho hdi hH he hdep hK
  have hD:=fun j hj=>(j4 (ps:=[(2,0),(2,1)]) (by kernel_rfl) ho (fun j=>dn j=true∧zzv ws wx s1 x1 y1 p1 f1 j w (a.eval (.tmp (zly j)))) hdep j hj).2
  have hk:∀ v w',But [] w w'→zzv ws wx s1 x1 y1 p1 f1 i w' v→K (a.put (some (zly i)) v) w':=fun v w' hb hv=>hK v w' (hH.trans' hb) (fun j hj _ u hu=>qid hu hj hb) hv
  have eb':=(he 2 (fun j hj e=>absurd e.symm (by revert j;decide))).trans eb
  have e1':=(he 1 (fun j hj e=>absurd e.symm (by revert j;decide))).trans e1
  have:i=0∨i=1∨i=2:=by omega
  rcases this with rfl|rfl|rfl
  ·obtain rfl:=so (show zro[0]? =some qza from rfl) ho
   exact az (qkg a w _ _ _ _ _ 1) (R:=fun w' v=>But [] w w'∧v=_) ((WH w).mono fun e w' ⟨he,hb⟩=>⟨_,he,hb,rfl⟩) (fun v w' hv=>hk v w' hv.1 hv.2)
  ·obtain rfl:=so (show zro[1]? =some qyz from rfl) ho
   exact an (ax a w _ _ _ _ _ _ g1 0 _ _ _ _ e1' (c1.but (hdr hH) (by simp))) (hk _ _ (But.refl _ _) rfl)
  ·obtain rfl:=so (show zro[2]? =some qyy from rfl) ho
   exact az (zga a w _ _ _ _ _ _ _ _ _ (hD 0 (by simp)) (hD 1 (by simp))) (R:=fun w' v=>aq w' v (((1:Int):Rat)-f1)∧But [] w w') (SU w (hdr hH)) (fun v w' hv=>hk v w' hv.2 hv.1)
 ·intro dn o a w K ho hall h hK
  obtain rfl:=so (show zro[3]? =some qyx from rfl) ho
  have eb':=(h.eval 2 (fun j hj e=>absurd e.symm (by revert j;decide))).trans eb
  have cl:aq w (a.eval (.tmp 5)) (((1:Int):Rat)-f1):=h.has 2 (by omega) (hall 2 (by omega))
  have cl':=cl
  obtain⟨x',y',p',ev,-⟩:=cl.agg
  rw[ev] at cl'
  have ea:=h.puts hT (fun i=>match i with
   | 0=>.agg #[.bool ws,.int .u64 wx,.int .u64 0,.pointer none]
   | 1=>.agg #[.bool s1,.int .u64 x1,.int .u64 y1,.pointer p1]
   | _=>.agg #[.bool (decide ((((1:Int):Rat)-f1).num<0)),.int .u64 x',.int .u64 y',.pointer p']) (fun i hi=>by
   have hc:=h.has i hi (hall i hi)
   have:i=0∨i=1∨i=2:=by omega
   rcases this with rfl|rfl|rfl
   all_goals first | exact ev | exact hc|rfl)
  exact jo (kz a w _ _ _ _ _ gb _ x' y' p' eb' ev (cb.but (hdr h.mem) (by simp)) (fun j=>((hdr h.mem).frozen (p:=⟨gb,j,none⟩) lgb (by simp)).trans (fzb j))) (hK _ _ ⟨w,_,x',y',p',ea,rfl,hdr h.mem,cl'⟩)
 ·rintro a w ⟨w1,s',x',y',p',rfl,rfl,h1,h2⟩
  exact hQ  w1 s' x' y' p' h1 h2
def K12 (w:World) (b o:Nat) (s1:Bool) (x1 y1:Int) (p1:Option Addr) (s2:Bool) (x2 y2:Int) (p2:Option Addr) (s3:Bool) (x3 y3:Int) (p3:Option Addr):Prop:=P4o w b o s1 x1 y1 p1∧P4o w b (o+4) s2 x2 y2 p2∧P4o w b (o+8) s3 x3 y3 p3
theorem K12.but {w w':World} {b o:Nat} {s1:Bool} {x1 y1:Int} {p1:Option Addr} {s2:Bool} {x2 y2:Int} {p2:Option Addr} {s3:Bool} {x3 y3:Int} {p3:Option Addr} {l:List Nat} (h:K12 w b o s1 x1 y1 p1 s2 x2 y2 p2 s3 x3 y3 p3) (hb:But l w w') (hn:b ∉ l):K12 w' b o s1 x1 y1 p1 s2 x2 y2 p2 s3 x3 y3 p3:=⟨h.1.but hb hn,h.2.1.but hb hn,h.2.2.but hb hn⟩
structure Kd where
 ch:Rat
 me:Rat
 sp:Rat
def nu (w:World) (v:Value) (ks:List Kd):Prop:=∃ a cap,v=.slice a ks.length cap∧ks.length≤cap∧∀ i k,ks[i]? = some k→∃ b off,a=some ⟨b,off,none⟩∧∃ s1 x1 y1 p1 s2 x2 y2 p2 s3 x3 y3 p3,K12 w b (off+i*12) s1 x1 y1 p1 s2 x2 y2 p2 s3 x3 y3 p3∧(∀ W,aq W (.agg #[.bool s1,.int .u64 x1,.int .u64 y1,.pointer p1]) k.ch)∧(∀ W,aq W (.agg #[.bool s2,.int .u64 x2,.int .u64 y2,.pointer p2]) k.me)∧∀ W,aq W (.agg #[.bool s3,.int .u64 x3,.int .u64 y3,.pointer p3]) k.sp
theorem nu.but {w w':World} {v:Value} {ks:List Kd} (h:nu w v ks) (hb:But [] w w'):nu w' v ks:=by
 obtain⟨a,cap,e,hc,h⟩:=h
 refine⟨a,cap,e,hc,fun i k hk=>?_⟩
 obtain⟨b,off,e1,s1,x1,y1,p1,s2,x2,y2,p2,s3,x3,y3,p3,h1,h2⟩:=h i k hk
 exact⟨b,off,e1,s1,x1,y1,p1,s2,x2,y2,p2,s3,x3,y3,p3,h1.but hb (by simp),h2⟩
theorem nu.get {w:World} {q:Option Addr} {n cap:Nat} {ks:List Kd} (h:nu w (.slice q n cap) ks) (i:Nat) (hi:i<n) (k:Kd) (hk:ks[i]? = some k):∃ b off s1 x1 y1 p1 s2 x2 y2 p2 s3 x3 y3 p3,q=some ⟨b,off,none⟩∧K12 w b (off+i*12) s1 x1 y1 p1 s2 x2 y2 p2 s3 x3 y3 p3∧(∀ W,aq W (.agg #[.bool s1,.int .u64 x1,.int .u64 y1,.pointer p1]) k.ch)∧(∀ W,aq W (.agg #[.bool s2,.int .u64 x2,.int .u64 y2,.pointer p2]) k.me)∧∀ W,aq W (.agg #[.bool s3,.int .u64 x3,.int .u64 y3,.pointer p3]) k.sp:=by
 obtain⟨a,cap',e,-,h⟩:=h
 simp only[Value.slice.injEq] at e
 obtain⟨rfl,rfl,-⟩:=e
 obtain⟨b,off,e1,s1,x1,y1,p1,s2,x2,y2,p2,s3,x3,y3,p3,h1,h2⟩:=h i k hk
 exact⟨b,off,s1,x1,y1,p1,s2,x2,y2,p2,s3,x3,y3,p3,e1,h1,h2⟩
theorem qpv (a:Act) (w:World) (d t:Nat) (u:TypeId) (ps:String) (ed:Array Edge) (gd:Option (Nat × Bool)) (b:Nat) (h1:a.eval (.tmp t)=.pointer (some ⟨b,0,none⟩)) :
  (execOp a.eval { dst:=some d,op:=Op.fieldAddr 45 (.tmp t) 0,type:=u,pos:=ps,after:=ed,guard:=gd }).run prog w=.ok (.value (.pointer (some ⟨b,0,none⟩))) w:=by
 unfold execOp
 simp only[h1]
 go_simp
theorem qfa (a:Act) (w:World) (d t:Nat) (u:TypeId) (ps:String) (ed:Array Edge) (gd:Option (Nat × Bool)) (b:Nat) (h1:a.eval (.tmp t)=.pointer (some ⟨b,0,none⟩)) :
  (execOp a.eval { dst:=some d,op:=Op.fieldAddr 112 (.tmp t) 0,type:=u,pos:=ps,after:=ed,guard:=gd }).run prog w=.ok (.value (.pointer (some ⟨b,0,none⟩))) w:=by
 unfold execOp
 simp only[h1]
 go_simp
theorem qps (a:Act) (w:World) (d t:Nat) (u:TypeId) (ps:String) (ed:Array Edge) (gd:Option (Nat × Bool)) (b:Nat) (h1:a.eval (.tmp t)=.pointer (some ⟨b,0,none⟩)) :
  (execOp a.eval { dst:=some d,op:=Op.fieldAddr 112 (.tmp t) 1,type:=u,pos:=ps,after:=ed,guard:=gd }).run prog w=.ok (.value (.pointer (some ⟨b,4,none⟩))) w:=by
 unfold execOp
 simp only[h1]
 go_simp
theorem qpr (a:Act) (w:World) (d t:Nat) (u:TypeId) (ps:String) (ed:Array Edge) (gd:Option (Nat × Bool)) (b:Nat) (h1:a.eval (.tmp t)=.pointer (some ⟨b,0,none⟩)) :
  (execOp a.eval { dst:=some d,op:=Op.fieldAddr 112 (.tmp t) 2,type:=u,pos:=ps,after:=ed,guard:=gd }).run prog w=.ok (.value (.pointer (some ⟨b,8,none⟩))) w:=by
 unfold execOp
 simp only[h1]
 go_simp
theorem qpu (a:Act) (w:World) (d t:Nat) (u:TypeId) (ps:String) (ed:Array Edge) (gd:Option (Nat × Bool)) (b:Nat) (h1:a.eval (.tmp t)=.pointer (some ⟨b,0,none⟩)) :
  (execOp a.eval { dst:=some d,op:=Op.fieldAddr 50 (.tmp t) 0,type:=u,pos:=ps,after:=ed,guard:=gd }).run prog w=.ok (.value (.pointer (some ⟨b,0,none⟩))) w:=by
 unfold execOp
 simp only[h1]
 go_simp
theorem qpt (a:Act) (w:World) (d t:Nat) (u:TypeId) (ps:String) (ed:Array Edge) (gd:Option (Nat × Bool)) (b:Nat) (h1:a.eval (.tmp t)=.pointer (some ⟨b,0,none⟩)) :
  (execOp a.eval { dst:=some d,op:=Op.fieldAddr 50 (.tmp t) 1,type:=u,pos:=ps,after:=ed,guard:=gd }).run prog w=.ok (.value (.pointer (some ⟨b,4,none⟩))) w:=by
 unfold execOp
 simp only[h1]
 go_simp
theorem qkl (a:Act) (w:World) (d t:Nat) (u:TypeId) (ps:String) (ed:Array Edge) (gd:Option (Nat × Bool)) (b:Nat) (s1:Bool) (x1 y1:Int) (p1:Option Addr) (s2:Bool) (x2 y2:Int) (p2:Option Addr) (s3:Bool) (x3 y3:Int) (p3:Option Addr) (h1:a.eval (.tmp t)=.pointer (some ⟨b,0,none⟩)) (hc:K12 w b 0 s1 x1 y1 p1 s2 x2 y2 p2 s3 x3 y3 p3) :
  (execOp a.eval { dst:=some d,op:=Op.load 45 (.tmp t),type:=u,pos:=ps,after:=ed,guard:=gd }).run prog w=.ok (.value (.agg #[.bool s1,.int .u64 x1,.int .u64 y1,.pointer p1,.bool s2,.int .u64 x2,.int .u64 y2,.pointer p2,.bool s3,.int .u64 x3,.int .u64 y3,.pointer p3])) w:=by
 obtain⟨⟨c0,c1,c2,c3⟩,⟨c4,c5,c6,c7⟩,⟨c8,c9,c10,c11⟩⟩:=hc
 simp only[Nat.zero_add,Nat.reduceAdd] at c0 c1 c2 c3 c4 c5 c6 c7 c8 c9 c10 c11
 unfold execOp
 simp only[h1]
 go_simp
theorem qkk (a:Act) (w:World) (d t:Nat) (u:TypeId) (ps:String) (ed:Array Edge) (gd:Option (Nat × Bool)) (b:Nat) (s1:Bool) (x1 y1:Int) (p1:Option Addr) (s2:Bool) (x2 y2:Int) (p2:Option Addr) (h1:a.eval (.tmp t)=.pointer (some ⟨b,0,none⟩)) (hc:xg w b [.bool s1,.int .u64 x1,.int .u64 y1,.pointer p1,.bool s2,.int .u64 x2,.int .u64 y2,.pointer p2]) :
  (execOp a.eval { dst:=some d,op:=Op.load 50 (.tmp t),type:=u,pos:=ps,after:=ed,guard:=gd }).run prog w=.ok (.value (.agg #[.bool s1,.int .u64 x1,.int .u64 y1,.pointer p1,.bool s2,.int .u64 x2,.int .u64 y2,.pointer p2])) w:=by
 have c0:=hc.cells 0 _ rfl
 have c1:=hc.cells 1 _ rfl
 have c2:=hc.cells 2 _ rfl
 have c3:=hc.cells 3 _ rfl
 have c4:=hc.cells 4 _ rfl
 have c5:=hc.cells 5 _ rfl
 have c6:=hc.cells 6 _ rfl
 have c7:=hc.cells 7 _ rfl
 unfold execOp
 simp only[h1]
 go_simp
theorem qkh (a:Act) (w:World) (d t1 t2:Nat) (u:TypeId) (ps:String) (ed:Array Edge) (gd:Option (Nat × Bool)) (f:FuncId) (x2:Value) (h1:a.eval (.tmp t1)=.func (.func f) #[] #[]) (h2:a.eval (.tmp t2)=x2) (he:∀ args W,(callFunc f args).run prog W=.ok (.enter f args) W) :
  (execOp a.eval { dst:=some d,op:=Op.call { callee:=Callee.value (Operand.tmp t1),args:=#[Operand.tmp t2],argTypes:=#[45] },type:=u,pos:=ps,after:=ed,guard:=gd }).run prog w=.ok (.enter f #[x2]) w:=by
 have h1':a.tmps[t1]?.getD undef=.func (.func f) #[] #[]:=by rw[← Array.getD_eq_getD_getElem?];exact h1
 have h2':a.tmps[t2]?.getD undef=x2:=by rw[← Array.getD_eq_getD_getElem?];exact h2
 simp[execOp,resolve,Deferred.ofValue,invoke,Act.eval,h1',h2',he,go_sem]
theorem qki (a:Act) (w:World) (d t0 t1:Nat) (u:TypeId) (ps:String) (ed:Array Edge) (gd:Option (Nat × Bool)) (z0 z1:Value) (h0:a.eval (.tmp t0)=z0) (h1:a.eval (.tmp t1)=z1) :
  (execOp a.eval { dst:=some d,op:=Op.call { callee:=Callee.value (Operand.func 53),args:=#[Operand.tmp t0,Operand.tmp t1],argTypes:=#[42,3] },type:=u,pos:=ps,after:=ed,guard:=gd }).run prog w=.ok (.enter 53 #[z0,z1]) w:=by
 unfold execOp
 go_simp
 rw[← h0,← h1]
 simp[Act.eval]
theorem qcw (a:Act) (w:World) (d t0 t1:Nat) (u:TypeId) (ps:String) (ed:Array Edge) (gd:Option (Nat × Bool)) (z0 z1:Value) (h0:a.eval (.tmp t0)=z0) (h1:a.eval (.tmp t1)=z1) :
  (execOp a.eval { dst:=some d,op:=Op.call { callee:=Callee.value (Operand.func 57),args:=#[Operand.tmp t0,Operand.tmp t1],argTypes:=#[112,50] },type:=u,pos:=ps,after:=ed,guard:=gd }).run prog w=.ok (.enter 57 #[z0,z1]) w:=by
 unfold execOp
 go_simp
 rw[← h0,← h1]
 simp[Act.eval]
def zci (f1 f2 f3:Rat) (w:World) (v:Value):Prop:=∃ s1 x1 y1 p1 s2 x2 y2 p2 s3 x3 y3 p3,v=.agg #[.bool s1,.int .u64 x1,.int .u64 y1,.pointer p1,.bool s2,.int .u64 x2,.int .u64 y2,.pointer p2,.bool s3,.int .u64 x3,.int .u64 y3,.pointer p3]∧aq w (.agg #[.bool s1,.int .u64 x1,.int .u64 y1,.pointer p1]) f1∧aq w (.agg #[.bool s2,.int .u64 x2,.int .u64 y2,.pointer p2]) f2∧aq w (.agg #[.bool s3,.int .u64 x3,.int .u64 y3,.pointer p3]) f3
theorem zci.but {f1 f2 f3:Rat} {w w':World} {v:Value} (h:zci f1 f2 f3 w v) (hb:But [] w w'):zci f1 f2 f3 w' v:=by
 obtain⟨s1,x1,y1,p1,s2,x2,y2,p2,s3,x3,y3,p3,e,h1,h2,h3⟩:=h
 exact⟨s1,x1,y1,p1,s2,x2,y2,p2,s3,x3,y3,p3,e,h1.but hb,h2.but hb,h3.but hb⟩
theorem zyp (a:Act) (w:World) (d t1 t2 t3:Nat) (u:TypeId) (ps:String) (ed:Array Edge) (gd:Option (Nat × Bool)) (s1:Bool) (x1 y1:Int) (p1:Option Addr) (s2:Bool) (x2 y2:Int) (p2:Option Addr) (s3:Bool) (x3 y3:Int) (p3:Option Addr) (h1:a.eval (.tmp t1)=.agg #[.bool s1,.int .u64 x1,.int .u64 y1,.pointer p1]) (h2:a.eval (.tmp t2)=.agg #[.bool s2,.int .u64 x2,.int .u64 y2,.pointer p2]) (h3:a.eval (.tmp t3)=.agg #[.bool s3,.int .u64 x3,.int .u64 y3,.pointer p3]) :
  (execOp a.eval { dst:=some d,op:=Op.build 112 #[(0,Operand.tmp t1),(1,Operand.tmp t2),(2,Operand.tmp t3)],type:=u,pos:=ps,after:=ed,guard:=gd }).run prog w=.ok (.value (.agg #[.bool s1,.int .u64 x1,.int .u64 y1,.pointer p1,.bool s2,.int .u64 x2,.int .u64 y2,.pointer p2,.bool s3,.int .u64 x3,.int .u64 y3,.pointer p3])) w:=by
 unfold execOp
 simp only[List.map_toArray,List.map_cons,List.map_nil,h1,h2,h3]
 go_simp
theorem zyk (a:Act) (w:World) (t1 t2:Nat) (u:TypeId) (ps:String) (ed:Array Edge) (gb:Nat) (s1:Bool) (x1 y1:Int) (p1:Option Addr) (s2:Bool) (x2 y2:Int) (p2:Option Addr) (s3:Bool) (x3 y3:Int) (p3:Option Addr) {vb:List Value} (h1:a.eval (.tmp t1)=.pointer (some ⟨gb,0,none⟩)) (h2:a.eval (.tmp t2)=.agg #[.bool s1,.int .u64 x1,.int .u64 y1,.pointer p1,.bool s2,.int .u64 x2,.int .u64 y2,.pointer p2,.bool s3,.int .u64 x3,.int .u64 y3,.pointer p3]) (hc:xg w gb vb) (hl:vb.length=12) :
  (execOp a.eval { dst:=none,op:=Op.store 112 (.tmp t1) (.tmp t2),type:=u,pos:=ps,after:=ed,guard:=none }).run prog w=.ok .skip (w.setCells gb 0 [.bool s1,.int .u64 x1,.int .u64 y1,.pointer p1,.bool s2,.int .u64 x2,.int .u64 y2,.pointer p2,.bool s3,.int .u64 x3,.int .u64 y3,.pointer p3]):=by
 obtain⟨u0,c0⟩:=hc.some 0 (by omega)
 obtain⟨u1,c1⟩:=hc.some 1 (by omega)
 obtain⟨u2,c2⟩:=hc.some 2 (by omega)
 obtain⟨u3,c3⟩:=hc.some 3 (by omega)
 obtain⟨u4,c4⟩:=hc.some 4 (by omega)
 obtain⟨u5,c5⟩:=hc.some 5 (by omega)
 obtain⟨u6,c6⟩:=hc.some 6 (by omega)
 obtain⟨u7,c7⟩:=hc.some 7 (by omega)
 obtain⟨u8,c8⟩:=hc.some 8 (by omega)
 obtain⟨u9,c9⟩:=hc.some 9 (by omega)
 obtain⟨u10,c10⟩:=hc.some 10 (by omega)
 obtain⟨u11,c11⟩:=hc.some 11 (by omega)
 have fz:=hc.loose
 unfold execOp
 simp only[h1,h2]
 go_simp
 rfl
def zhl (f1 f2:Rat) (w:World) (v:Value):Prop:=∃ s1 x1 y1 p1 s2 x2 y2 p2,v=.agg #[.bool s1,.int .u64 x1,.int .u64 y1,.pointer p1,.bool s2,.int .u64 x2,.int .u64 y2,.pointer p2]∧aq w (.agg #[.bool s1,.int .u64 x1,.int .u64 y1,.pointer p1]) f1∧aq w (.agg #[.bool s2,.int .u64 x2,.int .u64 y2,.pointer p2]) f2
theorem zhl.but {f1 f2:Rat} {w w':World} {v:Value} (h:zhl f1 f2 w v) (hb:But [] w w'):zhl f1 f2 w' v:=by
 obtain⟨s1,x1,y1,p1,s2,x2,y2,p2,e,h1,h2⟩:=h
 exact⟨s1,x1,y1,p1,s2,x2,y2,p2,e,h1.but hb,h2.but hb⟩
theorem zvu (a:Act) (w:World) (d t1 t2:Nat) (u:TypeId) (ps:String) (ed:Array Edge) (gd:Option (Nat × Bool)) (s1:Bool) (x1 y1:Int) (p1:Option Addr) (s2:Bool) (x2 y2:Int) (p2:Option Addr) (h1:a.eval (.tmp t1)=.agg #[.bool s1,.int .u64 x1,.int .u64 y1,.pointer p1]) (h2:a.eval (.tmp t2)=.agg #[.bool s2,.int .u64 x2,.int .u64 y2,.pointer p2]) :
  (execOp a.eval { dst:=some d,op:=Op.build 50 #[(0,Operand.tmp t1),(1,Operand.tmp t2)],type:=u,pos:=ps,after:=ed,guard:=gd }).run prog w=.ok (.value (.agg #[.bool s1,.int .u64 x1,.int .u64 y1,.pointer p1,.bool s2,.int .u64 x2,.int .u64 y2,.pointer p2])) w:=by
 unfold execOp
 simp only[List.map_toArray,List.map_cons,List.map_nil,h1,h2]
 go_simp
theorem zvt (a:Act) (w:World) (t1 t2:Nat) (u:TypeId) (ps:String) (ed:Array Edge) (gb:Nat) (s1:Bool) (x1 y1:Int) (p1:Option Addr) (s2:Bool) (x2 y2:Int) (p2:Option Addr) {vb:List Value} (h1:a.eval (.tmp t1)=.pointer (some ⟨gb,0,none⟩)) (h2:a.eval (.tmp t2)=.agg #[.bool s1,.int .u64 x1,.int .u64 y1,.pointer p1,.bool s2,.int .u64 x2,.int .u64 y2,.pointer p2]) (hc:xg w gb vb) (hl:vb.length=8) :
  (execOp a.eval { dst:=none,op:=Op.store 50 (.tmp t1) (.tmp t2),type:=u,pos:=ps,after:=ed,guard:=none }).run prog w=.ok .skip (w.setCells gb 0 [.bool s1,.int .u64 x1,.int .u64 y1,.pointer p1,.bool s2,.int .u64 x2,.int .u64 y2,.pointer p2]):=by
 obtain⟨u0,c0⟩:=hc.some 0 (by omega)
 obtain⟨u1,c1⟩:=hc.some 1 (by omega)
 obtain⟨u2,c2⟩:=hc.some 2 (by omega)
 obtain⟨u3,c3⟩:=hc.some 3 (by omega)
 obtain⟨u4,c4⟩:=hc.some 4 (by omega)
 obtain⟨u5,c5⟩:=hc.some 5 (by omega)
 obtain⟨u6,c6⟩:=hc.some 6 (by omega)
 obtain⟨u7,c7⟩:=hc.some 7 (by omega)
 have fz:=hc.loose
 unfold execOp
 simp only[h1,h2]
 go_simp
 rfl
def qyf:Oper:=⟨some 14,.load 27 (.tmp 5),27, "line.go:66",#[],none⟩
def qye:Oper:=⟨some 15,.fieldAddr 45 (.tmp 7) 0,0, "line.go:66",#[],none⟩
def qyd:Oper:=⟨some 16,.load 27 (.tmp 15),27, "line.go:66",#[⟨1,.data⟩],none⟩
def qyc:Oper:=⟨some 17,.move (.tmp 1),166, "line.go:66",#[],none⟩
def qyb:Oper:=⟨some 18,.load 45 (.tmp 7),45, "line.go:66",#[],none⟩
def qya:Oper:=⟨some 19,.call { callee:=.value (.tmp 17),args:=#[.tmp 18],argTypes:=#[45] },27, "line.go:66",#[⟨3,.data⟩,⟨4,.data⟩],none⟩
def qxz:Oper:=⟨some 20,.call { callee:=.value (.func 56),args:=#[.tmp 16,.tmp 19],argTypes:=#[27,27] },27, "line.go:66",#[⟨2,.data⟩,⟨5,.data⟩,⟨5,.chain⟩],none⟩
def qxy:Oper:=⟨some 21,.call { callee:=.value (.func 73),args:=#[.tmp 14,.tmp 20],argTypes:=#[27,27] },27, "line.go:66",#[⟨0,.data⟩,⟨6,.data⟩,⟨6,.chain⟩],none⟩
def qxx:Oper:=⟨none,.store 27 (.tmp 5) (.tmp 21),0, "line.go:66",#[⟨7,.data⟩,⟨7,.chain⟩,⟨0,.phase⟩,⟨1,.phase⟩,⟨2,.phase⟩,⟨3,.phase⟩,⟨4,.phase⟩,⟨5,.phase⟩,⟨6,.phase⟩,⟨7,.phase⟩],none⟩
def zhs:Array Oper:=#[qyf,qye,qyd,qyc,qyb,qya,qxz,qxy,qxx]
def zlv (i:Nat):Nat:=match i with
 | 0=>14
 | 1=>15
 | 2=>16
 | 3=>17
 | 4=>18
 | 5=>19
 | 6=>20
 | _=>21
def zzs (g7:Nat) (s1:Bool) (x1:Int) (y1:Int) (p1:Option Addr) (s2:Bool) (x2:Int) (y2:Int) (p2:Option Addr) (s3:Bool) (x3:Int) (y3:Int) (p3:Option Addr) (s4:Bool) (x4:Int) (y4:Int) (p4:Option Addr) (fo:FuncId) (f1:Rat) (f2:Rat) (f3:Rat) (i:Nat) (w:World) (v:Value):Prop:=match i with
 | 0=>v=.agg #[.bool s1,.int .u64 x1,.int .u64 y1,.pointer p1]
 | 1=>v=.pointer (some ⟨g7,0,none⟩)
 | 2=>v=.agg #[.bool s2,.int .u64 x2,.int .u64 y2,.pointer p2]
 | 3=>v=.func (.func fo) #[] #[]
 | 4=>v=.agg #[.bool s2,.int .u64 x2,.int .u64 y2,.pointer p2,.bool s3,.int .u64 x3,.int .u64 y3,.pointer p3,.bool s4,.int .u64 x4,.int .u64 y4,.pointer p4]
 | 5=>aq w v f3
 | 6=>aq w v (f2*f3)
 | _=>aq w v (f1+f2*f3)
theorem qhx {g7:Nat} {s1:Bool} {x1:Int} {y1:Int} {p1:Option Addr} {s2:Bool} {x2:Int} {y2:Int} {p2:Option Addr} {s3:Bool} {x3:Int} {y3:Int} {p3:Option Addr} {s4:Bool} {x4:Int} {y4:Int} {p4:Option Addr} {fo:FuncId} {f1:Rat} {f2:Rat} {f3:Rat} {i:Nat} {w w':World} {v:Value} (h:zzs g7 s1 x1 y1 p1 s2 x2 y2 p2 s3 x3 y3 p3 s4 x4 y4 p4 fo f1 f2 f3 i w v) (hi:i<8) (hb:But [] w w'):zzs g7 s1 x1 y1 p1 s2 x2 y2 p2 s3 x3 y3 p3 s4 x4 y4 p4 fo f1 f2 f3 i w' v:=by
 have:i=0∨i=1∨i=2∨i=3∨i=4∨i=5∨i=6∨i=7:=by omega
 rcases this with rfl|rfl|rfl|rfl|rfl|rfl|rfl|rfl
 all_goals first | exact h | exact aq.but h hb | exact au.but h hb
theorem qhw:∀ i j,i<8→j<8→zlv i=zlv j→i=j:=fun i j hi hj=>(by decide:∀ i,i<8→∀ j,j<8→zlv i=zlv j→i=j) i hi j hj
theorem zto (id:Nat) (Q:Exit→Act→World→Prop) (base:Act) (W0:World) (g7:Nat) (s1:Bool) (x1:Int) (y1:Int) (p1:Option Addr) (s2:Bool) (x2:Int) (y2:Int) (p2:Option Addr) (s3:Bool) (x3:Int) (y3:Int) (p3:Option Addr) (s4:Bool) (x4:Int) (y4:Int) (p4:Option Addr) (fo:FuncId) (f1:Rat) (f2:Rat) (f3:Rat) (gb:Nat) {sb:Bool} {xb yb:Int} {pb:Option Addr} (hs:21<base.tmps.size) (eb:base.eval (.tmp 5)=.pointer (some ⟨gb,0,none⟩)) (cb:P4 W0 gb sb xb yb pb) (fzb:∀ j,W0.frozen? ⟨gb,j,none⟩=false) (e7:base.eval (.tmp 7)=.pointer (some ⟨g7,0,none⟩)) (e1:base.eval (.tmp 1)=.func (.func fo) #[] #[])
  (c1:P4 W0 gb s1 x1 y1 p1) (kd:K12 W0 g7 0 s2 x2 y2 p2 s3 x3 y3 p3 s4 x4 y4 p4) (EN:∀ args W,(callFunc fo args).run prog W=.ok (.enter fo args) W)
  (OF:∀ w,But [] W0 w→Calls prog fo #[.agg #[.bool s2,.int .u64 x2,.int .u64 y2,.pointer p2,.bool s3,.int .u64 x3,.int .u64 y3,.pointer p3,.bool s4,.int .u64 x4,.int .u64 y4,.pointer p4]] w fun e w'=>∃ v,e=.returned v∧aq w' v f3∧But [] w w')
  (MU:∀ w,But [] W0 w→∀ v,aq w v f3→Calls prog 56 #[.agg #[.bool s2,.int .u64 x2,.int .u64 y2,.pointer p2],v] w fun e w'=>∃ v,e=.returned v∧aq w' v (f2*f3)∧But [] w w')
  (AD:∀ w,But [] W0 w→∀ v,aq w v (f2*f3)→Calls prog 73 #[.agg #[.bool s1,.int .u64 x1,.int .u64 y1,.pointer p1],v] w fun e w'=>∃ v,e=.returned v∧aq w' v (f1+f2*f3)∧But [] w w')
  (hQ:∀ w1 v5 v6 s' x' y' p',But [] W0 w1→aq w1 (.agg #[.bool s',.int .u64 x',.int .u64 y',.pointer p']) (f1+f2*f3)→Q .normal (bk base [(14,.agg #[.bool s1,.int .u64 x1,.int .u64 y1,.pointer p1]),(15,.pointer (some ⟨g7,0,none⟩)),(16,.agg #[.bool s2,.int .u64 x2,.int .u64 y2,.pointer p2]),(17,.func (.func fo) #[] #[]),(18,.agg #[.bool s2,.int .u64 x2,.int .u64 y2,.pointer p2,.bool s3,.int .u64 x3,.int .u64 y3,.pointer p3,.bool s4,.int .u64 x4,.int .u64 y4,.pointer p4]),(19,v5),(20,v6),(21,(.agg #[.bool s',.int .u64 x',.int .u64 y',.pointer p']))]) (zy w1 gb s' x' y' p')) :
  (Code.region id zhs true).wp prog Q base W0:=by
 have hdr:∀ {w},But [] W0.drew w→But [] W0 w:=fun h=>(But.refl _ _).drew.trans' h
 have lgb:gb<W0.heap.size:=ai cb.1
 have hT:∀ i,i<8→zlv i<base.tmps.size:=fun i hi=>by
  have h:zlv i≤21:=by revert i;decide
  omega
 refine l9 (by kernel_rfl) (xu (by kernel_rfl)) (fun i o ho=>(mo (ops:=zhs) (by kernel_rfl) i o ho).1)
  (fun _ w=>But [] W0.drew w) (zzs g7 s1 x1 y1 p1 s2 x2 y2 p2 s3 x3 y3 p3 s4 x4 y4 p4 fo f1 f2 f3) zlv 8 rfl qhw hT (But.refl _ _)
  (fun i hi=>?_) ?_ (fun a w=>∃ w1 v5 v6 s' x' y' p',a=bk base [(14,.agg #[.bool s1,.int .u64 x1,.int .u64 y1,.pointer p1]),(15,.pointer (some ⟨g7,0,none⟩)),(16,.agg #[.bool s2,.int .u64 x2,.int .u64 y2,.pointer p2]),(17,.func (.func fo) #[] #[]),(18,.agg #[.bool s2,.int .u64 x2,.int .u64 y2,.pointer p2,.bool s3,.int .u64 x3,.int .u64 y3,.pointer p3,.bool s4,.int .u64 x4,.int .u64 y4,.pointer p4]),(19,v5),(20,v6),(21,(.agg #[.bool s',.int .u64 x',.int .u64 y',.pointer p']))]∧w=zy w1 gb s' x' y' p'∧But [] W0 w1∧aq w1 (.agg #[.bool s',.int .u64 x',.int .u64 y',.pointer p']) (f1+f2*f3)) ?_ ?_
 ·exact vv (ops:=zhs) (ps:=[(8,0),(8,1),(8,2),(8,3),(8,4),(8,5),(8,6),(8,7)]) (by kernel_rfl) 8 i (by
   have:i=0∨i=1∨i=2∨i=3∨i=4∨i=5∨i=6∨i=7:=by omega
   rcases this with rfl|rfl|rfl|rfl|rfl|rfl|rfl|rfl <;> simp)
 ·intro dn i o a w K hi ho hdi hH he hdep hK
  have hD:=fun j hj=>(j4 (ps:=[(2,1),(5,3),(5,4),(6,2),(6,5),(7,0),(7,6)]) (by kernel_rfl) ho (fun j=>dn j=true∧zzs g7 s1 x1 y1 p1 s2 x2 y2 p2 s3 x3 y3 p3 s4 x4 y4 p4 fo f1 f2 f3 j w (a.eval (.tmp (zlv j)))) hdep j hj).2
  have hk:∀ v w',But [] w w'→zzs g7 s1 x1 y1 p1 s2 x2 y2 p2 s3 x3 y3 p3 s4 x4 y4 p4 fo f1 f2 f3 i w' v→K (a.put (some (zlv i)) v) w':=fun v w' hb hv=>hK v w' (hH.trans' hb) (fun j hj _ u hu=>qhx hu hj hb) hv
  have eb':=(he 5 (fun j hj e=>absurd e.symm (by revert j;decide))).trans eb
  have e7':=(he 7 (fun j hj e=>absurd e.symm (by revert j;decide))).trans e7
  have e1':=(he 1 (fun j hj e=>absurd e.symm (by revert j;decide))).trans e1
  have:i=0∨i=1∨i=2∨i=3∨i=4∨i=5∨i=6∨i=7:=by omega
  rcases this with rfl|rfl|rfl|rfl|rfl|rfl|rfl|rfl
  ·obtain rfl:=so (show zhs[0]? =some qyf from rfl) ho
   exact an (ax a w _ _ _ _ _ _ gb 0 _ _ _ _ eb' (c1.but (hdr hH) (by simp))) (hk _ _ (But.refl _ _) rfl)
  ·obtain rfl:=so (show zhs[1]? =some qye from rfl) ho
   exact an (qpv a w _ _ _ _ _ _ g7 e7') (hk _ _ (But.refl _ _) rfl)
  ·obtain rfl:=so (show zhs[2]? =some qyd from rfl) ho
   exact an (ax a w _ _ _ _ _ _ g7 0 _ _ _ _ (hD 1 (by simp)) (kd.1.but (hdr hH) (by simp))) (hk _ _ (But.refl _ _) rfl)
  ·obtain rfl:=so (show zhs[3]? =some qyc from rfl) ho
   exact an (bz a w _ _ _ _ _ _ _ e1') (hk _ _ (But.refl _ _) rfl)
  ·obtain rfl:=so (show zhs[4]? =some qyb from rfl) ho
   exact an (qkl a w _ _ _ _ _ _ g7 _ _ _ _ _ _ _ _ _ _ _ _ e7' (kd.but (hdr hH) (by simp))) (hk _ _ (But.refl _ _) rfl)
  ·obtain rfl:=so (show zhs[5]? =some qya from rfl) ho
   exact az (qkh a w _ _ _ _ _ _ _ fo _ (hD 3 (by simp)) (hD 4 (by simp)) EN) (R:=fun w' v=>aq w' v (f3)∧But [] w w') (OF w (hdr hH)) (fun v w' hv=>hk v w' hv.2 hv.1)
  ·obtain rfl:=so (show zhs[6]? =some qxz from rfl) ho
   exact az (zeq a w _ _ _ _ _ _ _ _ _ (hD 2 (by simp)) rfl) (R:=fun w' v=>aq w' v (f2*f3)∧But [] w w') (MU w (hdr hH) _ (hD 5 (by simp))) (fun v w' hv=>hk v w' hv.2 hv.1)
  ·obtain rfl:=so (show zhs[7]? =some qxy from rfl) ho
   exact az (zde a w _ _ _ _ _ _ _ _ _ (hD 0 (by simp)) rfl) (R:=fun w' v=>aq w' v (f1+f2*f3)∧But [] w w') (AD w (hdr hH) _ (hD 6 (by simp))) (fun v w' hv=>hk v w' hv.2 hv.1)
 ·intro dn o a w K ho hall h hK
  obtain rfl:=so (show zhs[8]? =some qxx from rfl) ho
  have eb':=(h.eval 5 (fun j hj e=>absurd e.symm (by revert j;decide))).trans eb
  have cl:aq w (a.eval (.tmp 21)) (f1+f2*f3):=h.has 7 (by omega) (hall 7 (by omega))
  have cl':=cl
  obtain⟨x',y',p',ev,-⟩:=cl.agg
  rw[ev] at cl'
  have ea:=h.puts hT (fun i=>match i with
   | 0=>.agg #[.bool s1,.int .u64 x1,.int .u64 y1,.pointer p1]
   | 1=>.pointer (some ⟨g7,0,none⟩)
   | 2=>.agg #[.bool s2,.int .u64 x2,.int .u64 y2,.pointer p2]
   | 3=>.func (.func fo) #[] #[]
   | 4=>.agg #[.bool s2,.int .u64 x2,.int .u64 y2,.pointer p2,.bool s3,.int .u64 x3,.int .u64 y3,.pointer p3,.bool s4,.int .u64 x4,.int .u64 y4,.pointer p4]
   | 5=>a.eval (.tmp 19)
   | 6=>a.eval (.tmp 20)
   | _=>.agg #[.bool (decide ((f1+f2*f3).num<0)),.int .u64 x',.int .u64 y',.pointer p']) (fun i hi=>by
   have hc:=h.has i hi (hall i hi)
   have:i=0∨i=1∨i=2∨i=3∨i=4∨i=5∨i=6∨i=7:=by omega
   rcases this with rfl|rfl|rfl|rfl|rfl|rfl|rfl|rfl
   all_goals first | exact ev | exact hc|rfl)
  exact jo (kz a w _ _ _ _ _ gb _ x' y' p' eb' ev (cb.but (hdr h.mem) (by simp)) (fun j=>((hdr h.mem).frozen (p:=⟨gb,j,none⟩) lgb (by simp)).trans (fzb j))) (hK _ _ ⟨w,a.eval (.tmp 19),a.eval (.tmp 20),_,x',y',p',ea,rfl,hdr h.mem,cl'⟩)
 ·rintro a w ⟨w1,v5,v6,s',x',y',p',rfl,rfl,h1,h2⟩
  exact hQ  w1 v5 v6 s' x' y' p' h1 h2
def qxw:Oper:=⟨some 14,.load 27 (.tmp 5),27, "line.go:59",#[],none⟩
def qxv:Oper:=⟨some 15,.load 27 (.tmp 6),27, "line.go:59",#[],none⟩
def qxu:Oper:=⟨some 16,.load 27 (.tmp 5),27, "line.go:59",#[],none⟩
def qxt:Oper:=⟨some 17,.call { callee:=.value (.func 117),args:=#[.tmp 16],argTypes:=#[27] },27, "line.go:59",#[⟨2,.data⟩],none⟩
def qxs:Oper:=⟨some 18,.call { callee:=.value (.func 31),args:=#[.tmp 15,.tmp 17],argTypes:=#[27,27] },27, "line.go:59",#[⟨1,.data⟩,⟨3,.data⟩,⟨3,.chain⟩],none⟩
def qxr:Oper:=⟨some 19,.load 27 (.tmp 7),27, "line.go:59",#[],none⟩
def qxq:Oper:=⟨some 20,.move (.tmp 1),3, "line.go:59",#[],none⟩
def qxp:Oper:=⟨some 21,.call { callee:=.value (.func 63),args:=#[.tmp 19,.tmp 20],argTypes:=#[27,3] },27, "line.go:59",#[⟨5,.data⟩,⟨6,.data⟩,⟨4,.chain⟩],none⟩
def qxo:Oper:=⟨some 22,.build 112 #[(0,.tmp 14),(1,.tmp 18),(2,.tmp 21)],112, "line.go:59",#[⟨0,.data⟩,⟨4,.data⟩,⟨7,.data⟩],none⟩
def qxn:Oper:=⟨none,.store 112 (.tmp 4) (.tmp 22),0, "line.go:59",#[⟨8,.data⟩,⟨7,.chain⟩,⟨0,.phase⟩,⟨1,.phase⟩,⟨2,.phase⟩,⟨3,.phase⟩,⟨4,.phase⟩,⟨5,.phase⟩,⟨6,.phase⟩,⟨7,.phase⟩,⟨8,.phase⟩],none⟩
def zgm:Array Oper:=#[qxw,qxv,qxu,qxt,qxs,qxr,qxq,qxp,qxo,qxn]
def zlu (i:Nat):Nat:=match i with
 | 0=>14
 | 1=>15
 | 2=>16
 | 3=>17
 | 4=>18
 | 5=>19
 | 6=>20
 | 7=>21
 | _=>22
def zzr (n:Int) (s1:Bool) (x1:Int) (y1:Int) (p1:Option Addr) (s2:Bool) (x2:Int) (y2:Int) (p2:Option Addr) (s3:Bool) (x3:Int) (y3:Int) (p3:Option Addr) (f1:Rat) (f2:Rat) (f3:Rat) (i:Nat) (w:World) (v:Value):Prop:=match i with
 | 0=>aq w v f1
 | 1=>v=.agg #[.bool s2,.int .u64 x2,.int .u64 y2,.pointer p2]
 | 2=>v=.agg #[.bool s1,.int .u64 x1,.int .u64 y1,.pointer p1]
 | 3=>aq w v (f1*f1)
 | 4=>aq w v (f2-f1*f1)
 | 5=>v=.agg #[.bool s3,.int .u64 x3,.int .u64 y3,.pointer p3]
 | 6=>v=.int .i64 n
 | 7=>aq w v (f3/((n:Int):Rat))
 | _=>zci (f1) (f2-f1*f1) (f3/((n:Int):Rat)) w v
theorem qhv {n:Int} {s1:Bool} {x1:Int} {y1:Int} {p1:Option Addr} {s2:Bool} {x2:Int} {y2:Int} {p2:Option Addr} {s3:Bool} {x3:Int} {y3:Int} {p3:Option Addr} {f1:Rat} {f2:Rat} {f3:Rat} {i:Nat} {w w':World} {v:Value} (h:zzr n s1 x1 y1 p1 s2 x2 y2 p2 s3 x3 y3 p3 f1 f2 f3 i w v) (hi:i<9) (hb:But [] w w'):zzr n s1 x1 y1 p1 s2 x2 y2 p2 s3 x3 y3 p3 f1 f2 f3 i w' v:=by
 have:i=0∨i=1∨i=2∨i=3∨i=4∨i=5∨i=6∨i=7∨i=8:=by omega
 rcases this with rfl|rfl|rfl|rfl|rfl|rfl|rfl|rfl|rfl
 ·exact aq.but (show aq w v f1 from h) hb
 ·exact (show v=.agg #[.bool s2,.int .u64 x2,.int .u64 y2,.pointer p2] from h)
 ·exact (show v=.agg #[.bool s1,.int .u64 x1,.int .u64 y1,.pointer p1] from h)
 ·exact aq.but (show aq w v (f1*f1) from h) hb
 ·exact aq.but (show aq w v (f2-f1*f1) from h) hb
 ·exact (show v=.agg #[.bool s3,.int .u64 x3,.int .u64 y3,.pointer p3] from h)
 ·exact (show v=.int .i64 n from h)
 ·exact aq.but (show aq w v (f3/((n:Int):Rat)) from h) hb
 ·exact zci.but (show zci (f1) (f2-f1*f1) (f3/((n:Int):Rat)) w v from h) hb
theorem qhu:∀ i j,i<9→j<9→zlu i=zlu j→i=j:=fun i j hi hj=>(by decide:∀ i,i<9→∀ j,j<9→zlu i=zlu j→i=j) i hi j hj
theorem zwm (id:Nat) (Q:Exit→Act→World→Prop) (base:Act) (W0:World) (n:Int) (s1:Bool) (x1:Int) (y1:Int) (p1:Option Addr) (s2:Bool) (x2:Int) (y2:Int) (p2:Option Addr) (s3:Bool) (x3:Int) (y3:Int) (p3:Option Addr) (f1:Rat) (f2:Rat) (f3:Rat) (gb g5 g6 g7:Nat) {vb:List Value} (hs:22<base.tmps.size) (eb:base.eval (.tmp 4)=.pointer (some ⟨gb,0,none⟩)) (cb:xg W0 gb vb) (hvb:vb.length=12) (e5:base.eval (.tmp 5)=.pointer (some ⟨g5,0,none⟩)) (e6:base.eval (.tmp 6)=.pointer (some ⟨g6,0,none⟩)) (e7:base.eval (.tmp 7)=.pointer (some ⟨g7,0,none⟩)) (e1:base.eval (.tmp 1)=.int .i64 n)
  (c1:P4 W0 g5 s1 x1 y1 p1) (c2:P4 W0 g6 s2 x2 y2 p2) (c3:P4 W0 g7 s3 x3 y3 p3) (F1:aq W0 (.agg #[.bool s1,.int .u64 x1,.int .u64 y1,.pointer p1]) f1)
  (SQ:∀ w,But [] W0 w→Calls prog 117 #[.agg #[.bool s1,.int .u64 x1,.int .u64 y1,.pointer p1]] w fun e w'=>∃ v,e=.returned v∧aq w' v (f1*f1)∧But [] w w')
  (SU:∀ w,But [] W0 w→∀ v,aq w v (f1*f1)→Calls prog 31 #[.agg #[.bool s2,.int .u64 x2,.int .u64 y2,.pointer p2],v] w fun e w'=>∃ v,e=.returned v∧aq w' v (f2-f1*f1)∧But [] w w')
  (QU:∀ w,But [] W0 w→Calls prog 63 #[.agg #[.bool s3,.int .u64 x3,.int .u64 y3,.pointer p3],.int .i64 n] w fun e w'=>∃ v,e=.returned v∧aq w' v (f3/((n:Int):Rat))∧But [] w w')
  (hQ:∀ w1 v0 v3 v4 v7 a1 b1 c1 d1 a2 b2 c2 d2 a3 b3 c3 d3,But [] W0 w1→aq w1 (.agg #[.bool a1,.int .u64 b1,.int .u64 c1,.pointer d1]) (f1)→aq w1 (.agg #[.bool a2,.int .u64 b2,.int .u64 c2,.pointer d2]) (f2-f1*f1)→aq w1 (.agg #[.bool a3,.int .u64 b3,.int .u64 c3,.pointer d3]) (f3/((n:Int):Rat))→Q .normal (bk base [(14,v0),(15,.agg #[.bool s2,.int .u64 x2,.int .u64 y2,.pointer p2]),(16,.agg #[.bool s1,.int .u64 x1,.int .u64 y1,.pointer p1]),(17,v3),(18,v4),(19,.agg #[.bool s3,.int .u64 x3,.int .u64 y3,.pointer p3]),(20,.int .i64 n),(21,v7),(22,.agg #[.bool a1,.int .u64 b1,.int .u64 c1,.pointer d1,.bool a2,.int .u64 b2,.int .u64 c2,.pointer d2,.bool a3,.int .u64 b3,.int .u64 c3,.pointer d3])]) (w1.setCells gb 0 [.bool a1,.int .u64 b1,.int .u64 c1,.pointer d1,.bool a2,.int .u64 b2,.int .u64 c2,.pointer d2,.bool a3,.int .u64 b3,.int .u64 c3,.pointer d3])) :
  (Code.region id zgm true).wp prog Q base W0:=by
 have hdr:∀ {w},But [] W0.drew w→But [] W0 w:=fun h=>(But.refl _ _).drew.trans' h
 have hT:∀ i,i<9→zlu i<base.tmps.size:=fun i hi=>by
  have h:zlu i≤22:=by revert i;decide
  omega
 refine l9 (by kernel_rfl) (xu (by kernel_rfl)) (fun i o ho=>(mo (ops:=zgm) (by kernel_rfl) i o ho).1)
  (fun _ w=>But [] W0.drew w) (zzr n s1 x1 y1 p1 s2 x2 y2 p2 s3 x3 y3 p3 f1 f2 f3) zlu 9 rfl qhu hT (But.refl _ _)
  (fun i hi=>?_) ?_ (fun a w=>∃ w1 v0 v3 v4 v7 a1 b1 c1 d1 a2 b2 c2 d2 a3 b3 c3 d3,a=bk base [(14,v0),(15,.agg #[.bool s2,.int .u64 x2,.int .u64 y2,.pointer p2]),(16,.agg #[.bool s1,.int .u64 x1,.int .u64 y1,.pointer p1]),(17,v3),(18,v4),(19,.agg #[.bool s3,.int .u64 x3,.int .u64 y3,.pointer p3]),(20,.int .i64 n),(21,v7),(22,.agg #[.bool a1,.int .u64 b1,.int .u64 c1,.pointer d1,.bool a2,.int .u64 b2,.int .u64 c2,.pointer d2,.bool a3,.int .u64 b3,.int .u64 c3,.pointer d3])]∧w=w1.setCells gb 0 [.bool a1,.int .u64 b1,.int .u64 c1,.pointer d1,.bool a2,.int .u64 b2,.int .u64 c2,.pointer d2,.bool a3,.int .u64 b3,.int .u64 c3,.pointer d3]∧But [] W0 w1∧aq w1 (.agg #[.bool a1,.int .u64 b1,.int .u64 c1,.pointer d1]) (f1)∧aq w1 (.agg #[.bool a2,.int .u64 b2,.int .u64 c2,.pointer d2]) (f2-f1*f1)∧aq w1 (.agg #[.bool a3,.int .u64 b3,.int .u64 c3,.pointer d3]) (f3/((n:Int):Rat))) ?_ ?_
 ·exact vv (ops:=zgm) (ps:=[(9,0),(9,1),(9,2),(9,3),(9,4),(9,5),(9,6),(9,7),(9,8)]) (by kernel_rfl) 9 i (by
   have:i=0∨i=1∨i=2∨i=3∨i=4∨i=5∨i=6∨i=7∨i=8:=by omega
   rcases this with rfl|rfl|rfl|rfl|rfl|rfl|rfl|rfl|rfl <;> simp)
 ·intro dn i o a w K hi ho hdi hH he hdep hK
  have hD:=fun j hj=>(j4 (ps:=[(3,2),(4,1),(4,3),(7,4),(7,5),(7,6),(8,0),(8,4),(8,7)]) (by kernel_rfl) ho (fun j=>dn j=true∧zzr n s1 x1 y1 p1 s2 x2 y2 p2 s3 x3 y3 p3 f1 f2 f3 j w (a.eval (.tmp (zlu j)))) hdep j hj).2
  have hk:∀ v w',But [] w w'→zzr n s1 x1 y1 p1 s2 x2 y2 p2 s3 x3 y3 p3 f1 f2 f3 i w' v→K (a.put (some (zlu i)) v) w':=fun v w' hb hv=>hK v w' (hH.trans' hb) (fun j hj _ u hu=>qhv hu hj hb) hv
  have e5':=(he 5 (fun j hj e=>absurd e.symm (by revert j;decide))).trans e5
  have e6':=(he 6 (fun j hj e=>absurd e.symm (by revert j;decide))).trans e6
  have e7':=(he 7 (fun j hj e=>absurd e.symm (by revert j;decide))).trans e7
  have e1':=(he 1 (fun j hj e=>absurd e.symm (by revert j;decide))).trans e1
  have:i=0∨i=1∨i=2∨i=3∨i=4∨i=5∨i=6∨i=7∨i=8:=by omega
  rcases this with rfl|rfl|rfl|rfl|rfl|rfl|rfl|rfl|rfl
  ·obtain rfl:=so (show zgm[0]? =some qxw from rfl) ho
   exact an (ax a w _ _ _ _ _ _ g5 0 _ _ _ _ e5' (c1.but (hdr hH) (by simp))) (hk _ _ (But.refl _ _) (F1.but (hdr hH)))
  ·obtain rfl:=so (show zgm[1]? =some qxv from rfl) ho
   exact an (ax a w _ _ _ _ _ _ g6 0 _ _ _ _ e6' (c2.but (hdr hH) (by simp))) (hk _ _ (But.refl _ _) rfl)
  ·obtain rfl:=so (show zgm[2]? =some qxu from rfl) ho
   exact an (ax a w _ _ _ _ _ _ g5 0 _ _ _ _ e5' (c1.but (hdr hH) (by simp))) (hk _ _ (But.refl _ _) rfl)
  ·obtain rfl:=so (show zgm[3]? =some qxt from rfl) ho
   exact az (zfl a w _ _ _ _ _ _ _ (hD 2 (by simp))) (R:=fun w' v=>aq w' v (f1*f1)∧But [] w w') (SQ w (hdr hH)) (fun v w' hv=>hk v w' hv.2 hv.1)
  ·obtain rfl:=so (show zgm[4]? =some qxs from rfl) ho
   exact az (zga a w _ _ _ _ _ _ _ _ _ (hD 1 (by simp)) rfl) (R:=fun w' v=>aq w' v (f2-f1*f1)∧But [] w w') (SU w (hdr hH) _ (hD 3 (by simp))) (fun v w' hv=>hk v w' hv.2 hv.1)
  ·obtain rfl:=so (show zgm[5]? =some qxr from rfl) ho
   exact an (ax a w _ _ _ _ _ _ g7 0 _ _ _ _ e7' (c3.but (hdr hH) (by simp))) (hk _ _ (But.refl _ _) rfl)
  ·obtain rfl:=so (show zgm[6]? =some qxq from rfl) ho
   exact an (bz a w _ _ _ _ _ _ _ e1') (hk _ _ (But.refl _ _) rfl)
  ·obtain rfl:=so (show zgm[7]? =some qxp from rfl) ho
   exact az (zms a w _ _ _ _ _ _ _ _ _ (hD 5 (by simp)) (hD 6 (by simp))) (R:=fun w' v=>aq w' v (f3/((n:Int):Rat))∧But [] w w') (QU w (hdr hH)) (fun v w' hv=>hk v w' hv.2 hv.1)
  ·obtain rfl:=so (show zgm[8]? =some qxo from rfl) ho
   have q1:aq w (a.eval (.tmp 14)) (f1):=hD 0 (by simp)
   obtain⟨b1,c1,d1,e1,-⟩:=q1.agg
   rw[e1] at q1
   have q2:aq w (a.eval (.tmp 18)) (f2-f1*f1):=hD 4 (by simp)
   obtain⟨b2,c2,d2,e2,-⟩:=q2.agg
   rw[e2] at q2
   have q3:aq w (a.eval (.tmp 21)) (f3/((n:Int):Rat)):=hD 7 (by simp)
   obtain⟨b3,c3,d3,e3,-⟩:=q3.agg
   rw[e3] at q3
   exact an (zyp a w _ _ _ _ _ _ _ _ _ b1 c1 d1 _ b2 c2 d2 _ b3 c3 d3 e1 e2 e3) (hk _ _ (But.refl _ _) ⟨_,b1,c1,d1,_,b2,c2,d2,_,b3,c3,d3,rfl,q1,q2,q3⟩)
 ·intro dn o a w K ho hall h hK
  obtain rfl:=so (show zgm[9]? =some qxn from rfl) ho
  have eb':=(h.eval 4 (fun j hj e=>absurd e.symm (by revert j;decide))).trans eb
  obtain⟨a1,b1,c1,d1,a2,b2,c2,d2,a3,b3,c3,d3,ev,h1,h2,h3⟩:zci (f1) (f2-f1*f1) (f3/((n:Int):Rat)) w (a.eval (.tmp 22)):=h.has 8 (by omega) (hall 8 (by omega))
  have ea:=h.puts hT (fun i=>match i with
   | 0=>a.eval (.tmp 14)
   | 1=>.agg #[.bool s2,.int .u64 x2,.int .u64 y2,.pointer p2]
   | 2=>.agg #[.bool s1,.int .u64 x1,.int .u64 y1,.pointer p1]
   | 3=>a.eval (.tmp 17)
   | 4=>a.eval (.tmp 18)
   | 5=>.agg #[.bool s3,.int .u64 x3,.int .u64 y3,.pointer p3]
   | 6=>.int .i64 n
   | 7=>a.eval (.tmp 21)
   | _=>.agg #[.bool a1,.int .u64 b1,.int .u64 c1,.pointer d1,.bool a2,.int .u64 b2,.int .u64 c2,.pointer d2,.bool a3,.int .u64 b3,.int .u64 c3,.pointer d3]) (fun i hi=>by
   have hc:=h.has i hi (hall i hi)
   have:i=0∨i=1∨i=2∨i=3∨i=4∨i=5∨i=6∨i=7∨i=8:=by omega
   rcases this with rfl|rfl|rfl|rfl|rfl|rfl|rfl|rfl|rfl
   ·rfl
   ·exact hc
   ·exact hc
   ·rfl
   ·rfl
   ·exact hc
   ·exact hc
   ·rfl
   ·exact ev)
  exact jo (zyk a w _ _ _ _ _ gb a1 b1 c1 d1 a2 b2 c2 d2 a3 b3 c3 d3 eb' ev (cb.but (hdr h.mem) (by simp) (by omega)) hvb) (hK _ _ ⟨w,a.eval (.tmp 14),a.eval (.tmp 17),a.eval (.tmp 18),a.eval (.tmp 21),a1,b1,c1,d1,a2,b2,c2,d2,a3,b3,c3,d3,ea,rfl,hdr h.mem,h1,h2,h3⟩)
 ·rintro a w ⟨w1,v0,v3,v4,v7,a1,b1,c1,d1,a2,b2,c2,d2,a3,b3,c3,d3,rfl,rfl,hb1,h1,h2,h3⟩
  exact hQ w1 v0 v3 v4 v7 a1 b1 c1 d1 a2 b2 c2 d2 a3 b3 c3 d3 hb1 h1 h2 h3
def zdv (B:Nat) (w:World) (v:Value):Prop:=∃ b,v=.pointer (some ⟨b,0,none⟩)∧B≤b∧P4 w b false 0 0 none∧∀ j,w.frozen? ⟨b,j,none⟩=false
theorem zdv.but {B:Nat} {w w':World} {v:Value} (h:zdv B w v) (hb:But [] w w'):zdv B w' v:=by
 obtain⟨b,h1,h2,h3,h4⟩:=h
 have hl:b<w.heap.size:=ai h3.1
 exact⟨b,h1,h2,h3.but hb (by simp),fun j=>(hb.frozen (p:=⟨b,j,none⟩) hl (by simp)).trans (h4 j)⟩
def qxm:Oper:=⟨some 10,.fieldAddr 50 (.tmp 3) 0,0, "line.go:74",#[],none⟩
def qxl:Oper:=⟨some 11,.load 27 (.tmp 10),27, "line.go:74",#[⟨0,.data⟩],none⟩
def qxk:Oper:=⟨some 12,.load 27 (.tmp 5),27, "line.go:74",#[],none⟩
def qxj:Oper:=⟨some 13,.fieldAddr 112 (.tmp 2) 0,0, "line.go:74",#[],none⟩
def qxi:Oper:=⟨some 14,.load 27 (.tmp 13),27, "line.go:74",#[⟨3,.data⟩],none⟩
def qxh:Oper:=⟨some 15,.call { callee:=.value (.func 56),args:=#[.tmp 12,.tmp 14],argTypes:=#[27,27] },27, "line.go:74",#[⟨2,.data⟩,⟨4,.data⟩],none⟩
def qxg:Oper:=⟨some 16,.call { callee:=.value (.func 31),args:=#[.tmp 11,.tmp 15],argTypes:=#[27,27] },27, "line.go:74",#[⟨1,.data⟩,⟨5,.data⟩,⟨5,.chain⟩],none⟩
def qxf:Oper:=⟨some 17,.call { callee:=.value (.func 117),args:=#[.tmp 16],argTypes:=#[27] },27, "line.go:74",#[⟨6,.data⟩,⟨6,.chain⟩],none⟩
def qxe:Oper:=⟨some 6,.alloc 27,0, "line.go:74",#[],none⟩
def qxd:Oper:=⟨none,.store 27 (.tmp 6) (.tmp 17),0, "line.go:74",#[⟨8,.data⟩,⟨7,.data⟩,⟨7,.chain⟩,⟨0,.phase⟩,⟨1,.phase⟩,⟨2,.phase⟩,⟨3,.phase⟩,⟨4,.phase⟩,⟨5,.phase⟩,⟨6,.phase⟩,⟨7,.phase⟩,⟨8,.phase⟩],none⟩
def zgl:Array Oper:=#[qxm,qxl,qxk,qxj,qxi,qxh,qxg,qxf,qxe,qxd]
def zls (i:Nat):Nat:=match i with
 | 0=>10
 | 1=>11
 | 2=>12
 | 3=>13
 | 4=>14
 | 5=>15
 | 6=>16
 | 7=>17
 | _=>6
def zzq (B:Nat) (g2:Nat) (g3:Nat) (s1:Bool) (x1:Int) (y1:Int) (p1:Option Addr) (s2:Bool) (x2:Int) (y2:Int) (p2:Option Addr) (s3:Bool) (x3:Int) (y3:Int) (p3:Option Addr) (f1:Rat) (f2:Rat) (f3:Rat) (i:Nat) (w:World) (v:Value):Prop:=match i with
 | 0=>v=.pointer (some ⟨g3,0,none⟩)
 | 1=>v=.agg #[.bool s1,.int .u64 x1,.int .u64 y1,.pointer p1]
 | 2=>v=.agg #[.bool s2,.int .u64 x2,.int .u64 y2,.pointer p2]
 | 3=>v=.pointer (some ⟨g2,0,none⟩)
 | 4=>v=.agg #[.bool s3,.int .u64 x3,.int .u64 y3,.pointer p3]
 | 5=>aq w v (f2*f3)
 | 6=>aq w v (f1-f2*f3)
 | 7=>aq w v ((f1-f2*f3)*(f1-f2*f3))
 | _=>zdv B w v
theorem qht {B:Nat} {g2:Nat} {g3:Nat} {s1:Bool} {x1:Int} {y1:Int} {p1:Option Addr} {s2:Bool} {x2:Int} {y2:Int} {p2:Option Addr} {s3:Bool} {x3:Int} {y3:Int} {p3:Option Addr} {f1:Rat} {f2:Rat} {f3:Rat} {i:Nat} {w w':World} {v:Value} (h:zzq B g2 g3 s1 x1 y1 p1 s2 x2 y2 p2 s3 x3 y3 p3 f1 f2 f3 i w v) (hi:i<9) (hb:But [] w w'):zzq B g2 g3 s1 x1 y1 p1 s2 x2 y2 p2 s3 x3 y3 p3 f1 f2 f3 i w' v:=by
 have:i=0∨i=1∨i=2∨i=3∨i=4∨i=5∨i=6∨i=7∨i=8:=by omega
 rcases this with rfl|rfl|rfl|rfl|rfl|rfl|rfl|rfl|rfl
 all_goals first | exact h | exact aq.but h hb | exact au.but h hb | exact zdv.but h hb | exact aq.but h hb
theorem qhs:∀ i j,i<9→j<9→zls i=zls j→i=j:=fun i j hi hj=>(by decide:∀ i,i<9→∀ j,j<9→zls i=zls j→i=j) i hi j hj
theorem ztz (id:Nat) (Q:Exit→Act→World→Prop) (base:Act) (W0:World) (B:Nat) (g2:Nat) (g3:Nat) (s1:Bool) (x1:Int) (y1:Int) (p1:Option Addr) (s2:Bool) (x2:Int) (y2:Int) (p2:Option Addr) (s3:Bool) (x3:Int) (y3:Int) (p3:Option Addr) (f1:Rat) (f2:Rat) (f3:Rat) (hs:17<base.tmps.size) (g5:Nat) (hBW:B≤W0.heap.size) (e3:base.eval (.tmp 3)=.pointer (some ⟨g3,0,none⟩)) (e5:base.eval (.tmp 5)=.pointer (some ⟨g5,0,none⟩)) (e2:base.eval (.tmp 2)=.pointer (some ⟨g2,0,none⟩))
  (c1:P4o W0 g3 0 s1 x1 y1 p1) (c2:P4 W0 g5 s2 x2 y2 p2) (c3:P4o W0 g2 0 s3 x3 y3 p3)
  (MU:∀ w,But [] W0 w→Calls prog 56 #[.agg #[.bool s2,.int .u64 x2,.int .u64 y2,.pointer p2],.agg #[.bool s3,.int .u64 x3,.int .u64 y3,.pointer p3]] w fun e w'=>∃ v,e=.returned v∧aq w' v (f2*f3)∧But [] w w')
  (SU:∀ w,But [] W0 w→∀ v,aq w v (f2*f3)→Calls prog 31 #[.agg #[.bool s1,.int .u64 x1,.int .u64 y1,.pointer p1],v] w fun e w'=>∃ v,e=.returned v∧aq w' v (f1-f2*f3)∧But [] w w')
  (SQ:∀ w,But [] W0 w→∀ v,aq w v (f1-f2*f3)→Calls prog 117 #[v] w fun e w'=>∃ v,e=.returned v∧aq w' v ((f1-f2*f3)*(f1-f2*f3))∧But [] w w')
  (hQ:∀ w1 bn v5 v6 s' x' y' p',But [] W0 w1→B≤bn→P4 w1 bn false 0 0 none→(∀ j,w1.frozen? ⟨bn,j,none⟩=false)→aq w1 (.agg #[.bool s',.int .u64 x',.int .u64 y',.pointer p']) ((f1-f2*f3)*(f1-f2*f3))→Q .normal (bk base [(10,.pointer (some ⟨g3,0,none⟩)),(11,.agg #[.bool s1,.int .u64 x1,.int .u64 y1,.pointer p1]),(12,.agg #[.bool s2,.int .u64 x2,.int .u64 y2,.pointer p2]),(13,.pointer (some ⟨g2,0,none⟩)),(14,.agg #[.bool s3,.int .u64 x3,.int .u64 y3,.pointer p3]),(15,v5),(16,v6),(17,(.agg #[.bool s',.int .u64 x',.int .u64 y',.pointer p'])),(6,.pointer (some ⟨bn,0,none⟩))]) (zy w1 bn s' x' y' p')) :
  (Code.region id zgl true).wp prog Q base W0:=by
 have hdr:∀ {w},But [] W0.drew w→But [] W0 w:=fun h=>(But.refl _ _).drew.trans' h
 have hT:∀ i,i<9→zls i<base.tmps.size:=fun i hi=>by
  have h:zls i≤17:=by revert i;decide
  omega
 refine l9 (by kernel_rfl) (xu (by kernel_rfl)) (fun i o ho=>(mo (ops:=zgl) (by kernel_rfl) i o ho).1)
  (fun _ w=>But [] W0.drew w) (zzq B g2 g3 s1 x1 y1 p1 s2 x2 y2 p2 s3 x3 y3 p3 f1 f2 f3) zls 9 rfl qhs hT (But.refl _ _)
  (fun i hi=>?_) ?_ (fun a w=>∃ w1 bn v5 v6 s' x' y' p',a=bk base [(10,.pointer (some ⟨g3,0,none⟩)),(11,.agg #[.bool s1,.int .u64 x1,.int .u64 y1,.pointer p1]),(12,.agg #[.bool s2,.int .u64 x2,.int .u64 y2,.pointer p2]),(13,.pointer (some ⟨g2,0,none⟩)),(14,.agg #[.bool s3,.int .u64 x3,.int .u64 y3,.pointer p3]),(15,v5),(16,v6),(17,(.agg #[.bool s',.int .u64 x',.int .u64 y',.pointer p'])),(6,.pointer (some ⟨bn,0,none⟩))]∧w=zy w1 bn s' x' y' p'∧But [] W0 w1∧B≤bn∧P4 w1 bn false 0 0 none∧(∀ j,w1.frozen? ⟨bn,j,none⟩=false)∧aq w1 (.agg #[.bool s',.int .u64 x',.int .u64 y',.pointer p']) ((f1-f2*f3)*(f1-f2*f3))) ?_ ?_
 ·exact vv (ops:=zgl) (ps:=[(9,0),(9,1),(9,2),(9,3),(9,4),(9,5),(9,6),(9,7),(9,8)]) (by kernel_rfl) 9 i (by
   have:i=0∨i=1∨i=2∨i=3∨i=4∨i=5∨i=6∨i=7∨i=8:=by omega
   rcases this with rfl|rfl|rfl|rfl|rfl|rfl|rfl|rfl|rfl <;> simp)
 ·intro dn i o a w K hi ho hdi hH he hdep hK
  have hD:=fun j hj=>(j4 (ps:=[(1,0),(4,3),(5,2),(5,4),(6,1),(6,5),(7,6)]) (by kernel_rfl) ho (fun j=>dn j=true∧zzq B g2 g3 s1 x1 y1 p1 s2 x2 y2 p2 s3 x3 y3 p3 f1 f2 f3 j w (a.eval (.tmp (zls j)))) hdep j hj).2
  have hk:∀ v w',But [] w w'→zzq B g2 g3 s1 x1 y1 p1 s2 x2 y2 p2 s3 x3 y3 p3 f1 f2 f3 i w' v→K (a.put (some (zls i)) v) w':=fun v w' hb hv=>hK v w' (hH.trans' hb) (fun j hj _ u hu=>qht hu hj hb) hv
  have e3':=(he 3 (fun j hj e=>absurd e.symm (by revert j;decide))).trans e3
  have e5':=(he 5 (fun j hj e=>absurd e.symm (by revert j;decide))).trans e5
  have e2':=(he 2 (fun j hj e=>absurd e.symm (by revert j;decide))).trans e2
  have:i=0∨i=1∨i=2∨i=3∨i=4∨i=5∨i=6∨i=7∨i=8:=by omega
  rcases this with rfl|rfl|rfl|rfl|rfl|rfl|rfl|rfl|rfl
  ·obtain rfl:=so (show zgl[0]? =some qxm from rfl) ho
   exact an (qpu a w _ _ _ _ _ _ g3 e3') (hk _ _ (But.refl _ _) rfl)
  ·obtain rfl:=so (show zgl[1]? =some qxl from rfl) ho
   exact an (ax a w _ _ _ _ _ _ g3 0 _ _ _ _ (hD 0 (by simp)) (c1.but (hdr hH) (by simp))) (hk _ _ (But.refl _ _) rfl)
  ·obtain rfl:=so (show zgl[2]? =some qxk from rfl) ho
   exact an (ax a w _ _ _ _ _ _ g5 0 _ _ _ _ e5' (c2.but (hdr hH) (by simp))) (hk _ _ (But.refl _ _) rfl)
  ·obtain rfl:=so (show zgl[3]? =some qxj from rfl) ho
   exact an (qfa a w _ _ _ _ _ _ g2 e2') (hk _ _ (But.refl _ _) rfl)
  ·obtain rfl:=so (show zgl[4]? =some qxi from rfl) ho
   exact an (ax a w _ _ _ _ _ _ g2 0 _ _ _ _ (hD 3 (by simp)) (c3.but (hdr hH) (by simp))) (hk _ _ (But.refl _ _) rfl)
  ·obtain rfl:=so (show zgl[5]? =some qxh from rfl) ho
   exact az (zeq a w _ _ _ _ _ _ _ _ _ (hD 2 (by simp)) (hD 4 (by simp))) (R:=fun w' v=>aq w' v (f2*f3)∧But [] w w') (MU w (hdr hH)) (fun v w' hv=>hk v w' hv.2 hv.1)
  ·obtain rfl:=so (show zgl[6]? =some qxg from rfl) ho
   exact az (zga a w _ _ _ _ _ _ _ _ _ (hD 1 (by simp)) rfl) (R:=fun w' v=>aq w' v (f1-f2*f3)∧But [] w w') (SU w (hdr hH) _ (hD 5 (by simp))) (fun v w' hv=>hk v w' hv.2 hv.1)
  ·obtain rfl:=so (show zgl[7]? =some qxf from rfl) ho
   exact az (zfl a w _ _ _ _ _ _ _ rfl) (R:=fun w' v=>aq w' v ((f1-f2*f3)*(f1-f2*f3))∧But [] w w') (SQ w (hdr hH) _ (hD 6 (by simp))) (fun v w' hv=>hk v w' hv.2 hv.1)
  ·obtain rfl:=so (show zgl[8]? =some qxe from rfl) ho
   exact an (uh a w _ _ _ _ _) (hk _ _ ((But.refl _ _).alloc _) ⟨w.heap.size,rfl,Nat.le_trans hBW (hdr hH).size,⟨by simp,by simp,by simp,by simp⟩,fun j=>by simp⟩)
 ·intro dn o a w K ho hall h hK
  obtain rfl:=so (show zgl[9]? =some qxd from rfl) ho
  have cl:aq w (a.eval (.tmp 17)) ((f1-f2*f3)*(f1-f2*f3)):=h.has 7 (by omega) (hall 7 (by omega))
  obtain⟨bn,eb,hb1,hb2,hb3⟩:zdv B w (a.eval (.tmp 6)):=h.has 8 (by omega) (hall 8 (by omega))
  have cl':=cl
  obtain⟨x',y',p',ev,-⟩:=cl.agg
  rw[ev] at cl'
  have ea:=h.puts hT (fun i=>match i with
   | 0=>.pointer (some ⟨g3,0,none⟩)
   | 1=>.agg #[.bool s1,.int .u64 x1,.int .u64 y1,.pointer p1]
   | 2=>.agg #[.bool s2,.int .u64 x2,.int .u64 y2,.pointer p2]
   | 3=>.pointer (some ⟨g2,0,none⟩)
   | 4=>.agg #[.bool s3,.int .u64 x3,.int .u64 y3,.pointer p3]
   | 5=>a.eval (.tmp 15)
   | 6=>a.eval (.tmp 16)
   | 7=>.agg #[.bool (decide (((f1-f2*f3)*(f1-f2*f3)).num<0)),.int .u64 x',.int .u64 y',.pointer p']
   | _=>.pointer (some ⟨bn,0,none⟩)) (fun i hi=>by
   have hc:=h.has i hi (hall i hi)
   have:i=0∨i=1∨i=2∨i=3∨i=4∨i=5∨i=6∨i=7∨i=8:=by omega
   rcases this with rfl|rfl|rfl|rfl|rfl|rfl|rfl|rfl|rfl
   all_goals first | exact ev | exact eb | exact hc|rfl)
  exact jo (kz a w _ _ _ _ _ bn _ x' y' p' eb ev hb2 hb3) (hK _ _ ⟨w,bn,a.eval (.tmp 15),a.eval (.tmp 16),_,x',y',p',ea,rfl,hdr h.mem,hb1,hb2,hb3,cl'⟩)
 ·rintro a w ⟨w1,bn,v5,v6,s',x',y',p',rfl,rfl,h1,h2,h3,h4,h5⟩
  exact hQ  w1 bn v5 v6 s' x' y' p' h1 h2 h3 h4 h5
def qxc:Oper:=⟨some 18,.load 27 (.tmp 6),27, "line.go:75",#[],none⟩
def qxb:Oper:=⟨some 19,.load 27 (.tmp 5),27, "line.go:75",#[],none⟩
def qxa:Oper:=⟨some 20,.call { callee:=.value (.func 117),args:=#[.tmp 19],argTypes:=#[27] },27, "line.go:75",#[⟨1,.data⟩],none⟩
def qwz:Oper:=⟨some 21,.fieldAddr 112 (.tmp 2) 1,0, "line.go:75",#[],none⟩
def qwy:Oper:=⟨some 22,.load 27 (.tmp 21),27, "line.go:75",#[⟨3,.data⟩],none⟩
def qwx:Oper:=⟨some 23,.call { callee:=.value (.func 56),args:=#[.tmp 20,.tmp 22],argTypes:=#[27,27] },27, "line.go:75",#[⟨2,.data⟩,⟨4,.data⟩,⟨2,.chain⟩],none⟩
def qww:Oper:=⟨some 24,.call { callee:=.value (.func 73),args:=#[.tmp 18,.tmp 23],argTypes:=#[27,27] },27, "line.go:75",#[⟨0,.data⟩,⟨5,.data⟩,⟨5,.chain⟩],none⟩
def qwv:Oper:=⟨some 25,.fieldAddr 50 (.tmp 3) 1,0, "line.go:75",#[],none⟩
def qwu:Oper:=⟨some 26,.load 27 (.tmp 25),27, "line.go:75",#[⟨7,.data⟩],none⟩
def qwt:Oper:=⟨some 27,.call { callee:=.value (.func 117),args:=#[.tmp 26],argTypes:=#[27] },27, "line.go:75",#[⟨8,.data⟩,⟨6,.chain⟩],none⟩
def qng:Oper:=⟨some 28,.fieldAddr 112 (.tmp 2) 2,0, "line.go:75",#[],none⟩
def qnf:Oper:=⟨some 29,.load 27 (.tmp 28),27, "line.go:75",#[⟨10,.data⟩],none⟩
def qne:Oper:=⟨some 30,.call { callee:=.value (.func 56),args:=#[.tmp 27,.tmp 29],argTypes:=#[27,27] },27, "line.go:75",#[⟨9,.data⟩,⟨11,.data⟩,⟨9,.chain⟩],none⟩
def qnd:Oper:=⟨some 31,.call { callee:=.value (.func 73),args:=#[.tmp 24,.tmp 30],argTypes:=#[27,27] },27, "line.go:75",#[⟨6,.data⟩,⟨12,.data⟩,⟨12,.chain⟩],none⟩
def qnc:Oper:=⟨none,.store 27 (.tmp 4) (.tmp 31),0, "line.go:75",#[⟨13,.data⟩,⟨13,.chain⟩,⟨0,.phase⟩,⟨1,.phase⟩,⟨2,.phase⟩,⟨3,.phase⟩,⟨4,.phase⟩,⟨5,.phase⟩,⟨6,.phase⟩,⟨7,.phase⟩,⟨8,.phase⟩,⟨9,.phase⟩,⟨10,.phase⟩,⟨11,.phase⟩,⟨12,.phase⟩,⟨13,.phase⟩],none⟩
def zch:Array Oper:=#[qxc,qxb,qxa,qwz,qwy,qwx,qww,qwv,qwu,qwt,qng,qnf,qne,qnd,qnc]
def zlr (i:Nat):Nat:=match i with
 | 0=>18
 | 1=>19
 | 2=>20
 | 3=>21
 | 4=>22
 | 5=>23
 | 6=>24
 | 7=>25
 | 8=>26
 | 9=>27
 | 10=>28
 | 11=>29
 | 12=>30
 | _=>31
def zzp (g2:Nat) (g3:Nat) (s1:Bool) (x1:Int) (y1:Int) (p1:Option Addr) (s2:Bool) (x2:Int) (y2:Int) (p2:Option Addr) (s3:Bool) (x3:Int) (y3:Int) (p3:Option Addr) (s4:Bool) (x4:Int) (y4:Int) (p4:Option Addr) (s5:Bool) (x5:Int) (y5:Int) (p5:Option Addr) (f1:Rat) (f2:Rat) (f3:Rat) (f4:Rat) (f5:Rat) (i:Nat) (w:World) (v:Value):Prop:=match i with
 | 0=>v=.agg #[.bool s1,.int .u64 x1,.int .u64 y1,.pointer p1]
 | 1=>v=.agg #[.bool s2,.int .u64 x2,.int .u64 y2,.pointer p2]
 | 2=>aq w v (f2*f2)
 | 3=>v=.pointer (some ⟨g2,4,none⟩)
 | 4=>v=.agg #[.bool s3,.int .u64 x3,.int .u64 y3,.pointer p3]
 | 5=>aq w v (f2*f2*f3)
 | 6=>aq w v (f1+f2*f2*f3)
 | 7=>v=.pointer (some ⟨g3,4,none⟩)
 | 8=>v=.agg #[.bool s4,.int .u64 x4,.int .u64 y4,.pointer p4]
 | 9=>aq w v (f4*f4)
 | 10=>v=.pointer (some ⟨g2,8,none⟩)
 | 11=>v=.agg #[.bool s5,.int .u64 x5,.int .u64 y5,.pointer p5]
 | 12=>aq w v (f4*f4*f5)
 | _=>aq w v (f1+f2*f2*f3+f4*f4*f5)
theorem qhr {g2:Nat} {g3:Nat} {s1:Bool} {x1:Int} {y1:Int} {p1:Option Addr} {s2:Bool} {x2:Int} {y2:Int} {p2:Option Addr} {s3:Bool} {x3:Int} {y3:Int} {p3:Option Addr} {s4:Bool} {x4:Int} {y4:Int} {p4:Option Addr} {s5:Bool} {x5:Int} {y5:Int} {p5:Option Addr} {f1:Rat} {f2:Rat} {f3:Rat} {f4:Rat} {f5:Rat} {i:Nat} {w w':World} {v:Value} (h:zzp g2 g3 s1 x1 y1 p1 s2 x2 y2 p2 s3 x3 y3 p3 s4 x4 y4 p4 s5 x5 y5 p5 f1 f2 f3 f4 f5 i w v) (hi:i<14) (hb:But [] w w'):zzp g2 g3 s1 x1 y1 p1 s2 x2 y2 p2 s3 x3 y3 p3 s4 x4 y4 p4 s5 x5 y5 p5 f1 f2 f3 f4 f5 i w' v:=by
 have:i=0∨i=1∨i=2∨i=3∨i=4∨i=5∨i=6∨i=7∨i=8∨i=9∨i=10∨i=11∨i=12∨i=13:=by omega
 rcases this with rfl|rfl|rfl|rfl|rfl|rfl|rfl|rfl|rfl|rfl|rfl|rfl|rfl|rfl
 all_goals first | exact h | exact aq.but h hb | exact au.but h hb
theorem qhq:∀ i j,i<14→j<14→zlr i=zlr j→i=j:=fun i j hi hj=>(by decide:∀ i,i<14→∀ j,j<14→zlr i=zlr j→i=j) i hi j hj
theorem zty (id:Nat) (Q:Exit→Act→World→Prop) (base:Act) (W0:World) (g2:Nat) (g3:Nat) (s1:Bool) (x1:Int) (y1:Int) (p1:Option Addr) (s2:Bool) (x2:Int) (y2:Int) (p2:Option Addr) (s3:Bool) (x3:Int) (y3:Int) (p3:Option Addr) (s4:Bool) (x4:Int) (y4:Int) (p4:Option Addr) (s5:Bool) (x5:Int) (y5:Int) (p5:Option Addr) (f1:Rat) (f2:Rat) (f3:Rat) (f4:Rat) (f5:Rat) (gb g5 g6:Nat) {sb:Bool} {xb yb:Int} {pb:Option Addr} (hs:31<base.tmps.size) (eb:base.eval (.tmp 4)=.pointer (some ⟨gb,0,none⟩)) (cb:P4 W0 gb sb xb yb pb) (fzb:∀ j,W0.frozen? ⟨gb,j,none⟩=false) (e6:base.eval (.tmp 6)=.pointer (some ⟨g6,0,none⟩)) (e5:base.eval (.tmp 5)=.pointer (some ⟨g5,0,none⟩)) (e2:base.eval (.tmp 2)=.pointer (some ⟨g2,0,none⟩)) (e3:base.eval (.tmp 3)=.pointer (some ⟨g3,0,none⟩))
  (c1:P4 W0 g6 s1 x1 y1 p1) (c2:P4 W0 g5 s2 x2 y2 p2) (c3:P4o W0 g2 4 s3 x3 y3 p3) (c4:P4o W0 g3 4 s4 x4 y4 p4) (c5:P4o W0 g2 8 s5 x5 y5 p5)
  (SQ:∀ w,But [] W0 w→Calls prog 117 #[.agg #[.bool s2,.int .u64 x2,.int .u64 y2,.pointer p2]] w fun e w'=>∃ v,e=.returned v∧aq w' v (f2*f2)∧But [] w w')
  (MU:∀ w,But [] W0 w→∀ v,aq w v (f2*f2)→Calls prog 56 #[v,.agg #[.bool s3,.int .u64 x3,.int .u64 y3,.pointer p3]] w fun e w'=>∃ v,e=.returned v∧aq w' v (f2*f2*f3)∧But [] w w')
  (AD:∀ w,But [] W0 w→∀ v,aq w v (f2*f2*f3)→Calls prog 73 #[.agg #[.bool s1,.int .u64 x1,.int .u64 y1,.pointer p1],v] w fun e w'=>∃ v,e=.returned v∧aq w' v (f1+f2*f2*f3)∧But [] w w')
  (SQ2:∀ w,But [] W0 w→Calls prog 117 #[.agg #[.bool s4,.int .u64 x4,.int .u64 y4,.pointer p4]] w fun e w'=>∃ v,e=.returned v∧aq w' v (f4*f4)∧But [] w w')
  (MU2:∀ w,But [] W0 w→∀ v,aq w v (f4*f4)→Calls prog 56 #[v,.agg #[.bool s5,.int .u64 x5,.int .u64 y5,.pointer p5]] w fun e w'=>∃ v,e=.returned v∧aq w' v (f4*f4*f5)∧But [] w w')
  (AD2:∀ w,But [] W0 w→∀ v u,aq w v (f1+f2*f2*f3)→aq w u (f4*f4*f5)→Calls prog 73 #[v,u] w fun e w'=>∃ v,e=.returned v∧aq w' v (f1+f2*f2*f3+f4*f4*f5)∧But [] w w')
  (hQ:∀ w1 v2 v5 v6 v9 v12 s' x' y' p',But [] W0 w1→aq w1 (.agg #[.bool s',.int .u64 x',.int .u64 y',.pointer p']) (f1+f2*f2*f3+f4*f4*f5)→Q .normal (bk base [(18,.agg #[.bool s1,.int .u64 x1,.int .u64 y1,.pointer p1]),(19,.agg #[.bool s2,.int .u64 x2,.int .u64 y2,.pointer p2]),(20,v2),(21,.pointer (some ⟨g2,4,none⟩)),(22,.agg #[.bool s3,.int .u64 x3,.int .u64 y3,.pointer p3]),(23,v5),(24,v6),(25,.pointer (some ⟨g3,4,none⟩)),(26,.agg #[.bool s4,.int .u64 x4,.int .u64 y4,.pointer p4]),(27,v9),(28,.pointer (some ⟨g2,8,none⟩)),(29,.agg #[.bool s5,.int .u64 x5,.int .u64 y5,.pointer p5]),(30,v12),(31,(.agg #[.bool s',.int .u64 x',.int .u64 y',.pointer p']))]) (zy w1 gb s' x' y' p')) :
  (Code.region id zch true).wp prog Q base W0:=by
 have hdr:∀ {w},But [] W0.drew w→But [] W0 w:=fun h=>(But.refl _ _).drew.trans' h
 have lgb:gb<W0.heap.size:=ai cb.1
 have hT:∀ i,i<14→zlr i<base.tmps.size:=fun i hi=>by
  have h:zlr i≤31:=by revert i;decide
  omega
 refine l9 (by kernel_rfl) (xu (by kernel_rfl)) (fun i o ho=>(mo (ops:=zch) (by kernel_rfl) i o ho).1)
  (fun _ w=>But [] W0.drew w) (zzp g2 g3 s1 x1 y1 p1 s2 x2 y2 p2 s3 x3 y3 p3 s4 x4 y4 p4 s5 x5 y5 p5 f1 f2 f3 f4 f5) zlr 14 rfl qhq hT (But.refl _ _)
  (fun i hi=>?_) ?_ (fun a w=>∃ w1 v2 v5 v6 v9 v12 s' x' y' p',a=bk base [(18,.agg #[.bool s1,.int .u64 x1,.int .u64 y1,.pointer p1]),(19,.agg #[.bool s2,.int .u64 x2,.int .u64 y2,.pointer p2]),(20,v2),(21,.pointer (some ⟨g2,4,none⟩)),(22,.agg #[.bool s3,.int .u64 x3,.int .u64 y3,.pointer p3]),(23,v5),(24,v6),(25,.pointer (some ⟨g3,4,none⟩)),(26,.agg #[.bool s4,.int .u64 x4,.int .u64 y4,.pointer p4]),(27,v9),(28,.pointer (some ⟨g2,8,none⟩)),(29,.agg #[.bool s5,.int .u64 x5,.int .u64 y5,.pointer p5]),(30,v12),(31,(.agg #[.bool s',.int .u64 x',.int .u64 y',.pointer p']))]∧w=zy w1 gb s' x' y' p'∧But [] W0 w1∧aq w1 (.agg #[.bool s',.int .u64 x',.int .u64 y',.pointer p']) (f1+f2*f2*f3+f4*f4*f5)) ?_ ?_
 ·exact vv (ops:=zch) (ps:=[(14,0),(14,1),(14,2),(14,3),(14,4),(14,5),(14,6),(14,7),(14,8),(14,9),(14,10),(14,11),(14,12),(14,13)]) (by kernel_rfl) 14 i (by
   have:i=0∨i=1∨i=2∨i=3∨i=4∨i=5∨i=6∨i=7∨i=8∨i=9∨i=10∨i=11∨i=12∨i=13:=by omega
   rcases this with rfl|rfl|rfl|rfl|rfl|rfl|rfl|rfl|rfl|rfl|rfl|rfl|rfl|rfl <;> simp)
 ·intro dn i o a w K hi ho hdi hH he hdep hK
  have hD:=fun j hj=>(j4 (ps:=[(2,1),(4,3),(5,2),(5,4),(6,0),(6,5),(8,7),(9,6),(9,8),(11,10),(12,9),(12,11),(13,6),(13,12)]) (by kernel_rfl) ho (fun j=>dn j=true∧zzp g2 g3 s1 x1 y1 p1 s2 x2 y2 p2 s3 x3 y3 p3 s4 x4 y4 p4 s5 x5 y5 p5 f1 f2 f3 f4 f5 j w (a.eval (.tmp (zlr j)))) hdep j hj).2
  have hk:∀ v w',But [] w w'→zzp g2 g3 s1 x1 y1 p1 s2 x2 y2 p2 s3 x3 y3 p3 s4 x4 y4 p4 s5 x5 y5 p5 f1 f2 f3 f4 f5 i w' v→K (a.put (some (zlr i)) v) w':=fun v w' hb hv=>hK v w' (hH.trans' hb) (fun j hj _ u hu=>qhr hu hj hb) hv
  have eb':=(he 4 (fun j hj e=>absurd e.symm (by revert j;decide))).trans eb
  have e6':=(he 6 (fun j hj e=>absurd e.symm (by revert j;decide))).trans e6
  have e5':=(he 5 (fun j hj e=>absurd e.symm (by revert j;decide))).trans e5
  have e2':=(he 2 (fun j hj e=>absurd e.symm (by revert j;decide))).trans e2
  have e3':=(he 3 (fun j hj e=>absurd e.symm (by revert j;decide))).trans e3
  have:i=0∨i=1∨i=2∨i=3∨i=4∨i=5∨i=6∨i=7∨i=8∨i=9∨i=10∨i=11∨i=12∨i=13:=by omega
  rcases this with rfl|rfl|rfl|rfl|rfl|rfl|rfl|rfl|rfl|rfl|rfl|rfl|rfl|rfl
  ·obtain rfl:=so (show zch[0]? =some qxc from rfl) ho
   exact an (ax a w _ _ _ _ _ _ g6 0 _ _ _ _ e6' (c1.but (hdr hH) (by simp))) (hk _ _ (But.refl _ _) rfl)
  ·obtain rfl:=so (show zch[1]? =some qxb from rfl) ho
   exact an (ax a w _ _ _ _ _ _ g5 0 _ _ _ _ e5' (c2.but (hdr hH) (by simp))) (hk _ _ (But.refl _ _) rfl)
  ·obtain rfl:=so (show zch[2]? =some qxa from rfl) ho
   exact az (zfl a w _ _ _ _ _ _ _ (hD 1 (by simp))) (R:=fun w' v=>aq w' v (f2*f2)∧But [] w w') (SQ w (hdr hH)) (fun v w' hv=>hk v w' hv.2 hv.1)
  ·obtain rfl:=so (show zch[3]? =some qwz from rfl) ho
   exact an (qps a w _ _ _ _ _ _ g2 e2') (hk _ _ (But.refl _ _) rfl)
  ·obtain rfl:=so (show zch[4]? =some qwy from rfl) ho
   exact an (ax a w _ _ _ _ _ _ g2 4 _ _ _ _ (hD 3 (by simp)) (c3.but (hdr hH) (by simp))) (hk _ _ (But.refl _ _) rfl)
  ·obtain rfl:=so (show zch[5]? =some qwx from rfl) ho
   exact az (zeq a w _ _ _ _ _ _ _ _ _ rfl (hD 4 (by simp))) (R:=fun w' v=>aq w' v (f2*f2*f3)∧But [] w w') (MU w (hdr hH) _ (hD 2 (by simp))) (fun v w' hv=>hk v w' hv.2 hv.1)
  ·obtain rfl:=so (show zch[6]? =some qww from rfl) ho
   exact az (zde a w _ _ _ _ _ _ _ _ _ (hD 0 (by simp)) rfl) (R:=fun w' v=>aq w' v (f1+f2*f2*f3)∧But [] w w') (AD w (hdr hH) _ (hD 5 (by simp))) (fun v w' hv=>hk v w' hv.2 hv.1)
  ·obtain rfl:=so (show zch[7]? =some qwv from rfl) ho
   exact an (qpt a w _ _ _ _ _ _ g3 e3') (hk _ _ (But.refl _ _) rfl)
  ·obtain rfl:=so (show zch[8]? =some qwu from rfl) ho
   exact an (ax a w _ _ _ _ _ _ g3 4 _ _ _ _ (hD 7 (by simp)) (c4.but (hdr hH) (by simp))) (hk _ _ (But.refl _ _) rfl)
  ·obtain rfl:=so (show zch[9]? =some qwt from rfl) ho
   exact az (zfl a w _ _ _ _ _ _ _ (hD 8 (by simp))) (R:=fun w' v=>aq w' v (f4*f4)∧But [] w w') (SQ2 w (hdr hH)) (fun v w' hv=>hk v w' hv.2 hv.1)
  ·obtain rfl:=so (show zch[10]? =some qng from rfl) ho
   exact an (qpr a w _ _ _ _ _ _ g2 e2') (hk _ _ (But.refl _ _) rfl)
  ·obtain rfl:=so (show zch[11]? =some qnf from rfl) ho
   exact an (ax a w _ _ _ _ _ _ g2 8 _ _ _ _ (hD 10 (by simp)) (c5.but (hdr hH) (by simp))) (hk _ _ (But.refl _ _) rfl)
  ·obtain rfl:=so (show zch[12]? =some qne from rfl) ho
   exact az (zeq a w _ _ _ _ _ _ _ _ _ rfl (hD 11 (by simp))) (R:=fun w' v=>aq w' v (f4*f4*f5)∧But [] w w') (MU2 w (hdr hH) _ (hD 9 (by simp))) (fun v w' hv=>hk v w' hv.2 hv.1)
  ·obtain rfl:=so (show zch[13]? =some qnd from rfl) ho
   exact az (zde a w _ _ _ _ _ _ _ _ _ rfl rfl) (R:=fun w' v=>aq w' v (f1+f2*f2*f3+f4*f4*f5)∧But [] w w') (AD2 w (hdr hH) _ _ (hD 6 (by simp)) (hD 12 (by simp))) (fun v w' hv=>hk v w' hv.2 hv.1)
 ·intro dn o a w K ho hall h hK
  obtain rfl:=so (show zch[14]? =some qnc from rfl) ho
  have eb':=(h.eval 4 (fun j hj e=>absurd e.symm (by revert j;decide))).trans eb
  have cl:aq w (a.eval (.tmp 31)) (f1+f2*f2*f3+f4*f4*f5):=h.has 13 (by omega) (hall 13 (by omega))
  have cl':=cl
  obtain⟨x',y',p',ev,-⟩:=cl.agg
  rw[ev] at cl'
  have ea:=h.puts hT (fun i=>match i with
   | 0=>.agg #[.bool s1,.int .u64 x1,.int .u64 y1,.pointer p1]
   | 1=>.agg #[.bool s2,.int .u64 x2,.int .u64 y2,.pointer p2]
   | 2=>a.eval (.tmp 20)
   | 3=>.pointer (some ⟨g2,4,none⟩)
   | 4=>.agg #[.bool s3,.int .u64 x3,.int .u64 y3,.pointer p3]
   | 5=>a.eval (.tmp 23)
   | 6=>a.eval (.tmp 24)
   | 7=>.pointer (some ⟨g3,4,none⟩)
   | 8=>.agg #[.bool s4,.int .u64 x4,.int .u64 y4,.pointer p4]
   | 9=>a.eval (.tmp 27)
   | 10=>.pointer (some ⟨g2,8,none⟩)
   | 11=>.agg #[.bool s5,.int .u64 x5,.int .u64 y5,.pointer p5]
   | 12=>a.eval (.tmp 30)
   | _=>.agg #[.bool (decide ((f1+f2*f2*f3+f4*f4*f5).num<0)),.int .u64 x',.int .u64 y',.pointer p']) (fun i hi=>by
   have hc:=h.has i hi (hall i hi)
   have:i=0∨i=1∨i=2∨i=3∨i=4∨i=5∨i=6∨i=7∨i=8∨i=9∨i=10∨i=11∨i=12∨i=13:=by omega
   rcases this with rfl|rfl|rfl|rfl|rfl|rfl|rfl|rfl|rfl|rfl|rfl|rfl|rfl|rfl
   all_goals first | exact ev | exact hc|rfl)
  exact jo (kz a w _ _ _ _ _ gb _ x' y' p' eb' ev (cb.but (hdr h.mem) (by simp)) (fun j=>((hdr h.mem).frozen (p:=⟨gb,j,none⟩) lgb (by simp)).trans (fzb j))) (hK _ _ ⟨w,a.eval (.tmp 20),a.eval (.tmp 23),a.eval (.tmp 24),a.eval (.tmp 27),a.eval (.tmp 30),_,x',y',p',ea,rfl,hdr h.mem,cl'⟩)
 ·rintro a w ⟨w1,v2,v5,v6,v9,v12,s',x',y',p',rfl,rfl,h1,h2⟩
  exact hQ  w1 v2 v5 v6 v9 v12 s' x' y' p' h1 h2
def qws:Oper:=⟨some 24,.load 27 (.tmp 8),27, "line.go:21",#[],none⟩
def qwr:Oper:=⟨some 25,.call { callee:=.value (.func 55),args:=#[.tmp 24],argTypes:=#[27] },27, "line.go:21",#[⟨0,.data⟩],none⟩
def qwq:Oper:=⟨some 26,.fieldAddr 112 (.tmp 7) 0,0, "line.go:21",#[],none⟩
def qwp:Oper:=⟨some 27,.load 27 (.tmp 26),27, "line.go:21",#[⟨2,.data⟩],none⟩
def qwo:Oper:=⟨some 28,.call { callee:=.value (.func 56),args:=#[.tmp 25,.tmp 27],argTypes:=#[27,27] },27, "line.go:21",#[⟨1,.data⟩,⟨3,.data⟩,⟨1,.chain⟩],none⟩
def qwn:Oper:=⟨some 29,.load 27 (.tmp 8),27, "line.go:21",#[],none⟩
def qwm:Oper:=⟨some 30,.build 50 #[(0,.tmp 28),(1,.tmp 29)],50, "line.go:21",#[⟨4,.data⟩,⟨5,.data⟩],none⟩
def qwl:Oper:=⟨none,.store 50 (.tmp 4) (.tmp 30),0, "line.go:21",#[⟨6,.data⟩,⟨4,.chain⟩,⟨0,.phase⟩,⟨1,.phase⟩,⟨2,.phase⟩,⟨3,.phase⟩,⟨4,.phase⟩,⟨5,.phase⟩,⟨6,.phase⟩],none⟩
def qwk:Oper:=⟨some 5,.assign (.const .nilIface),29, "line.go:21",#[⟨7,.chain⟩,⟨0,.phase⟩,⟨1,.phase⟩,⟨2,.phase⟩,⟨3,.phase⟩,⟨4,.phase⟩,⟨5,.phase⟩,⟨6,.phase⟩,⟨7,.phase⟩],none⟩
def zgk:Array Oper:=#[qws,qwr,qwq,qwp,qwo,qwn,qwm,qwl,qwk]
def zlq (i:Nat):Nat:=match i with
 | 0=>24
 | 1=>25
 | 2=>26
 | 3=>27
 | 4=>28
 | 5=>29
 | _=>30
def zzo (g7:Nat) (s1:Bool) (x1:Int) (y1:Int) (p1:Option Addr) (s2:Bool) (x2:Int) (y2:Int) (p2:Option Addr) (f1:Rat) (f2:Rat) (i:Nat) (w:World) (v:Value):Prop:=match i with
 | 0=>v=.agg #[.bool s1,.int .u64 x1,.int .u64 y1,.pointer p1]
 | 1=>aq w v (((1:Int):Rat)-f1)
 | 2=>v=.pointer (some ⟨g7,0,none⟩)
 | 3=>v=.agg #[.bool s2,.int .u64 x2,.int .u64 y2,.pointer p2]
 | 4=>aq w v ((((1:Int):Rat)-f1)*f2)
 | 5=>aq w v f1
 | _=>zhl ((((1:Int):Rat)-f1)*f2) (f1) w v
theorem qhp {g7:Nat} {s1:Bool} {x1:Int} {y1:Int} {p1:Option Addr} {s2:Bool} {x2:Int} {y2:Int} {p2:Option Addr} {f1:Rat} {f2:Rat} {i:Nat} {w w':World} {v:Value} (h:zzo g7 s1 x1 y1 p1 s2 x2 y2 p2 f1 f2 i w v) (hi:i<7) (hb:But [] w w'):zzo g7 s1 x1 y1 p1 s2 x2 y2 p2 f1 f2 i w' v:=by
 have:i=0∨i=1∨i=2∨i=3∨i=4∨i=5∨i=6:=by omega
 rcases this with rfl|rfl|rfl|rfl|rfl|rfl|rfl
 ·exact (show v=.agg #[.bool s1,.int .u64 x1,.int .u64 y1,.pointer p1] from h)
 ·exact aq.but (show aq w v (((1:Int):Rat)-f1) from h) hb
 ·exact (show v=.pointer (some ⟨g7,0,none⟩) from h)
 ·exact (show v=.agg #[.bool s2,.int .u64 x2,.int .u64 y2,.pointer p2] from h)
 ·exact aq.but (show aq w v ((((1:Int):Rat)-f1)*f2) from h) hb
 ·exact aq.but (show aq w v f1 from h) hb
 ·exact zhl.but (show zhl ((((1:Int):Rat)-f1)*f2) (f1) w v from h) hb
theorem qho:∀ i j,i<7→j<7→zlq i=zlq j→i=j:=fun i j hi hj=>(by decide:∀ i,i<7→∀ j,j<7→zlq i=zlq j→i=j) i hi j hj
theorem ztq (id:Nat) (Q:Exit→Act→World→Prop) (base:Act) (W0:World) (g7:Nat) (s1:Bool) (x1:Int) (y1:Int) (p1:Option Addr) (s2:Bool) (x2:Int) (y2:Int) (p2:Option Addr) (f1:Rat) (f2:Rat) (gb g8:Nat) {vb:List Value} (hs:30<base.tmps.size) (eb:base.eval (.tmp 4)=.pointer (some ⟨gb,0,none⟩)) (cb:xg W0 gb vb) (hvb:vb.length=8) (e8:base.eval (.tmp 8)=.pointer (some ⟨g8,0,none⟩)) (e7:base.eval (.tmp 7)=.pointer (some ⟨g7,0,none⟩))
  (c1:P4 W0 g8 s1 x1 y1 p1) (c2:P4o W0 g7 0 s2 x2 y2 p2) (F1:aq W0 (.agg #[.bool s1,.int .u64 x1,.int .u64 y1,.pointer p1]) f1)
  (RE:∀ w,But [] W0 w→Calls prog 55 #[.agg #[.bool s1,.int .u64 x1,.int .u64 y1,.pointer p1]] w fun e w'=>∃ v,e=.returned v∧aq w' v (((1:Int):Rat)-f1)∧But [] w w')
  (MU:∀ w,But [] W0 w→∀ v,aq w v (((1:Int):Rat)-f1)→Calls prog 56 #[v,.agg #[.bool s2,.int .u64 x2,.int .u64 y2,.pointer p2]] w fun e w'=>∃ v,e=.returned v∧aq w' v ((((1:Int):Rat)-f1)*f2)∧But [] w w')
  (hQ:∀ w1 v1 v4 v5 a1 b1 c1 d1 a2 b2 c2 d2,But [] W0 w1→aq w1 (.agg #[.bool a1,.int .u64 b1,.int .u64 c1,.pointer d1]) ((((1:Int):Rat)-f1)*f2)→aq w1 (.agg #[.bool a2,.int .u64 b2,.int .u64 c2,.pointer d2]) (f1)→Q .normal (bk base [(24,.agg #[.bool s1,.int .u64 x1,.int .u64 y1,.pointer p1]),(25,v1),(26,.pointer (some ⟨g7,0,none⟩)),(27,.agg #[.bool s2,.int .u64 x2,.int .u64 y2,.pointer p2]),(28,v4),(29,v5),(30,.agg #[.bool a1,.int .u64 b1,.int .u64 c1,.pointer d1,.bool a2,.int .u64 b2,.int .u64 c2,.pointer d2]),(5,.nilIface)]) (w1.setCells gb 0 [.bool a1,.int .u64 b1,.int .u64 c1,.pointer d1,.bool a2,.int .u64 b2,.int .u64 c2,.pointer d2])) :
  (Code.region id zgk true).wp prog Q base W0:=by
 have hdr:∀ {w},But [] W0.drew w→But [] W0 w:=fun h=>(But.refl _ _).drew.trans' h
 have hT:∀ i,i<7→zlq i<base.tmps.size:=fun i hi=>by
  have h:zlq i≤30:=by revert i;decide
  omega
 refine zgx (by kernel_rfl) (xu (by kernel_rfl)) (fun i o ho=>(mo (ops:=zgk) (by kernel_rfl) i o ho).1)
  (fun _ w=>But [] W0.drew w) (zzo g7 s1 x1 y1 p1 s2 x2 y2 p2 f1 f2) zlq 7 rfl qho hT (But.refl _ _)
  (fun i hi=>?_) (vv (ops:=zgk) (ps:=[(8,7)]) (by kernel_rfl) 8 7 (by simp)) ?_ (fun a w=>∃ w1 v1 v4 v5 a1 b1 c1 d1 a2 b2 c2 d2,a=bk base [(24,.agg #[.bool s1,.int .u64 x1,.int .u64 y1,.pointer p1]),(25,v1),(26,.pointer (some ⟨g7,0,none⟩)),(27,.agg #[.bool s2,.int .u64 x2,.int .u64 y2,.pointer p2]),(28,v4),(29,v5),(30,.agg #[.bool a1,.int .u64 b1,.int .u64 c1,.pointer d1,.bool a2,.int .u64 b2,.int .u64 c2,.pointer d2])]∧w=w1.setCells gb 0 [.bool a1,.int .u64 b1,.int .u64 c1,.pointer d1,.bool a2,.int .u64 b2,.int .u64 c2,.pointer d2]∧But [] W0 w1∧aq w1 (.agg #[.bool a1,.int .u64 b1,.int .u64 c1,.pointer d1]) ((((1:Int):Rat)-f1)*f2)∧aq w1 (.agg #[.bool a2,.int .u64 b2,.int .u64 c2,.pointer d2]) (f1)) (fun a w=>∃ w1 v1 v4 v5 a1 b1 c1 d1 a2 b2 c2 d2,a=bk base [(24,.agg #[.bool s1,.int .u64 x1,.int .u64 y1,.pointer p1]),(25,v1),(26,.pointer (some ⟨g7,0,none⟩)),(27,.agg #[.bool s2,.int .u64 x2,.int .u64 y2,.pointer p2]),(28,v4),(29,v5),(30,.agg #[.bool a1,.int .u64 b1,.int .u64 c1,.pointer d1,.bool a2,.int .u64 b2,.int .u64 c2,.pointer d2]),(5,.nilIface)]∧w=w1.setCells gb 0 [.bool a1,.int .u64 b1,.int .u64 c1,.pointer d1,.bool a2,.int .u64 b2,.int .u64 c2,.pointer d2]∧But [] W0 w1∧aq w1 (.agg #[.bool a1,.int .u64 b1,.int .u64 c1,.pointer d1]) ((((1:Int):Rat)-f1)*f2)∧aq w1 (.agg #[.bool a2,.int .u64 b2,.int .u64 c2,.pointer d2]) (f1)) ?_ ?_ ?_
 ·exact vv (ops:=zgk) (ps:=[(7,0),(7,1),(7,2),(7,3),(7,4),(7,5),(7,6)]) (by kernel_rfl) 7 i (by
   have:i=0∨i=1∨i=2∨i=3∨i=4∨i=5∨i=6:=by omega
   rcases this with rfl|rfl|rfl|rfl|rfl|rfl|rfl <;> simp)
 ·intro dn i o a w K hi ho hdi hH he hdep hK
  have hD:=fun j hj=>(j4 (ps:=[(1,0),(3,2),(4,1),(4,3),(6,4),(6,5)]) (by kernel_rfl) ho (fun j=>dn j=true∧zzo g7 s1 x1 y1 p1 s2 x2 y2 p2 f1 f2 j w (a.eval (.tmp (zlq j)))) hdep j hj).2
  have hk:∀ v w',But [] w w'→zzo g7 s1 x1 y1 p1 s2 x2 y2 p2 f1 f2 i w' v→K (a.put (some (zlq i)) v) w':=fun v w' hb hv=>hK v w' (hH.trans' hb) (fun j hj _ u hu=>qhp hu hj hb) hv
  have e8':=(he 8 (fun j hj e=>absurd e.symm (by revert j;decide))).trans e8
  have e7':=(he 7 (fun j hj e=>absurd e.symm (by revert j;decide))).trans e7
  have:i=0∨i=1∨i=2∨i=3∨i=4∨i=5∨i=6:=by omega
  rcases this with rfl|rfl|rfl|rfl|rfl|rfl|rfl
  ·obtain rfl:=so (show zgk[0]? =some qws from rfl) ho
   exact an (ax a w _ _ _ _ _ _ g8 0 _ _ _ _ e8' (c1.but (hdr hH) (by simp))) (hk _ _ (But.refl _ _) rfl)
  ·obtain rfl:=so (show zgk[1]? =some qwr from rfl) ho
   exact az (qgl a w _ _ _ _ _ _ _ (hD 0 (by simp))) (R:=fun w' v=>aq w' v (((1:Int):Rat)-f1)∧But [] w w') (RE w (hdr hH)) (fun v w' hv=>hk v w' hv.2 hv.1)
  ·obtain rfl:=so (show zgk[2]? =some qwq from rfl) ho
   exact an (qfa a w _ _ _ _ _ _ g7 e7') (hk _ _ (But.refl _ _) rfl)
  ·obtain rfl:=so (show zgk[3]? =some qwp from rfl) ho
   exact an (ax a w _ _ _ _ _ _ g7 0 _ _ _ _ (hD 2 (by simp)) (c2.but (hdr hH) (by simp))) (hk _ _ (But.refl _ _) rfl)
  ·obtain rfl:=so (show zgk[4]? =some qwo from rfl) ho
   exact az (zeq a w _ _ _ _ _ _ _ _ _ rfl (hD 3 (by simp))) (R:=fun w' v=>aq w' v ((((1:Int):Rat)-f1)*f2)∧But [] w w') (MU w (hdr hH) _ (hD 1 (by simp))) (fun v w' hv=>hk v w' hv.2 hv.1)
  ·obtain rfl:=so (show zgk[5]? =some qwn from rfl) ho
   exact an (ax a w _ _ _ _ _ _ g8 0 _ _ _ _ e8' (c1.but (hdr hH) (by simp))) (hk _ _ (But.refl _ _) (F1.but (hdr hH)))
  ·obtain rfl:=so (show zgk[6]? =some qwm from rfl) ho
   have q1:aq w (a.eval (.tmp 28)) ((((1:Int):Rat)-f1)*f2):=hD 4 (by simp)
   obtain⟨b1,c1,d1,e1,-⟩:=q1.agg
   rw[e1] at q1
   have q2:aq w (a.eval (.tmp 29)) (f1):=hD 5 (by simp)
   obtain⟨b2,c2,d2,e2,-⟩:=q2.agg
   rw[e2] at q2
   exact an (zvu a w _ _ _ _ _ _ _ _ b1 c1 d1 _ b2 c2 d2 e1 e2) (hk _ _ (But.refl _ _) ⟨_,b1,c1,d1,_,b2,c2,d2,rfl,q1,q2⟩)
 ·intro dn o a w K ho hall h hK
  obtain rfl:=so (show zgk[7]? =some qwl from rfl) ho
  have eb':=(h.eval 4 (fun j hj e=>absurd e.symm (by revert j;decide))).trans eb
  obtain⟨a1,b1,c1,d1,a2,b2,c2,d2,ev,h1,h2⟩:zhl ((((1:Int):Rat)-f1)*f2) (f1) w (a.eval (.tmp 30)):=h.has 6 (by omega) (hall 6 (by omega))
  have ea:=h.puts hT (fun i=>match i with
   | 0=>.agg #[.bool s1,.int .u64 x1,.int .u64 y1,.pointer p1]
   | 1=>a.eval (.tmp 25)
   | 2=>.pointer (some ⟨g7,0,none⟩)
   | 3=>.agg #[.bool s2,.int .u64 x2,.int .u64 y2,.pointer p2]
   | 4=>a.eval (.tmp 28)
   | 5=>a.eval (.tmp 29)
   | _=>.agg #[.bool a1,.int .u64 b1,.int .u64 c1,.pointer d1,.bool a2,.int .u64 b2,.int .u64 c2,.pointer d2]) (fun i hi=>by
   have hc:=h.has i hi (hall i hi)
   have:i=0∨i=1∨i=2∨i=3∨i=4∨i=5∨i=6:=by omega
   rcases this with rfl|rfl|rfl|rfl|rfl|rfl|rfl
   ·exact hc
   ·rfl
   ·exact hc
   ·exact hc
   ·rfl
   ·rfl
   ·exact ev)
  exact jo (zvt a w _ _ _ _ _ gb a1 b1 c1 d1 a2 b2 c2 d2 eb' ev (cb.but (hdr h.mem) (by simp) (by omega)) hvb) (hK _ _ ⟨w,a.eval (.tmp 25),a.eval (.tmp 28),a.eval (.tmp 29),a1,b1,c1,d1,a2,b2,c2,d2,ea,rfl,hdr h.mem,h1,h2⟩)
 ·rintro o a w K ho ⟨w1,v1,v4,v5,a1,b1,c1,d1,a2,b2,c2,d2,ha,hw,hb1,h1,h2⟩ hK
  obtain rfl:=so (show zgk[8]? =some qwk from rfl) ho
  exact an (zkx _ _ _ _ _ _ _) (hK _ _ ⟨w1,v1,v4,v5,a1,b1,c1,d1,a2,b2,c2,d2,by rw[ha];exact ui _ _ _ _,hw,hb1,h1,h2⟩)
 ·rintro a w ⟨w1,v1,v4,v5,a1,b1,c1,d1,a2,b2,c2,d2,rfl,rfl,hb1,h1,h2⟩
  exact hQ w1 v1 v4 v5 a1 b1 c1 d1 a2 b2 c2 d2 hb1 h1 h2
def qwj:Oper:=⟨some 16,.move (.tmp 0),42, "line.go:29",#[],none⟩
def qwi:Oper:=⟨some 17,.move (.tmp 1),3, "line.go:29",#[],none⟩
def qwh:Oper:=⟨some 18,.call { callee:=.value (.func 53),args:=#[.tmp 16,.tmp 17],argTypes:=#[42,3] },112, "line.go:29",#[⟨0,.data⟩,⟨1,.data⟩],none⟩
def qwg:Oper:=⟨some 19,.load 50 (.tmp 5),50, "line.go:29",#[],none⟩
def qwf:Oper:=⟨some 20,.call { callee:=.value (.func 57),args:=#[.tmp 18,.tmp 19],argTypes:=#[112,50] },27, "line.go:29",#[⟨2,.data⟩,⟨3,.data⟩,⟨2,.chain⟩],none⟩
def qwe:Oper:=⟨none,.store 27 (.tmp 6) (.tmp 20),0, "line.go:29",#[⟨4,.data⟩,⟨4,.chain⟩,⟨0,.phase⟩,⟨1,.phase⟩,⟨2,.phase⟩,⟨3,.phase⟩,⟨4,.phase⟩],none⟩
def qwd:Oper:=⟨some 7,.assign (.const .nilIface),29, "line.go:29",#[⟨5,.chain⟩,⟨0,.phase⟩,⟨1,.phase⟩,⟨2,.phase⟩,⟨3,.phase⟩,⟨4,.phase⟩,⟨5,.phase⟩],none⟩
def zir:Array Oper:=#[qwj,qwi,qwh,qwg,qwf,qwe,qwd]
def zlp (i:Nat):Nat:=match i with
 | 0=>16
 | 1=>17
 | 2=>18
 | 3=>19
 | _=>20
def zzn (n:Int) (vk:Value) (s1:Bool) (x1:Int) (y1:Int) (p1:Option Addr) (s2:Bool) (x2:Int) (y2:Int) (p2:Option Addr) (m1:Rat) (m2:Rat) (m3:Rat) (f:Rat) (i:Nat) (w:World) (v:Value):Prop:=match i with
 | 0=>v=vk
 | 1=>v=.int .i64 n
 | 2=>zci m1 m2 m3 w v
 | 3=>v=.agg #[.bool s1,.int .u64 x1,.int .u64 y1,.pointer p1,.bool s2,.int .u64 x2,.int .u64 y2,.pointer p2]
 | _=>aq w v f
theorem qhn {n:Int} {vk:Value} {s1:Bool} {x1:Int} {y1:Int} {p1:Option Addr} {s2:Bool} {x2:Int} {y2:Int} {p2:Option Addr} {m1:Rat} {m2:Rat} {m3:Rat} {f:Rat} {i:Nat} {w w':World} {v:Value} (h:zzn n vk s1 x1 y1 p1 s2 x2 y2 p2 m1 m2 m3 f i w v) (hi:i<5) (hb:But [] w w'):zzn n vk s1 x1 y1 p1 s2 x2 y2 p2 m1 m2 m3 f i w' v:=by
 have:i=0∨i=1∨i=2∨i=3∨i=4:=by omega
 rcases this with rfl|rfl|rfl|rfl|rfl
 ·exact (show v=vk from h)
 ·exact (show v=.int .i64 n from h)
 ·exact zci.but (show zci m1 m2 m3 w v from h) hb
 ·exact (show v=.agg #[.bool s1,.int .u64 x1,.int .u64 y1,.pointer p1,.bool s2,.int .u64 x2,.int .u64 y2,.pointer p2] from h)
 ·exact aq.but (show aq w v f from h) hb
theorem qhm:∀ i j,i<5→j<5→zlp i=zlp j→i=j:=fun i j hi hj=>(by decide:∀ i,i<5→∀ j,j<5→zlp i=zlp j→i=j) i hi j hj
theorem zpi (id:Nat) (Q:Exit→Act→World→Prop) (base:Act) (W0:World) (n:Int) (vk:Value) (s1:Bool) (x1:Int) (y1:Int) (p1:Option Addr) (s2:Bool) (x2:Int) (y2:Int) (p2:Option Addr) (m1:Rat) (m2:Rat) (m3:Rat) (f:Rat) (gb g5:Nat) {sb:Bool} {xb yb:Int} {pb:Option Addr} (hs:20<base.tmps.size) (eb:base.eval (.tmp 6)=.pointer (some ⟨gb,0,none⟩)) (cb:P4 W0 gb sb xb yb pb) (fzb:∀ j,W0.frozen? ⟨gb,j,none⟩=false) (e0:base.eval (.tmp 0)=vk) (e1:base.eval (.tmp 1)=.int .i64 n) (e5:base.eval (.tmp 5)=.pointer (some ⟨g5,0,none⟩)) (c1:xg W0 g5 [.bool s1,.int .u64 x1,.int .u64 y1,.pointer p1,.bool s2,.int .u64 x2,.int .u64 y2,.pointer p2])
  (MI:∀ w,But [] W0 w→Calls prog 53 #[vk,.int .i64 n] w fun e w'=>∃ v,e=.returned v∧zci m1 m2 m3 w' v∧But [] w w')
  (AM:∀ w,But [] W0 w→∀ v,zci m1 m2 m3 w v→Calls prog 57 #[v,.agg #[.bool s1,.int .u64 x1,.int .u64 y1,.pointer p1,.bool s2,.int .u64 x2,.int .u64 y2,.pointer p2]] w fun e w'=>∃ v,e=.returned v∧aq w' v f∧But [] w w')
  (hQ:∀ w1 v2 s' x' y' p',But [] W0 w1→aq w1 (.agg #[.bool s',.int .u64 x',.int .u64 y',.pointer p']) f→Q .normal (bk base [(16,vk),(17,.int .i64 n),(18,v2),(19,.agg #[.bool s1,.int .u64 x1,.int .u64 y1,.pointer p1,.bool s2,.int .u64 x2,.int .u64 y2,.pointer p2]),(20,.agg #[.bool s',.int .u64 x',.int .u64 y',.pointer p']),(7,.nilIface)]) (zy w1 gb s' x' y' p')) :
  (Code.region id zir true).wp prog Q base W0:=by
 have hdr:∀ {w},But [] W0.drew w→But [] W0 w:=fun h=>(But.refl _ _).drew.trans' h
 have lgb:gb<W0.heap.size:=ai cb.1
 have hT:∀ i,i<5→zlp i<base.tmps.size:=fun i hi=>by
  have h:zlp i≤20:=by revert i;decide
  omega
 refine zgx (by kernel_rfl) (xu (by kernel_rfl)) (fun i o ho=>(mo (ops:=zir) (by kernel_rfl) i o ho).1)
  (fun _ w=>But [] W0.drew w) (zzn n vk s1 x1 y1 p1 s2 x2 y2 p2 m1 m2 m3 f) zlp 5 rfl qhm hT (But.refl _ _)
  (fun i hi=>?_) (vv (ops:=zir) (ps:=[(6,5)]) (by kernel_rfl) 6 5 (by simp)) ?_ (fun a w=>∃ w1 v2 s' x' y' p',a=bk base [(16,vk),(17,.int .i64 n),(18,v2),(19,.agg #[.bool s1,.int .u64 x1,.int .u64 y1,.pointer p1,.bool s2,.int .u64 x2,.int .u64 y2,.pointer p2]),(20,.agg #[.bool s',.int .u64 x',.int .u64 y',.pointer p'])]∧w=zy w1 gb s' x' y' p'∧But [] W0 w1∧aq w1 (.agg #[.bool s',.int .u64 x',.int .u64 y',.pointer p']) f) (fun a w=>∃ w1 v2 s' x' y' p',a=bk base [(16,vk),(17,.int .i64 n),(18,v2),(19,.agg #[.bool s1,.int .u64 x1,.int .u64 y1,.pointer p1,.bool s2,.int .u64 x2,.int .u64 y2,.pointer p2]),(20,.agg #[.bool s',.int .u64 x',.int .u64 y',.pointer p']),(7,.nilIface)]∧w=zy w1 gb s' x' y' p'∧But [] W0 w1∧aq w1 (.agg #[.bool s',.int .u64 x',.int .u64 y',.pointer p']) f) ?_ ?_ ?_
 ·exact vv (ops:=zir) (ps:=[(5,0),(5,1),(5,2),(5,3),(5,4)]) (by kernel_rfl) 5 i (by
   have:i=0∨i=1∨i=2∨i=3∨i=4:=by omega
   rcases this with rfl|rfl|rfl|rfl|rfl <;> simp)
 ·intro dn i o a w K hi ho hdi hH he hdep hK
  have hD:=fun j hj=>(j4 (ps:=[(2,0),(2,1),(4,2),(4,3)]) (by kernel_rfl) ho (fun j=>dn j=true∧zzn n vk s1 x1 y1 p1 s2 x2 y2 p2 m1 m2 m3 f j w (a.eval (.tmp (zlp j)))) hdep j hj).2
  have hk:∀ v w',But [] w w'→zzn n vk s1 x1 y1 p1 s2 x2 y2 p2 m1 m2 m3 f i w' v→K (a.put (some (zlp i)) v) w':=fun v w' hb hv=>hK v w' (hH.trans' hb) (fun j hj _ u hu=>qhn hu hj hb) hv
  have e0':=(he 0 (fun j hj e=>absurd e.symm (by revert j;decide))).trans e0
  have e1':=(he 1 (fun j hj e=>absurd e.symm (by revert j;decide))).trans e1
  have e5':=(he 5 (fun j hj e=>absurd e.symm (by revert j;decide))).trans e5
  have:i=0∨i=1∨i=2∨i=3∨i=4:=by omega
  rcases this with rfl|rfl|rfl|rfl|rfl
  ·obtain rfl:=so (show zir[0]? =some qwj from rfl) ho
   exact an (bz a w _ _ _ _ _ _ _ e0') (hk _ _ (But.refl _ _) rfl)
  ·obtain rfl:=so (show zir[1]? =some qwi from rfl) ho
   exact an (bz a w _ _ _ _ _ _ _ e1') (hk _ _ (But.refl _ _) rfl)
  ·obtain rfl:=so (show zir[2]? =some qwh from rfl) ho
   exact az (qki a w _ _ _ _ _ _ _ _ _ (hD 0 (by simp)) (hD 1 (by simp))) (R:=fun w' v=>zci m1 m2 m3 w' v∧But [] w w') (MI w (hdr hH)) (fun v w' hv=>hk v w' hv.2 hv.1)
  ·obtain rfl:=so (show zir[3]? =some qwg from rfl) ho
   exact an (qkk a w _ _ _ _ _ _ g5 _ _ _ _ _ _ _ _ e5' (c1.but (hdr hH) (by simp) (by simp))) (hk _ _ (But.refl _ _) rfl)
  ·obtain rfl:=so (show zir[4]? =some qwf from rfl) ho
   exact az (qcw a w _ _ _ _ _ _ _ _ _ rfl (hD 3 (by simp))) (R:=fun w' v=>aq w' v (f)∧But [] w w') (AM w (hdr hH) _ (hD 2 (by simp))) (fun v w' hv=>hk v w' hv.2 hv.1)
 ·intro dn o a w K ho hall h hK
  obtain rfl:=so (show zir[5]? =some qwe from rfl) ho
  have eb':=(h.eval 6 (fun j hj e=>absurd e.symm (by revert j;decide))).trans eb
  have cl:aq w (a.eval (.tmp 20)) f:=h.has 4 (by omega) (hall 4 (by omega))
  have cl':=cl
  obtain⟨x',y',p',ev,-⟩:=cl.agg
  rw[ev] at cl'
  have ea:=h.puts hT (fun i=>match i with
   | 0=>vk
   | 1=>.int .i64 n
   | 2=>a.eval (.tmp 18)
   | 3=>.agg #[.bool s1,.int .u64 x1,.int .u64 y1,.pointer p1,.bool s2,.int .u64 x2,.int .u64 y2,.pointer p2]
   | _=>.agg #[.bool (decide (f.num<0)),.int .u64 x',.int .u64 y',.pointer p']) (fun i hi=>by
   have hc:=h.has i hi (hall i hi)
   have:i=0∨i=1∨i=2∨i=3∨i=4:=by omega
   rcases this with rfl|rfl|rfl|rfl|rfl
   all_goals first | exact ev | exact hc|rfl)
  exact jo (kz a w _ _ _ _ _ gb _ x' y' p' eb' ev (cb.but (hdr h.mem) (by simp)) (fun j=>((hdr h.mem).frozen (p:=⟨gb,j,none⟩) lgb (by simp)).trans (fzb j))) (hK _ _ ⟨w,a.eval (.tmp 18),_,x',y',p',ea,rfl,hdr h.mem,cl'⟩)
 ·rintro o a w K ho ⟨w1,v2,s',x',y',p',ha,hw,h1,h2⟩ hK
  obtain rfl:=so (show zir[6]? =some qwd from rfl) ho
  exact an (zkx _ _ _ _ _ _ _) (hK _ _ ⟨w1,v2,s',x',y',p',by rw[ha];exact ui _ _ _ _,hw,h1,h2⟩)
 ·rintro a w ⟨w1,v2,s',x',y',p',rfl,rfl,h1,h2⟩
  exact hQ w1 v2 s' x' y' p' h1 h2
theorem qiv:∃ i,prog.info? 45 = some i∧i.zero=some (.agg #[.bool false,.int .u64 0,.int .u64 0,.pointer none,.bool false,.int .u64 0,.int .u64 0,.pointer none,.bool false,.int .u64 0,.int .u64 0,.pointer none])∧i.size=12∧i.bytes=96:=by
 have h:(prog.info? 45).map (fun i=>(i.zero,i.size,i.bytes))=some (some (.agg #[.bool false,.int .u64 0,.int .u64 0,.pointer none,.bool false,.int .u64 0,.int .u64 0,.pointer none,.bool false,.int .u64 0,.int .u64 0,.pointer none]),12,96):=by kernel_rfl
 cases e:prog.info? 45 with
 | none=>rw[e] at h;simp at h
 | some i =>
  rw[e] at h
  simp only[Option.map_some,Option.some.injEq,Prod.mk.injEq] at h
  exact⟨i,rfl,h.1,h.2.1,h.2.2⟩
theorem qbw (w:World) (base:Nat) (v:Value) (k:Nat) (us:List Value) (hown:w.ownsRow base 45 12 v k us) (g:Nat) (s1:Bool) (x1 y1:Int) (p1:Option Addr) (s2:Bool) (x2 y2:Int) (p2:Option Addr) (s3:Bool) (x3 y3:Int) (p3:Option Addr) (c:K12 w g 0 s1 x1 y1 p1 s2 x2 y2 p2 s3 x3 y3 p3) (hk:k<1000000) (hb:base≤w.heap.size) :
  ∃ v' w',(Builtin.append_ #[42,42] 42 #[v,.slice (some ⟨g,0,none⟩) 1 1]).run prog w=.ok v' w'∧w'.ownsRow base 45 12 v' (k+1) (us++[.bool s1,.int .u64 x1,.int .u64 y1,.pointer p1,.bool s2,.int .u64 x2,.int .u64 y2,.pointer p2,.bool s3,.int .u64 x3,.int .u64 y3,.pointer p3])∧w.grownBy w' v.ownBlock:=by
 obtain⟨i0,hi,hz0,hz1,hz2⟩:=qiv
 obtain⟨v',w',hr,ho,hg,-⟩:=run_append_own (P:=prog) w base 42 42 45 i0 _ 12 96 underlying42 hi hz0 hz1 hz2 rfl (by decide) v k us hown ⟨g,0,none⟩ 1 1 [.bool s1,.int .u64 x1,.int .u64 y1,.pointer p1,.bool s2,.int .u64 x2,.int .u64 y2,.pointer p2,.bool s3,.int .u64 x3,.int .u64 y3,.pointer p3] rfl (fun j u hj=>by
   have:j=0∨j=1∨j=2∨j=3∨j=4∨j=5∨j=6∨j=7∨j=8∨j=9∨j=10∨j=11∨12≤j:=by omega
   obtain⟨⟨c0,c1,c2,c3⟩,⟨c4,c5,c6,c7⟩,c8,c9,c10,c11⟩:=c
   rcases this with rfl|rfl|rfl|rfl|rfl|rfl|rfl|rfl|rfl|rfl|rfl|rfl | h12
   ·simp at hj;subst hj;exact c0
   ·simp at hj;subst hj;exact c1
   ·simp at hj;subst hj;exact c2
   ·simp at hj;subst hj;exact c3
   ·simp at hj;subst hj;exact c4
   ·simp at hj;subst hj;exact c5
   ·simp at hj;subst hj;exact c6
   ·simp at hj;subst hj;exact c7
   ·simp at hj;subst hj;exact c8
   ·simp at hj;subst hj;exact c9
   ·simp at hj;subst hj;exact c10
   ·simp at hj;subst hj;exact c11
   ·rw[List.getElem?_eq_none (by simpa using h12)] at hj;simp at hj) (fun u hu=>by
   simp only[List.mem_cons,List.not_mem_nil,or_false] at hu
   rcases hu with rfl|rfl|rfl|rfl|rfl|rfl|rfl|rfl|rfl|rfl|rfl|rfl <;> rfl) (by unfold maxLen;omega) (by omega) hb
 exact⟨v',w',hr,ho,hg⟩
theorem ziy (f:Nat→List Value) (hf:∀ i,(f i).length=12):∀ k,((List.range k).flatMap f).length=k*12
 | 0=>rfl
 | k+1=>by rw[List.range_succ,List.flatMap_append,List.length_append,ziy f hf k,List.flatMap_singleton,hf k];omega
theorem flat_get (f:Nat→List Value) (hf:∀ i,(f i).length=12):∀ k i r,i<k→r<12→((List.range k).flatMap f)[i*12+r]? = (f i)[r]?
 | 0,i,r,h,_=>absurd h (by omega)
 | k+1,i,r,h,hr=>by
  rw[List.range_succ,List.flatMap_append,List.flatMap_singleton]
  by_cases hi:i<k
  ·rw[List.getElem?_append_left (by rw[ziy f hf k];omega)]
   exact flat_get f hf k i r hi hr
  ·obtain rfl:i=k:=by omega
   rw[List.getElem?_append_right (by rw[ziy f hf i];omega),ziy f hf i,show i*12+r-i*12=r by omega]
theorem chF (qs:List (Int × Int)) (hf:∀ q ∈ qs,Fits q):∃ (R:Nat→Bool) (X Y:Nat→Int),∀ i,i<qs.length→Len (qf (qs[i]?.getD (0,0))) 1∧(∀ W,aq W (.agg #[.bool (R i),.int .u64 (X i),.int .u64 (Y i),.pointer none]) (qf (qs[i]?.getD (0,0))))∧∀ W,Calls prog 7 #[.agg #[.int .i64 (qs[i]?.getD (0,0)).1,.int .i64 (qs[i]?.getD (0,0)).2]] W fun e w'=>e=.returned (.agg #[.bool (R i),.int .u64 (X i),.int .u64 (Y i),.pointer none])∧But [] W w':=by
 have h:∀ i,∃ t:Bool × Int × Int,i<qs.length→Len (qf (qs[i]?.getD (0,0))) 1∧(∀ W,aq W (.agg #[.bool t.1,.int .u64 t.2.1,.int .u64 t.2.2,.pointer none]) (qf (qs[i]?.getD (0,0))))∧∀ W,Calls prog 7 #[.agg #[.int .i64 (qs[i]?.getD (0,0)).1,.int .i64 (qs[i]?.getD (0,0)).2]] W fun e w'=>e=.returned (.agg #[.bool t.1,.int .u64 t.2.1,.int .u64 t.2.2,.pointer none])∧But [] W w':=fun i=>by
  by_cases hi:i<qs.length
  ·rw[List.getElem?_eq_getElem hi]
   obtain⟨r,x,y,h0,h1,h2⟩:=zcl qs[i] (hf _ (List.getElem_mem hi))
   exact⟨(r,x,y),fun _=>⟨h0,h1,h2⟩⟩
  ·exact⟨(false,0,0),fun h=>absurd h hi⟩
 obtain⟨t,ht⟩:=Classical.axiomOfChoice h
 exact⟨fun i=>(t i).1,fun i=>(t i).2.1,fun i=>(t i).2.2,ht⟩
theorem zqx {w:World} {q:Option Addr} {n c:Nat} {qs:List (Int × Int)} (h:zee w (.slice q n c) qs) (i:Nat) (hi:i<n):∃ b off,q=some ⟨b,off,none⟩∧w.cell? ⟨b,off+i*2,none⟩=some (.int .i64 (qs[i]?.getD (0,0)).1)∧w.cell? ⟨b,off+i*2+1,none⟩=some (.int .i64 (qs[i]?.getD (0,0)).2):=by
 obtain⟨a,cap,e,-,h⟩:=h
 simp only[Value.slice.injEq] at e
 obtain⟨rfl,rfl,-⟩:=e
 rw[List.getElem?_eq_getElem hi]
 exact h i _ (List.getElem?_eq_getElem hi)
end Go.Proofs.YtffghofheeleeaaGreatDoor
