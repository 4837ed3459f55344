/- What the rows of the laws of package cla -/
import Derived.Test.YtloojmaamaambaaGreatDoorRows
import Derived.Test.YtloojmaamaambaaGreatDoorTie
import Derived.Test.YtloojmaamaambaaGreatDoorCards
import Derived.Lib.SmallJoins
import Derived.ProofKit
import Derived.OpenShut
import Derived.LaidMore
import Derived.LaidHandle
import Derived.Stop.Joined
import Derived.SevenTiedAt
import Derived.Deep.SlicePairs
import Derived.Carry
import Derived.Shelf.Vars
import Derived.Test.YtloojmaamaambaaGreatDoorKRKC
import Derived.Test.YtloojmaamaambaaGreatDoorKRKM
namespace Go.Proofs.YtloojmaamaambaaGreatDoor
open Go.ChangeShapes Go.WideShapes Go.ChangeAt Go.RowKit Go.Joins
set_option maxRecDepth 100000
set_option linter.unusedVariables false
theorem own:ownKnob Tryz.prog.godebug=none:=by kernel_rfl
theorem gPow:Tryz.prog.globalNamed "internal/strconv.uint64pow10" = some 3:=by kernel_rfl
theorem tPow:(Tryz.prog.globals[3]?).map (·.type)=some 267:=by kernel_rfl
theorem cells20:Tryz.prog.cellsOf 267 = 20:=by kernel_rfl
theorem cellsQ:Tryz.prog.cellsOf 23 = 2:=by kernel_rfl
theorem cells1:Tryz.prog.cellsOf 26 = 1:=by kernel_rfl
theorem powData:(Rows.laid_internal_strconv_uint64pow10:DataW Unit)=Lib.tabData .u64 Lib.pow10Tab:=by kernel_rfl
theorem laid_out:laidOutB Tryz.prog=true:=by kernel_rfl
theorem cellsI:Tryz.prog.cellsOf 3 = 1:=by kernel_rfl
theorem spot_none {w:World} {a:Addr} {v:Value} (h:w.cell? a=some v):a.spot=none:=by
 unfold World.cell? at h
 cases hs:a.spot with
 | none=>rfl
 | some _ =>
  rw [hs] at h
  cases hb:w.heap[a.block]? with
  | none=>rw [hb] at h;simp at h
  | some o=>rw [hb] at h;cases o <;> simp at h
theorem add_none (a:Addr) (k:Nat) (h:(a.add k).spot=none):a.add k=⟨a.block,a.off+k,none⟩∧(0<k∨a.spot=none):=by
 unfold Addr.add at *
 split at h
 ·rename_i hk
  subst hk
  refine ⟨?_,.inr h⟩
  rw [if_pos rfl]
  cases a
  simp only at h
  subst h
  rfl
 ·rename_i hk
  exact ⟨by rw [if_neg hk],.inl (by omega)⟩
theorem pairs_in {H:Type} {enc:TypeId × Value→H} {W:World} {v:Value} {d:DataW H} {ps:List MemPlace} (hval:Value.okWide Tryz.prog W .any 0 24 v) (h:DataW.Trod enc Tryz.prog W 0 (fun _=>true) true 24 v d ps) :
  ∃ qs:List (Int × Int),QsAt W v qs∧(∀ q ∈ qs,Fits q)∧∀ x ∈ ps,x.block<W.heap.size:=by
 obtain ⟨a,len,cap,rfl⟩:=okWide_slice Tryz.underlying24 hval
 obtain ⟨fuel,hf⟩:=h
 rcases Deep.open_slice_pairs Tryz.underlying24 Tryz.underlying23 cellsQ rfl rfl cellsI cellsI hf with ⟨hc,hx⟩ | ⟨b,len',cap',m,k,V0,V1,D0,D1,P0,P1,hc,-,hl,hm,hmm,hx,hall⟩
 ·have hc':[Value.slice a len cap]=[.slice none 0 0]:=hc
  simp only [List.cons.injEq,Value.slice.injEq,and_true] at hc'
  obtain ⟨rfl,rfl,rfl⟩:=hc'
  have:ps=[]:=(Prod.mk.inj hx).2
  subst this
  exact ⟨[],⟨none,0,rfl,Nat.le_refl _,fun i q hq=>by simp at hq⟩,fun q hq=>by simp at hq,fun x hx=>by simp at hx⟩
 ·have hc':[Value.slice a len cap]=[.slice (some b) len' cap']:=hc
  simp only [List.cons.injEq,Value.slice.injEq,and_true] at hc'
  obtain ⟨rfl,rfl,rfl⟩:=hc'
  have hlm:len≤m:=by rw [hmm];simpa using hl
  have each:∀ i,i<m→∃ q:Int × Int,Fits q∧W.cell? ⟨b.block,b.off+i*2,none⟩=some (.int .i64 q.1)∧W.cell? ⟨b.block,b.off+i*2+1,none⟩=some (.int .i64 q.2)∧P0 i=[]∧P1 i=[]:=fun i hi=>by
   obtain ⟨c0,c1,t0,t1⟩:=hall i hi
   obtain ⟨x,e1,e2,w1⟩:=DataW.trod_int Tryz.underlying3 t0
   obtain ⟨y,f1,f2,w2⟩:=DataW.trod_int Tryz.underlying3 t1
   simp only [List.cons.injEq,and_true] at e1 f1
   rw [(add_none b _ (spot_none c0)).1,e1] at c0
   rw [(add_none b _ (spot_none c1)).1,f1] at c1
   have Bx:=bounds_i64 w1
   have By:=bounds_i64 w2
   exact ⟨(x,y),⟨by omega,by omega,by omega,by omega⟩,c0,c1,(Prod.mk.inj e2).2,(Prod.mk.inj f2).2⟩
  have hspot:0<m→b.spot=none:=fun h0=>by
   obtain ⟨c0,-⟩:=hall 0 h0
   have:=(add_none b _ (spot_none c0)).2
   simpa using this
  obtain ⟨q,hq⟩:=Classical.axiomOfChoice (fun i:Nat=>(by
   by_cases hi:i<m
   ·obtain ⟨q,h⟩:=each i hi
    exact ⟨q,fun _=>h⟩
   ·exact ⟨(0,0),fun h=>absurd h hi⟩:∃ q:Int × Int,i<m→Fits q∧W.cell? ⟨b.block,b.off+i*2,none⟩=some (.int .i64 q.1)∧W.cell? ⟨b.block,b.off+i*2+1,none⟩=some (.int .i64 q.2)∧P0 i=[]∧P1 i=[]))
  refine ⟨(List.range len).map q,⟨some b,cap,by simp,by simpa using hl,fun i z hz=>?_⟩,fun z hz=>?_,fun x hx'=>?_⟩
  ·rw [List.getElem?_map] at hz
   by_cases hi:i<len
   ·rw [List.getElem?_range hi,Option.map_some] at hz
    obtain rfl:=Option.some.inj hz
    have hs:=hspot (by omega)
    refine ⟨b.block,b.off,?_,(hq i (by omega)).2.1,(hq i (by omega)).2.2.1⟩
    cases b
    simp only at hs
    subst hs
    rfl
   ·rw [List.getElem?_eq_none (by simpa using hi)] at hz
    simp at hz
  ·obtain ⟨i,hi,rfl⟩:=List.mem_map.1 hz
   exact (hq i (by have:=List.mem_range.1 hi;omega)).1
  ·have hps:ps=MemPlace.row b (m*2)++(List.range m).flatMap fun i=>P0 i++P1 i:=(Prod.mk.inj hx).2
   rw [hps] at hx'
   have hfl:((List.range m).flatMap fun i=>P0 i++P1 i)=[]:=by
    rw [List.flatMap_eq_nil_iff]
    intro i hi
    have h:=hq i (List.mem_range.1 hi)
    rw [h.2.2.2.1,h.2.2.2.2]
    rfl
   rw [hfl,List.append_nil] at hx'
   rcases Nat.eq_zero_or_pos m with h0 | h0
   ·subst h0
    simp [MemPlace.row] at hx'
   ·have hb:b.block<W.heap.size:=by
     have h:=lt_of_cell (hq 0 h0).2.1
     exact h
    have:x.block=b.block:=by
     unfold MemPlace.row at hx'
     obtain ⟨i,-,rfl⟩:=List.mem_map.1 hx'
     rfl
    omega
theorem max_some {w:World} (h:w.ShapedOpen Tryz.prog):∃ m,w.cell? ⟨4,0,none⟩=some (.int .i64 m):=by
 have hs:Tryz.prog.globals.size=7:=by kernel_rfl
 have hg : 4 < Tryz.prog.globals.size:=by rw [hs];decide
 have h0:((begin Tryz.prog (fun _ _=>0) default).world.heap[4]?).bind Obj.row? = some (#[.int .i64 0],3):=by kernel_rfl
 have hb:Tryz.prog.buildable 3 = true:=by kernel_rfl
 have hc:Tryz.prog.cellTypes Tryz.prog.depth 3 = some [3]:=by kernel_rfl
 have hu:Tryz.prog.underlying 3 = some (.int .i64):=by kernel_rfl
 exact cell_of_shapedOpen_int h hg h0 rfl hb hc hu
theorem returns_shape {H:Type} {enc:TypeId × Value→H} {C:Checked} (own:ownKnob C.prog.godebug=none) {os:Os} {f:FuncId} {fn:Func} {s:ChangeSpec} {X:World→Array Value→Prop} (hX:∀ (w w':World) (args:Array Value),w.heap=w'.heap→X w args→X w' args) (started:os.Started) (noInit:C.prog.inits.idxOf? f=none) (hfn:C.prog.funcs[f]? = some fn)
  (wit:∃ (w:World) (tape:Tape) (i:Input),w.os=os∧(w.forCall tape i).Shaped C.prog∧i.vars=[]∧Input.okWide C.prog (w.forCall tape i) .any w.heap.size f i∧((s.pre enc C.prog fn [] false (w.forCall tape i).memory i.args∧X (w.forCall tape i).memory i.args)∧sizedMet enc C.prog fn (OpenSpec.ofChange s) false (w.forCall tape i).memory i.args)∧Assume.holds {} C.prog (lone (Frame.enter C.prog f i.args .normal) [] (w.forCall tape i)))
  (body:∀ (W:World) (base:Nat) (args:Array Value) (ds gs:List (DataW H)) (before:List MemPlace),(∀ (j:Nat) t v,fn.params[j]? = some t→args[j]? = some v→Value.okWide C.prog W .any base t v)→DataW.Whole enc C.prog fn.params.toList s.vars false W args.toList ds gs before→X W args→W.ShapedOpen C.prog →
   Calls C.prog f args W fun e W'=>∃ v,e=.returned v∧s.post enc C.prog fn false true false false W args v W') :
  ReturnsInHanded {} C os f .any (fun w args=>(s.pre enc C.prog fn [] false w args∧X w args)∧sizedMet enc C.prog fn (OpenSpec.ofChange s) false w args) (s.post enc C.prog fn false true false false) :=
 returnsInHanded_of_calls own started noInit wit fun w tape i _ hsh _ hok hpre _=>by
  obtain ⟨-,-,-,fn',hfn',-,-,-,-,hval⟩:=hok
  obtain rfl:fn'=fn:=Option.some.inj (hfn'.symm.trans hfn)
  obtain ⟨⟨⟨ds,gs,before,hw,-⟩,hx⟩,-⟩:=hpre
  exact (body _ w.heap.size i.args ds gs before hval (DataW.Whole.of_heap (w':=w.forCall tape i) (by rfl) hw) (hX _ _ _ (by rfl) hx) hsh).mono fun e W' ⟨v,he,hp⟩=>by
   subst he
   exact ChangeSpec.post_blind hp
end Go.Proofs.YtloojmaamaambaaGreatDoor

namespace Go.Proofs.YtloojmaamaambaaGreatDoor
open Go.RowKit
set_option maxHeartbeats 8000000
set_option maxRecDepth 100000
theorem run_subI (a:Act) (w:World) (d t0 t1:Nat) (u:TypeId) (ps:String) (ed:Array Edge) (gd:Option (Nat × Bool)) (z0 z1:Value) (h0:a.eval (.tmp t0)=z0) (h1:a.eval (.tmp t1)=z1) :
  (execOp a.eval { dst:=some d,op:=Op.call { callee:=Callee.value (Operand.func 74),args:=#[Operand.tmp t0,Operand.tmp t1],argTypes:=#[29,29] },type:=u,pos:=ps,after:=ed,guard:=gd }).run Tryz.prog w=.ok (.enter 74 #[z0,z1]) w:=by
 unfold execOp
 go_simp
 rw [← h0,← h1]
 simp [Act.eval]
theorem run_excessI (a:Act) (w:World) (d t0 t1:Nat) (u:TypeId) (ps:String) (ed:Array Edge) (gd:Option (Nat × Bool)) (z0 z1:Value) (h0:a.eval (.tmp t0)=z0) (h1:a.eval (.tmp t1)=z1) :
  (execOp a.eval { dst:=some d,op:=Op.call { callee:=Callee.value (Operand.func 95),args:=#[Operand.tmp t0,Operand.tmp t1],argTypes:=#[3,38] },type:=u,pos:=ps,after:=ed,guard:=gd }).run Tryz.prog w=.ok (.enter 95 #[z0,z1]) w:=by
 unfold execOp
 go_simp
 rw [← h0,← h1]
 simp [Act.eval]
theorem run_safeI (a:Act) (w:World) (d t0 t1 t2:Nat) (u:TypeId) (ps:String) (ed:Array Edge) (gd:Option (Nat × Bool)) (z0 z1 z2:Value) (h0:a.eval (.tmp t0)=z0) (h1:a.eval (.tmp t1)=z1) (h2:a.eval (.tmp t2)=z2) :
  (execOp a.eval { dst:=some d,op:=Op.call { callee:=Callee.value (Operand.func 98),args:=#[Operand.tmp t0,Operand.tmp t1,Operand.tmp t2],argTypes:=#[33,29,29] },type:=u,pos:=ps,after:=ed,guard:=gd }).run Tryz.prog w=.ok (.enter 98 #[z0,z1,z2]) w:=by
 unfold execOp
 go_simp
 rw [← h0,← h1,← h2]
 simp [Act.eval]
theorem run_nilI (a:Act) (w:World) (d:Nat) (u:TypeId) (ps:String) (ed:Array Edge) (gd:Option (Nat × Bool)) :
  (execOp a.eval { dst:=some d,op:=Op.assign (Operand.const Value.nilIface),type:=u,pos:=ps,after:=ed,guard:=gd }).run Tryz.prog w=.ok (.value .nilIface) w:=by
 unfold execOp
 go_simp
def opId0:Oper:={ dst:=some 21,op:=Op.move (Operand.tmp 6),type:=33,pos:= "bound.go:49",after:=#[],guard:=none }
def opId1:Oper:={ dst:=some 22,op:=Op.move (Operand.tmp 0),type:=3,pos:= "bound.go:49",after:=#[],guard:=none }
def opId2:Oper:={ dst:=some 23,op:=Op.move (Operand.tmp 6),type:=33,pos:= "bound.go:49",after:=#[],guard:=none }
def opId3:Oper:={ dst:=some 24,op:=Op.move (Operand.tmp 0),type:=3,pos:= "bound.go:49",after:=#[],guard:=none }
def opId4:Oper:={ dst:=some 25,op:=Op.indexAddr 33 (Operand.tmp 23) (Operand.tmp 24),type:=0,pos:= "bound.go:49",after:=#[⟨2,.data⟩,⟨3,.data⟩],guard:=none }
def opId5:Oper:={ dst:=some 26,op:=Op.load 29 (Operand.tmp 25),type:=29,pos:= "bound.go:49",after:=#[⟨4,.data⟩],guard:=none }
def opId6:Oper:={ dst:=some 27,op:=Op.load 29 (Operand.tmp 5),type:=29,pos:= "bound.go:49",after:=#[],guard:=none }
def opId7:Oper:={ dst:=some 28,op:=Op.call { callee:=Callee.value (Operand.func 74),args:=#[Operand.tmp 26,Operand.tmp 27],argTypes:=#[29,29] },type:=29,pos:= "bound.go:49",after:=#[⟨5,.data⟩,⟨6,.data⟩],guard:=none }
def opId8:Oper:={ dst:=some 29,op:=Op.indexAddr 33 (Operand.tmp 21) (Operand.tmp 22),type:=0,pos:= "bound.go:49",after:=#[⟨0,.data⟩,⟨1,.data⟩,⟨0,.phase⟩,⟨1,.phase⟩,⟨2,.phase⟩,⟨3,.phase⟩,⟨4,.phase⟩,⟨5,.phase⟩,⟨6,.phase⟩,⟨7,.phase⟩],guard:=none }
def opId9:Oper:={ dst:=none,op:=Op.store 29 (Operand.tmp 29) (Operand.tmp 28),type:=0,pos:= "bound.go:49",after:=#[⟨8,.data⟩,⟨7,.data⟩,⟨7,.chain⟩,⟨0,.phase⟩,⟨1,.phase⟩,⟨2,.phase⟩,⟨3,.phase⟩,⟨4,.phase⟩,⟨5,.phase⟩,⟨6,.phase⟩,⟨7,.phase⟩],guard:=none }
def opIds:Array Oper:=#[opId0,opId1,opId2,opId3,opId4,opId5,opId6,opId7,opId8,opId9]
def opIdT (i:Nat):Nat:=match i with
 | 0=>21
 | 1=>22
 | 2=>23
 | 3=>24
 | 4=>25
 | 5=>26
 | 6=>27
 | 7=>28
 | _=>29
def opIdC (gb:Nat) (go:Nat) (off:Nat) (N:Nat) (cp:Nat) (ka:Nat) (s1:Bool) (x1:Int) (y1:Int) (p1:Option Addr) (s2:Bool) (x2:Int) (y2:Int) (p2:Option Addr) (f1:Rat) (f2:Rat) (i:Nat) (w:World) (v:Value):Prop:=match i with
 | 0=>v=.slice (some ⟨gb,off,none⟩) N cp
 | 1=>v=.int .i64 (ka:Int)
 | 2=>v=.slice (some ⟨gb,off,none⟩) N cp
 | 3=>v=.int .i64 (ka:Int)
 | 4=>v=.pointer (some ⟨gb,go,none⟩)
 | 5=>v=.agg #[.bool s1,.int .u64 x1,.int .u64 y1,.pointer p1]
 | 6=>v=.agg #[.bool s2,.int .u64 x2,.int .u64 y2,.pointer p2]
 | 7=>FracAt w v (f1-f2)
 | _=>v=.pointer (some ⟨gb,go,none⟩)
theorem opIdC_but {gb:Nat} {go:Nat} {off:Nat} {N:Nat} {cp:Nat} {ka:Nat} {s1:Bool} {x1:Int} {y1:Int} {p1:Option Addr} {s2:Bool} {x2:Int} {y2:Int} {p2:Option Addr} {f1:Rat} {f2:Rat} {i:Nat} {w w':World} {v:Value} (h:opIdC gb go off N cp ka s1 x1 y1 p1 s2 x2 y2 p2 f1 f2 i w v) (hi:i<9) (hb:But [] w w'):opIdC gb go off N cp ka s1 x1 y1 p1 s2 x2 y2 p2 f1 f2 i w' v:=by
 have:i=0∨i=1∨i=2∨i=3∨i=4∨i=5∨i=6∨i=7∨i=8:=by omega
 rcases this with rfl | rfl | rfl | rfl | rfl | rfl | rfl | rfl | rfl
 all_goals first | exact h | exact FracAt.but h hb | exact FracsAt.but h hb
theorem opIdT_inj:∀ i j,i<9→j<9→opIdT i=opIdT j→i=j:=fun i j hi hj=>(by decide:∀ i,i<9→∀ j,j<9→opIdT i=opIdT j→i=j) i hi j hj
theorem excess_region4 (id:Nat) (Q:Exit→Act→World→Prop) (base:Act) (W0:World) (gb:Nat) (go:Nat) (off:Nat) (N:Nat) (cp:Nat) (ka:Nat) (s1:Bool) (x1:Int) (y1:Int) (p1:Option Addr) (s2:Bool) (x2:Int) (y2:Int) (p2:Option Addr) (f1:Rat) (f2:Rat) (g7:Nat) {sb:Bool} {xb yb:Int} {pb:Option Addr} (hs:29<base.tmps.size) (cb:P4o W0 gb go sb xb yb pb) (fzb:∀ j,W0.frozen? ⟨gb,j,none⟩=false) (e1:base.eval (.tmp 6)=.slice (some ⟨gb,off,none⟩) N cp) (e6:base.eval (.tmp 0)=.int .i64 (ka:Int)) (e7:base.eval (.tmp 5)=.pointer (some ⟨g7,0,none⟩))
  (hgo:go=off+ka*4) (hka:ka<N) (hN2:N<1000000) (c1:P4o W0 gb go s1 x1 y1 p1) (c2:P4 W0 g7 s2 x2 y2 p2)
  (SU:∀ w,But [] W0 w→Calls Tryz.prog 74 #[.agg #[.bool s1,.int .u64 x1,.int .u64 y1,.pointer p1],.agg #[.bool s2,.int .u64 x2,.int .u64 y2,.pointer p2]] w fun e w'=>∃ v,e=.returned v∧FracAt w' v (f1-f2)∧But [] w w')
  (hQ:∀ w1 s' x' y' p',But [] W0 w1→FracAt w1 (.agg #[.bool s',.int .u64 x',.int .u64 y',.pointer p']) (f1-f2)→Q .normal (putted base [(21,.slice (some ⟨gb,off,none⟩) N cp),(22,.int .i64 (ka:Int)),(23,.slice (some ⟨gb,off,none⟩) N cp),(24,.int .i64 (ka:Int)),(25,.pointer (some ⟨gb,go,none⟩)),(26,.agg #[.bool s1,.int .u64 x1,.int .u64 y1,.pointer p1]),(27,.agg #[.bool s2,.int .u64 x2,.int .u64 y2,.pointer p2]),(28,(.agg #[.bool s',.int .u64 x',.int .u64 y',.pointer p'])),(29,.pointer (some ⟨gb,go,none⟩))]) (w1.setCells gb go [.bool s',.int .u64 x',.int .u64 y',.pointer p'])) :
  (Code.region id opIds true).wp Tryz.prog Q base W0:=by
 have hdr:∀ {w},But [] W0.drew w→But [] W0 w:=fun h=>(But.refl _ _).drew.trans' h
 have lgb:gb<W0.heap.size:=lt_of_cell cb.1
 have hT:∀ i,i<9→opIdT i<base.tmps.size:=fun i hi=>by
  have h:opIdT i≤29:=by revert i;decide
  omega
 refine region_flow (by kernel_rfl) (low_of (by kernel_rfl)) (fun i o ho=>(calm_of (ops:=opIds) (by kernel_rfl) i o ho).1)
  (fun _ w=>But [] W0.drew w) (opIdC gb go off N cp ka s1 x1 y1 p1 s2 x2 y2 p2 f1 f2) opIdT 9 rfl opIdT_inj hT (But.refl _ _)
  (fun i hi=>?_) ?_ (fun a w=>∃ w1 s' x' y' p',a=putted base [(21,.slice (some ⟨gb,off,none⟩) N cp),(22,.int .i64 (ka:Int)),(23,.slice (some ⟨gb,off,none⟩) N cp),(24,.int .i64 (ka:Int)),(25,.pointer (some ⟨gb,go,none⟩)),(26,.agg #[.bool s1,.int .u64 x1,.int .u64 y1,.pointer p1]),(27,.agg #[.bool s2,.int .u64 x2,.int .u64 y2,.pointer p2]),(28,(.agg #[.bool s',.int .u64 x',.int .u64 y',.pointer p'])),(29,.pointer (some ⟨gb,go,none⟩))]∧w=w1.setCells gb go [.bool s',.int .u64 x',.int .u64 y',.pointer p']∧But [] W0 w1∧FracAt w1 (.agg #[.bool s',.int .u64 x',.int .u64 y',.pointer p']) (f1-f2)) ?_ ?_
 ·exact dep_of (ops:=opIds) (ps:=[(9,0),(9,1),(9,2),(9,3),(9,4),(9,5),(9,6),(9,7),(9,8)]) (by kernel_rfl) 9 i (by
   have:i=0∨i=1∨i=2∨i=3∨i=4∨i=5∨i=6∨i=7∨i=8:=by omega
   rcases this with rfl | rfl | rfl | rfl | rfl | rfl | rfl | rfl | rfl <;> simp)
 ·intro dn i o a w K hi ho hdi hH he hdep hK
  have hD:=fun j hj=>(dep_have (ps:=[(4,2),(4,3),(5,4),(7,5),(7,6),(8,0),(8,1),(8,2),(8,3),(8,4),(8,5),(8,6),(8,7)]) (by kernel_rfl) ho (fun j=>dn j=true∧opIdC gb go off N cp ka s1 x1 y1 p1 s2 x2 y2 p2 f1 f2 j w (a.eval (.tmp (opIdT j)))) hdep j hj).2
  have hk:∀ v w',But [] w w'→opIdC gb go off N cp ka s1 x1 y1 p1 s2 x2 y2 p2 f1 f2 i w' v→K (a.put (some (opIdT i)) v) w':=fun v w' hb hv=>hK v w' (hH.trans' hb) (fun j hj _ u hu=>opIdC_but hu hj hb) hv
  have e1':=(he 6 (fun j hj e=>absurd e.symm (by revert j;decide))).trans e1
  have e6':=(he 0 (fun j hj e=>absurd e.symm (by revert j;decide))).trans e6
  have e7':=(he 5 (fun j hj e=>absurd e.symm (by revert j;decide))).trans e7
  have:i=0∨i=1∨i=2∨i=3∨i=4∨i=5∨i=6∨i=7∨i=8:=by omega
  rcases this with rfl | rfl | rfl | rfl | rfl | rfl | rfl | rfl | rfl
  ·obtain rfl:=Option.some.inj ((show opIds[0]? = some opId0 from rfl).symm.trans ho)
   exact wp_value (run_mvK a w _ _ _ _ _ _ _ e1') (hk _ _ (But.refl _ _) rfl)
  ·obtain rfl:=Option.some.inj ((show opIds[1]? = some opId1 from rfl).symm.trans ho)
   exact wp_value (run_mvK a w _ _ _ _ _ _ _ e6') (hk _ _ (But.refl _ _) rfl)
  ·obtain rfl:=Option.some.inj ((show opIds[2]? = some opId2 from rfl).symm.trans ho)
   exact wp_value (run_mvK a w _ _ _ _ _ _ _ e1') (hk _ _ (But.refl _ _) rfl)
  ·obtain rfl:=Option.some.inj ((show opIds[3]? = some opId3 from rfl).symm.trans ho)
   exact wp_value (run_mvK a w _ _ _ _ _ _ _ e6') (hk _ _ (But.refl _ _) rfl)
  ·obtain rfl:=Option.some.inj ((show opIds[4]? = some opId4 from rfl).symm.trans ho)
   refine wp_value (run_indexK a w _ _ _ _ _ _ _ gb off N cp ka hka hN2 (hD 2 (by simp)) (hD 3 (by simp))) (hk _ _ (But.refl _ _) ?_)
   show Value.pointer _=Value.pointer _
   rw [hgo]
  ·obtain rfl:=Option.some.inj ((show opIds[5]? = some opId5 from rfl).symm.trans ho)
   exact wp_value (run_loadK a w _ _ _ _ _ _ gb go _ _ _ _ (hD 4 (by simp)) (c1.but (hdr hH) (by simp))) (hk _ _ (But.refl _ _) rfl)
  ·obtain rfl:=Option.some.inj ((show opIds[6]? = some opId6 from rfl).symm.trans ho)
   exact wp_value (run_loadK a w _ _ _ _ _ _ g7 0 _ _ _ _ e7' (c2.but (hdr hH) (by simp))) (hk _ _ (But.refl _ _) rfl)
  ·obtain rfl:=Option.some.inj ((show opIds[7]? = some opId7 from rfl).symm.trans ho)
   exact wp_enter (run_subI a w _ _ _ _ _ _ _ _ _ (hD 5 (by simp)) (hD 6 (by simp))) (R:=fun w' v=>FracAt w' v (f1-f2)∧But [] w w') (SU w (hdr hH)) (fun v w' hv=>hk v w' hv.2 hv.1)
  ·obtain rfl:=Option.some.inj ((show opIds[8]? = some opId8 from rfl).symm.trans ho)
   refine wp_value (run_indexK a w _ _ _ _ _ _ _ gb off N cp ka hka hN2 (hD 0 (by simp)) (hD 1 (by simp))) (hk _ _ (But.refl _ _) ?_)
   show Value.pointer _=Value.pointer _
   rw [hgo]
 ·intro dn o a w K ho hall h hK
  obtain rfl:=Option.some.inj ((show opIds[9]? = some opId9 from rfl).symm.trans ho)
  have eb':a.eval (.tmp 29)=.pointer (some ⟨gb,go,none⟩):=h.has 8 (by omega) (hall 8 (by omega))
  have cl:FracAt w (a.eval (.tmp 28)) (f1-f2):=h.has 7 (by omega) (hall 7 (by omega))
  have cl':=cl
  obtain ⟨x',y',p',ev,-⟩:=cl.agg
  rw [ev] at cl'
  have ea:=h.puts hT (fun i=>match i with
   | 0=>.slice (some ⟨gb,off,none⟩) N cp
   | 1=>.int .i64 (ka:Int)
   | 2=>.slice (some ⟨gb,off,none⟩) N cp
   | 3=>.int .i64 (ka:Int)
   | 4=>.pointer (some ⟨gb,go,none⟩)
   | 5=>.agg #[.bool s1,.int .u64 x1,.int .u64 y1,.pointer p1]
   | 6=>.agg #[.bool s2,.int .u64 x2,.int .u64 y2,.pointer p2]
   | 7=>.agg #[.bool (decide ((f1-f2).num<0)),.int .u64 x',.int .u64 y',.pointer p']
   | _=>.pointer (some ⟨gb,go,none⟩)) (fun i hi=>by
   have hc:=h.has i hi (hall i hi)
   have:i=0∨i=1∨i=2∨i=3∨i=4∨i=5∨i=6∨i=7∨i=8:=by omega
   rcases this with rfl | rfl | rfl | rfl | rfl | rfl | rfl | rfl | rfl
   all_goals first | exact ev | exact hc | rfl)
  exact wp_skipped (run_store4o a w _ _ _ _ _ gb go _ x' y' p' eb' ev (cb.but (hdr h.mem) (by simp)) (fun j=>((hdr h.mem).frozen (p:=⟨gb,j,none⟩) lgb (by simp)).trans (fzb j))) (hK _ _ ⟨w,_,x',y',p',ea,rfl,hdr h.mem,cl'⟩)
 ·rintro a w ⟨w1,s',x',y',p',rfl,rfl,h1,h2⟩
  exact hQ  w1 s' x' y' p' h1 h2
def opIe0:Oper:={ dst:=some 17,op:=Op.load 29 (Operand.tmp 5),type:=29,pos:= "bound.go:21",after:=#[],guard:=none }
def opIe1:Oper:={ dst:=some 18,op:=Op.call { callee:=Callee.value (Operand.func 27),args:=#[Operand.const (Value.int IntKind.i64 1)],argTypes:=#[3] },type:=29,pos:= "bound.go:21",after:=#[],guard:=none }
def opIe2:Oper:={ dst:=some 19,op:=Op.call { callee:=Callee.value (Operand.func 25),args:=#[Operand.tmp 17,Operand.tmp 18],argTypes:=#[29,29] },type:=3,pos:= "bound.go:21",after:=#[⟨0,.data⟩,⟨1,.data⟩,⟨1,.chain⟩],guard:=none }
def opIe3:Oper:={ dst:=some 20,op:=Op.binOp BinOp.lss 3 (Operand.tmp 19) (Operand.const (Value.int IntKind.i64 0)) 3,type:=4,pos:= "bound.go:21",after:=#[⟨2,.data⟩],guard:=none }
def opIes:Array Oper:=#[opIe0,opIe1,opIe2,opIe3]
def opIeT (i:Nat):Nat:=match i with
 | 0=>17
 | 1=>18
 | 2=>19
 | _=>20
def opIeC (s1:Bool) (x1:Int) (y1:Int) (p1:Option Addr) (ws:Bool) (wx:Int) (r:Int) (i:Nat) (_w:World) (v:Value):Prop:=match i with
 | 0=>v=.agg #[.bool s1,.int .u64 x1,.int .u64 y1,.pointer p1]
 | 1=>v=.agg #[.bool ws,.int .u64 wx,.int .u64 0,.pointer none]
 | 2=>v=.int .i64 r
 | _=>v=.bool (decide (r<0))
theorem opIeC_but {s1:Bool} {x1:Int} {y1:Int} {p1:Option Addr} {ws:Bool} {wx:Int} {r:Int} {i:Nat} {w w':World} {v:Value} (h:opIeC s1 x1 y1 p1 ws wx r i w v) (hi:i<4) (_hb:But [] w w'):opIeC s1 x1 y1 p1 ws wx r i w' v:=by
 have:i=0∨i=1∨i=2∨i=3:=by omega
 rcases this with rfl | rfl | rfl | rfl
 all_goals first | exact h | exact FracAt.but h hb | exact FracsAt.but h hb
theorem opIeT_inj:∀ i j,i<4→j<4→opIeT i=opIeT j→i=j:=fun i j hi hj=>(by decide:∀ i,i<4→∀ j,j<4→opIeT i=opIeT j→i=j) i hi j hj
theorem safe_regionA (id:Nat) (Q:Exit→Act→World→Prop) (base:Act) (W0:World) (s1:Bool) (x1:Int) (y1:Int) (p1:Option Addr) (ws:Bool) (wx:Int) (r:Int) (hs:20<base.tmps.size) (g5:Nat) (e5:base.eval (.tmp 5)=.pointer (some ⟨g5,0,none⟩))
  (c1:P4 W0 g5 s1 x1 y1 p1)
  (WH:∀ w,Calls Tryz.prog 27 #[.int .i64 1] w fun e w'=>e=.returned (.agg #[.bool ws,.int .u64 wx,.int .u64 0,.pointer none])∧But [] w w')
  (CM:∀ w,But [] W0 w→Calls Tryz.prog 25 #[.agg #[.bool s1,.int .u64 x1,.int .u64 y1,.pointer p1],.agg #[.bool ws,.int .u64 wx,.int .u64 0,.pointer none]] w fun e w'=>e=.returned (.int .i64 r)∧But [] w w')
  (hQ:∀ w,But [] W0 w→Q .normal (putted base [(17,.agg #[.bool s1,.int .u64 x1,.int .u64 y1,.pointer p1]),(18,.agg #[.bool ws,.int .u64 wx,.int .u64 0,.pointer none]),(19,.int .i64 r),(20,.bool (decide (r<0)))]) w) :
  (Code.region id opIes true).wp Tryz.prog Q base W0:=by
 have hdr:∀ {w},But [] W0.drew w→But [] W0 w:=fun h=>(But.refl _ _).drew.trans' h
 have hT:∀ i,i<4→opIeT i<base.tmps.size:=fun i hi=>by
  have h:opIeT i≤20:=by revert i;decide
  omega
 refine region_go (by kernel_rfl) (low_of (by kernel_rfl)) (opIeC s1 x1 y1 p1 ws wx r) opIeT (by kernel_rfl) ?_ opIeT_inj hT (fun i w w' v hi h hb=>opIeC_but h hi hb) ?_ ?_
 ·intro i o j want ho hg w v hv
  have hi:i<4:=(Array.getElem?_eq_some_iff.1 ho).1
  have:i=0∨i=1∨i=2∨i=3:=by omega
  rcases this with rfl | rfl | rfl | rfl
  ·obtain rfl:=Option.some.inj ((show opIes[0]? = some opIe0 from rfl).symm.trans ho)
   exact absurd (show (none:Option (Nat × Bool))=some (j,want) from hg) (by simp)
  ·obtain rfl:=Option.some.inj ((show opIes[1]? = some opIe1 from rfl).symm.trans ho)
   exact absurd (show (none:Option (Nat × Bool))=some (j,want) from hg) (by simp)
  ·obtain rfl:=Option.some.inj ((show opIes[2]? = some opIe2 from rfl).symm.trans ho)
   exact absurd (show (none:Option (Nat × Bool))=some (j,want) from hg) (by simp)
  ·obtain rfl:=Option.some.inj ((show opIes[3]? = some opIe3 from rfl).symm.trans ho)
   exact absurd (show (none:Option (Nat × Bool))=some (j,want) from hg) (by simp)
 ·intro i o a w K ho hH he hdep hk
  have hi:i<4:=(Array.getElem?_eq_some_iff.1 ho).1
  have hD:=dep_have (ps:=[(2,0),(2,1),(3,2)]) (by kernel_rfl) ho (fun j=>opIeC s1 x1 y1 p1 ws wx r j w (a.eval (.tmp (opIeT j)))) hdep
  have e5':=(he 5 (fun j hj e=>absurd e.symm (by revert j;decide))).trans e5
  have:i=0∨i=1∨i=2∨i=3:=by omega
  rcases this with rfl | rfl | rfl | rfl
  ·obtain rfl:=Option.some.inj ((show opIes[0]? = some opIe0 from rfl).symm.trans ho)
   exact wp_value (run_loadK a w _ _ _ _ _ _ g5 0 _ _ _ _ e5' (c1.but (hdr hH) (by simp))) (hk _ _ (But.refl _ _) rfl)
  ·obtain rfl:=Option.some.inj ((show opIes[1]? = some opIe1 from rfl).symm.trans ho)
   exact wp_enter (run_oneK a w _ _ _ _ _ 1) (R:=fun w' v=>But [] w w'∧v=_) ((WH w).mono fun e w' ⟨he,hb⟩=>⟨_,he,hb,rfl⟩) (fun v w' hv=>hk v w' hv.1 hv.2)
  ·obtain rfl:=Option.some.inj ((show opIes[2]? = some opIe2 from rfl).symm.trans ho)
   exact wp_enter (run_cmpK a w _ _ _ _ _ _ _ _ _ (hD 0 (by simp)) (hD 1 (by simp))) (R:=fun w' v=>But [] w w'∧v=_) ((CM w (hdr hH)).mono fun e w' ⟨he,hb⟩=>⟨_,he,hb,rfl⟩) (fun v w' hv=>hk v w' hv.1 hv.2)
  ·obtain rfl:=Option.some.inj ((show opIes[3]? = some opIe3 from rfl).symm.trans ho)
   exact wp_value (run_lt0K a w _ _ _ _ _ _ _ (hD 2 (by simp))) (hk _ _ (But.refl _ _) rfl)
 ·intro a w h
  have ea:=h.puts hT (fun i=>match i with
   | 0=>.agg #[.bool s1,.int .u64 x1,.int .u64 y1,.pointer p1]
   | 1=>.agg #[.bool ws,.int .u64 wx,.int .u64 0,.pointer none]
   | 2=>.int .i64 r
   | _=>.bool (decide (r<0))) (fun i hi=>by
   have hi':i<4:=hi
   have hc:=h.has i hi rfl
   have:i=0∨i=1∨i=2∨i=3:=by omega
   rcases this with rfl | rfl | rfl | rfl
   all_goals first | exact hc | rfl)
  rw [ea]
  exact hQ w (hdr h.but)
def opIf0:Oper:={ dst:=some 26,op:=Op.move (Operand.tmp 0),type:=3,pos:= "bound.go:25",after:=#[],guard:=none }
def opIf1:Oper:={ dst:=some 27,op:=Op.move (Operand.tmp 1),type:=38,pos:= "bound.go:25",after:=#[],guard:=none }
def opIf2:Oper:={ dst:=some 28,op:=Op.call { callee:=Callee.value (Operand.func 95),args:=#[Operand.tmp 26,Operand.tmp 27],argTypes:=#[3,38] },type:=33,pos:= "bound.go:25",after:=#[⟨0,.data⟩,⟨1,.data⟩],guard:=none }
def opIf3:Oper:={ dst:=some 29,op:=Op.load 29 (Operand.tmp 5),type:=29,pos:= "bound.go:25",after:=#[],guard:=none }
def opIf4:Oper:={ dst:=some 30,op:=Op.load 29 (Operand.tmp 9),type:=29,pos:= "bound.go:25",after:=#[],guard:=none }
def opIf5:Oper:={ dst:=some 31,op:=Op.call { callee:=Callee.value (Operand.func 33),args:=#[Operand.tmp 29,Operand.tmp 30],argTypes:=#[29,29] },type:=29,pos:= "bound.go:25",after:=#[⟨3,.data⟩,⟨4,.data⟩,⟨2,.chain⟩],guard:=none }
def opIf6:Oper:={ dst:=some 32,op:=Op.load 29 (Operand.tmp 9),type:=29,pos:= "bound.go:25",after:=#[],guard:=none }
def opIf7:Oper:={ dst:=some 33,op:=Op.call { callee:=Callee.value (Operand.func 98),args:=#[Operand.tmp 28,Operand.tmp 31,Operand.tmp 32],argTypes:=#[33,29,29] },type:=4,pos:= "bound.go:25",after:=#[⟨2,.data⟩,⟨5,.data⟩,⟨6,.data⟩,⟨5,.chain⟩],guard:=none }
def opIf8:Oper:={ dst:=some 6,op:=Op.assign (Operand.tmp 33),type:=4,pos:= "bound.go:25",after:=#[⟨7,.data⟩,⟨7,.chain⟩,⟨0,.phase⟩,⟨1,.phase⟩,⟨2,.phase⟩,⟨3,.phase⟩,⟨4,.phase⟩,⟨5,.phase⟩,⟨6,.phase⟩,⟨7,.phase⟩],guard:=none }
def opIf9:Oper:={ dst:=some 7,op:=Op.assign (Operand.const Value.nilIface),type:=35,pos:= "bound.go:25",after:=#[⟨8,.chain⟩,⟨0,.phase⟩,⟨1,.phase⟩,⟨2,.phase⟩,⟨3,.phase⟩,⟨4,.phase⟩,⟨5,.phase⟩,⟨6,.phase⟩,⟨7,.phase⟩,⟨8,.phase⟩],guard:=none }
def opIfs:Array Oper:=#[opIf0,opIf1,opIf2,opIf3,opIf4,opIf5,opIf6,opIf7,opIf8,opIf9]
def opIfT (i:Nat):Nat:=match i with
 | 0=>26
 | 1=>27
 | 2=>28
 | 3=>29
 | 4=>30
 | 5=>31
 | 6=>32
 | 7=>33
 | 8=>6
 | _=>7
def opIfC (inc:Int) (vl:Value) (fs:List Rat) (s1:Bool) (x1:Int) (y1:Int) (p1:Option Addr) (s2:Bool) (x2:Int) (y2:Int) (p2:Option Addr) (f1:Rat) (f2:Rat) (q:Bool) (i:Nat) (w:World) (v:Value):Prop:=match i with
 | 0=>v=.int .i64 inc
 | 1=>v=vl
 | 2=>FracsAt w v fs
 | 3=>v=.agg #[.bool s1,.int .u64 x1,.int .u64 y1,.pointer p1]
 | 4=>v=.agg #[.bool s2,.int .u64 x2,.int .u64 y2,.pointer p2]
 | 5=>FracAt w v (f1*f2)
 | 6=>v=.agg #[.bool s2,.int .u64 x2,.int .u64 y2,.pointer p2]
 | 7=>v=.bool q
 | 8=>v=.bool q
 | _=>v=.nilIface
theorem opIfC_but {inc:Int} {vl:Value} {fs:List Rat} {s1:Bool} {x1:Int} {y1:Int} {p1:Option Addr} {s2:Bool} {x2:Int} {y2:Int} {p2:Option Addr} {f1:Rat} {f2:Rat} {q:Bool} {i:Nat} {w w':World} {v:Value} (h:opIfC inc vl fs s1 x1 y1 p1 s2 x2 y2 p2 f1 f2 q i w v) (hi:i<10) (hb:But [] w w'):opIfC inc vl fs s1 x1 y1 p1 s2 x2 y2 p2 f1 f2 q i w' v:=by
 have:i=0∨i=1∨i=2∨i=3∨i=4∨i=5∨i=6∨i=7∨i=8∨i=9:=by omega
 rcases this with rfl | rfl | rfl | rfl | rfl | rfl | rfl | rfl | rfl | rfl
 all_goals first | exact h | exact FracAt.but h hb | exact FracsAt.but h hb
theorem opIfT_inj:∀ i j,i<10→j<10→opIfT i=opIfT j→i=j:=fun i j hi hj=>(by decide:∀ i,i<10→∀ j,j<10→opIfT i=opIfT j→i=j) i hi j hj
theorem safe_regionB (id:Nat) (Q:Exit→Act→World→Prop) (base:Act) (W0:World) (inc:Int) (vl:Value) (fs:List Rat) (s1:Bool) (x1:Int) (y1:Int) (p1:Option Addr) (s2:Bool) (x2:Int) (y2:Int) (p2:Option Addr) (f1:Rat) (f2:Rat) (q:Bool) (hs:33<base.tmps.size) (g5 g9:Nat) (e0:base.eval (.tmp 0)=.int .i64 inc) (e1:base.eval (.tmp 1)=vl) (e5:base.eval (.tmp 5)=.pointer (some ⟨g5,0,none⟩)) (e9:base.eval (.tmp 9)=.pointer (some ⟨g9,0,none⟩))
  (c1:P4 W0 g5 s1 x1 y1 p1) (c2:P4 W0 g9 s2 x2 y2 p2)
  (EX:∀ w,But [] W0 w→Calls Tryz.prog 95 #[.int .i64 inc,vl] w fun e w'=>∃ v,e=.returned v∧FracsAt w' v fs∧But [] w w')
  (MU:∀ w,But [] W0 w→Calls Tryz.prog 33 #[.agg #[.bool s1,.int .u64 x1,.int .u64 y1,.pointer p1],.agg #[.bool s2,.int .u64 x2,.int .u64 y2,.pointer p2]] w fun e w'=>∃ v,e=.returned v∧FracAt w' v (f1*f2)∧But [] w w')
  (SA:∀ w v v',But [] W0 w→FracsAt w v fs→FracAt w v' (f1*f2)→Calls Tryz.prog 98 #[v,v',.agg #[.bool s2,.int .u64 x2,.int .u64 y2,.pointer p2]] w fun e w'=>e=.returned (.bool q)∧But [] w w')
  (hQ:∀ w (v2:Value) (v5:Value),But [] W0 w→Q .normal (putted base [(26,.int .i64 inc),(27,vl),(28,v2),(29,.agg #[.bool s1,.int .u64 x1,.int .u64 y1,.pointer p1]),(30,.agg #[.bool s2,.int .u64 x2,.int .u64 y2,.pointer p2]),(31,v5),(32,.agg #[.bool s2,.int .u64 x2,.int .u64 y2,.pointer p2]),(33,.bool q),(6,.bool q),(7,.nilIface)]) w) :
  (Code.region id opIfs true).wp Tryz.prog Q base W0:=by
 have hdr:∀ {w},But [] W0.drew w→But [] W0 w:=fun h=>(But.refl _ _).drew.trans' h
 have hT:∀ i,i<10→opIfT i<base.tmps.size:=fun i hi=>by
  have h:opIfT i≤33:=by revert i;decide
  omega
 refine region_go (by kernel_rfl) (low_of (by kernel_rfl)) (opIfC inc vl fs s1 x1 y1 p1 s2 x2 y2 p2 f1 f2 q) opIfT (by kernel_rfl) ?_ opIfT_inj hT (fun i w w' v hi h hb=>opIfC_but h hi hb) ?_ ?_
 ·intro i o j want ho hg w v hv
  have hi:i<10:=(Array.getElem?_eq_some_iff.1 ho).1
  have:i=0∨i=1∨i=2∨i=3∨i=4∨i=5∨i=6∨i=7∨i=8∨i=9:=by omega
  rcases this with rfl | rfl | rfl | rfl | rfl | rfl | rfl | rfl | rfl | rfl
  ·obtain rfl:=Option.some.inj ((show opIfs[0]? = some opIf0 from rfl).symm.trans ho)
   exact absurd (show (none:Option (Nat × Bool))=some (j,want) from hg) (by simp)
  ·obtain rfl:=Option.some.inj ((show opIfs[1]? = some opIf1 from rfl).symm.trans ho)
   exact absurd (show (none:Option (Nat × Bool))=some (j,want) from hg) (by simp)
  ·obtain rfl:=Option.some.inj ((show opIfs[2]? = some opIf2 from rfl).symm.trans ho)
   exact absurd (show (none:Option (Nat × Bool))=some (j,want) from hg) (by simp)
  ·obtain rfl:=Option.some.inj ((show opIfs[3]? = some opIf3 from rfl).symm.trans ho)
   exact absurd (show (none:Option (Nat × Bool))=some (j,want) from hg) (by simp)
  ·obtain rfl:=Option.some.inj ((show opIfs[4]? = some opIf4 from rfl).symm.trans ho)
   exact absurd (show (none:Option (Nat × Bool))=some (j,want) from hg) (by simp)
  ·obtain rfl:=Option.some.inj ((show opIfs[5]? = some opIf5 from rfl).symm.trans ho)
   exact absurd (show (none:Option (Nat × Bool))=some (j,want) from hg) (by simp)
  ·obtain rfl:=Option.some.inj ((show opIfs[6]? = some opIf6 from rfl).symm.trans ho)
   exact absurd (show (none:Option (Nat × Bool))=some (j,want) from hg) (by simp)
  ·obtain rfl:=Option.some.inj ((show opIfs[7]? = some opIf7 from rfl).symm.trans ho)
   exact absurd (show (none:Option (Nat × Bool))=some (j,want) from hg) (by simp)
  ·obtain rfl:=Option.some.inj ((show opIfs[8]? = some opIf8 from rfl).symm.trans ho)
   exact absurd (show (none:Option (Nat × Bool))=some (j,want) from hg) (by simp)
  ·obtain rfl:=Option.some.inj ((show opIfs[9]? = some opIf9 from rfl).symm.trans ho)
   exact absurd (show (none:Option (Nat × Bool))=some (j,want) from hg) (by simp)
 ·intro i o a w K ho hH he hdep hk
  have hi:i<10:=(Array.getElem?_eq_some_iff.1 ho).1
  have hD:=dep_have (ps:=[(2,0),(2,1),(5,2),(5,3),(5,4),(7,2),(7,5),(7,6),(8,0),(8,1),(8,2),(8,3),(8,4),(8,5),(8,6),(8,7),(9,0),(9,1),(9,2),(9,3),(9,4),(9,5),(9,6),(9,7),(9,8)]) (by kernel_rfl) ho (fun j=>opIfC inc vl fs s1 x1 y1 p1 s2 x2 y2 p2 f1 f2 q j w (a.eval (.tmp (opIfT j)))) hdep
  have e0':=(he 0 (fun j hj e=>absurd e.symm (by revert j;decide))).trans e0
  have e1':=(he 1 (fun j hj e=>absurd e.symm (by revert j;decide))).trans e1
  have e5':=(he 5 (fun j hj e=>absurd e.symm (by revert j;decide))).trans e5
  have e9':=(he 9 (fun j hj e=>absurd e.symm (by revert j;decide))).trans e9
  have:i=0∨i=1∨i=2∨i=3∨i=4∨i=5∨i=6∨i=7∨i=8∨i=9:=by omega
  rcases this with rfl | rfl | rfl | rfl | rfl | rfl | rfl | rfl | rfl | rfl
  ·obtain rfl:=Option.some.inj ((show opIfs[0]? = some opIf0 from rfl).symm.trans ho)
   exact wp_value (run_mvK a w _ _ _ _ _ _ _ e0') (hk _ _ (But.refl _ _) rfl)
  ·obtain rfl:=Option.some.inj ((show opIfs[1]? = some opIf1 from rfl).symm.trans ho)
   exact wp_value (run_mvK a w _ _ _ _ _ _ _ e1') (hk _ _ (But.refl _ _) rfl)
  ·obtain rfl:=Option.some.inj ((show opIfs[2]? = some opIf2 from rfl).symm.trans ho)
   exact wp_enter (run_excessI a w _ _ _ _ _ _ _ _ _ (hD 0 (by simp)) (hD 1 (by simp))) (R:=fun w' v=>FracsAt w' v fs∧But [] w w') (EX w (hdr hH)) (fun v w' hv=>hk v w' hv.2 hv.1)
  ·obtain rfl:=Option.some.inj ((show opIfs[3]? = some opIf3 from rfl).symm.trans ho)
   exact wp_value (run_loadK a w _ _ _ _ _ _ g5 0 _ _ _ _ e5' (c1.but (hdr hH) (by simp))) (hk _ _ (But.refl _ _) rfl)
  ·obtain rfl:=Option.some.inj ((show opIfs[4]? = some opIf4 from rfl).symm.trans ho)
   exact wp_value (run_loadK a w _ _ _ _ _ _ g9 0 _ _ _ _ e9' (c2.but (hdr hH) (by simp))) (hk _ _ (But.refl _ _) rfl)
  ·obtain rfl:=Option.some.inj ((show opIfs[5]? = some opIf5 from rfl).symm.trans ho)
   exact wp_enter (run_mulK a w _ _ _ _ _ _ _ _ _ (hD 3 (by simp)) (hD 4 (by simp))) (R:=fun w' v=>FracAt w' v (f1*f2)∧But [] w w') (MU w (hdr hH)) (fun v w' hv=>hk v w' hv.2 hv.1)
  ·obtain rfl:=Option.some.inj ((show opIfs[6]? = some opIf6 from rfl).symm.trans ho)
   exact wp_value (run_loadK a w _ _ _ _ _ _ g9 0 _ _ _ _ e9' (c2.but (hdr hH) (by simp))) (hk _ _ (But.refl _ _) rfl)
  ·obtain rfl:=Option.some.inj ((show opIfs[7]? = some opIf7 from rfl).symm.trans ho)
   exact wp_enter (run_safeI a w _ _ _ _ _ _ _ _ _ _ _ rfl rfl (hD 6 (by simp))) (R:=fun w' v=>But [] w w'∧v=_) ((SA w _ _ (hdr hH) (hD 2 (by simp)) (hD 5 (by simp))).mono fun e w' ⟨he,hb⟩=>⟨_,he,hb,rfl⟩) (fun v w' hv=>hk v w' hv.1 hv.2)
  ·obtain rfl:=Option.some.inj ((show opIfs[8]? = some opIf8 from rfl).symm.trans ho)
   exact wp_value (run_asK a w _ _ _ _ _ _ _ (hD 7 (by simp))) (hk _ _ (But.refl _ _) rfl)
  ·obtain rfl:=Option.some.inj ((show opIfs[9]? = some opIf9 from rfl).symm.trans ho)
   exact wp_value (run_nilI a w _ _ _ _ _) (hk _ _ (But.refl _ _) rfl)
 ·intro a w h
  have ea:=h.puts hT (fun i=>match i with
   | 0=>.int .i64 inc
   | 1=>vl
   | 2=>a.eval (.tmp 28)
   | 3=>.agg #[.bool s1,.int .u64 x1,.int .u64 y1,.pointer p1]
   | 4=>.agg #[.bool s2,.int .u64 x2,.int .u64 y2,.pointer p2]
   | 5=>a.eval (.tmp 31)
   | 6=>.agg #[.bool s2,.int .u64 x2,.int .u64 y2,.pointer p2]
   | 7=>.bool q
   | 8=>.bool q
   | _=>.nilIface) (fun i hi=>by
   have hi':i<10:=hi
   have hc:=h.has i hi rfl
   have:i=0∨i=1∨i=2∨i=3∨i=4∨i=5∨i=6∨i=7∨i=8∨i=9:=by omega
   rcases this with rfl | rfl | rfl | rfl | rfl | rfl | rfl | rfl | rfl | rfl
   all_goals first | exact hc | rfl)
  rw [ea]
  exact hQ w (a.eval (.tmp 28)) (a.eval (.tmp 31)) (hdr h.but)
end Go.Proofs.YtloojmaamaambaaGreatDoor
