/- Statements that draw their order, as rui -/
import Derived.Test.YtloojmaamaambaaGreatDoorKRID
namespace Go.Proofs.YtloojmaamaambaaGreatDoor
open Go.RowKit
set_option maxHeartbeats 8000000
set_option maxRecDepth 100000
theorem FracAt.overS {w W:World} {v:Value} {f:Rat} (h:FracAt w v f) {g:Nat} {q:Option Addr} {n c:Nat} (c0:w.cell? ⟨g,0,none⟩=some (.slice q n c)) (c1:w.cell? ⟨g,1,none⟩=none) (hb:But [g] w W):FracAt W v f:=by
 rcases h with h1 | ⟨h1,b,v1,v2,h2,h3,h4,h5,h6⟩
 ·exact .inl h1
 ·have hbg:b≠g:=by
   rintro rfl
   rw [c1] at h4
   simp at h4
  exact .inr ⟨h1,b,v1,v2,h2,hb.cell_some h3 (by simpa using hbg),hb.cell_some h4 (by simpa using hbg),h5.over hb c0 (by simp),h6.over hb c0 (by simp)⟩
theorem FracAt.overN {w W:World} {v:Value} {f:Rat} (h:FracAt w v f) {g:Nat} {i:Int} (c0:w.cell? ⟨g,0,none⟩=some (.int .i64 i)) (hb:But [g] w W):FracAt W v f:=by
 rcases h with h1 | ⟨h1,b,v1,v2,h2,h3,h4,h5,h6⟩
 ·exact .inl h1
 ·have hbg:b≠g:=by
   rintro rfl
   obtain ⟨a,cap,rfl,-⟩:=h5
   rw [c0] at h3
   simp at h3
  exact .inr ⟨h1,b,v1,v2,h2,hb.cell_some h3 (by simpa using hbg),hb.cell_some h4 (by simpa using hbg),h5.over hb c0 (by simp),h6.over hb c0 (by simp)⟩
def RowV (z:Nat) (F:Nat→Rat) (w:World) (v:Value):Prop:=∃ g,v=.slice (some ⟨g,0,none⟩) z z∧RowOf w g z F∧g<w.heap.size
theorem RowV.but {z:Nat} {F:Nat→Rat} {w w':World} {v:Value} (h:RowV z F w v) (hb:But [] w w'):RowV z F w' v:=by
 obtain ⟨g,e,h1,h2⟩:=h
 exact ⟨g,e,h1.but hb h2,Nat.lt_of_lt_of_le h2 hb.size⟩
def CellS (B:Nat) (w:World) (v:Value):Prop:=∃ b q n c,v=.pointer (some ⟨b,0,none⟩)∧B≤b∧w.cell? ⟨b,0,none⟩=some (.slice q n c)∧(b<w.heap.size∧w.cell? ⟨b,1,none⟩=none)∧w.frozen? ⟨b,0,none⟩=false
def CellN (B:Nat) (w:World) (v:Value):Prop:=∃ b i,v=.pointer (some ⟨b,0,none⟩)∧B≤b∧w.cell? ⟨b,0,none⟩=some (.int .i64 i)∧w.frozen? ⟨b,0,none⟩=false
theorem But.cell_none {w w':World} {l:List Nat} (hb:But l w w') {b o:Nat} (hl:b<w.heap.size) (hn:b ∉ l) (h:w.cell? ⟨b,o,none⟩=none):w'.cell? ⟨b,o,none⟩=none:=by
 have e:=hb.block b hl hn
 unfold World.cell? at h ⊢
 rw [e]
 exact h
theorem CellS.but {B:Nat} {w w':World} {v:Value} {l:List Nat} (h:CellS B w v) (hb:But l w w') (hn:∀ b,v=.pointer (some ⟨b,0,none⟩)→b ∉ l):CellS B w' v:=by
 obtain ⟨b,q,n,c,e,h1,h2,⟨h3,h4⟩,h5⟩:=h
 exact ⟨b,q,n,c,e,h1,hb.cell_some h2 (hn b e),⟨Nat.lt_of_lt_of_le h3 hb.size,hb.cell_none h3 (hn b e) h4⟩,(hb.frozen (p:=⟨b,0,none⟩) h3 (hn b e)).trans h5⟩
theorem CellN.but {B:Nat} {w w':World} {v:Value} {l:List Nat} (h:CellN B w v) (hb:But l w w') (hn:∀ b,v=.pointer (some ⟨b,0,none⟩)→b ∉ l):CellN B w' v:=by
 obtain ⟨b,i,e,h1,h2,h5⟩:=h
 exact ⟨b,i,e,h1,hb.cell_some h2 (hn b e),(hb.frozen (p:=⟨b,0,none⟩) (lt_of_cell h2) (hn b e)).trans h5⟩
theorem RowV.overS {z:Nat} {F:Nat→Rat} {w w':World} {v:Value} (h:RowV z F w v) (hz:0<z) {g:Nat} {q:Option Addr} {n c:Nat} (c0:w.cell? ⟨g,0,none⟩=some (.slice q n c)) (c1:w.cell? ⟨g,1,none⟩=none) (hb:But [g] w w'):RowV z F w' v:=by
 obtain ⟨b,e,h1,h2⟩:=h
 have hne:b ∉ [g]:=by
  obtain ⟨s,hs⟩:=h1.bool hz
  intro hh
  simp at hh
  subst hh
  rw [c0] at hs
  simp at hs
 refine ⟨b,e,⟨fun j hj=>?_,fun o=>(hb.frozen (p:=⟨b,o,none⟩) h2 hne).trans (h1.loose o)⟩,Nat.lt_of_lt_of_le h2 hb.size⟩
 obtain ⟨s,x,y,p,hp,hf⟩:=h1.told j hj
 exact ⟨s,x,y,p,hp.but hb hne,hf.overS c0 c1 hb⟩
theorem RowV.overN {z:Nat} {F:Nat→Rat} {w w':World} {v:Value} (h:RowV z F w v) (hz:0<z) {g:Nat} {i:Int} (c0:w.cell? ⟨g,0,none⟩=some (.int .i64 i)) (hb:But [g] w w'):RowV z F w' v:=by
 obtain ⟨b,e,h1,h2⟩:=h
 have hne:b ∉ [g]:=by
  obtain ⟨s,hs⟩:=h1.bool hz
  intro hh
  simp at hh
  subst hh
  rw [c0] at hs
  simp at hs
 refine ⟨b,e,⟨fun j hj=>?_,fun o=>(hb.frozen (p:=⟨b,o,none⟩) h2 hne).trans (h1.loose o)⟩,Nat.lt_of_lt_of_le h2 hb.size⟩
 obtain ⟨s,x,y,p,hp,hf⟩:=h1.told j hj
 exact ⟨s,x,y,p,hp.but hb hne,hf.overN c0 hb⟩
theorem run_ldS (a:Act) (w:World) (d t:Nat) (u:TypeId) (ps:String) (ed:Array Edge) (gd:Option (Nat × Bool)) (b:Nat) (v:Value) (h1:a.eval (.tmp t)=.pointer (some ⟨b,0,none⟩)) (hc:w.cell? ⟨b,0,none⟩=some v) :
  (execOp a.eval { dst:=some d,op:=Op.load 33 (.tmp t),type:=u,pos:=ps,after:=ed,guard:=gd }).run Tryz.prog w=.ok (.value v) w:=by
 unfold execOp
 simp only [h1]
 go_simp
theorem run_ldN (a:Act) (w:World) (d t:Nat) (u:TypeId) (ps:String) (ed:Array Edge) (gd:Option (Nat × Bool)) (b:Nat) (v:Value) (h1:a.eval (.tmp t)=.pointer (some ⟨b,0,none⟩)) (hc:w.cell? ⟨b,0,none⟩=some v) :
  (execOp a.eval { dst:=some d,op:=Op.load 3 (.tmp t),type:=u,pos:=ps,after:=ed,guard:=gd }).run Tryz.prog w=.ok (.value v) w:=by
 unfold execOp
 simp only [h1]
 go_simp
theorem run_stS (a:Act) (w:World) (t1 t2:Nat) (u:TypeId) (ps:String) (ed:Array Edge) (b:Nat) (q:Option Addr) (n c:Nat) (v0:Value) (h1:a.eval (.tmp t1)=.pointer (some ⟨b,0,none⟩)) (h2:a.eval (.tmp t2)=.slice q n c) (hc:w.cell? ⟨b,0,none⟩=some v0) (fz:w.frozen? ⟨b,0,none⟩=false) :
  (execOp a.eval { dst:=none,op:=Op.store 33 (.tmp t1) (.tmp t2),type:=u,pos:=ps,after:=ed,guard:=none }).run Tryz.prog w=.ok .skip (w.setCell ⟨b,0,none⟩ (.slice q n c)):=by
 unfold execOp
 simp only [h1,h2]
 go_simp
theorem run_stN (a:Act) (w:World) (t1 t2:Nat) (u:TypeId) (ps:String) (ed:Array Edge) (b:Nat) (i:Int) (v0:Value) (h1:a.eval (.tmp t1)=.pointer (some ⟨b,0,none⟩)) (h2:a.eval (.tmp t2)=.int .i64 i) (hc:w.cell? ⟨b,0,none⟩=some v0) (fz:w.frozen? ⟨b,0,none⟩=false) :
  (execOp a.eval { dst:=none,op:=Op.store 3 (.tmp t1) (.tmp t2),type:=u,pos:=ps,after:=ed,guard:=none }).run Tryz.prog w=.ok .skip (w.setCell ⟨b,0,none⟩ (.int .i64 i)):=by
 unfold execOp
 simp only [h1,h2]
 go_simp
theorem run_alS (a:Act) (w:World) (d:Nat) (u:TypeId) (ps:String) (ed:Array Edge) :
  (execOp a.eval { dst:=some d,op:=Op.alloc 33,type:=u,pos:=ps,after:=ed,guard:=none }).run Tryz.prog w=.ok (.value (.pointer (some ⟨w.heap.size,0,none⟩))) (w.alloc (.cells #[.slice none 0 0] 33)):=by
 unfold execOp
 go_simp
theorem run_alN (a:Act) (w:World) (d:Nat) (u:TypeId) (ps:String) (ed:Array Edge) :
  (execOp a.eval { dst:=some d,op:=Op.alloc 3,type:=u,pos:=ps,after:=ed,guard:=none }).run Tryz.prog w=.ok (.value (.pointer (some ⟨w.heap.size,0,none⟩))) (w.alloc (.cells #[.int .i64 0] 3)):=by
 unfold execOp
 go_simp
theorem run_shlI (a:Act) (w:World) (d t:Nat) (u:TypeId) (ps:String) (ed:Array Edge) (gd:Option (Nat × Bool)) (k n:Nat) (hk:k≤12) (hn:n=2^k) (h1:a.eval (.tmp t)=.int .i64 (k:Int)) :
  (execOp a.eval { dst:=some d,op:=Op.binOp BinOp.shl 3 (Operand.const (Value.int IntKind.i64 1)) (.tmp t) 3,type:=u,pos:=ps,after:=ed,guard:=gd }).run Tryz.prog w=.ok (.value (.int .i64 (n:Int))) w:=by
 have e:a.eval (.const (.int .i64 1))=.int .i64 1:=rfl
 unfold execOp
 simp only [h1,e]
 subst hn
 have:k=0∨k=1∨k=2∨k=3∨k=4∨k=5∨k=6∨k=7∨k=8∨k=9∨k=10∨k=11∨k=12:=by omega
 rcases this with rfl | rfl | rfl | rfl | rfl | rfl | rfl | rfl | rfl | rfl | rfl | rfl | rfl
 all_goals (go_simp;first | rfl | (rw [IntKind.wrap_i64];omega) | decide)
def opIg0:Oper:={ dst:=some 25,op:=Op.move (Operand.tmp 0),type:=3,pos:= "bound.go:36",after:=#[],guard:=none }
def opIg1:Oper:={ dst:=some 26,op:=Op.move (Operand.tmp 1),type:=38,pos:= "bound.go:36",after:=#[],guard:=none }
def opIg2:Oper:={ dst:=some 27,op:=Op.call { callee:=Callee.value (Operand.func 95),args:=#[Operand.tmp 25,Operand.tmp 26],argTypes:=#[3,38] },type:=33,pos:= "bound.go:36",after:=#[⟨0,.data⟩,⟨1,.data⟩],guard:=none }
def opIg3:Oper:={ dst:=some 28,op:=Op.move (Operand.tmp 2),type:=3,pos:= "bound.go:36",after:=#[{ on:=7,ground:=Ground.gcOnly Departure.lateStores }],guard:=none }
def opIg4:Oper:={ dst:=some 29,op:=Op.binOp BinOp.shl 3 (Operand.const (Value.int IntKind.i64 1)) (Operand.tmp 28) 3,type:=3,pos:= "bound.go:36",after:=#[⟨3,.data⟩,{ on:=7,ground:=Ground.gcOnly Departure.lateStores }],guard:=none }
def opIg5:Oper:={ dst:=some 9,op:=Op.alloc 33,type:=0,pos:= "bound.go:36",after:=#[],guard:=none }
def opIg6:Oper:={ dst:=some 10,op:=Op.alloc 3,type:=0,pos:= "bound.go:36",after:=#[],guard:=none }
def opIg7:Oper:={ dst:=none,op:=Op.store 33 (Operand.tmp 9) (Operand.tmp 27),type:=0,pos:= "bound.go:36",after:=#[⟨5,.data⟩,⟨2,.data⟩,⟨2,.chain⟩,⟨0,.phase⟩,⟨1,.phase⟩,⟨2,.phase⟩,{ on:=3,ground:=Ground.textOnly Departure.lateStores },{ on:=4,ground:=Ground.textOnly Departure.lateStores },⟨5,.phase⟩,⟨6,.phase⟩],guard:=none }
def opIg8:Oper:={ dst:=none,op:=Op.store 3 (Operand.tmp 10) (Operand.tmp 29),type:=0,pos:= "bound.go:36",after:=#[⟨6,.data⟩,⟨4,.data⟩,⟨7,.chain⟩,⟨0,.phase⟩,⟨1,.phase⟩,⟨2,.phase⟩,⟨3,.phase⟩,⟨4,.phase⟩,⟨5,.phase⟩,⟨6,.phase⟩,⟨7,.phase⟩],guard:=none }
def opIgs:Array Oper:=#[opIg0,opIg1,opIg2,opIg3,opIg4,opIg5,opIg6,opIg7,opIg8]
def opIgT (i:Nat):Nat:=match i with
 | 0=>25
 | 1=>26
 | 2=>27
 | 3=>28
 | 4=>29
 | 5=>9
 | 6=>10
 | _=>3
def opIgC (B:Nat) (inc:Int) (vl:Value) (z:Nat) (F:Nat→Rat) (k n:Nat) (i:Nat) (w:World) (v:Value):Prop:=match i with
 | 0=>v=.int .i64 inc
 | 1=>v=vl
 | 2=>RowV z F w v
 | 3=>v=.int .i64 (k:Int)
 | 4=>v=.int .i64 (n:Int)
 | 5=>CellS B w v
 | 6=>CellN B w v
 | _=>True
theorem opIgT_inj:∀ i j,i<8→j<8→opIgT i=opIgT j→i=j:=fun i j hi hj=>(by decide:∀ i,i<8→∀ j,j<8→opIgT i=opIgT j→i=j) i hi j hj
def StS (B z:Nat) (F:Nat→Rat) (w:World) (v:Value):Prop:=∃ b x,v=.pointer (some ⟨b,0,none⟩)∧B≤b∧w.cell? ⟨b,0,none⟩=some x∧RowV z F w x
theorem best_region6 (id:Nat) (Q:Exit→Act→World→Prop) (base:Act) (W0:World) (B:Nat) (inc:Int) (vl:Value) (z:Nat) (F:Nat→Rat) (k n:Nat) (hs:29<base.tmps.size) (hBW:B=W0.heap.size) (hz:0<z) (hk12:k≤12) (hn2:n=2^k)
  (e0:base.eval (.tmp 0)=.int .i64 inc) (e1:base.eval (.tmp 1)=vl) (e2:base.eval (.tmp 2)=.int .i64 (k:Int))
  (EX:∀ w,But [] W0 w→Calls Tryz.prog 95 #[.int .i64 inc,vl] w fun e w'=>∃ v,e=.returned v∧RowV z F w' v∧But [] w w')
  (hQ:∀ w b9 b10 v2 x9 v7,But [] W0 w∧B≤b9∧B≤b10∧w.cell? ⟨b9,0,none⟩=some x9∧w.cell? ⟨b10,0,none⟩=some (.int .i64 (n:Int))∧RowV z F w x9→Q .normal (putted base [(25,.int .i64 inc),(26,vl),(27,v2),(28,.int .i64 (k:Int)),(29,.int .i64 (n:Int)),(9,.pointer (some ⟨b9,0,none⟩)),(10,.pointer (some ⟨b10,0,none⟩)),(3,v7)]) w) :
  (Code.region id opIgs true).wp Tryz.prog Q base W0:=by
 have hdr:∀ {w},But [] W0.drew w→But [] W0 w:=fun h=>(But.refl _ _).drew.trans' h
 have hT:∀ i,i<8→opIgT i<base.tmps.size:=fun i hi=>by
  have h:opIgT i≤29:=by revert i;decide
  omega
 refine region_flow4 (by kernel_rfl) (low_of (by kernel_rfl)) (fun i o ho=>(calm_of (ops:=opIgs) (by kernel_rfl) i o ho).1) (fun w=>But [] W0.drew w) (But.refl _ _) (fun _ _ h hb=>h.trans' hb)
  (opIgC B inc vl z F k n) opIgT 8 7 5 (by omega) (StS B z F) rfl opIgT_inj hT ?_ (fun _ _=>trivial) (fun w w' v h hb=>?_)
  (fun i hi=>?_) (dep_of (ops:=opIgs) (ps:=[(7,5)]) (by kernel_rfl) 7 5 (by simp)) ?_ ?_ (fun a w=>∃ b9 b10 v2 x9 v7,a=putted base [(25,.int .i64 inc),(26,vl),(27,v2),(28,.int .i64 (k:Int)),(29,.int .i64 (n:Int)),(9,.pointer (some ⟨b9,0,none⟩)),(10,.pointer (some ⟨b10,0,none⟩)),(3,v7)]∧But [] W0 w∧B≤b9∧B≤b10∧w.cell? ⟨b9,0,none⟩=some x9∧w.cell? ⟨b10,0,none⟩=some (.int .i64 (n:Int))∧RowV z F w x9) ?_ ?_ (by omega)
 ·intro i w w' v hi h hb
  have:i=0∨i=1∨i=2∨i=3∨i=4∨i=5∨i=6∨i=7:=by omega
  rcases this with rfl | rfl | rfl | rfl | rfl | rfl | rfl | rfl
  ·exact h
  ·exact h
  ·exact RowV.but h hb
  ·exact h
  ·exact h
  ·exact CellS.but h hb (fun _ _=>by simp)
  ·exact CellN.but h hb (fun _ _=>by simp)
  ·trivial
 ·obtain ⟨b,x,h1,h2,h3,h4⟩:=h
  exact ⟨b,x,h1,h2,hb.cell_some h3 (by simp),h4.but hb⟩
 ·exact dep_of (ops:=opIgs) (ps:=[(8,0),(8,1),(8,2),(8,3),(8,4),(8,5),(8,6),(8,7)]) (by kernel_rfl) 8 i (by
   have:i=0∨i=1∨i=2∨i=3∨i=4∨i=5∨i=6∨i=7:=by omega
   rcases this with rfl | rfl | rfl | rfl | rfl | rfl | rfl | rfl <;> simp)
 ·intro i o a w K hi hiq ho hH he hdep hk
  have hD:=dep_have (ps:=[(2,0),(2,1),(4,3)]) (by kernel_rfl) ho (fun j=>opIgC B inc vl z F k n j w (a.eval (.tmp (opIgT j)))) hdep
  have e0':=(he 0 (fun j hj e=>absurd e.symm (by revert j;decide))).trans e0
  have e1':=(he 1 (fun j hj e=>absurd e.symm (by revert j;decide))).trans e1
  have e2':=(he 2 (fun j hj e=>absurd e.symm (by revert j;decide))).trans e2
  have:i=0∨i=1∨i=2∨i=3∨i=4∨i=5∨i=6∨i=7:=by omega
  rcases this with rfl | rfl | rfl | rfl | rfl | rfl | rfl | rfl
  ·obtain rfl:=Option.some.inj ((show opIgs[0]? = some opIg0 from rfl).symm.trans ho)
   exact wp_value (run_mvK a w _ _ _ _ _ _ _ e0') (hk _ _ (But.refl _ _) rfl)
  ·obtain rfl:=Option.some.inj ((show opIgs[1]? = some opIg1 from rfl).symm.trans ho)
   exact wp_value (run_mvK a w _ _ _ _ _ _ _ e1') (hk _ _ (But.refl _ _) rfl)
  ·obtain rfl:=Option.some.inj ((show opIgs[2]? = some opIg2 from rfl).symm.trans ho)
   exact wp_enter (run_excessI a w _ _ _ _ _ _ _ _ _ (hD 0 (by simp)) (hD 1 (by simp))) (R:=fun w' v=>RowV z F w' v∧But [] w w') (EX w (hdr hH)) (fun v w' hv=>hk v w' hv.2 hv.1)
  ·obtain rfl:=Option.some.inj ((show opIgs[3]? = some opIg3 from rfl).symm.trans ho)
   exact wp_value (run_mvK a w _ _ _ _ _ _ _ e2') (hk _ _ (But.refl _ _) rfl)
  ·obtain rfl:=Option.some.inj ((show opIgs[4]? = some opIg4 from rfl).symm.trans ho)
   exact wp_value (run_shlI a w _ _ _ _ _ _ k n hk12 hn2 (hD 3 (by simp))) (hk _ _ (But.refl _ _) rfl)
  ·obtain rfl:=Option.some.inj ((show opIgs[5]? = some opIg5 from rfl).symm.trans ho)
   exact wp_value (run_alS a w _ _ _ _) (hk _ _ ((But.refl _ _).alloc _) ⟨w.heap.size,none,0,0,rfl,by rw [hBW];exact (hdr hH).size,by rw [World.cell?_alloc_new];rfl,⟨by simp,by rw [World.cell?_alloc_new];rfl⟩,by simp⟩)
  ·obtain rfl:=Option.some.inj ((show opIgs[6]? = some opIg6 from rfl).symm.trans ho)
   exact wp_value (run_alN a w _ _ _ _) (hk _ _ ((But.refl _ _).alloc _) ⟨w.heap.size,0,rfl,by rw [hBW];exact (hdr hH).size,by rw [World.cell?_alloc_new];rfl,by simp⟩)
  ·exact absurd rfl hiq
 ·intro o a w K ho hH he hdep hk
  have hD:=dep_have (ps:=[(7,5),(7,2)]) (by kernel_rfl) ho (fun j=>opIgC B inc vl z F k n j w (a.eval (.tmp (opIgT j)))) hdep
  obtain rfl:=Option.some.inj ((show opIgs[7]? = some opIg7 from rfl).symm.trans ho)
  have cl:RowV z F w (a.eval (.tmp 27)):=hD 2 (by simp)
  obtain ⟨b,q,n',c,eb,hb1,hb2,⟨hb3,hb4⟩,hb5⟩:CellS B w (a.eval (.tmp 9)):=hD 5 (by simp)
  have cl2:=cl
  obtain ⟨gg,eg,-,-⟩:=cl2
  have hb:But [b] w (w.setCell ⟨b,0,none⟩ (a.eval (.tmp 27))):=(But.refl [b] w).setCell (.inl (by simp)) _
  have hx:=cl.overS hz hb2 hb4 hb
  have hc1:(w.setCell ⟨b,0,none⟩ (a.eval (.tmp 27))).cell? ⟨b,1,none⟩=none:=by
   rw [World.cell?_setCell_other _ _ _ _ (by simp)]
   exact hb4
  have hrun:=run_stS a w 9 27 0 "bound.go:36" opIg7.after b (some ⟨gg,0,none⟩) z z _ eb eg hb2 hb5
  rw [← eg] at hrun
  refine wp_skipped hrun (hk _ (hH.trans hb (fun x hx=>by simp at hx;subst hx;exact .inr (by rw [hBW] at hb1;exact hb1))) (fun j hj u hu=>?_) ⟨b,_,eb,hb1,World.cell?_setCell_same _ _ _ hb2,hx⟩)
  have:j=0∨j=1∨j=2∨j=3∨j=4∨j=5∨j=6∨j=7:=by omega
  rcases this with rfl | rfl | rfl | rfl | rfl | rfl | rfl | rfl
  ·exact hu
  ·exact hu
  ·exact RowV.overS hu hz hb2 hb4 hb
  ·exact hu
  ·exact hu
  ·obtain ⟨b',q',n'',c',e',h1',h2',⟨h3',h4'⟩,h5'⟩:=hu
   by_cases hbb:b'=b
   ·subst hbb
    refine ⟨b',_,_,_,e',h1',(World.cell?_setCell_same _ _ _ hb2).trans (congrArg some eg),⟨Nat.lt_of_lt_of_le h3' hb.size,hc1⟩,?_⟩
    rw [World.frozen?_setCell]
    exact h5'
   ·exact CellS.but ⟨b',q',n'',c',e',h1',h2',⟨h3',h4'⟩,h5'⟩ hb (fun b2 he2=>by
     have:=e'.symm.trans he2
     simp only [Value.pointer.injEq,Option.some.injEq,Addr.mk.injEq,and_true] at this
     simp
     omega)
  ·obtain ⟨b',i',e',h1',h2',h5'⟩:=hu
   have hbb:b'≠b:=by
    rintro rfl
    rw [hb2] at h2'
    simp at h2'
   exact CellN.but ⟨b',i',e',h1',h2',h5'⟩ hb (fun b2 he2=>by
     have:=e'.symm.trans he2
     simp only [Value.pointer.injEq,Option.some.injEq,Addr.mk.injEq,and_true] at this
     simp
     omega)
  ·trivial
 ·intro dn o a w K ho hall h hst hK
  obtain rfl:=Option.some.inj ((show opIgs[8]? = some opIg8 from rfl).symm.trans ho)
  obtain ⟨b9,x,eb,hb1,hb2,hb3⟩:=hst
  have eb:a.eval (.tmp 9)=.pointer (some ⟨b9,0,none⟩):=eb
  obtain ⟨b10,i0,et,h1,h2,h3⟩:CellN B w (a.eval (.tmp 10)):=h.has 6 (by omega) (hall 6 (by omega))
  have hd:b9≠b10:=by
   rintro rfl
   have hb4:=hb3
   obtain ⟨gg,eg,-,-⟩:=hb4
   rw [hb2,eg] at h2
   simp at h2
  have e29:a.eval (.tmp 29)=.int .i64 (n:Int):=h.has 4 (by omega) (hall 4 (by omega))
  have hb:But [b10] w (w.setCell ⟨b10,0,none⟩ (.int .i64 (n:Int))):=(But.refl [b10] w).setCell (.inl (by simp)) _
  have ea:=h.puts hT (fun i=>match i with
   | 0=>.int .i64 inc
   | 1=>vl
   | 2=>a.eval (.tmp 27)
   | 3=>.int .i64 (k:Int)
   | 4=>.int .i64 (n:Int)
   | 5=>.pointer (some ⟨b9,0,none⟩)
   | 6=>.pointer (some ⟨b10,0,none⟩)
   | _=>a.eval (.tmp 3)) (fun i hi=>by
   have hc:=h.has i hi (hall i hi)
   have:i=0∨i=1∨i=2∨i=3∨i=4∨i=5∨i=6∨i=7:=by omega
   rcases this with rfl | rfl | rfl | rfl | rfl | rfl | rfl | rfl
   ·exact hc
   ·exact hc
   ·rfl
   ·exact hc
   ·exact hc
   ·exact eb
   ·exact et
   ·rfl)
  refine wp_skipped (run_stN a w _ _ _ _ _ b10 _ _ et e29 h2 h3) (hK _ _ ⟨b9,b10,a.eval (.tmp 27),x,a.eval (.tmp 3),ea,(hdr h.mem).trans hb (fun x hx=>by simp at hx;subst hx;exact .inr (by rw [hBW] at h1;exact h1)),hb1,h1,?_,World.cell?_setCell_same _ _ _ h2,hb3.overN hz h2 hb⟩)
  rw [World.cell?_setCell_other _ _ _ _ (by simp;first|done|omega)]
  exact hb2
 ·rintro a w ⟨b9,b10,v2,x9,v7,rfl,h⟩
  exact hQ w b9 b10 v2 x9 v7 h
theorem run_plus1I (a:Act) (w:World) (d t:Nat) (u:TypeId) (ps:String) (ed:Array Edge) (gd:Option (Nat × Bool)) (m:Nat) (hm:m≤1000000) (h1:a.eval (.tmp t)=.int .i64 (m:Int)) :
  (execOp a.eval { dst:=some d,op:=Op.binOp BinOp.add 3 (.tmp t) (Operand.const (Value.int IntKind.i64 1)) 3,type:=u,pos:=ps,after:=ed,guard:=gd }).run Tryz.prog w=.ok (.value (.int .i64 ((m+1:Nat):Int))) w:=by
 have e:a.eval (.const (.int .i64 1))=.int .i64 1:=rfl
 unfold execOp
 simp only [h1,e]
 go_simp
 rw [IntKind.wrap_i64]
 omega
theorem run_notI (a:Act) (w:World) (d t:Nat) (u:TypeId) (ps:String) (ed:Array Edge) (gd:Option (Nat × Bool)) (b:Bool) (h1:a.eval (.tmp t)=.bool b) :
  (execOp a.eval { dst:=some d,op:=Op.unOp UnOp.not 4 (.tmp t),type:=u,pos:=ps,after:=ed,guard:=gd }).run Tryz.prog w=.ok (.value (.bool (!b))) w:=by
 unfold execOp
 simp only [h1]
 go_simp
def opIh0:Oper:={ dst:=some 5,op:=Op.load 33 (Operand.tmp 1),type:=33,pos:= "bound.go:39",after:=#[],guard:=none }
def opIh1:Oper:={ dst:=some 6,op:=Op.load 3 (Operand.tmp 2),type:=3,pos:= "bound.go:39",after:=#[],guard:=none }
def opIh2:Oper:={ dst:=some 7,op:=Op.binOp BinOp.add 3 (Operand.tmp 6) (Operand.const (Value.int IntKind.i64 1)) 3,type:=3,pos:= "bound.go:39",after:=#[⟨1,.data⟩],guard:=none }
def opIh3:Oper:={ dst:=some 8,op:=Op.move (Operand.tmp 0),type:=3,pos:= "bound.go:39",after:=#[],guard:=none }
def opIh4:Oper:={ dst:=some 9,op:=Op.binOp BinOp.add 3 (Operand.tmp 7) (Operand.tmp 8) 3,type:=3,pos:= "bound.go:39",after:=#[⟨2,.data⟩,⟨3,.data⟩],guard:=none }
def opIh5:Oper:={ dst:=some 10,op:=Op.call { callee:=Callee.value (Operand.func 27),args:=#[Operand.tmp 9],argTypes:=#[3] },type:=29,pos:= "bound.go:39",after:=#[⟨4,.data⟩],guard:=none }
def opIh6:Oper:={ dst:=some 11,op:=Op.load 3 (Operand.tmp 2),type:=3,pos:= "bound.go:39",after:=#[],guard:=none }
def opIh7:Oper:={ dst:=some 12,op:=Op.call { callee:=Callee.value (Operand.func 27),args:=#[Operand.tmp 11],argTypes:=#[3] },type:=29,pos:= "bound.go:39",after:=#[⟨6,.data⟩,⟨5,.chain⟩],guard:=none }
def opIh8:Oper:={ dst:=some 13,op:=Op.call { callee:=Callee.value (Operand.func 98),args:=#[Operand.tmp 5,Operand.tmp 10,Operand.tmp 12],argTypes:=#[33,29,29] },type:=4,pos:= "bound.go:39",after:=#[⟨0,.data⟩,⟨5,.data⟩,⟨7,.data⟩,⟨7,.chain⟩],guard:=none }
def opIh9:Oper:={ dst:=some 14,op:=Op.unOp UnOp.not 4 (Operand.tmp 13),type:=4,pos:= "bound.go:39",after:=#[⟨8,.data⟩],guard:=none }
def opIh10:Oper:={ dst:=some 4,op:=Op.assign (Operand.tmp 14),type:=4,pos:= "bound.go:39",after:=#[⟨9,.data⟩,⟨8,.chain⟩,⟨0,.phase⟩,⟨1,.phase⟩,⟨2,.phase⟩,⟨3,.phase⟩,⟨4,.phase⟩,⟨5,.phase⟩,⟨6,.phase⟩,⟨7,.phase⟩,⟨8,.phase⟩,⟨9,.phase⟩],guard:=none }
def opIhs:Array Oper:=#[opIh0,opIh1,opIh2,opIh3,opIh4,opIh5,opIh6,opIh7,opIh8,opIh9,opIh10]
def opIhT (i:Nat):Nat:=match i with
 | 0=>5
 | 1=>6
 | 2=>7
 | 3=>8
 | 4=>9
 | 5=>10
 | 6=>11
 | 7=>12
 | 8=>13
 | 9=>14
 | _=>4
def opIhC (vs:Value) (n:Nat) (k:Nat) (ws1:Bool) (wx1:Int) (ws2:Bool) (wx2:Int) (q:Bool) (i:Nat) (_w:World) (v:Value):Prop:=match i with
 | 0=>v=vs
 | 1=>v=.int .i64 (n:Int)
 | 2=>v=.int .i64 ((n+1:Nat):Int)
 | 3=>v=.int .i64 (k:Int)
 | 4=>v=.int .i64 ((n+1+k:Nat):Int)
 | 5=>v=.agg #[.bool ws1,.int .u64 wx1,.int .u64 0,.pointer none]
 | 6=>v=.int .i64 (n:Int)
 | 7=>v=.agg #[.bool ws2,.int .u64 wx2,.int .u64 0,.pointer none]
 | 8=>v=.bool q
 | 9=>v=.bool (!q)
 | _=>v=.bool (!q)
theorem opIhC_but {vs:Value} {n:Nat} {k:Nat} {ws1:Bool} {wx1:Int} {ws2:Bool} {wx2:Int} {q:Bool} {i:Nat} {w w':World} {v:Value} (h:opIhC vs n k ws1 wx1 ws2 wx2 q i w v) (hi:i<11) (_hb:But [] w w'):opIhC vs n k ws1 wx1 ws2 wx2 q i w' v:=by
 have:i=0∨i=1∨i=2∨i=3∨i=4∨i=5∨i=6∨i=7∨i=8∨i=9∨i=10:=by omega
 rcases this with rfl | rfl | rfl | rfl | rfl | rfl | rfl | rfl | rfl | rfl | rfl
 all_goals first | exact h | exact FracAt.but h hb | exact FracsAt.but h hb
theorem opIhT_inj:∀ i j,i<11→j<11→opIhT i=opIhT j→i=j:=fun i j hi hj=>(by decide:∀ i,i<11→∀ j,j<11→opIhT i=opIhT j→i=j) i hi j hj
theorem bestf_region (id:Nat) (Q:Exit→Act→World→Prop) (base:Act) (W0:World) (vs:Value) (n:Nat) (k:Nat) (ws1:Bool) (wx1:Int) (ws2:Bool) (wx2:Int) (q:Bool) (hs:14<base.tmps.size) (g1 g2:Nat) (e1:base.eval (.tmp 1)=.pointer (some ⟨g1,0,none⟩)) (e2:base.eval (.tmp 2)=.pointer (some ⟨g2,0,none⟩)) (e0:base.eval (.tmp 0)=.int .i64 (k:Int))
  (hn:n≤100000) (hk2:k≤600000) (c1:W0.cell? ⟨g1,0,none⟩=some vs) (c2:W0.cell? ⟨g2,0,none⟩=some (.int .i64 (n:Int)))
  (W1:∀ w,Calls Tryz.prog 27 #[.int .i64 ((n+1+k:Nat):Int)] w fun e w'=>e=.returned (.agg #[.bool ws1,.int .u64 wx1,.int .u64 0,.pointer none])∧But [] w w')
  (W2:∀ w,Calls Tryz.prog 27 #[.int .i64 (n:Int)] w fun e w'=>e=.returned (.agg #[.bool ws2,.int .u64 wx2,.int .u64 0,.pointer none])∧But [] w w')
  (SA:∀ w,But [] W0 w→Calls Tryz.prog 98 #[vs,.agg #[.bool ws1,.int .u64 wx1,.int .u64 0,.pointer none],.agg #[.bool ws2,.int .u64 wx2,.int .u64 0,.pointer none]] w fun e w'=>e=.returned (.bool q)∧But [] w w')
  (hQ:∀ w,But [] W0 w→Q .normal (putted base [(5,vs),(6,.int .i64 (n:Int)),(7,.int .i64 ((n+1:Nat):Int)),(8,.int .i64 (k:Int)),(9,.int .i64 ((n+1+k:Nat):Int)),(10,.agg #[.bool ws1,.int .u64 wx1,.int .u64 0,.pointer none]),(11,.int .i64 (n:Int)),(12,.agg #[.bool ws2,.int .u64 wx2,.int .u64 0,.pointer none]),(13,.bool q),(14,.bool (!q)),(4,.bool (!q))]) w) :
  (Code.region id opIhs true).wp Tryz.prog Q base W0:=by
 have hdr:∀ {w},But [] W0.drew w→But [] W0 w:=fun h=>(But.refl _ _).drew.trans' h
 have hT:∀ i,i<11→opIhT i<base.tmps.size:=fun i hi=>by
  have h:opIhT i≤14:=by revert i;decide
  omega
 refine region_go (by kernel_rfl) (low_of (by kernel_rfl)) (opIhC vs n k ws1 wx1 ws2 wx2 q) opIhT (by kernel_rfl) ?_ opIhT_inj hT (fun i w w' v hi h hb=>opIhC_but h hi hb) ?_ ?_
 ·intro i o j want ho hg w v hv
  have hi:i<11:=(Array.getElem?_eq_some_iff.1 ho).1
  have:i=0∨i=1∨i=2∨i=3∨i=4∨i=5∨i=6∨i=7∨i=8∨i=9∨i=10:=by omega
  rcases this with rfl | rfl | rfl | rfl | rfl | rfl | rfl | rfl | rfl | rfl | rfl
  ·obtain rfl:=Option.some.inj ((show opIhs[0]? = some opIh0 from rfl).symm.trans ho)
   exact absurd (show (none:Option (Nat × Bool))=some (j,want) from hg) (by simp)
  ·obtain rfl:=Option.some.inj ((show opIhs[1]? = some opIh1 from rfl).symm.trans ho)
   exact absurd (show (none:Option (Nat × Bool))=some (j,want) from hg) (by simp)
  ·obtain rfl:=Option.some.inj ((show opIhs[2]? = some opIh2 from rfl).symm.trans ho)
   exact absurd (show (none:Option (Nat × Bool))=some (j,want) from hg) (by simp)
  ·obtain rfl:=Option.some.inj ((show opIhs[3]? = some opIh3 from rfl).symm.trans ho)
   exact absurd (show (none:Option (Nat × Bool))=some (j,want) from hg) (by simp)
  ·obtain rfl:=Option.some.inj ((show opIhs[4]? = some opIh4 from rfl).symm.trans ho)
   exact absurd (show (none:Option (Nat × Bool))=some (j,want) from hg) (by simp)
  ·obtain rfl:=Option.some.inj ((show opIhs[5]? = some opIh5 from rfl).symm.trans ho)
   exact absurd (show (none:Option (Nat × Bool))=some (j,want) from hg) (by simp)
  ·obtain rfl:=Option.some.inj ((show opIhs[6]? = some opIh6 from rfl).symm.trans ho)
   exact absurd (show (none:Option (Nat × Bool))=some (j,want) from hg) (by simp)
  ·obtain rfl:=Option.some.inj ((show opIhs[7]? = some opIh7 from rfl).symm.trans ho)
   exact absurd (show (none:Option (Nat × Bool))=some (j,want) from hg) (by simp)
  ·obtain rfl:=Option.some.inj ((show opIhs[8]? = some opIh8 from rfl).symm.trans ho)
   exact absurd (show (none:Option (Nat × Bool))=some (j,want) from hg) (by simp)
  ·obtain rfl:=Option.some.inj ((show opIhs[9]? = some opIh9 from rfl).symm.trans ho)
   exact absurd (show (none:Option (Nat × Bool))=some (j,want) from hg) (by simp)
  ·obtain rfl:=Option.some.inj ((show opIhs[10]? = some opIh10 from rfl).symm.trans ho)
   exact absurd (show (none:Option (Nat × Bool))=some (j,want) from hg) (by simp)
 ·intro i o a w K ho hH he hdep hk
  have hi:i<11:=(Array.getElem?_eq_some_iff.1 ho).1
  have hD:=dep_have (ps:=[(2,1),(4,2),(4,3),(5,4),(7,5),(7,6),(8,0),(8,5),(8,7),(9,8),(10,0),(10,1),(10,2),(10,3),(10,4),(10,5),(10,6),(10,7),(10,8),(10,9)]) (by kernel_rfl) ho (fun j=>opIhC vs n k ws1 wx1 ws2 wx2 q j w (a.eval (.tmp (opIhT j)))) hdep
  have e1':=(he 1 (fun j hj e=>absurd e.symm (by revert j;decide))).trans e1
  have e2':=(he 2 (fun j hj e=>absurd e.symm (by revert j;decide))).trans e2
  have e0':=(he 0 (fun j hj e=>absurd e.symm (by revert j;decide))).trans e0
  have:i=0∨i=1∨i=2∨i=3∨i=4∨i=5∨i=6∨i=7∨i=8∨i=9∨i=10:=by omega
  rcases this with rfl | rfl | rfl | rfl | rfl | rfl | rfl | rfl | rfl | rfl | rfl
  ·obtain rfl:=Option.some.inj ((show opIhs[0]? = some opIh0 from rfl).symm.trans ho)
   exact wp_value (run_ldS a w _ _ _ _ _ _ g1 _ e1' ((hdr hH).cell_some c1 (by simp))) (hk _ _ (But.refl _ _) rfl)
  ·obtain rfl:=Option.some.inj ((show opIhs[1]? = some opIh1 from rfl).symm.trans ho)
   exact wp_value (run_ldN a w _ _ _ _ _ _ g2 _ e2' ((hdr hH).cell_some c2 (by simp))) (hk _ _ (But.refl _ _) rfl)
  ·obtain rfl:=Option.some.inj ((show opIhs[2]? = some opIh2 from rfl).symm.trans ho)
   exact wp_value (run_plus1I a w _ _ _ _ _ _ n (by omega) (hD 1 (by simp))) (hk _ _ (But.refl _ _) rfl)
  ·obtain rfl:=Option.some.inj ((show opIhs[3]? = some opIh3 from rfl).symm.trans ho)
   exact wp_value (run_mvK a w _ _ _ _ _ _ _ e0') (hk _ _ (But.refl _ _) rfl)
  ·obtain rfl:=Option.some.inj ((show opIhs[4]? = some opIh4 from rfl).symm.trans ho)
   exact wp_value (run_plusK a w _ _ _ _ _ _ _ (n+1) k (by omega) (by omega) (hD 2 (by simp)) (hD 3 (by simp))) (hk _ _ (But.refl _ _) rfl)
  ·obtain rfl:=Option.some.inj ((show opIhs[5]? = some opIh5 from rfl).symm.trans ho)
   exact wp_enter (run_wholeK a w _ _ _ _ _ _ _ (hD 4 (by simp))) (R:=fun w' v=>But [] w w'∧v=_) ((W1 w).mono fun e w' ⟨he,hb⟩=>⟨_,he,hb,rfl⟩) (fun v w' hv=>hk v w' hv.1 hv.2)
  ·obtain rfl:=Option.some.inj ((show opIhs[6]? = some opIh6 from rfl).symm.trans ho)
   exact wp_value (run_ldN a w _ _ _ _ _ _ g2 _ e2' ((hdr hH).cell_some c2 (by simp))) (hk _ _ (But.refl _ _) rfl)
  ·obtain rfl:=Option.some.inj ((show opIhs[7]? = some opIh7 from rfl).symm.trans ho)
   exact wp_enter (run_wholeK a w _ _ _ _ _ _ _ (hD 6 (by simp))) (R:=fun w' v=>But [] w w'∧v=_) ((W2 w).mono fun e w' ⟨he,hb⟩=>⟨_,he,hb,rfl⟩) (fun v w' hv=>hk v w' hv.1 hv.2)
  ·obtain rfl:=Option.some.inj ((show opIhs[8]? = some opIh8 from rfl).symm.trans ho)
   exact wp_enter (run_safeI a w _ _ _ _ _ _ _ _ _ _ _ (hD 0 (by simp)) (hD 5 (by simp)) (hD 7 (by simp))) (R:=fun w' v=>But [] w w'∧v=_) ((SA w (hdr hH)).mono fun e w' ⟨he,hb⟩=>⟨_,he,hb,rfl⟩) (fun v w' hv=>hk v w' hv.1 hv.2)
  ·obtain rfl:=Option.some.inj ((show opIhs[9]? = some opIh9 from rfl).symm.trans ho)
   exact wp_value (run_notI a w _ _ _ _ _ _ _ (hD 8 (by simp))) (hk _ _ (But.refl _ _) rfl)
  ·obtain rfl:=Option.some.inj ((show opIhs[10]? = some opIh10 from rfl).symm.trans ho)
   exact wp_value (run_asK a w _ _ _ _ _ _ _ (hD 9 (by simp))) (hk _ _ (But.refl _ _) rfl)
 ·intro a w h
  have ea:=h.puts hT (fun i=>match i with
   | 0=>vs
   | 1=>.int .i64 (n:Int)
   | 2=>.int .i64 ((n+1:Nat):Int)
   | 3=>.int .i64 (k:Int)
   | 4=>.int .i64 ((n+1+k:Nat):Int)
   | 5=>.agg #[.bool ws1,.int .u64 wx1,.int .u64 0,.pointer none]
   | 6=>.int .i64 (n:Int)
   | 7=>.agg #[.bool ws2,.int .u64 wx2,.int .u64 0,.pointer none]
   | 8=>.bool q
   | 9=>.bool (!q)
   | _=>.bool (!q)) (fun i hi=>by
   have hi':i<11:=hi
   have hc:=h.has i hi rfl
   have:i=0∨i=1∨i=2∨i=3∨i=4∨i=5∨i=6∨i=7∨i=8∨i=9∨i=10:=by omega
   rcases this with rfl | rfl | rfl | rfl | rfl | rfl | rfl | rfl | rfl | rfl | rfl
   all_goals first | exact hc | rfl)
  rw [ea]
  exact hQ w (hdr h.but)
end Go.Proofs.YtloojmaamaambaaGreatDoor

namespace Go.Proofs.YtloojmaamaambaaGreatDoor
open Go.RowKit
set_option maxHeartbeats 8000000
set_option maxRecDepth 100000
theorem bestF_any (g1 g2 n k:Nat) (vs:Value) (L:List Rat) (w:World) (c1:w.cell? ⟨g1,0,none⟩=some vs) (c2:w.cell? ⟨g2,0,none⟩=some (.int .i64 (n:Int))) (hv:FracsAt w vs L) (hn0:0<L.length) (hn1:L.length≤50) (lf:∀ f ∈ L,Len f 100) (hn:n≤100000) (hk:k≤600000) :
  Calls Tryz.prog 97 #[.int .i64 (k:Int),.pointer (some ⟨g1,0,none⟩),.pointer (some ⟨g2,0,none⟩)] w fun e w'=>e=.returned (.bool (!(sfQ L ((((n+1+k:Nat):Int):Int):Rat) (((n:Nat):Int):Rat))))∧But [] w w':=by
 obtain ⟨ws1,wx1,FW1,CW1⟩:=whole_is ((n+1+k:Nat):Int) (by omega) (by omega)
 obtain ⟨ws2,wx2,FW2,CW2⟩:=whole_is ((n:Nat):Int) (by omega) (by omega)
 have SA:=hide (fun W (h:But [] w W)=>safe_list vs _ _ L _ _ W (hv.but h) hn0 hn1 (FW1 W) (FW2 W) lf ((len_int _ (by omega)).mono (by omega)) ((len_int _ (by omega)).mono (by omega)))
 generalize sfQ L ((((n+1+k:Nat):Int):Int):Rat) (((n:Nat):Int):Rat)=sq at *
 have C1:=hide c1
 have C2:=hide c2
 have W1:=hide CW1
 have W2:=hide CW2
 clear c1 c2 hv CW1 CW2 FW1 FW2 lf hn0 hn1
 go_enter Tryz.func97,Tryz.ntmps97
 go_wp2_with fail
 refine bestf_region 1 _ _ w vs n k ws1 wx1 ws2 wx2 sq (by simp) g1 g2 (by simp [Act.eval]) (by simp [Act.eval]) (by simp [Act.eval]) hn hk (unhide C1) (unhide C2) (unhide W1) (unhide W2) (unhide SA) ?_
 intro w1 hb1
 simp only [putted,List.foldl_cons,List.foldl_nil,Act.put,List.setIfInBounds_toArray,List.set_cons_zero,List.set_cons_succ]
 have B1:=hide hb1
 clear hb1
 go_wp2
 go_ret
 exact ⟨rfl,unhide B1⟩
end Go.Proofs.YtloojmaamaambaaGreatDoor

namespace Go.Proofs.YtloojmaamaambaaGreatDoor
open Go.RowKit
set_option maxHeartbeats 16000000
set_option maxRecDepth 100000
theorem ruinBest_err (v:Value) (fs:List Rat) (inc bits:Nat) (w:World) (c:Nat) (hv:FracsAt w v fs) (hl:fs.length≤41) (hi:inc≤20) (lf:∀ f ∈ fs,Len f c) (hc:c≤100) (hk:chkE fs≠0) :
  Calls Tryz.prog 35 #[.int .i64 (inc:Int),v,.int .i64 (bits:Int)] w fun e w'=>e=.returned (.tuple #[.agg #[.bool false,.int .u64 0,.int .u64 0,.pointer none],.iface 54 (.int .i64 (chkE fs))])∧But [] w w':=by
 have F0:=hide (fun W=>from0_any (inc:Int) 20 (by omega) (by omega) (by omega) W)
 have CK:=hide (fun W (h:But [] w W)=>ruinCheck_any v fs c W (hv.but h) hl lf hc)
 obtain ⟨q,cap,rfl,hcap,-⟩:=id hv
 have x2:=BoxAt.new w false 0 0 none 0 29 (zero_at _)
 have bA:But [] w (w.alloc (.cells #[.bool false,.int .u64 0,.int .u64 0,.pointer none] 29)):=(But.refl _ _).alloc _
 have X2:=hide x2
 have BA:=hide bA
 generalize hce:chkE fs=ce at *
 generalize fs.length=n at *
 have Q2:Hid (w.heap.size≤w.heap.size):=Nat.le_refl _
 clear x2 bA hv lf hcap hce
 go_enter Tryz.func35,Tryz.ntmps35
 go_wp2_with fail
 refine (unhide F0 _).mono ?_
 rintro e w1 ⟨rfl,hb1⟩
 have B1:=hide ((unhide BA).trans' hb1)
 have X21:=hide ((unhide X2).but hb1)
 clear hb1 X2 BA F0
 go_wp2_with fail
 refine (unhide CK _ (unhide B1)).mono ?_
 rintro e w2 ⟨rfl,hb2⟩
 have B2:=hide ((unhide B1).trans' hb2)
 have X22:=hide ((unhide X21).but hb2)
 clear hb2 X21 B1 CK
 generalize hg2:w.heap.size=g2 at *
 obtain ⟨⟨t2,a2,b2,q2,⟨c0,c1,c2,c3⟩,-⟩,z2⟩:=unhide X22
 have P2:Hid (P4 w2 g2 t2 a2 b2 q2):=⟨c0,c1,c2,c3⟩
 unfold errV
 rw [if_neg hk]
 go_wp2
 have hP:=put4_but w2 g2 false 0 0 none
 obtain ⟨m0,m1,m2,m3⟩:=put4_p4 w2 g2 false 0 0 none (unhide P2)
 have hF:But [] w (put4 w2 g2 false 0 0 none):=(unhide B2).trans hP (fun x hx=>by simp at hx;subst hx;exact .inr (by omega))
 change bodyPost _ _ _ _ _ (put4 w2 g2 false 0 0 none)
 generalize put4 w2 g2 false 0 0 none=F at *
 exact bodyPost_ret (v:=.tuple #[.agg #[.bool false,.int .u64 0,.int .u64 0,.pointer none],.iface 54 (.int .i64 ce)]) (by simp [results,Tryz.results35,go_sem,m0,m1,m2,m3]) rfl ⟨rfl,hF⟩
theorem ruinBest_ok (v:Value) (fs:List Rat) (inc bits un:Nat) (w:World) (m:Int) (c:Nat) (hv:FracsAt w v fs) (hl:fs.length≤41) (hi:inc≤20) (hbt:bits≤12) (hun:un=2^bits) (lf:∀ f ∈ fs,Len f c) (hc:c≤100) (hk:chkE fs=0) (lx:∀ f ∈ exL fs inc,Len f 100) (htab:Lib.TabIs Tryz.prog w "internal/strconv.uint64pow10" .u64 Lib.pow10Tab) (hm:w.cell? ⟨4,0,none⟩=some (.int .i64 m)) :
  Calls Tryz.prog 35 #[.int .i64 (inc:Int),v,.int .i64 (bits:Int)] w fun e w'=>∃ (i:Nat) (f:Rat) (s:Bool) (x y:Int) (p:Option Addr),e=.returned (.tuple #[.agg #[.bool s,.int .u64 x,.int .u64 y,.pointer p],.nilIface])∧FracAt w' (.agg #[.bool s,.int .u64 x,.int .u64 y,.pointer p]) f∧Len f 1∧f.num*(un:Int)=((un+i:Nat):Int)*f.den∧i≤63*un∧(i=0∨sfQ (exL fs inc) (((un+1+(i-1):Nat):Int):Rat) (((un:Nat):Int):Rat)=true)∧But [] w w':=by
 have hlen:=exL_len fs inc
 have hu1:1≤un:=by rw [hun];exact Nat.one_le_two_pow
 have hu2:un≤4096:=by rw [hun];exact Nat.pow_le_pow_right (by omega) hbt
 have F0:=hide (fun W=>from0_any (inc:Int) 20 (by omega) (by omega) (by omega) W)
 have F1:=hide (fun W=>from0_any (bits:Int) 12 (by omega) (by omega) (by omega) W)
 have CK:=hide (fun W (h:But [] w W)=>ruinCheck_any v fs c W (hv.but h) hl lf hc)
 rw [hk] at CK
 have EX:=hide (fun W (h:But [] w W)=>(excess_any v fs inc W m c (hv.but h) (by omega) hi lf hc (TabIs.but htab h) (h.cell_some hm (by simp))).mono (fun e w' (h:∃ g,_∧_∧_∧_∧_)=>show ∃ v',e=.returned v'∧RowV (max fs.length (inc+1)) (exF fs inc (comN 1 fs)) w' v'∧But [] W w' from by
  obtain ⟨g,e1,h1,h2,h3,h4⟩:=h
  exact ⟨_,e1,⟨g,rfl,h1,h3⟩,h4⟩))
 obtain ⟨L,hL⟩:∃ L,L=exL fs inc:=⟨_,rfl⟩
 obtain ⟨z,hz⟩:∃ z,z=max fs.length (inc+1):=⟨_,rfl⟩
 obtain ⟨F,hF⟩:∃ F,F=exF fs inc (comN 1 fs):=⟨_,rfl⟩
 have hLF:Hid (L=(List.range z).map F):=by show _=_;rw [hL,hz,hF];rfl
 rw [← hz,← hF] at EX
 rw [← hL] at lx hlen ⊢
 have hz0:0<z:=by omega
 have LX:=hide lx
 have hl1:0<L.length∧L.length≤50:=by omega
 have HL1:=hide hl1
 obtain ⟨q,cap,rfl,hcap,-⟩:=id hv
 have x2:=BoxAt.new w false 0 0 none 0 29 (zero_at _)
 have bA:But [] w (w.alloc (.cells #[.bool false,.int .u64 0,.int .u64 0,.pointer none] 29)):=(But.refl _ _).alloc _
 have X2:=hide x2
 have BA:=hide bA
 generalize fs.length=n at *
 have Q2:Hid (w.heap.size≤w.heap.size):=Nat.le_refl _
 have HUN:=hide hun
 clear x2 bA hv lf hcap hk hL hz hF lx hlen hl1 htab hm hun
 go_enter Tryz.func35,Tryz.ntmps35
 go_wp2_with fail
 refine (unhide F0 _).mono ?_
 rintro e w1 ⟨rfl,hb1⟩
 have B1:=hide ((unhide BA).trans' hb1)
 have X21:=hide ((unhide X2).but hb1)
 clear hb1 X2 BA F0
 go_wp2_with fail
 refine (unhide CK _ (unhide B1)).mono ?_
 rintro e w2 ⟨rfl,hb2⟩
 have B2:=hide ((unhide B1).trans' hb2)
 have X22:=hide ((unhide X21).but hb2)
 clear hb2 X21 B1 CK
 rw [show errV 0=.nilIface from rfl]
 generalize hg2:w.heap.size=g6 at *
 go_wp2_with fail
 refine (unhide F1 _).mono ?_
 rintro e w3 ⟨rfl,hb3⟩
 have B3:=hide ((unhide B2).trans' hb3)
 have X23:=hide ((unhide X22).but hb3)
 clear hb3 X22 B2 F1
 go_wp2_with fail
 refine best_region6 6 _ _ w3 w3.heap.size (inc:Int) (.slice q n cap) z F bits un (by simp) rfl hz0 hbt (unhide HUN) (by simp [Act.eval]) (by simp [Act.eval]) (by simp [Act.eval]) (fun w' hb=>unhide EX w' ((unhide B3).trans' hb)) ?_
 rintro w4 b9 b10 v2 x9 v7 ⟨hb4,hb9,hb10,k9,k10,hrow⟩
 simp only [putted,List.foldl_cons,List.foldl_nil,Act.put,List.setIfInBounds_toArray,List.set_cons_zero,List.set_cons_succ]
 have B4:=hide ((unhide B3).trans' hb4)
 have X24:=hide ((unhide X23).but hb4)
 have HFR:Hid (FracsAt w4 x9 L):=by
  show FracsAt w4 x9 L
  obtain ⟨g,rfl,h1,-⟩:=hrow
  rw [unhide hLF]
  exact h1.fracs
 have g6l:g6<w3.heap.size:=(unhide X23).lt
 have K9:=hide k9
 have K10:=hide k10
 clear hb4 X23 B3 EX hrow hLF k9
 go_wp2_with fail
 clear k10
 rw [show (63:Int)*(un:Int)=((63*un:Nat):Int) from by omega]
 refine (search_any (63*un) b9 b10 (by omega) (fun k=>!(sfQ L ((((un+1+k:Nat):Int):Int):Rat) (((un:Nat):Int):Rat))) w4 (fun k hk W hb=>bestF_any b9 b10 un k x9 L W (hb.cell_some (unhide K9) (by simp)) (hb.cell_some (unhide K10) (by simp)) ((unhide HFR).but hb) (unhide HL1).1 (unhide HL1).2 (unhide LX) (by omega) (by omega))).mono ?_
 rintro e w5 ⟨i,rfl,hi63,hstop,hb5⟩
 have B5:=hide ((unhide B4).trans' hb5)
 have X25:=hide ((unhide X24).but hb5)
 have k10:=hb5.cell_some (unhide K10) (by simp)
 have ST:Hid (i=0∨sfQ L (((un+1+(i-1):Nat):Int):Rat) (((un:Nat):Int):Rat)=true):=hstop.imp id (fun h=>by simpa using h)
 clear hb5 hstop B4 X24 HFR K9 K10 LX HL1
 obtain ⟨fo,ro,po,qo,LO,RO,FO,CO⟩:=fracOf_at ((un+i:Nat):Int) (un:Int) (by omega) (by omega) (by omega) (by omega) (by omega)
 have HRO:=hide RO
 have HFO:=hide FO
 have HCO:=hide CO
 have HLO:=hide LO
 clear RO FO CO LO
 go_wp2_with fail
 rw [show (un:Int)+(i:Int)=((un+i:Nat):Int) from by omega]
 refine (unhide HCO _).mono ?_
 rintro e w6 ⟨rfl,hb6⟩
 have B6:=hide ((unhide B5).trans' hb6)
 have X26:=hide ((unhide X25).but hb6)
 clear hb6 B5 X25 k10 HCO
 obtain ⟨⟨t2,a2,b2,q2,⟨c0,c1,c2,c3⟩,-⟩,z2⟩:=unhide X26
 have P2:Hid (P4 w6 g6 t2 a2 b2 q2):=⟨c0,c1,c2,c3⟩
 go_wp2
 have hP:=put4_but w6 g6 ro po qo none
 obtain ⟨m0,m1,m2,m3⟩:=put4_p4 w6 g6 ro po qo none (unhide P2)
 have hF:But [] w (put4 w6 g6 ro po qo none):=(unhide B6).trans hP (fun x hx=>by simp at hx;subst hx;exact .inr (by omega))
 change bodyPost _ _ _ _ _ (put4 w6 g6 ro po qo none)
 generalize put4 w6 g6 ro po qo none=F' at *
 exact bodyPost_ret (v:=.tuple #[.agg #[.bool ro,.int .u64 po,.int .u64 qo,.pointer none],.nilIface]) (by simp [results,Tryz.results35,go_sem,m0,m1,m2,m3]) rfl ⟨i,fo,ro,po,qo,none,rfl,unhide HFO _,unhide HLO,unhide HRO,hi63,unhide ST,hF⟩
end Go.Proofs.YtloojmaamaambaaGreatDoor
