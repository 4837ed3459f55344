/- What a year brings, and in how many ways -/
import Derived.Test.YtloojmaamaambaaGreatDoorKREK
import Derived.Test.YtloojmaamaambaaGreatDoorKRKD
namespace Go.Proofs.YtloojmaamaambaaGreatDoor
open Go.RowKit
set_option maxHeartbeats 8000000
set_option maxRecDepth 100000
structure YBox (w:World) (g:Nat) (i:Int) (s:Bool) (x y:Int) (p:Option Addr) (v:Value):Prop where
 c0:w.cell? ⟨g,0,none⟩=some (.int .i64 i)
 c1:w.cell? ⟨g,1,none⟩=some (.bool s)
 c2:w.cell? ⟨g,2,none⟩=some (.int .u64 x)
 c3:w.cell? ⟨g,3,none⟩=some (.int .u64 y)
 c4:w.cell? ⟨g,4,none⟩=some (.pointer p)
 c5:w.cell? ⟨g,5,none⟩=some v
 loose:∀ j,w.frozen? ⟨g,j,none⟩=false
theorem YBox.new (w:World) (i:Int) (s:Bool) (x y:Int) (p:Option Addr) (v:Value) (t:TypeId):YBox (w.alloc (.cells #[.int .i64 i,.bool s,.int .u64 x,.int .u64 y,.pointer p,v] t)) w.heap.size i s x y p v :=
 ⟨by simp,by simp,by simp,by simp,by simp,by simp,fun j=>by simp⟩
theorem YBox.lt {w:World} {g:Nat} {i:Int} {s:Bool} {x y:Int} {p:Option Addr} {v:Value} (h:YBox w g i s x y p v):g<w.heap.size:=lt_of_cell h.c0
theorem YBox.but {w w':World} {g:Nat} {i:Int} {s:Bool} {x y:Int} {p:Option Addr} {v:Value} {l:List Nat} (h:YBox w g i s x y p v) (hb:But l w w') (hn:g ∉ l):YBox w' g i s x y p v :=
 ⟨hb.cell_some h.c0 hn,hb.cell_some h.c1 hn,hb.cell_some h.c2 hn,hb.cell_some h.c3 hn,hb.cell_some h.c4 hn,hb.cell_some h.c5 hn,fun j=>(hb.frozen (p:=⟨g,j,none⟩) h.lt hn).trans (h.loose j)⟩
theorem YBox.put {w:World} {g:Nat} {i:Int} {s:Bool} {x y:Int} {p:Option Addr} {v:Value} (h:YBox w g i s x y p v) (i':Int) (s':Bool) (x' y':Int) (p':Option Addr) (v':Value):YBox (w.setCells g 0 [.int .i64 i',.bool s',.int .u64 x',.int .u64 y',.pointer p',v']) g i' s' x' y' p' v':=by
 have some6:∀ k,k<6→(w.cell? ⟨g,0+k,none⟩).isSome=true:=fun k hk=>by
  have:k=0∨k=1∨k=2∨k=3∨k=4∨k=5:=by omega
  rcases this with rfl | rfl | rfl | rfl | rfl | rfl
  ·rw [show 0+0=0 from rfl,h.c0];rfl
  ·rw [show 0+1=1 from rfl,h.c1];rfl
  ·rw [show 0+2=2 from rfl,h.c2];rfl
  ·rw [show 0+3=3 from rfl,h.c3];rfl
  ·rw [show 0+4=4 from rfl,h.c4];rfl
  ·rw [show 0+5=5 from rfl,h.c5];rfl
 have hin:∀ k (hk:k<6),(w.setCells g 0 [.int .i64 i',.bool s',.int .u64 x',.int .u64 y',.pointer p',v']).cell? ⟨g,0+k,none⟩=some ([.int .i64 i',.bool s',.int .u64 x',.int .u64 y',.pointer p',v'][k]'hk):=fun k hk =>
  World.cell?_setCells_in g [.int .i64 i',.bool s',.int .u64 x',.int .u64 y',.pointer p',v'] 0 w (fun j hj=>some6 j hj) k hk
 exact ⟨hin 0 (by omega),hin 1 (by omega),hin 2 (by omega),hin 3 (by omega),hin 4 (by omega),hin 5 (by omega),fun j=>by rw [World.frozen?_setCells];exact h.loose j⟩
theorem run_ldY (a:Act) (w:World) (d t:Nat) (u:TypeId) (ps:String) (ed:Array Edge) (gd:Option (Nat × Bool)) (b:Nat) (yi:Int) (s1:Bool) (x1 y1:Int) (p1:Option Addr) (yq:Option Addr) (yn yc:Nat) (h1:a.eval (.tmp t)=.pointer (some ⟨b,0,none⟩)) (hc:YBox w b yi s1 x1 y1 p1 (.slice yq yn yc)) :
  (execOp a.eval { dst:=some d,op:=Op.load 149 (.tmp t),type:=u,pos:=ps,after:=ed,guard:=gd }).run Tryz.prog w=.ok (.value (.agg #[.int .i64 yi,.bool s1,.int .u64 x1,.int .u64 y1,.pointer p1,.slice yq yn yc])) w:=by
 obtain ⟨c0,c1,c2,c3,c4,c5,-⟩:=hc
 unfold execOp
 simp only [h1]
 go_simp
theorem run_minusI (a:Act) (w:World) (d t1 t2:Nat) (u:TypeId) (ps:String) (ed:Array Edge) (gd:Option (Nat × Bool)) (m n:Nat) (hm:m≤1000000) (hn:n≤m) (h1:a.eval (.tmp t1)=.int .i64 (m:Int)) (h2:a.eval (.tmp t2)=.int .i64 (n:Int)) :
  (execOp a.eval { dst:=some d,op:=Op.binOp BinOp.sub 3 (.tmp t1) (.tmp t2) 3,type:=u,pos:=ps,after:=ed,guard:=gd }).run Tryz.prog w=.ok (.value (.int .i64 ((m-n:Nat):Int))) w:=by
 unfold execOp
 simp only [h1,h2]
 go_simp
 rw [IntKind.wrap_i64]
 omega
theorem run_minus1I (a:Act) (w:World) (d t1:Nat) (u:TypeId) (ps:String) (ed:Array Edge) (gd:Option (Nat × Bool)) (m:Nat) (hm:m≤1000000) (h1:a.eval (.tmp t1)=.int .i64 ((m+1:Nat):Int)) :
  (execOp a.eval { dst:=some d,op:=Op.binOp BinOp.sub 3 (.tmp t1) (Operand.const (Value.int IntKind.i64 1)) 3,type:=u,pos:=ps,after:=ed,guard:=gd }).run Tryz.prog w=.ok (.value (.int .i64 (m:Int))) w:=by
 have e:a.eval (.const (.int .i64 1))=.int .i64 1:=rfl
 unfold execOp
 simp only [h1,e]
 go_simp
 rw [IntKind.wrap_i64]
 omega
theorem run_indexSI (a:Act) (w:World) (d t1 t2:Nat) (u:TypeId) (ps:String) (ed:Array Edge) (gd:Option (Nat × Bool)) (b off n c k:Nat) (hk:k<n) (_hn:n<1000000) (h1:a.eval (.tmp t1)=.slice (some ⟨b,off,none⟩) n c) (h2:a.eval (.tmp t2)=.int .i64 (k:Int)) :
  (execOp a.eval { dst:=some d,op:=Op.indexAddr 33 (.tmp t1) (.tmp t2),type:=u,pos:=ps,after:=ed,guard:=gd }).run Tryz.prog w=.ok (.value (.pointer (some ⟨b,off+k*4,none⟩))) w:=by
 unfold execOp
 simp only [h1,h2]
 go_simp
theorem run_buildY (a:Act) (w:World) (d t0 t1 t2:Nat) (u:TypeId) (ps:String) (ed:Array Edge) (gd:Option (Nat × Bool)) (yi:Int) (g n:Nat) (s1:Bool) (x1 y1:Int) (p1:Option Addr) (h0:a.eval (.tmp t0)=.int .i64 yi) (h1:a.eval (.tmp t1)=.agg #[.bool s1,.int .u64 x1,.int .u64 y1,.pointer p1]) (h2:a.eval (.tmp t2)=.slice (some ⟨g,0,none⟩) n n) :
  (execOp a.eval { dst:=some d,op:=Op.build 149 #[(0,Operand.tmp t0),(1,Operand.tmp t1),(2,Operand.tmp t2)],type:=u,pos:=ps,after:=ed,guard:=gd }).run Tryz.prog w=.ok (.value (.agg #[.int .i64 yi,.bool s1,.int .u64 x1,.int .u64 y1,.pointer p1,.slice (some ⟨g,0,none⟩) n n])) w:=by
 unfold execOp
 simp only [List.map_toArray,List.map_cons,List.map_nil,h0,h1,h2]
 go_simp
theorem run_storeY (a:Act) (w:World) (t1 t2:Nat) (u:TypeId) (ps:String) (ed:Array Edge) (gb:Nat) (yi:Int) (g n:Nat) (s1:Bool) (x1 y1:Int) (p1:Option Addr) {ib:Int} {vb:Value} {sb:Bool} {xb yb:Int} {pb:Option Addr} (h1:a.eval (.tmp t1)=.pointer (some ⟨gb,0,none⟩)) (h2:a.eval (.tmp t2)=.agg #[.int .i64 yi,.bool s1,.int .u64 x1,.int .u64 y1,.pointer p1,.slice (some ⟨g,0,none⟩) n n]) (hc:YBox w gb ib sb xb yb pb vb) :
  (execOp a.eval { dst:=none,op:=Op.store 149 (.tmp t1) (.tmp t2),type:=u,pos:=ps,after:=ed,guard:=none }).run Tryz.prog w=.ok .skip (w.setCells gb 0 [.int .i64 yi,.bool s1,.int .u64 x1,.int .u64 y1,.pointer p1,.slice (some ⟨g,0,none⟩) n n]):=by
 obtain ⟨c0,c1,c2,c3,c4,c5,fz⟩:=hc
 unfold execOp
 simp only [h1,h2]
 go_simp
 rfl
theorem run_aheadI (a:Act) (w:World) (d t0 t1 t2:Nat) (u:TypeId) (ps:String) (ed:Array Edge) (gd:Option (Nat × Bool)) (z0 z1 z2:Value) (h0:a.eval (.tmp t0)=z0) (h1:a.eval (.tmp t1)=z1) (h2:a.eval (.tmp t2)=z2) :
  (execOp a.eval { dst:=some d,op:=Op.call { callee:=Callee.value (Operand.func 155),args:=#[Operand.tmp t0,Operand.tmp t1,Operand.tmp t2],argTypes:=#[149,33,3] },type:=u,pos:=ps,after:=ed,guard:=gd }).run Tryz.prog w=.ok (.enter 155 #[z0,z1,z2]) w:=by
 unfold execOp
 go_simp
 rw [← h0,← h1,← h2]
 simp [Act.eval]
theorem run_lastingI (a:Act) (w:World) (d t0 t1 t2:Nat) (u:TypeId) (ps:String) (ed:Array Edge) (gd:Option (Nat × Bool)) (z0 z1 z2:Value) (h0:a.eval (.tmp t0)=z0) (h1:a.eval (.tmp t1)=z1) (h2:a.eval (.tmp t2)=z2) :
  (execOp a.eval { dst:=some d,op:=Op.call { callee:=Callee.value (Operand.func 100),args:=#[Operand.tmp t0,Operand.tmp t1,Operand.tmp t2],argTypes:=#[149,3,3] },type:=u,pos:=ps,after:=ed,guard:=gd }).run Tryz.prog w=.ok (.enter 100 #[z0,z1,z2]) w:=by
 unfold execOp
 go_simp
 rw [← h0,← h1,← h2]
 simp [Act.eval]
theorem run_waysI (a:Act) (w:World) (d t0 t1:Nat) (u:TypeId) (ps:String) (ed:Array Edge) (gd:Option (Nat × Bool)) (z0 z1:Value) (h0:a.eval (.tmp t0)=z0) (h1:a.eval (.tmp t1)=z1) :
  (execOp a.eval { dst:=some d,op:=Op.call { callee:=Callee.value (Operand.func 101),args:=#[Operand.tmp t0,Operand.tmp t1],argTypes:=#[149,3] },type:=u,pos:=ps,after:=ed,guard:=gd }).run Tryz.prog w=.ok (.enter 101 #[z0,z1]) w:=by
 unfold execOp
 go_simp
 rw [← h0,← h1]
 simp [Act.eval]
def YearAt (B:Nat) (yi:Int) (n:Nat) (F:Nat→Rat) (s1:Bool) (x1 y1:Int) (p1:Option Addr) (w:World) (v:Value):Prop:=∃ u,v=.agg #[.int .i64 yi,.bool s1,.int .u64 x1,.int .u64 y1,.pointer p1,u]∧TimesAt B n F w u
theorem YearAt.but {B:Nat} {yi:Int} {n:Nat} {F:Nat→Rat} {s1:Bool} {x1 y1:Int} {p1:Option Addr} {w w':World} {v:Value} (h:YearAt B yi n F s1 x1 y1 p1 w v) (hb:But [] w w'):YearAt B yi n F s1 x1 y1 p1 w' v:=by
 obtain ⟨u,e,h1⟩:=h
 exact ⟨u,e,h1.but hb⟩
def opIi0:Oper:={ dst:=some 9,op:=Op.move (Operand.tmp 0),type:=3,pos:= "ruin.go:59",after:=#[],guard:=none }
def opIi1:Oper:={ dst:=some 10,op:=Op.load 29 (Operand.tmp 5),type:=29,pos:= "ruin.go:59",after:=#[],guard:=none }
def opIi2:Oper:={ dst:=some 11,op:=Op.move (Operand.tmp 1),type:=38,pos:= "ruin.go:59",after:=#[],guard:=none }
def opIi3:Oper:={ dst:=some 12,op:=Op.load 29 (Operand.tmp 5),type:=29,pos:= "ruin.go:59",after:=#[],guard:=none }
def opIi4:Oper:={ dst:=some 13,op:=Op.call { callee:=Callee.value (Operand.func 120),args:=#[Operand.tmp 11,Operand.tmp 12],argTypes:=#[33,29] },type:=33,pos:= "ruin.go:59",after:=#[⟨2,.data⟩,⟨3,.data⟩],guard:=none }
def opIi5:Oper:={ dst:=some 14,op:=Op.build 149 #[(0,Operand.tmp 9),(1,Operand.tmp 10),(2,Operand.tmp 13)],type:=149,pos:= "ruin.go:59",after:=#[⟨0,.data⟩,⟨1,.data⟩,⟨4,.data⟩],guard:=none }
def opIi6:Oper:={ dst:=none,op:=Op.store 149 (Operand.tmp 4) (Operand.tmp 14),type:=0,pos:= "ruin.go:59",after:=#[⟨5,.data⟩,⟨4,.chain⟩,⟨0,.phase⟩,⟨1,.phase⟩,⟨2,.phase⟩,⟨3,.phase⟩,⟨4,.phase⟩,⟨5,.phase⟩],guard:=none }
def opIis:Array Oper:=#[opIi0,opIi1,opIi2,opIi3,opIi4,opIi5,opIi6]
def opIiT (i:Nat):Nat:=match i with
 | 0=>9
 | 1=>10
 | 2=>11
 | 3=>12
 | 4=>13
 | _=>14
def opIiC (B:Nat) (yi:Int) (n:Nat) (F:Nat→Rat) (s1:Bool) (x1 y1:Int) (p1:Option Addr) (vl:Value) (i:Nat) (w:World) (v:Value):Prop:=match i with
 | 0=>v=.int .i64 yi
 | 1=>v=.agg #[.bool s1,.int .u64 x1,.int .u64 y1,.pointer p1]
 | 2=>v=vl
 | 3=>v=.agg #[.bool s1,.int .u64 x1,.int .u64 y1,.pointer p1]
 | 4=>TimesAt B n F w v
 | _=>YearAt B yi n F s1 x1 y1 p1 w v
theorem opIiC_but {B:Nat} {yi:Int} {n:Nat} {F:Nat→Rat} {s1:Bool} {x1 y1:Int} {p1:Option Addr} {vl:Value} {i:Nat} {w w':World} {v:Value} (h:opIiC B yi n F s1 x1 y1 p1 vl i w v) (hi:i<6) (hb:But [] w w'):opIiC B yi n F s1 x1 y1 p1 vl i w' v:=by
 have:i=0∨i=1∨i=2∨i=3∨i=4∨i=5:=by omega
 rcases this with rfl | rfl | rfl | rfl | rfl | rfl
 ·exact h
 ·exact h
 ·exact h
 ·exact h
 ·exact TimesAt.but h hb
 ·exact YearAt.but h hb
theorem opIiT_inj:∀ i j,i<6→j<6→opIiT i=opIiT j→i=j:=fun i j hi hj=>(by decide:∀ i,i<6→∀ j,j<6→opIiT i=opIiT j→i=j) i hi j hj
theorem year_region (id:Nat) (Q:Exit→Act→World→Prop) (base:Act) (W0:World) (B:Nat) (yi:Int) (n:Nat) (F:Nat→Rat) (s1:Bool) (x1 y1:Int) (p1:Option Addr) (vl:Value) (gb g5:Nat) {ib:Int} {vb:Value} {sb:Bool} {xb yb:Int} {pb:Option Addr} (hs:14<base.tmps.size) (e0:base.eval (.tmp 0)=.int .i64 yi) (e1:base.eval (.tmp 1)=vl) (e4:base.eval (.tmp 4)=.pointer (some ⟨gb,0,none⟩)) (e5:base.eval (.tmp 5)=.pointer (some ⟨g5,0,none⟩)) (cb:YBox W0 gb ib sb xb yb pb vb) (c1:P4 W0 g5 s1 x1 y1 p1)
  (TI:∀ w,But [] W0 w→Calls Tryz.prog 120 #[vl,.agg #[.bool s1,.int .u64 x1,.int .u64 y1,.pointer p1]] w fun e w'=>∃ v,e=.returned v∧TimesAt B n F w' v∧But [] w w')
  (hQ:∀ w1 v4 g',But [] W0 w1→Row4 w1 g' n n F→B≤g'→g' < w1.heap.size→Q .normal (putted base [(9,.int .i64 yi),(10,.agg #[.bool s1,.int .u64 x1,.int .u64 y1,.pointer p1]),(11,vl),(12,.agg #[.bool s1,.int .u64 x1,.int .u64 y1,.pointer p1]),(13,v4),(14,.agg #[.int .i64 yi,.bool s1,.int .u64 x1,.int .u64 y1,.pointer p1,.slice (some ⟨g',0,none⟩) n n])]) (w1.setCells gb 0 [.int .i64 yi,.bool s1,.int .u64 x1,.int .u64 y1,.pointer p1,.slice (some ⟨g',0,none⟩) n n])) :
  (Code.region id opIis true).wp Tryz.prog Q base W0:=by
 have hdr:∀ {w},But [] W0.drew w→But [] W0 w:=fun h=>(But.refl _ _).drew.trans' h
 have hT:∀ i,i<6→opIiT i<base.tmps.size:=fun i hi=>by
  have h:opIiT i≤14:=by revert i;decide
  omega
 refine region_flow (by kernel_rfl) (low_of (by kernel_rfl)) (fun i o ho=>(calm_of (ops:=opIis) (by kernel_rfl) i o ho).1)
  (fun _ w=>But [] W0.drew w) (opIiC B yi n F s1 x1 y1 p1 vl) opIiT 6 rfl opIiT_inj hT (But.refl _ _)
  (fun i hi=>?_) ?_ (fun a w=>∃ w1 v4 g',a=putted base [(9,.int .i64 yi),(10,.agg #[.bool s1,.int .u64 x1,.int .u64 y1,.pointer p1]),(11,vl),(12,.agg #[.bool s1,.int .u64 x1,.int .u64 y1,.pointer p1]),(13,v4),(14,.agg #[.int .i64 yi,.bool s1,.int .u64 x1,.int .u64 y1,.pointer p1,.slice (some ⟨g',0,none⟩) n n])]∧w=w1.setCells gb 0 [.int .i64 yi,.bool s1,.int .u64 x1,.int .u64 y1,.pointer p1,.slice (some ⟨g',0,none⟩) n n]∧But [] W0 w1∧Row4 w1 g' n n F∧B≤g'∧g' < w1.heap.size) ?_ ?_
 ·exact dep_of (ops:=opIis) (ps:=[(6,0),(6,1),(6,2),(6,3),(6,4),(6,5)]) (by kernel_rfl) 6 i (by
   have:i=0∨i=1∨i=2∨i=3∨i=4∨i=5:=by omega
   rcases this with rfl | rfl | rfl | rfl | rfl | rfl <;> simp)
 ·intro dn i o a w K hi ho hdi hH he hdep hK
  have hD:=fun j hj=>(dep_have (ps:=[(4,2),(4,3),(5,0),(5,1),(5,4)]) (by kernel_rfl) ho (fun j=>dn j=true∧opIiC B yi n F s1 x1 y1 p1 vl j w (a.eval (.tmp (opIiT j)))) hdep j hj).2
  have hk:∀ v w',But [] w w'→opIiC B yi n F s1 x1 y1 p1 vl i w' v→K (a.put (some (opIiT i)) v) w':=fun v w' hb hv=>hK v w' (hH.trans' hb) (fun j hj _ u hu=>opIiC_but hu hj hb) hv
  have e0':=(he 0 (fun j hj e=>absurd e.symm (by revert j;decide))).trans e0
  have e1':=(he 1 (fun j hj e=>absurd e.symm (by revert j;decide))).trans e1
  have e5':=(he 5 (fun j hj e=>absurd e.symm (by revert j;decide))).trans e5
  have:i=0∨i=1∨i=2∨i=3∨i=4∨i=5:=by omega
  rcases this with rfl | rfl | rfl | rfl | rfl | rfl
  ·obtain rfl:=Option.some.inj ((show opIis[0]? = some opIi0 from rfl).symm.trans ho)
   exact wp_value (run_mvK a w _ _ _ _ _ _ _ e0') (hk _ _ (But.refl _ _) rfl)
  ·obtain rfl:=Option.some.inj ((show opIis[1]? = some opIi1 from rfl).symm.trans ho)
   exact wp_value (run_loadK a w _ _ _ _ _ _ g5 0 _ _ _ _ e5' (c1.but (hdr hH) (by simp))) (hk _ _ (But.refl _ _) rfl)
  ·obtain rfl:=Option.some.inj ((show opIis[2]? = some opIi2 from rfl).symm.trans ho)
   exact wp_value (run_mvK a w _ _ _ _ _ _ _ e1') (hk _ _ (But.refl _ _) rfl)
  ·obtain rfl:=Option.some.inj ((show opIis[3]? = some opIi3 from rfl).symm.trans ho)
   exact wp_value (run_loadK a w _ _ _ _ _ _ g5 0 _ _ _ _ e5' (c1.but (hdr hH) (by simp))) (hk _ _ (But.refl _ _) rfl)
  ·obtain rfl:=Option.some.inj ((show opIis[4]? = some opIi4 from rfl).symm.trans ho)
   exact wp_enter (run_timesK a w _ _ _ _ _ _ _ _ _ (hD 2 (by simp)) (hD 3 (by simp))) (R:=fun w' v=>TimesAt B n F w' v∧But [] w w') (TI w (hdr hH)) (fun v w' hv=>hk v w' hv.2 hv.1)
  ·obtain rfl:=Option.some.inj ((show opIis[5]? = some opIi5 from rfl).symm.trans ho)
   have ht:TimesAt B n F w (a.eval (.tmp 13)):=(hD 4 (by simp))
   have ht':=ht
   obtain ⟨g',eg,-⟩:=ht
   exact wp_value (run_buildY a w _ _ _ _ _ _ _ _ yi g' n s1 x1 y1 p1 (hD 0 (by simp)) (hD 1 (by simp)) eg) (hk _ _ (But.refl _ _) ⟨_,rfl,by rw [← eg];exact ht'⟩)
 ·intro dn o a w K ho hall h hK
  obtain rfl:=Option.some.inj ((show opIis[6]? = some opIi6 from rfl).symm.trans ho)
  have eb':=(h.eval 4 (fun j hj e=>absurd e.symm (by revert j;decide))).trans e4
  have hb:YearAt B yi n F s1 x1 y1 p1 w (a.eval (.tmp 14)):=h.has 5 (by omega) (hall 5 (by omega))
  obtain ⟨u,ev,g',rfl,hr1,hr2,hr3⟩:=hb
  have ea:=h.puts hT (fun i=>match i with
   | 0=>.int .i64 yi
   | 1=>.agg #[.bool s1,.int .u64 x1,.int .u64 y1,.pointer p1]
   | 2=>vl
   | 3=>.agg #[.bool s1,.int .u64 x1,.int .u64 y1,.pointer p1]
   | 4=>a.eval (.tmp 13)
   | _=>.agg #[.int .i64 yi,.bool s1,.int .u64 x1,.int .u64 y1,.pointer p1,.slice (some ⟨g',0,none⟩) n n]) (fun i hi=>by
   have hc:=h.has i hi (hall i hi)
   have:i=0∨i=1∨i=2∨i=3∨i=4∨i=5:=by omega
   rcases this with rfl | rfl | rfl | rfl | rfl | rfl
   all_goals first | exact ev | exact hc | rfl)
  exact wp_skipped (run_storeY a w _ _ _ _ _ gb yi g' n s1 x1 y1 p1 eb' ev (cb.but (hdr h.mem) (by simp))) (hK _ _ ⟨w,a.eval (.tmp 13),g',ea,rfl,hdr h.mem,hr1,hr2,hr3⟩)
 ·rintro a w ⟨w1,v4,g',rfl,rfl,h1,h2,h3,h4⟩
  exact hQ w1 v4 g' h1 h2 h3 h4
def opIj0:Oper:={ dst:=some 30,op:=Op.load 29 (Operand.tmp 8),type:=29,pos:= "ruin.go:90",after:=#[],guard:=none }
def opIj1:Oper:={ dst:=some 31,op:=Op.load 29 (Operand.tmp 10),type:=29,pos:= "ruin.go:90",after:=#[],guard:=none }
def opIj2:Oper:={ dst:=some 32,op:=Op.move (Operand.tmp 1),type:=33,pos:= "ruin.go:90",after:=#[],guard:=none }
def opIj3:Oper:={ dst:=some 33,op:=Op.move (Operand.tmp 7),type:=3,pos:= "ruin.go:90",after:=#[],guard:=none }
def opIj4:Oper:={ dst:=some 34,op:=Op.move (Operand.tmp 9),type:=3,pos:= "ruin.go:90",after:=#[],guard:=none }
def opIj5:Oper:={ dst:=some 35,op:=Op.binOp BinOp.sub 3 (Operand.tmp 33) (Operand.tmp 34) 3,type:=3,pos:= "ruin.go:90",after:=#[⟨3,.data⟩,⟨4,.data⟩],guard:=none }
def opIj6:Oper:={ dst:=some 36,op:=Op.indexAddr 33 (Operand.tmp 32) (Operand.tmp 35),type:=0,pos:= "ruin.go:90",after:=#[⟨2,.data⟩,⟨5,.data⟩],guard:=none }
def opIj7:Oper:={ dst:=some 37,op:=Op.load 29 (Operand.tmp 36),type:=29,pos:= "ruin.go:90",after:=#[⟨6,.data⟩],guard:=none }
def opIj8:Oper:={ dst:=some 38,op:=Op.call { callee:=Callee.value (Operand.func 33),args:=#[Operand.tmp 31,Operand.tmp 37],argTypes:=#[29,29] },type:=29,pos:= "ruin.go:90",after:=#[⟨1,.data⟩,⟨7,.data⟩],guard:=none }
def opIj9:Oper:={ dst:=some 39,op:=Op.call { callee:=Callee.value (Operand.func 22),args:=#[Operand.tmp 30,Operand.tmp 38],argTypes:=#[29,29] },type:=29,pos:= "ruin.go:90",after:=#[⟨0,.data⟩,⟨8,.data⟩,⟨8,.chain⟩],guard:=none }
def opIj10:Oper:={ dst:=none,op:=Op.store 29 (Operand.tmp 8) (Operand.tmp 39),type:=0,pos:= "ruin.go:90",after:=#[⟨9,.data⟩,⟨9,.chain⟩,⟨0,.phase⟩,⟨1,.phase⟩,⟨2,.phase⟩,⟨3,.phase⟩,⟨4,.phase⟩,⟨5,.phase⟩,⟨6,.phase⟩,⟨7,.phase⟩,⟨8,.phase⟩,⟨9,.phase⟩],guard:=none }
def opIjs:Array Oper:=#[opIj0,opIj1,opIj2,opIj3,opIj4,opIj5,opIj6,opIj7,opIj8,opIj9,opIj10]
def opIjT (i:Nat):Nat:=match i with
 | 0=>30
 | 1=>31
 | 2=>32
 | 3=>33
 | 4=>34
 | 5=>35
 | 6=>36
 | 7=>37
 | 8=>38
 | _=>39
def opIjC (s1:Bool) (x1:Int) (y1:Int) (p1:Option Addr) (s2:Bool) (x2:Int) (y2:Int) (p2:Option Addr) (s3:Bool) (x3:Int) (y3:Int) (p3:Option Addr) (bb:Nat) (bo:Nat) (bn:Nat) (bc:Nat) (m:Nat) (k:Nat) (f1:Rat) (f2:Rat) (f3:Rat) (i:Nat) (w:World) (v:Value):Prop:=match i with
 | 0=>v=.agg #[.bool s1,.int .u64 x1,.int .u64 y1,.pointer p1]
 | 1=>v=.agg #[.bool s2,.int .u64 x2,.int .u64 y2,.pointer p2]
 | 2=>v=.slice (some ⟨bb,bo,none⟩) bn bc
 | 3=>v=.int .i64 (m:Int)
 | 4=>v=.int .i64 (k:Int)
 | 5=>v=.int .i64 ((m-k:Nat):Int)
 | 6=>v=.pointer (some ⟨bb,bo+(m-k)*4,none⟩)
 | 7=>v=.agg #[.bool s3,.int .u64 x3,.int .u64 y3,.pointer p3]
 | 8=>FracAt w v (f2*f3)
 | _=>FracAt w v (f1+f2*f3)
theorem opIjC_but {s1:Bool} {x1:Int} {y1:Int} {p1:Option Addr} {s2:Bool} {x2:Int} {y2:Int} {p2:Option Addr} {s3:Bool} {x3:Int} {y3:Int} {p3:Option Addr} {bb:Nat} {bo:Nat} {bn:Nat} {bc:Nat} {m:Nat} {k:Nat} {f1:Rat} {f2:Rat} {f3:Rat} {i:Nat} {w w':World} {v:Value} (h:opIjC s1 x1 y1 p1 s2 x2 y2 p2 s3 x3 y3 p3 bb bo bn bc m k f1 f2 f3 i w v) (hi:i<10) (hb:But [] w w'):opIjC s1 x1 y1 p1 s2 x2 y2 p2 s3 x3 y3 p3 bb bo bn bc m k f1 f2 f3 i w' v:=by
 have:i=0∨i=1∨i=2∨i=3∨i=4∨i=5∨i=6∨i=7∨i=8∨i=9:=by omega
 rcases this with rfl | rfl | rfl | rfl | rfl | rfl | rfl | rfl | rfl | rfl
 all_goals first | exact h | exact FracAt.but h hb | exact FracsAt.but h hb
theorem opIjT_inj:∀ i j,i<10→j<10→opIjT i=opIjT j→i=j:=fun i j hi hj=>(by decide:∀ i,i<10→∀ j,j<10→opIjT i=opIjT j→i=j) i hi j hj
theorem ahead_region (id:Nat) (Q:Exit→Act→World→Prop) (base:Act) (W0:World) (s1:Bool) (x1:Int) (y1:Int) (p1:Option Addr) (s2:Bool) (x2:Int) (y2:Int) (p2:Option Addr) (s3:Bool) (x3:Int) (y3:Int) (p3:Option Addr) (bb:Nat) (bo:Nat) (bn:Nat) (bc:Nat) (m:Nat) (k:Nat) (f1:Rat) (f2:Rat) (f3:Rat) (gb g10:Nat) {sb:Bool} {xb yb:Int} {pb:Option Addr} (hs:39<base.tmps.size) (eb:base.eval (.tmp 8)=.pointer (some ⟨gb,0,none⟩)) (cb:P4 W0 gb sb xb yb pb) (fzb:∀ j,W0.frozen? ⟨gb,j,none⟩=false) (e10:base.eval (.tmp 10)=.pointer (some ⟨g10,0,none⟩)) (e1:base.eval (.tmp 1)=.slice (some ⟨bb,bo,none⟩) bn bc) (e7:base.eval (.tmp 7)=.int .i64 (m:Int)) (e9:base.eval (.tmp 9)=.int .i64 (k:Int))
  (hm:m≤1000000) (hkm:k≤m) (hmn:m-k<bn) (hbn:bn<1000000) (c1:P4 W0 gb s1 x1 y1 p1) (c2:P4 W0 g10 s2 x2 y2 p2) (c3:P4o W0 bb (bo+(m-k)*4) s3 x3 y3 p3)
  (MU:∀ w,But [] W0 w→Calls Tryz.prog 33 #[.agg #[.bool s2,.int .u64 x2,.int .u64 y2,.pointer p2],.agg #[.bool s3,.int .u64 x3,.int .u64 y3,.pointer p3]] w fun e w'=>∃ v,e=.returned v∧FracAt w' v (f2*f3)∧But [] w w')
  (AD:∀ w,But [] W0 w→∀ v,FracAt w v (f2*f3)→Calls Tryz.prog 22 #[.agg #[.bool s1,.int .u64 x1,.int .u64 y1,.pointer p1],v] w fun e w'=>∃ v,e=.returned v∧FracAt w' v (f1+f2*f3)∧But [] w w')
  (hQ:∀ w1 v8 s' x' y' p',But [] W0 w1→FracAt w1 (.agg #[.bool s',.int .u64 x',.int .u64 y',.pointer p']) (f1+f2*f3)→Q .normal (putted base [(30,.agg #[.bool s1,.int .u64 x1,.int .u64 y1,.pointer p1]),(31,.agg #[.bool s2,.int .u64 x2,.int .u64 y2,.pointer p2]),(32,.slice (some ⟨bb,bo,none⟩) bn bc),(33,.int .i64 (m:Int)),(34,.int .i64 (k:Int)),(35,.int .i64 ((m-k:Nat):Int)),(36,.pointer (some ⟨bb,bo+(m-k)*4,none⟩)),(37,.agg #[.bool s3,.int .u64 x3,.int .u64 y3,.pointer p3]),(38,v8),(39,(.agg #[.bool s',.int .u64 x',.int .u64 y',.pointer p']))]) (put4 w1 gb s' x' y' p')) :
  (Code.region id opIjs true).wp Tryz.prog Q base W0:=by
 have hdr:∀ {w},But [] W0.drew w→But [] W0 w:=fun h=>(But.refl _ _).drew.trans' h
 have lgb:gb<W0.heap.size:=lt_of_cell cb.1
 have hT:∀ i,i<10→opIjT i<base.tmps.size:=fun i hi=>by
  have h:opIjT i≤39:=by revert i;decide
  omega
 refine region_flow (by kernel_rfl) (low_of (by kernel_rfl)) (fun i o ho=>(calm_of (ops:=opIjs) (by kernel_rfl) i o ho).1)
  (fun _ w=>But [] W0.drew w) (opIjC s1 x1 y1 p1 s2 x2 y2 p2 s3 x3 y3 p3 bb bo bn bc m k f1 f2 f3) opIjT 10 rfl opIjT_inj hT (But.refl _ _)
  (fun i hi=>?_) ?_ (fun a w=>∃ w1 v8 s' x' y' p',a=putted base [(30,.agg #[.bool s1,.int .u64 x1,.int .u64 y1,.pointer p1]),(31,.agg #[.bool s2,.int .u64 x2,.int .u64 y2,.pointer p2]),(32,.slice (some ⟨bb,bo,none⟩) bn bc),(33,.int .i64 (m:Int)),(34,.int .i64 (k:Int)),(35,.int .i64 ((m-k:Nat):Int)),(36,.pointer (some ⟨bb,bo+(m-k)*4,none⟩)),(37,.agg #[.bool s3,.int .u64 x3,.int .u64 y3,.pointer p3]),(38,v8),(39,(.agg #[.bool s',.int .u64 x',.int .u64 y',.pointer p']))]∧w=put4 w1 gb s' x' y' p'∧But [] W0 w1∧FracAt w1 (.agg #[.bool s',.int .u64 x',.int .u64 y',.pointer p']) (f1+f2*f3)) ?_ ?_
 ·exact dep_of (ops:=opIjs) (ps:=[(10,0),(10,1),(10,2),(10,3),(10,4),(10,5),(10,6),(10,7),(10,8),(10,9)]) (by kernel_rfl) 10 i (by
   have:i=0∨i=1∨i=2∨i=3∨i=4∨i=5∨i=6∨i=7∨i=8∨i=9:=by omega
   rcases this with rfl | rfl | rfl | rfl | rfl | rfl | rfl | rfl | rfl | rfl <;> simp)
 ·intro dn i o a w K hi ho hdi hH he hdep hK
  have hD:=fun j hj=>(dep_have (ps:=[(5,3),(5,4),(6,2),(6,5),(7,6),(8,1),(8,7),(9,0),(9,8)]) (by kernel_rfl) ho (fun j=>dn j=true∧opIjC s1 x1 y1 p1 s2 x2 y2 p2 s3 x3 y3 p3 bb bo bn bc m k f1 f2 f3 j w (a.eval (.tmp (opIjT j)))) hdep j hj).2
  have hk:∀ v w',But [] w w'→opIjC s1 x1 y1 p1 s2 x2 y2 p2 s3 x3 y3 p3 bb bo bn bc m k f1 f2 f3 i w' v→K (a.put (some (opIjT i)) v) w':=fun v w' hb hv=>hK v w' (hH.trans' hb) (fun j hj _ u hu=>opIjC_but hu hj hb) hv
  have eb':=(he 8 (fun j hj e=>absurd e.symm (by revert j;decide))).trans eb
  have e10':=(he 10 (fun j hj e=>absurd e.symm (by revert j;decide))).trans e10
  have e1':=(he 1 (fun j hj e=>absurd e.symm (by revert j;decide))).trans e1
  have e7':=(he 7 (fun j hj e=>absurd e.symm (by revert j;decide))).trans e7
  have e9':=(he 9 (fun j hj e=>absurd e.symm (by revert j;decide))).trans e9
  have:i=0∨i=1∨i=2∨i=3∨i=4∨i=5∨i=6∨i=7∨i=8∨i=9:=by omega
  rcases this with rfl | rfl | rfl | rfl | rfl | rfl | rfl | rfl | rfl | rfl
  ·obtain rfl:=Option.some.inj ((show opIjs[0]? = some opIj0 from rfl).symm.trans ho)
   exact wp_value (run_loadK a w _ _ _ _ _ _ gb 0 _ _ _ _ eb' (c1.but (hdr hH) (by simp))) (hk _ _ (But.refl _ _) rfl)
  ·obtain rfl:=Option.some.inj ((show opIjs[1]? = some opIj1 from rfl).symm.trans ho)
   exact wp_value (run_loadK a w _ _ _ _ _ _ g10 0 _ _ _ _ e10' (c2.but (hdr hH) (by simp))) (hk _ _ (But.refl _ _) rfl)
  ·obtain rfl:=Option.some.inj ((show opIjs[2]? = some opIj2 from rfl).symm.trans ho)
   exact wp_value (run_mvK a w _ _ _ _ _ _ _ e1') (hk _ _ (But.refl _ _) rfl)
  ·obtain rfl:=Option.some.inj ((show opIjs[3]? = some opIj3 from rfl).symm.trans ho)
   exact wp_value (run_mvK a w _ _ _ _ _ _ _ e7') (hk _ _ (But.refl _ _) rfl)
  ·obtain rfl:=Option.some.inj ((show opIjs[4]? = some opIj4 from rfl).symm.trans ho)
   exact wp_value (run_mvK a w _ _ _ _ _ _ _ e9') (hk _ _ (But.refl _ _) rfl)
  ·obtain rfl:=Option.some.inj ((show opIjs[5]? = some opIj5 from rfl).symm.trans ho)
   exact wp_value (run_minusI a w _ _ _ _ _ _ _ m k (by omega) hkm (hD 3 (by simp)) (hD 4 (by simp))) (hk _ _ (But.refl _ _) rfl)
  ·obtain rfl:=Option.some.inj ((show opIjs[6]? = some opIj6 from rfl).symm.trans ho)
   exact wp_value (run_indexSI a w _ _ _ _ _ _ _ bb bo bn bc (m-k) hmn hbn (hD 2 (by simp)) (hD 5 (by simp))) (hk _ _ (But.refl _ _) rfl)
  ·obtain rfl:=Option.some.inj ((show opIjs[7]? = some opIj7 from rfl).symm.trans ho)
   exact wp_value (run_loadK a w _ _ _ _ _ _ bb (bo+(m-k)*4) _ _ _ _ (hD 6 (by simp)) (c3.but (hdr hH) (by simp))) (hk _ _ (But.refl _ _) rfl)
  ·obtain rfl:=Option.some.inj ((show opIjs[8]? = some opIj8 from rfl).symm.trans ho)
   exact wp_enter (run_mulK a w _ _ _ _ _ _ _ _ _ (hD 1 (by simp)) (hD 7 (by simp))) (R:=fun w' v=>FracAt w' v (f2*f3)∧But [] w w') (MU w (hdr hH)) (fun v w' hv=>hk v w' hv.2 hv.1)
  ·obtain rfl:=Option.some.inj ((show opIjs[9]? = some opIj9 from rfl).symm.trans ho)
   exact wp_enter (run_addK a w _ _ _ _ _ _ _ _ _ (hD 0 (by simp)) rfl) (R:=fun w' v=>FracAt w' v (f1+f2*f3)∧But [] w w') (AD w (hdr hH) _ (hD 8 (by simp))) (fun v w' hv=>hk v w' hv.2 hv.1)
 ·intro dn o a w K ho hall h hK
  obtain rfl:=Option.some.inj ((show opIjs[10]? = some opIj10 from rfl).symm.trans ho)
  have eb':=(h.eval 8 (fun j hj e=>absurd e.symm (by revert j;decide))).trans eb
  have cl:FracAt w (a.eval (.tmp 39)) (f1+f2*f3):=h.has 9 (by omega) (hall 9 (by omega))
  have cl':=cl
  obtain ⟨x',y',p',ev,-⟩:=cl.agg
  rw [ev] at cl'
  have ea:=h.puts hT (fun i=>match i with
   | 0=>.agg #[.bool s1,.int .u64 x1,.int .u64 y1,.pointer p1]
   | 1=>.agg #[.bool s2,.int .u64 x2,.int .u64 y2,.pointer p2]
   | 2=>.slice (some ⟨bb,bo,none⟩) bn bc
   | 3=>.int .i64 (m:Int)
   | 4=>.int .i64 (k:Int)
   | 5=>.int .i64 ((m-k:Nat):Int)
   | 6=>.pointer (some ⟨bb,bo+(m-k)*4,none⟩)
   | 7=>.agg #[.bool s3,.int .u64 x3,.int .u64 y3,.pointer p3]
   | 8=>a.eval (.tmp 38)
   | _=>.agg #[.bool (decide ((f1+f2*f3).num<0)),.int .u64 x',.int .u64 y',.pointer p']) (fun i hi=>by
   have hc:=h.has i hi (hall i hi)
   have:i=0∨i=1∨i=2∨i=3∨i=4∨i=5∨i=6∨i=7∨i=8∨i=9:=by omega
   rcases this with rfl | rfl | rfl | rfl | rfl | rfl | rfl | rfl | rfl | rfl
   all_goals first | exact ev | exact hc | rfl)
  exact wp_skipped (run_store4 a w _ _ _ _ _ gb _ x' y' p' eb' ev (cb.but (hdr h.mem) (by simp)) (fun j=>((hdr h.mem).frozen (p:=⟨gb,j,none⟩) lgb (by simp)).trans (fzb j))) (hK _ _ ⟨w,a.eval (.tmp 38),_,x',y',p',ea,rfl,hdr h.mem,cl'⟩)
 ·rintro a w ⟨w1,v8,s',x',y',p',rfl,rfl,h1,h2⟩
  exact hQ  w1 v8 s' x' y' p' h1 h2
def opIk0:Oper:={ dst:=some 54,op:=Op.move (Operand.tmp 7),type:=63,pos:= "ruin.go:76",after:=#[],guard:=none }
def opIk1:Oper:={ dst:=some 55,op:=Op.move (Operand.tmp 8),type:=3,pos:= "ruin.go:76",after:=#[],guard:=none }
def opIk2:Oper:={ dst:=some 56,op:=Op.indexAddr 63 (Operand.tmp 54) (Operand.tmp 55),type:=0,pos:= "ruin.go:76",after:=#[⟨0,.data⟩,⟨1,.data⟩],guard:=none }
def opIk3:Oper:={ dst:=some 57,op:=Op.load 33 (Operand.tmp 56),type:=33,pos:= "ruin.go:76",after:=#[⟨2,.data⟩],guard:=none }
def opIk4:Oper:={ dst:=some 58,op:=Op.move (Operand.tmp 11),type:=3,pos:= "ruin.go:76",after:=#[],guard:=none }
def opIk5:Oper:={ dst:=some 59,op:=Op.load 29 (Operand.tmp 9),type:=29,pos:= "ruin.go:76",after:=#[],guard:=none }
def opIk6:Oper:={ dst:=some 60,op:=Op.indexAddr 33 (Operand.tmp 57) (Operand.tmp 58),type:=0,pos:= "ruin.go:76",after:=#[⟨3,.data⟩,⟨4,.data⟩,⟨0,.phase⟩,⟨1,.phase⟩,⟨2,.phase⟩,⟨3,.phase⟩,⟨4,.phase⟩,⟨5,.phase⟩],guard:=none }
def opIk7:Oper:={ dst:=none,op:=Op.store 29 (Operand.tmp 60) (Operand.tmp 59),type:=0,pos:= "ruin.go:76",after:=#[⟨6,.data⟩,⟨5,.data⟩,⟨0,.phase⟩,⟨1,.phase⟩,⟨2,.phase⟩,⟨3,.phase⟩,⟨4,.phase⟩,⟨5,.phase⟩],guard:=none }
def opIks:Array Oper:=#[opIk0,opIk1,opIk2,opIk3,opIk4,opIk5,opIk6,opIk7]
def opIkT (i:Nat):Nat:=match i with
 | 0=>54
 | 1=>55
 | 2=>56
 | 3=>57
 | 4=>58
 | 5=>59
 | _=>60
def opIkC (gb:Nat) (go:Nat) (gm:Nat) (N:Nat) (ro:Nat) (cn:Nat) (cc:Nat) (ka:Nat) (th:Nat) (_s1:Bool) (_x1:Int) (_y1:Int) (_p1:Option Addr) (f1:Rat) (i:Nat) (w:World) (v:Value):Prop:=match i with
 | 0=>v=.slice (some ⟨gm,0,none⟩) N N
 | 1=>v=.int .i64 (ka:Int)
 | 2=>v=.pointer (some ⟨gm,0+ka,none⟩)
 | 3=>v=.slice (some ⟨gb,ro,none⟩) cn cc
 | 4=>v=.int .i64 (th:Int)
 | 5=>FracAt w v f1
 | _=>v=.pointer (some ⟨gb,go,none⟩)
theorem opIkC_but {gb:Nat} {go:Nat} {gm:Nat} {N:Nat} {ro:Nat} {cn:Nat} {cc:Nat} {ka:Nat} {th:Nat} {s1:Bool} {x1:Int} {y1:Int} {p1:Option Addr} {f1:Rat} {i:Nat} {w w':World} {v:Value} (h:opIkC gb go gm N ro cn cc ka th s1 x1 y1 p1 f1 i w v) (hi:i<7) (hb:But [] w w'):opIkC gb go gm N ro cn cc ka th s1 x1 y1 p1 f1 i w' v:=by
 have:i=0∨i=1∨i=2∨i=3∨i=4∨i=5∨i=6:=by omega
 rcases this with rfl | rfl | rfl | rfl | rfl | rfl | rfl
 all_goals first | exact h | exact FracAt.but h hb | exact FracsAt.but h hb
theorem opIkT_inj:∀ i j,i<7→j<7→opIkT i=opIkT j→i=j:=fun i j hi hj=>(by decide:∀ i,i<7→∀ j,j<7→opIkT i=opIkT j→i=j) i hi j hj
theorem lasting_region11 (id:Nat) (Q:Exit→Act→World→Prop) (base:Act) (W0:World) (gb:Nat) (go:Nat) (gm:Nat) (N:Nat) (ro:Nat) (cn:Nat) (cc:Nat) (ka:Nat) (th:Nat) (s1:Bool) (x1:Int) (y1:Int) (p1:Option Addr) (f1:Rat) (g9:Nat) {sb:Bool} {xb yb:Int} {pb:Option Addr} (hs:60<base.tmps.size) (cb:P4o W0 gb go sb xb yb pb) (fzb:∀ j,W0.frozen? ⟨gb,j,none⟩=false) (e7:base.eval (.tmp 7)=.slice (some ⟨gm,0,none⟩) N N) (e8:base.eval (.tmp 8)=.int .i64 (ka:Int)) (e11:base.eval (.tmp 11)=.int .i64 (th:Int)) (e9:base.eval (.tmp 9)=.pointer (some ⟨g9,0,none⟩))
  (hgo:go=ro+th*4) (hka:ka<N) (hN2:N<1000000) (hth:th<cn) (hcn2:cn<1000000) (cr:W0.cell? ⟨gm,0+ka,none⟩=some (.slice (some ⟨gb,ro,none⟩) cn cc)) (c1:P4 W0 g9 s1 x1 y1 p1) (F1:FracAt W0 (.agg #[.bool s1,.int .u64 x1,.int .u64 y1,.pointer p1]) f1)
  (hQ:∀ w1 s' x' y' p',But [] W0 w1→FracAt w1 (.agg #[.bool s',.int .u64 x',.int .u64 y',.pointer p']) (f1)→Q .normal (putted base [(54,.slice (some ⟨gm,0,none⟩) N N),(55,.int .i64 (ka:Int)),(56,.pointer (some ⟨gm,0+ka,none⟩)),(57,.slice (some ⟨gb,ro,none⟩) cn cc),(58,.int .i64 (th:Int)),(59,(.agg #[.bool s',.int .u64 x',.int .u64 y',.pointer p'])),(60,.pointer (some ⟨gb,go,none⟩))]) (w1.setCells gb go [.bool s',.int .u64 x',.int .u64 y',.pointer p'])) :
  (Code.region id opIks true).wp Tryz.prog Q base W0:=by
 have hdr:∀ {w},But [] W0.drew w→But [] W0 w:=fun h=>(But.refl _ _).drew.trans' h
 have lgb:gb<W0.heap.size:=lt_of_cell cb.1
 have hT:∀ i,i<7→opIkT i<base.tmps.size:=fun i hi=>by
  have h:opIkT i≤60:=by revert i;decide
  omega
 refine region_flow (by kernel_rfl) (low_of (by kernel_rfl)) (fun i o ho=>(calm_of (ops:=opIks) (by kernel_rfl) i o ho).1)
  (fun _ w=>But [] W0.drew w) (opIkC gb go gm N ro cn cc ka th s1 x1 y1 p1 f1) opIkT 7 rfl opIkT_inj hT (But.refl _ _)
  (fun i hi=>?_) ?_ (fun a w=>∃ w1 s' x' y' p',a=putted base [(54,.slice (some ⟨gm,0,none⟩) N N),(55,.int .i64 (ka:Int)),(56,.pointer (some ⟨gm,0+ka,none⟩)),(57,.slice (some ⟨gb,ro,none⟩) cn cc),(58,.int .i64 (th:Int)),(59,(.agg #[.bool s',.int .u64 x',.int .u64 y',.pointer p'])),(60,.pointer (some ⟨gb,go,none⟩))]∧w=w1.setCells gb go [.bool s',.int .u64 x',.int .u64 y',.pointer p']∧But [] W0 w1∧FracAt w1 (.agg #[.bool s',.int .u64 x',.int .u64 y',.pointer p']) (f1)) ?_ ?_
 ·exact dep_of (ops:=opIks) (ps:=[(7,0),(7,1),(7,2),(7,3),(7,4),(7,5),(7,6)]) (by kernel_rfl) 7 i (by
   have:i=0∨i=1∨i=2∨i=3∨i=4∨i=5∨i=6:=by omega
   rcases this with rfl | rfl | rfl | rfl | rfl | rfl | rfl <;> simp)
 ·intro dn i o a w K hi ho hdi hH he hdep hK
  have hD:=fun j hj=>(dep_have (ps:=[(2,0),(2,1),(3,2),(6,0),(6,1),(6,2),(6,3),(6,4),(6,5)]) (by kernel_rfl) ho (fun j=>dn j=true∧opIkC gb go gm N ro cn cc ka th s1 x1 y1 p1 f1 j w (a.eval (.tmp (opIkT j)))) hdep j hj).2
  have hk:∀ v w',But [] w w'→opIkC gb go gm N ro cn cc ka th s1 x1 y1 p1 f1 i w' v→K (a.put (some (opIkT i)) v) w':=fun v w' hb hv=>hK v w' (hH.trans' hb) (fun j hj _ u hu=>opIkC_but hu hj hb) hv
  have e7':=(he 7 (fun j hj e=>absurd e.symm (by revert j;decide))).trans e7
  have e8':=(he 8 (fun j hj e=>absurd e.symm (by revert j;decide))).trans e8
  have e11':=(he 11 (fun j hj e=>absurd e.symm (by revert j;decide))).trans e11
  have e9':=(he 9 (fun j hj e=>absurd e.symm (by revert j;decide))).trans e9
  have:i=0∨i=1∨i=2∨i=3∨i=4∨i=5∨i=6:=by omega
  rcases this with rfl | rfl | rfl | rfl | rfl | rfl | rfl
  ·obtain rfl:=Option.some.inj ((show opIks[0]? = some opIk0 from rfl).symm.trans ho)
   exact wp_value (run_mvK a w _ _ _ _ _ _ _ e7') (hk _ _ (But.refl _ _) rfl)
  ·obtain rfl:=Option.some.inj ((show opIks[1]? = some opIk1 from rfl).symm.trans ho)
   exact wp_value (run_mvK a w _ _ _ _ _ _ _ e8') (hk _ _ (But.refl _ _) rfl)
  ·obtain rfl:=Option.some.inj ((show opIks[2]? = some opIk2 from rfl).symm.trans ho)
   exact wp_value (run_indexRK a w _ _ _ _ _ _ _ gm 0 N N ka hka hN2 (hD 0 (by simp)) (hD 1 (by simp))) (hk _ _ (But.refl _ _) rfl)
  ·obtain rfl:=Option.some.inj ((show opIks[3]? = some opIk3 from rfl).symm.trans ho)
   exact wp_value (run_loadRK a w _ _ _ _ _ _ gm _ _ _ _ (hD 2 (by simp)) ((hdr hH).cell_some cr (by simp))) (hk _ _ (But.refl _ _) rfl)
  ·obtain rfl:=Option.some.inj ((show opIks[4]? = some opIk4 from rfl).symm.trans ho)
   exact wp_value (run_mvK a w _ _ _ _ _ _ _ e11') (hk _ _ (But.refl _ _) rfl)
  ·obtain rfl:=Option.some.inj ((show opIks[5]? = some opIk5 from rfl).symm.trans ho)
   exact wp_value (run_loadK a w _ _ _ _ _ _ g9 0 _ _ _ _ e9' (c1.but (hdr hH) (by simp))) (hk _ _ (But.refl _ _) (F1.but (hdr hH)))
  ·obtain rfl:=Option.some.inj ((show opIks[6]? = some opIk6 from rfl).symm.trans ho)
   refine wp_value (run_indexSI a w _ _ _ _ _ _ _ gb ro cn cc th hth hcn2 (hD 3 (by simp)) (hD 4 (by simp))) (hk _ _ (But.refl _ _) ?_)
   show Value.pointer _=Value.pointer _
   rw [hgo]
 ·intro dn o a w K ho hall h hK
  obtain rfl:=Option.some.inj ((show opIks[7]? = some opIk7 from rfl).symm.trans ho)
  have eb':a.eval (.tmp 60)=.pointer (some ⟨gb,go,none⟩):=h.has 6 (by omega) (hall 6 (by omega))
  have cl:FracAt w (a.eval (.tmp 59)) (f1):=h.has 5 (by omega) (hall 5 (by omega))
  have cl':=cl
  obtain ⟨x',y',p',ev,-⟩:=cl.agg
  rw [ev] at cl'
  have ea:=h.puts hT (fun i=>match i with
   | 0=>.slice (some ⟨gm,0,none⟩) N N
   | 1=>.int .i64 (ka:Int)
   | 2=>.pointer (some ⟨gm,0+ka,none⟩)
   | 3=>.slice (some ⟨gb,ro,none⟩) cn cc
   | 4=>.int .i64 (th:Int)
   | 5=>.agg #[.bool (decide ((f1).num<0)),.int .u64 x',.int .u64 y',.pointer p']
   | _=>.pointer (some ⟨gb,go,none⟩)) (fun i hi=>by
   have hc:=h.has i hi (hall i hi)
   have:i=0∨i=1∨i=2∨i=3∨i=4∨i=5∨i=6:=by omega
   rcases this with rfl | rfl | rfl | rfl | rfl | rfl | rfl
   all_goals first | exact ev | exact hc | rfl)
  exact wp_skipped (run_store4o a w _ _ _ _ _ gb go _ x' y' p' eb' ev (cb.but (hdr h.mem) (by simp)) (fun j=>((hdr h.mem).frozen (p:=⟨gb,j,none⟩) lgb (by simp)).trans (fzb j))) (hK _ _ ⟨w,_,x',y',p',ea,rfl,hdr h.mem,cl'⟩)
 ·rintro a w ⟨w1,s',x',y',p',rfl,rfl,h1,h2⟩
  exact hQ  w1 s' x' y' p' h1 h2
def opIl0:Oper:={ dst:=some 61,op:=Op.move (Operand.tmp 7),type:=63,pos:= "ruin.go:78",after:=#[],guard:=none }
def opIl1:Oper:={ dst:=some 62,op:=Op.move (Operand.tmp 8),type:=3,pos:= "ruin.go:78",after:=#[],guard:=none }
def opIl2:Oper:={ dst:=some 63,op:=Op.indexAddr 63 (Operand.tmp 61) (Operand.tmp 62),type:=0,pos:= "ruin.go:78",after:=#[⟨0,.data⟩,⟨1,.data⟩],guard:=none }
def opIl3:Oper:={ dst:=some 64,op:=Op.load 33 (Operand.tmp 63),type:=33,pos:= "ruin.go:78",after:=#[⟨2,.data⟩],guard:=none }
def opIl4:Oper:={ dst:=some 65,op:=Op.move (Operand.tmp 11),type:=3,pos:= "ruin.go:78",after:=#[],guard:=none }
def opIl5:Oper:={ dst:=some 66,op:=Op.load 149 (Operand.tmp 3),type:=149,pos:= "ruin.go:78",after:=#[],guard:=none }
def opIl6:Oper:={ dst:=some 67,op:=Op.move (Operand.tmp 7),type:=63,pos:= "ruin.go:78",after:=#[],guard:=none }
def opIl7:Oper:={ dst:=some 68,op:=Op.move (Operand.tmp 8),type:=3,pos:= "ruin.go:78",after:=#[],guard:=none }
def opIl8:Oper:={ dst:=some 69,op:=Op.binOp BinOp.sub 3 (Operand.tmp 68) (Operand.const (Value.int IntKind.i64 1)) 3,type:=3,pos:= "ruin.go:78",after:=#[⟨7,.data⟩],guard:=none }
def opIl9:Oper:={ dst:=some 70,op:=Op.indexAddr 63 (Operand.tmp 67) (Operand.tmp 69),type:=0,pos:= "ruin.go:78",after:=#[⟨6,.data⟩,⟨8,.data⟩],guard:=none }
def opIl10:Oper:={ dst:=some 71,op:=Op.load 33 (Operand.tmp 70),type:=33,pos:= "ruin.go:78",after:=#[⟨9,.data⟩],guard:=none }
def opIl11:Oper:={ dst:=some 72,op:=Op.move (Operand.tmp 11),type:=3,pos:= "ruin.go:78",after:=#[],guard:=none }
def opIl12:Oper:={ dst:=some 73,op:=Op.call { callee:=Callee.value (Operand.func 155),args:=#[Operand.tmp 66,Operand.tmp 71,Operand.tmp 72],argTypes:=#[149,33,3] },type:=29,pos:= "ruin.go:78",after:=#[⟨5,.data⟩,⟨10,.data⟩,⟨11,.data⟩],guard:=none }
def opIl13:Oper:={ dst:=some 74,op:=Op.indexAddr 33 (Operand.tmp 64) (Operand.tmp 65),type:=0,pos:= "ruin.go:78",after:=#[⟨3,.data⟩,⟨4,.data⟩,⟨0,.phase⟩,⟨1,.phase⟩,⟨2,.phase⟩,⟨3,.phase⟩,⟨4,.phase⟩,⟨5,.phase⟩,⟨6,.phase⟩,⟨7,.phase⟩,⟨8,.phase⟩,⟨9,.phase⟩,⟨10,.phase⟩,⟨11,.phase⟩,⟨12,.phase⟩],guard:=none }
def opIl14:Oper:={ dst:=none,op:=Op.store 29 (Operand.tmp 74) (Operand.tmp 73),type:=0,pos:= "ruin.go:78",after:=#[⟨13,.data⟩,⟨12,.data⟩,⟨12,.chain⟩,⟨0,.phase⟩,⟨1,.phase⟩,⟨2,.phase⟩,⟨3,.phase⟩,⟨4,.phase⟩,⟨5,.phase⟩,⟨6,.phase⟩,⟨7,.phase⟩,⟨8,.phase⟩,⟨9,.phase⟩,⟨10,.phase⟩,⟨11,.phase⟩,⟨12,.phase⟩],guard:=none }
def opIls:Array Oper:=#[opIl0,opIl1,opIl2,opIl3,opIl4,opIl5,opIl6,opIl7,opIl8,opIl9,opIl10,opIl11,opIl12,opIl13,opIl14]
def opIlT (i:Nat):Nat:=match i with
 | 0=>61
 | 1=>62
 | 2=>63
 | 3=>64
 | 4=>65
 | 5=>66
 | 6=>67
 | 7=>68
 | 8=>69
 | 9=>70
 | 10=>71
 | 11=>72
 | 12=>73
 | _=>74
def opIlC (gb:Nat) (go:Nat) (gm:Nat) (N:Nat) (ro:Nat) (rb:Nat) (cn:Nat) (cc:Nat) (ka:Nat) (kb:Nat) (th:Nat) (yi:Int) (s1:Bool) (x1:Int) (y1:Int) (p1:Option Addr) (yq:Option Addr) (yn:Nat) (yc:Nat) (f1:Rat) (i:Nat) (w:World) (v:Value):Prop:=match i with
 | 0=>v=.slice (some ⟨gm,0,none⟩) N N
 | 1=>v=.int .i64 (ka:Int)
 | 2=>v=.pointer (some ⟨gm,0+ka,none⟩)
 | 3=>v=.slice (some ⟨gb,ro,none⟩) cn cc
 | 4=>v=.int .i64 (th:Int)
 | 5=>v=.agg #[.int .i64 yi,.bool s1,.int .u64 x1,.int .u64 y1,.pointer p1,.slice yq yn yc]
 | 6=>v=.slice (some ⟨gm,0,none⟩) N N
 | 7=>v=.int .i64 (ka:Int)
 | 8=>v=.int .i64 (kb:Int)
 | 9=>v=.pointer (some ⟨gm,0+kb,none⟩)
 | 10=>v=.slice (some ⟨gb,rb,none⟩) cn cc
 | 11=>v=.int .i64 (th:Int)
 | 12=>FracAt w v f1
 | _=>v=.pointer (some ⟨gb,go,none⟩)
theorem opIlC_but {gb:Nat} {go:Nat} {gm:Nat} {N:Nat} {ro:Nat} {rb:Nat} {cn:Nat} {cc:Nat} {ka:Nat} {kb:Nat} {th:Nat} {yi:Int} {s1:Bool} {x1:Int} {y1:Int} {p1:Option Addr} {yq:Option Addr} {yn:Nat} {yc:Nat} {f1:Rat} {i:Nat} {w w':World} {v:Value} (h:opIlC gb go gm N ro rb cn cc ka kb th yi s1 x1 y1 p1 yq yn yc f1 i w v) (hi:i<14) (hb:But [] w w'):opIlC gb go gm N ro rb cn cc ka kb th yi s1 x1 y1 p1 yq yn yc f1 i w' v:=by
 have:i=0∨i=1∨i=2∨i=3∨i=4∨i=5∨i=6∨i=7∨i=8∨i=9∨i=10∨i=11∨i=12∨i=13:=by omega
 rcases this with rfl | rfl | rfl | rfl | rfl | rfl | rfl | rfl | rfl | rfl | rfl | rfl | rfl | rfl
 all_goals first | exact h | exact FracAt.but h hb | exact FracsAt.but h hb
theorem opIlT_inj:∀ i j,i<14→j<14→opIlT i=opIlT j→i=j:=fun i j hi hj=>(by decide:∀ i,i<14→∀ j,j<14→opIlT i=opIlT j→i=j) i hi j hj
theorem lasting_region12 (id:Nat) (Q:Exit→Act→World→Prop) (base:Act) (W0:World) (gb:Nat) (go:Nat) (gm:Nat) (N:Nat) (ro:Nat) (rb:Nat) (cn:Nat) (cc:Nat) (ka:Nat) (kb:Nat) (th:Nat) (yi:Int) (s1:Bool) (x1:Int) (y1:Int) (p1:Option Addr) (yq:Option Addr) (yn:Nat) (yc:Nat) (f1:Rat) (g3:Nat) {sb:Bool} {xb yb':Int} {pb:Option Addr} (hs:74<base.tmps.size) (cb:P4o W0 gb go sb xb yb' pb) (fzb:∀ j,W0.frozen? ⟨gb,j,none⟩=false) (e7:base.eval (.tmp 7)=.slice (some ⟨gm,0,none⟩) N N) (e8:base.eval (.tmp 8)=.int .i64 (ka:Int)) (e11:base.eval (.tmp 11)=.int .i64 (th:Int)) (e3:base.eval (.tmp 3)=.pointer (some ⟨g3,0,none⟩))
  (hgo:go=ro+th*4) (hkb:ka=kb+1) (hka:ka<N) (hN2:N<1000000) (hth:th<cn) (hcn2:cn<1000000) (cr:W0.cell? ⟨gm,0+ka,none⟩=some (.slice (some ⟨gb,ro,none⟩) cn cc)) (cr2:W0.cell? ⟨gm,0+kb,none⟩=some (.slice (some ⟨gb,rb,none⟩) cn cc)) (yb:YBox W0 g3 yi s1 x1 y1 p1 (.slice yq yn yc))
  (AH:∀ w,But [] W0 w→Calls Tryz.prog 155 #[.agg #[.int .i64 yi,.bool s1,.int .u64 x1,.int .u64 y1,.pointer p1,.slice yq yn yc],.slice (some ⟨gb,rb,none⟩) cn cc,.int .i64 (th:Int)] w fun e w'=>∃ v,e=.returned v∧FracAt w' v f1∧But [] w w')
  (hQ:∀ w1 s' x' y' p',But [] W0 w1→FracAt w1 (.agg #[.bool s',.int .u64 x',.int .u64 y',.pointer p']) (f1)→Q .normal (putted base [(61,.slice (some ⟨gm,0,none⟩) N N),(62,.int .i64 (ka:Int)),(63,.pointer (some ⟨gm,0+ka,none⟩)),(64,.slice (some ⟨gb,ro,none⟩) cn cc),(65,.int .i64 (th:Int)),(66,.agg #[.int .i64 yi,.bool s1,.int .u64 x1,.int .u64 y1,.pointer p1,.slice yq yn yc]),(67,.slice (some ⟨gm,0,none⟩) N N),(68,.int .i64 (ka:Int)),(69,.int .i64 (kb:Int)),(70,.pointer (some ⟨gm,0+kb,none⟩)),(71,.slice (some ⟨gb,rb,none⟩) cn cc),(72,.int .i64 (th:Int)),(73,(.agg #[.bool s',.int .u64 x',.int .u64 y',.pointer p'])),(74,.pointer (some ⟨gb,go,none⟩))]) (w1.setCells gb go [.bool s',.int .u64 x',.int .u64 y',.pointer p'])) :
  (Code.region id opIls true).wp Tryz.prog Q base W0:=by
 have hdr:∀ {w},But [] W0.drew w→But [] W0 w:=fun h=>(But.refl _ _).drew.trans' h
 have lgb:gb<W0.heap.size:=lt_of_cell cb.1
 have hT:∀ i,i<14→opIlT i<base.tmps.size:=fun i hi=>by
  have h:opIlT i≤74:=by revert i;decide
  omega
 refine region_flow (by kernel_rfl) (low_of (by kernel_rfl)) (fun i o ho=>(calm_of (ops:=opIls) (by kernel_rfl) i o ho).1)
  (fun _ w=>But [] W0.drew w) (opIlC gb go gm N ro rb cn cc ka kb th yi s1 x1 y1 p1 yq yn yc f1) opIlT 14 rfl opIlT_inj hT (But.refl _ _)
  (fun i hi=>?_) ?_ (fun a w=>∃ w1 s' x' y' p',a=putted base [(61,.slice (some ⟨gm,0,none⟩) N N),(62,.int .i64 (ka:Int)),(63,.pointer (some ⟨gm,0+ka,none⟩)),(64,.slice (some ⟨gb,ro,none⟩) cn cc),(65,.int .i64 (th:Int)),(66,.agg #[.int .i64 yi,.bool s1,.int .u64 x1,.int .u64 y1,.pointer p1,.slice yq yn yc]),(67,.slice (some ⟨gm,0,none⟩) N N),(68,.int .i64 (ka:Int)),(69,.int .i64 (kb:Int)),(70,.pointer (some ⟨gm,0+kb,none⟩)),(71,.slice (some ⟨gb,rb,none⟩) cn cc),(72,.int .i64 (th:Int)),(73,(.agg #[.bool s',.int .u64 x',.int .u64 y',.pointer p'])),(74,.pointer (some ⟨gb,go,none⟩))]∧w=w1.setCells gb go [.bool s',.int .u64 x',.int .u64 y',.pointer p']∧But [] W0 w1∧FracAt w1 (.agg #[.bool s',.int .u64 x',.int .u64 y',.pointer p']) (f1)) ?_ ?_
 ·exact dep_of (ops:=opIls) (ps:=[(14,0),(14,1),(14,2),(14,3),(14,4),(14,5),(14,6),(14,7),(14,8),(14,9),(14,10),(14,11),(14,12),(14,13)]) (by kernel_rfl) 14 i (by
   have:i=0∨i=1∨i=2∨i=3∨i=4∨i=5∨i=6∨i=7∨i=8∨i=9∨i=10∨i=11∨i=12∨i=13:=by omega
   rcases this with rfl | rfl | rfl | rfl | rfl | rfl | rfl | rfl | rfl | rfl | rfl | rfl | rfl | rfl <;> simp)
 ·intro dn i o a w K hi ho hdi hH he hdep hK
  have hD:=fun j hj=>(dep_have (ps:=[(2,0),(2,1),(3,2),(8,7),(9,6),(9,8),(10,9),(12,5),(12,10),(12,11),(13,0),(13,1),(13,2),(13,3),(13,4),(13,5),(13,6),(13,7),(13,8),(13,9),(13,10),(13,11),(13,12)]) (by kernel_rfl) ho (fun j=>dn j=true∧opIlC gb go gm N ro rb cn cc ka kb th yi s1 x1 y1 p1 yq yn yc f1 j w (a.eval (.tmp (opIlT j)))) hdep j hj).2
  have hk:∀ v w',But [] w w'→opIlC gb go gm N ro rb cn cc ka kb th yi s1 x1 y1 p1 yq yn yc f1 i w' v→K (a.put (some (opIlT i)) v) w':=fun v w' hb hv=>hK v w' (hH.trans' hb) (fun j hj _ u hu=>opIlC_but hu hj hb) hv
  have e7':=(he 7 (fun j hj e=>absurd e.symm (by revert j;decide))).trans e7
  have e8':=(he 8 (fun j hj e=>absurd e.symm (by revert j;decide))).trans e8
  have e11':=(he 11 (fun j hj e=>absurd e.symm (by revert j;decide))).trans e11
  have e3':=(he 3 (fun j hj e=>absurd e.symm (by revert j;decide))).trans e3
  have:i=0∨i=1∨i=2∨i=3∨i=4∨i=5∨i=6∨i=7∨i=8∨i=9∨i=10∨i=11∨i=12∨i=13:=by omega
  rcases this with rfl | rfl | rfl | rfl | rfl | rfl | rfl | rfl | rfl | rfl | rfl | rfl | rfl | rfl
  ·obtain rfl:=Option.some.inj ((show opIls[0]? = some opIl0 from rfl).symm.trans ho)
   exact wp_value (run_mvK a w _ _ _ _ _ _ _ e7') (hk _ _ (But.refl _ _) rfl)
  ·obtain rfl:=Option.some.inj ((show opIls[1]? = some opIl1 from rfl).symm.trans ho)
   exact wp_value (run_mvK a w _ _ _ _ _ _ _ e8') (hk _ _ (But.refl _ _) rfl)
  ·obtain rfl:=Option.some.inj ((show opIls[2]? = some opIl2 from rfl).symm.trans ho)
   exact wp_value (run_indexRK a w _ _ _ _ _ _ _ gm 0 N N ka hka hN2 (hD 0 (by simp)) (hD 1 (by simp))) (hk _ _ (But.refl _ _) rfl)
  ·obtain rfl:=Option.some.inj ((show opIls[3]? = some opIl3 from rfl).symm.trans ho)
   exact wp_value (run_loadRK a w _ _ _ _ _ _ gm _ _ _ _ (hD 2 (by simp)) ((hdr hH).cell_some cr (by simp))) (hk _ _ (But.refl _ _) rfl)
  ·obtain rfl:=Option.some.inj ((show opIls[4]? = some opIl4 from rfl).symm.trans ho)
   exact wp_value (run_mvK a w _ _ _ _ _ _ _ e11') (hk _ _ (But.refl _ _) rfl)
  ·obtain rfl:=Option.some.inj ((show opIls[5]? = some opIl5 from rfl).symm.trans ho)
   exact wp_value (run_ldY a w _ _ _ _ _ _ g3 _ _ _ _ _ _ _ _ e3' (yb.but (hdr hH) (by simp))) (hk _ _ (But.refl _ _) rfl)
  ·obtain rfl:=Option.some.inj ((show opIls[6]? = some opIl6 from rfl).symm.trans ho)
   exact wp_value (run_mvK a w _ _ _ _ _ _ _ e7') (hk _ _ (But.refl _ _) rfl)
  ·obtain rfl:=Option.some.inj ((show opIls[7]? = some opIl7 from rfl).symm.trans ho)
   exact wp_value (run_mvK a w _ _ _ _ _ _ _ e8') (hk _ _ (But.refl _ _) rfl)
  ·obtain rfl:=Option.some.inj ((show opIls[8]? = some opIl8 from rfl).symm.trans ho)
   exact wp_value (run_minus1I a w _ _ _ _ _ _ kb (by omega) (Eq.trans (hD 7 (by simp)) (by rw [hkb]))) (hk _ _ (But.refl _ _) rfl)
  ·obtain rfl:=Option.some.inj ((show opIls[9]? = some opIl9 from rfl).symm.trans ho)
   exact wp_value (run_indexRK a w _ _ _ _ _ _ _ gm 0 N N kb (by omega) hN2 (hD 6 (by simp)) (hD 8 (by simp))) (hk _ _ (But.refl _ _) rfl)
  ·obtain rfl:=Option.some.inj ((show opIls[10]? = some opIl10 from rfl).symm.trans ho)
   exact wp_value (run_loadRK a w _ _ _ _ _ _ gm _ _ _ _ (hD 9 (by simp)) ((hdr hH).cell_some cr2 (by simp))) (hk _ _ (But.refl _ _) rfl)
  ·obtain rfl:=Option.some.inj ((show opIls[11]? = some opIl11 from rfl).symm.trans ho)
   exact wp_value (run_mvK a w _ _ _ _ _ _ _ e11') (hk _ _ (But.refl _ _) rfl)
  ·obtain rfl:=Option.some.inj ((show opIls[12]? = some opIl12 from rfl).symm.trans ho)
   exact wp_enter (run_aheadI a w _ _ _ _ _ _ _ _ _ _ _ (hD 5 (by simp)) (hD 10 (by simp)) (hD 11 (by simp))) (R:=fun w' v=>FracAt w' v (f1)∧But [] w w') (AH w (hdr hH)) (fun v w' hv=>hk v w' hv.2 hv.1)
  ·obtain rfl:=Option.some.inj ((show opIls[13]? = some opIl13 from rfl).symm.trans ho)
   refine wp_value (run_indexSI a w _ _ _ _ _ _ _ gb ro cn cc th hth hcn2 (hD 3 (by simp)) (hD 4 (by simp))) (hk _ _ (But.refl _ _) ?_)
   show Value.pointer _=Value.pointer _
   rw [hgo]
 ·intro dn o a w K ho hall h hK
  obtain rfl:=Option.some.inj ((show opIls[14]? = some opIl14 from rfl).symm.trans ho)
  have eb':a.eval (.tmp 74)=.pointer (some ⟨gb,go,none⟩):=h.has 13 (by omega) (hall 13 (by omega))
  have cl:FracAt w (a.eval (.tmp 73)) (f1):=h.has 12 (by omega) (hall 12 (by omega))
  have cl':=cl
  obtain ⟨x',y',p',ev,-⟩:=cl.agg
  rw [ev] at cl'
  have ea:=h.puts hT (fun i=>match i with
   | 0=>.slice (some ⟨gm,0,none⟩) N N
   | 1=>.int .i64 (ka:Int)
   | 2=>.pointer (some ⟨gm,0+ka,none⟩)
   | 3=>.slice (some ⟨gb,ro,none⟩) cn cc
   | 4=>.int .i64 (th:Int)
   | 5=>.agg #[.int .i64 yi,.bool s1,.int .u64 x1,.int .u64 y1,.pointer p1,.slice yq yn yc]
   | 6=>.slice (some ⟨gm,0,none⟩) N N
   | 7=>.int .i64 (ka:Int)
   | 8=>.int .i64 (kb:Int)
   | 9=>.pointer (some ⟨gm,0+kb,none⟩)
   | 10=>.slice (some ⟨gb,rb,none⟩) cn cc
   | 11=>.int .i64 (th:Int)
   | 12=>.agg #[.bool (decide ((f1).num<0)),.int .u64 x',.int .u64 y',.pointer p']
   | _=>.pointer (some ⟨gb,go,none⟩)) (fun i hi=>by
   have hc:=h.has i hi (hall i hi)
   have:i=0∨i=1∨i=2∨i=3∨i=4∨i=5∨i=6∨i=7∨i=8∨i=9∨i=10∨i=11∨i=12∨i=13:=by omega
   rcases this with rfl | rfl | rfl | rfl | rfl | rfl | rfl | rfl | rfl | rfl | rfl | rfl | rfl | rfl
   all_goals first | exact ev | exact hc | rfl)
  exact wp_skipped (run_store4o a w _ _ _ _ _ gb go _ x' y' p' eb' ev (cb.but (hdr h.mem) (by simp)) (fun j=>((hdr h.mem).frozen (p:=⟨gb,j,none⟩) lgb (by simp)).trans (fzb j))) (hK _ _ ⟨w,_,x',y',p',ea,rfl,hdr h.mem,cl'⟩)
 ·rintro a w ⟨w1,s',x',y',p',rfl,rfl,h1,h2⟩
  exact hQ  w1 s' x' y' p' h1 h2
end Go.Proofs.YtloojmaamaambaaGreatDoor
