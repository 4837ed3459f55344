/- Out of TR: what needs no more than these -/
import Derived.Test.YthlnhheblhapgaaGreatDoorKMGR
import Derived.Test.YthlnhheblhapgaaGreatDoorKMOGr
namespace Go.Proofs.YthlnhheblhapgaaGreatDoor
open Go.RowKit
set_option maxHeartbeats 8000000
set_option maxRecDepth 100000
theorem run_indexK (a:Act) (w:World) (d t1 t2:Nat) (u:TypeId) (ps:String) (ed:Array Edge) (gd:Option (Nat × Bool)) (b off n c k:Nat) (hk:k<n) (_hn:n<1000000) (h1:a.eval (.tmp t1)=.slice (some ⟨b,off,none⟩) n c) (h2:a.eval (.tmp t2)=.int .i64 (k:Int)) :
  (execOp a.eval { dst:=some d,op:=Op.indexAddr 32 (.tmp t1) (.tmp t2),type:=u,pos:=ps,after:=ed,guard:=gd }).run Tryz.prog w=.ok (.value (.pointer (some ⟨b,off+k*4,none⟩))) w:=by
 unfold execOp
 simp only [h1,h2]
 go_simp
theorem run_notK (a:Act) (w:World) (d t:Nat) (u:TypeId) (ps:String) (ed:Array Edge) (gd:Option (Nat × Bool)) (b:Bool) (h:a.eval (.tmp t)=.bool b) :
  (execOp a.eval { dst:=some d,op:=Op.unOp UnOp.not 4 (.tmp t),type:=u,pos:=ps,after:=ed,guard:=gd }).run Tryz.prog w=.ok (.value (.bool (!b))) w:=by
 unfold execOp
 simp only [h]
 go_simp
theorem run_likeK (a:Act) (w:World) (d t1 t2:Nat) (u:TypeId) (ps:String) (ed:Array Edge) (gd:Option (Nat × Bool)) (x1 x2:Value) (h1:a.eval (.tmp t1)=x1) (h2:a.eval (.tmp t2)=x2) :
  (execOp a.eval { dst:=some d,op:=Op.call { callee:=Callee.value (Operand.func 15),args:=#[Operand.tmp t1,Operand.tmp t2],argTypes:=#[41,41] },type:=u,pos:=ps,after:=ed,guard:=gd }).run Tryz.prog w=.ok (.enter 15 #[x1,x2]) w:=by
 unfold execOp
 go_simp
 rw [← h1,← h2]
 simp [Act.eval]
def opOd0:Oper:={ dst:=some 12,op:=Op.load 41 (Operand.tmp 3),type := 41,pos := "keep.go:48",after:=#[],guard:=none }
def opOd1:Oper:={ dst:=some 13,op:=Op.move (Operand.tmp 0),type := 32,pos := "keep.go:48",after:=#[],guard:=none }
def opOd2:Oper:={ dst:=some 14,op:=Op.move (Operand.tmp 4),type := 3,pos := "keep.go:48",after:=#[],guard:=none }
def opOd3:Oper:={ dst:=some 15,op:=Op.indexAddr 32 (Operand.tmp 13) (Operand.tmp 14),type:=0,pos := "keep.go:48",after:=#[⟨1,.data⟩,⟨2,.data⟩],guard:=none }
def opOd4:Oper:={ dst:=some 16,op:=Op.load 41 (Operand.tmp 15),type := 41,pos := "keep.go:48",after:=#[⟨3,.data⟩],guard:=none }
def opOd5:Oper:={ dst:=some 17,op:=Op.call { callee:=Callee.value (Operand.func 34),args:=#[Operand.tmp 12,Operand.tmp 16],argTypes:=#[41,41] },type := 41,pos := "keep.go:48",after:=#[⟨0,.data⟩,⟨4,.data⟩],guard:=none }
def opOd6:Oper:={ dst:=none,op:=Op.store 41 (Operand.tmp 3) (Operand.tmp 17),type:=0,pos := "keep.go:48",after:=#[⟨5,.data⟩,⟨5,.chain⟩,⟨0,.phase⟩,⟨1,.phase⟩,⟨2,.phase⟩,⟨3,.phase⟩,⟨4,.phase⟩,⟨5,.phase⟩],guard:=none }
def opOds:Array Oper:=#[opOd0,opOd1,opOd2,opOd3,opOd4,opOd5,opOd6]
def opOdT (i:Nat):Nat:=match i with
 | 0=>12
 | 1=>13
 | 2=>14
 | 3=>15
 | 4=>16
 | _=>17
def opOdC (b:Nat) (off:Nat) (N:Nat) (cp:Nat) (ka:Nat) (s1:Bool) (x1:Int) (y1:Int) (p1:Option Addr) (s2:Bool) (x2:Int) (y2:Int) (p2:Option Addr) (f1:Rat) (f2:Rat) (i:Nat) (w:World) (v:Value):Prop:=match i with
 | 0=>v=.agg #[.bool s1,.int .u64 x1,.int .u64 y1,.pointer p1]
 | 1=>v=.slice (some ⟨b,off,none⟩) N cp
 | 2=>v=.int .i64 (ka:Int)
 | 3=>v=.pointer (some ⟨b,off+ka*4,none⟩)
 | 4=>v=.agg #[.bool s2,.int .u64 x2,.int .u64 y2,.pointer p2]
 | _=>FracAt w v (f1+f2)
theorem opOdC_but {b:Nat} {off:Nat} {N:Nat} {cp:Nat} {ka:Nat} {s1:Bool} {x1:Int} {y1:Int} {p1:Option Addr} {s2:Bool} {x2:Int} {y2:Int} {p2:Option Addr} {f1:Rat} {f2:Rat} {i:Nat} {w w':World} {v:Value} (h:opOdC b off N cp ka s1 x1 y1 p1 s2 x2 y2 p2 f1 f2 i w v) (hi:i<6) (hb:But [] w w'):opOdC b off N cp ka s1 x1 y1 p1 s2 x2 y2 p2 f1 f2 i w' v:=by
 have:i=0∨i=1∨i=2∨i=3∨i=4∨i=5:=by omega
 rcases this with rfl | rfl | rfl | rfl | rfl | rfl
 all_goals first | exact h | exact FracAt.but h hb | exact FracsAt.but h hb
theorem opOdT_inj:∀ i j,i<6→j<6→opOdT i=opOdT j→i=j:=fun i j hi hj=>(by decide:∀ i,i<6→∀ j,j<6→opOdT i=opOdT j→i=j) i hi j hj
theorem sum_region (id:Nat) (Q:Exit→Act→World→Prop) (base:Act) (W0:World) (b:Nat) (off:Nat) (N:Nat) (cp:Nat) (ka:Nat) (s1:Bool) (x1:Int) (y1:Int) (p1:Option Addr) (s2:Bool) (x2:Int) (y2:Int) (p2:Option Addr) (f1:Rat) (f2:Rat) (gb:Nat) {sb:Bool} {xb yb:Int} {pb:Option Addr} (hs:17<base.tmps.size) (eb:base.eval (.tmp 3)=.pointer (some ⟨gb,0,none⟩)) (cb:P4 W0 gb sb xb yb pb) (fzb:∀ j,W0.frozen? ⟨gb,j,none⟩=false) (e0:base.eval (.tmp 0)=.slice (some ⟨b,off,none⟩) N cp) (e4:base.eval (.tmp 4)=.int .i64 (ka:Int))
  (hka:ka<N) (hN2:N<1000000) (c1:P4 W0 gb s1 x1 y1 p1) (c2:P4o W0 b (off+ka*4) s2 x2 y2 p2)
  (AD:∀ w,But [] W0 w→Calls Tryz.prog 34 #[.agg #[.bool s1,.int .u64 x1,.int .u64 y1,.pointer p1],.agg #[.bool s2,.int .u64 x2,.int .u64 y2,.pointer p2]] w fun e w'=>∃ v,e=.returned v∧FracAt w' v (f1+f2)∧But [] w w')
  (hQ:∀ w1 s' x' y' p',But [] W0 w1→FracAt w1 (.agg #[.bool s',.int .u64 x',.int .u64 y',.pointer p']) (f1+f2)→Q .normal (putted base [(12,.agg #[.bool s1,.int .u64 x1,.int .u64 y1,.pointer p1]),(13,.slice (some ⟨b,off,none⟩) N cp),(14,.int .i64 (ka:Int)),(15,.pointer (some ⟨b,off+ka*4,none⟩)),(16,.agg #[.bool s2,.int .u64 x2,.int .u64 y2,.pointer p2]),(17,(.agg #[.bool s',.int .u64 x',.int .u64 y',.pointer p']))]) (put4 w1 gb s' x' y' p')) :
  (Code.region id opOds true).wp Tryz.prog Q base W0:=by
 have hdr:∀ {w},But [] W0.drew w→But [] W0 w:=fun h=>(But.refl _ _).drew.trans' h
 have lgb:gb<W0.heap.size:=lt_of_cell cb.1
 have hT:∀ i,i<6→opOdT i<base.tmps.size:=fun i hi=>by
  have h:opOdT i≤17:=by revert i;decide
  omega
 refine region_flow (by kernel_rfl) (low_of (by kernel_rfl)) (fun i o ho=>(calm_of (ops:=opOds) (by kernel_rfl) i o ho).1)
  (fun _ w=>But [] W0.drew w) (opOdC b off N cp ka s1 x1 y1 p1 s2 x2 y2 p2 f1 f2) opOdT 6 rfl opOdT_inj hT (But.refl _ _)
  (fun i hi=>?_) ?_ (fun a w=>∃ w1 s' x' y' p',a=putted base [(12,.agg #[.bool s1,.int .u64 x1,.int .u64 y1,.pointer p1]),(13,.slice (some ⟨b,off,none⟩) N cp),(14,.int .i64 (ka:Int)),(15,.pointer (some ⟨b,off+ka*4,none⟩)),(16,.agg #[.bool s2,.int .u64 x2,.int .u64 y2,.pointer p2]),(17,(.agg #[.bool s',.int .u64 x',.int .u64 y',.pointer p']))]∧w=put4 w1 gb s' x' y' p'∧But [] W0 w1∧FracAt w1 (.agg #[.bool s',.int .u64 x',.int .u64 y',.pointer p']) (f1+f2)) ?_ ?_
 ·exact dep_of (ops:=opOds) (ps:=[(6,0),(6,1),(6,2),(6,3),(6,4),(6,5)]) (by kernel_rfl) 6 i (by
   have:i=0∨i=1∨i=2∨i=3∨i=4∨i=5:=by omega
   rcases this with rfl | rfl | rfl | rfl | rfl | rfl <;> simp)
 ·intro dn i o a w K hi ho hdi hH he hdep hK
  have hD:=fun j hj=>(dep_have (ps:=[(3,1),(3,2),(4,3),(5,0),(5,4)]) (by kernel_rfl) ho (fun j=>dn j=true∧opOdC b off N cp ka s1 x1 y1 p1 s2 x2 y2 p2 f1 f2 j w (a.eval (.tmp (opOdT j)))) hdep j hj).2
  have hk:∀ v w',But [] w w'→opOdC b off N cp ka s1 x1 y1 p1 s2 x2 y2 p2 f1 f2 i w' v→K (a.put (some (opOdT i)) v) w':=fun v w' hb hv=>hK v w' (hH.trans' hb) (fun j hj _ u hu=>opOdC_but hu hj hb) hv
  have eb':=(he 3 (fun j hj e=>absurd e.symm (by revert j;decide))).trans eb
  have e0':=(he 0 (fun j hj e=>absurd e.symm (by revert j;decide))).trans e0
  have e4':=(he 4 (fun j hj e=>absurd e.symm (by revert j;decide))).trans e4
  have:i=0∨i=1∨i=2∨i=3∨i=4∨i=5:=by omega
  rcases this with rfl | rfl | rfl | rfl | rfl | rfl
  ·obtain rfl:=Option.some.inj ((show opOds[0]? = some opOd0 from rfl).symm.trans ho)
   exact wp_value (run_loadK a w _ _ _ _ _ _ gb 0 _ _ _ _ eb' (c1.but (hdr hH) (by simp))) (hk _ _ (But.refl _ _) rfl)
  ·obtain rfl:=Option.some.inj ((show opOds[1]? = some opOd1 from rfl).symm.trans ho)
   exact wp_value (run_mvK a w _ _ _ _ _ _ _ e0') (hk _ _ (But.refl _ _) rfl)
  ·obtain rfl:=Option.some.inj ((show opOds[2]? = some opOd2 from rfl).symm.trans ho)
   exact wp_value (run_mvK a w _ _ _ _ _ _ _ e4') (hk _ _ (But.refl _ _) rfl)
  ·obtain rfl:=Option.some.inj ((show opOds[3]? = some opOd3 from rfl).symm.trans ho)
   exact wp_value (run_indexK a w _ _ _ _ _ _ _ b off N cp ka hka hN2 (hD 1 (by simp)) (hD 2 (by simp))) (hk _ _ (But.refl _ _) rfl)
  ·obtain rfl:=Option.some.inj ((show opOds[4]? = some opOd4 from rfl).symm.trans ho)
   exact wp_value (run_loadK a w _ _ _ _ _ _ b _ _ _ _ _ (hD 3 (by simp)) (c2.but (hdr hH) (by simp))) (hk _ _ (But.refl _ _) rfl)
  ·obtain rfl:=Option.some.inj ((show opOds[5]? = some opOd5 from rfl).symm.trans ho)
   exact wp_enter (run_addK a w _ _ _ _ _ _ _ _ _ (hD 0 (by simp)) (hD 4 (by simp))) (R:=fun w' v=>FracAt w' v (f1+f2)∧But [] w w') (AD w (hdr hH)) (fun v w' hv=>hk v w' hv.2 hv.1)
 ·intro dn o a w K ho hall h hK
  obtain rfl:=Option.some.inj ((show opOds[6]? = some opOd6 from rfl).symm.trans ho)
  have eb':=(h.eval 3 (fun j hj e=>absurd e.symm (by revert j;decide))).trans eb
  have cl:FracAt w (a.eval (.tmp 17)) (f1+f2):=h.has 5 (by omega) (hall 5 (by omega))
  have cl':=cl
  obtain ⟨x',y',p',ev,-⟩:=cl.agg
  rw [ev] at cl'
  have ea:=h.puts hT (fun i=>match i with
   | 0=>.agg #[.bool s1,.int .u64 x1,.int .u64 y1,.pointer p1]
   | 1=>.slice (some ⟨b,off,none⟩) N cp
   | 2=>.int .i64 (ka:Int)
   | 3=>.pointer (some ⟨b,off+ka*4,none⟩)
   | 4=>.agg #[.bool s2,.int .u64 x2,.int .u64 y2,.pointer p2]
   | _=>.agg #[.bool (decide ((f1+f2).num<0)),.int .u64 x',.int .u64 y',.pointer p']) (fun i hi=>by
   have hc:=h.has i hi (hall i hi)
   have:i=0∨i=1∨i=2∨i=3∨i=4∨i=5:=by omega
   rcases this with rfl | rfl | rfl | rfl | rfl | rfl
   all_goals first | exact ev | exact hc | rfl)
  exact wp_skipped (run_store4 a w _ _ _ _ _ gb _ x' y' p' eb' ev (cb.but (hdr h.mem) (by simp)) (fun j=>((hdr h.mem).frozen (p:=⟨gb,j,none⟩) lgb (by simp)).trans (fzb j))) (hK _ _ ⟨w,_,x',y',p',ea,rfl,hdr h.mem,cl'⟩)
 ·rintro a w ⟨w1,s',x',y',p',rfl,rfl,h1,h2⟩
  exact hQ  w1 s' x' y' p' h1 h2
def opOe0:Oper:={ dst:=some 17,op:=Op.move (Operand.tmp 0),type := 32,pos := "keep.go:31",after:=#[],guard:=none }
def opOe1:Oper:={ dst:=some 18,op:=Op.move (Operand.tmp 5),type := 3,pos := "keep.go:31",after:=#[],guard:=none }
def opOe2:Oper:={ dst:=some 19,op:=Op.indexAddr 32 (Operand.tmp 17) (Operand.tmp 18),type:=0,pos := "keep.go:31",after:=#[⟨0,.data⟩,⟨1,.data⟩],guard:=none }
def opOe3:Oper:={ dst:=some 20,op:=Op.load 41 (Operand.tmp 19),type := 41,pos := "keep.go:31",after:=#[⟨2,.data⟩],guard:=none }
def opOe4:Oper:={ dst:=some 21,op:=Op.move (Operand.tmp 1),type := 32,pos := "keep.go:31",after:=#[],guard:=none }
def opOe5:Oper:={ dst:=some 22,op:=Op.move (Operand.tmp 5),type := 3,pos := "keep.go:31",after:=#[],guard:=none }
def opOe6:Oper:={ dst:=some 23,op:=Op.indexAddr 32 (Operand.tmp 21) (Operand.tmp 22),type:=0,pos := "keep.go:31",after:=#[⟨4,.data⟩,⟨5,.data⟩],guard:=none }
def opOe7:Oper:={ dst:=some 24,op:=Op.load 41 (Operand.tmp 23),type := 41,pos := "keep.go:31",after:=#[⟨6,.data⟩],guard:=none }
def opOe8:Oper:={ dst:=some 25,op:=Op.call { callee:=Callee.value (Operand.func 15),args:=#[Operand.tmp 20,Operand.tmp 24],argTypes:=#[41,41] },type := 4,pos := "keep.go:31",after:=#[⟨3,.data⟩,⟨7,.data⟩],guard:=none }
def opOe9:Oper:={ dst:=some 26,op:=Op.unOp UnOp.not 4 (Operand.tmp 25),type := 4,pos := "keep.go:31",after:=#[⟨8,.data⟩],guard:=none }
def opOes:Array Oper:=#[opOe0,opOe1,opOe2,opOe3,opOe4,opOe5,opOe6,opOe7,opOe8,opOe9]
def opOeT (i:Nat):Nat:=match i with
 | 0=>17
 | 1=>18
 | 2=>19
 | 3=>20
 | 4=>21
 | 5=>22
 | 6=>23
 | 7=>24
 | 8=>25
 | _=>26
def opOeC (b:Nat) (off:Nat) (N:Nat) (cp:Nat) (b2:Nat) (of2:Nat) (c2:Nat) (ka:Nat) (s1:Bool) (x1:Int) (y1:Int) (p1:Option Addr) (s2:Bool) (x2:Int) (y2:Int) (p2:Option Addr) (i:Nat) (_w:World) (v:Value):Prop:=match i with
 | 0=>v=.slice (some ⟨b,off,none⟩) N cp
 | 1=>v=.int .i64 (ka:Int)
 | 2=>v=.pointer (some ⟨b,off+ka*4,none⟩)
 | 3=>v=.agg #[.bool s1,.int .u64 x1,.int .u64 y1,.pointer p1]
 | 4=>v=.slice (some ⟨b2,of2,none⟩) N c2
 | 5=>v=.int .i64 (ka:Int)
 | 6=>v=.pointer (some ⟨b2,of2+ka*4,none⟩)
 | 7=>v=.agg #[.bool s2,.int .u64 x2,.int .u64 y2,.pointer p2]
 | 8=>v=.bool true
 | _=>v=.bool false
theorem opOeC_but {b:Nat} {off:Nat} {N:Nat} {cp:Nat} {b2:Nat} {of2:Nat} {c2:Nat} {ka:Nat} {s1:Bool} {x1:Int} {y1:Int} {p1:Option Addr} {s2:Bool} {x2:Int} {y2:Int} {p2:Option Addr} {i:Nat} {w w':World} {v:Value} (h:opOeC b off N cp b2 of2 c2 ka s1 x1 y1 p1 s2 x2 y2 p2 i w v) (hi:i<10) (_hb:But [] w w'):opOeC b off N cp b2 of2 c2 ka s1 x1 y1 p1 s2 x2 y2 p2 i w' v:=by
 have:i=0∨i=1∨i=2∨i=3∨i=4∨i=5∨i=6∨i=7∨i=8∨i=9:=by omega
 rcases this with rfl | rfl | rfl | rfl | rfl | rfl | rfl | rfl | rfl | rfl
 all_goals exact h
theorem opOeT_inj:∀ i j,i<10→j<10→opOeT i=opOeT j→i=j:=fun i j hi hj=>(by decide:∀ i,i<10→∀ j,j<10→opOeT i=opOeT j→i=j) i hi j hj
theorem likes_region (id:Nat) (Q:Exit→Act→World→Prop) (base:Act) (W0:World) (b:Nat) (off:Nat) (N:Nat) (cp:Nat) (b2:Nat) (of2:Nat) (c2:Nat) (ka:Nat) (s1:Bool) (x1:Int) (y1:Int) (p1:Option Addr) (s2:Bool) (x2:Int) (y2:Int) (p2:Option Addr) (hs:26<base.tmps.size) (e0:base.eval (.tmp 0)=.slice (some ⟨b,off,none⟩) N cp) (e5:base.eval (.tmp 5)=.int .i64 (ka:Int)) (e1:base.eval (.tmp 1)=.slice (some ⟨b2,of2,none⟩) N c2)
  (hka:ka<N) (hN2:N<1000000) (k1:P4o W0 b (off+ka*4) s1 x1 y1 p1) (k2:P4o W0 b2 (of2+ka*4) s2 x2 y2 p2)
  (LK:∀ w,But [] W0 w→Calls Tryz.prog 15 #[.agg #[.bool s1,.int .u64 x1,.int .u64 y1,.pointer p1],.agg #[.bool s2,.int .u64 x2,.int .u64 y2,.pointer p2]] w fun e w'=>e=.returned (.bool true)∧But [] w w')
  (hQ:∀ w,But [] W0 w→Q .normal (putted base [(17,.slice (some ⟨b,off,none⟩) N cp),(18,.int .i64 (ka:Int)),(19,.pointer (some ⟨b,off+ka*4,none⟩)),(20,.agg #[.bool s1,.int .u64 x1,.int .u64 y1,.pointer p1]),(21,.slice (some ⟨b2,of2,none⟩) N c2),(22,.int .i64 (ka:Int)),(23,.pointer (some ⟨b2,of2+ka*4,none⟩)),(24,.agg #[.bool s2,.int .u64 x2,.int .u64 y2,.pointer p2]),(25,.bool true),(26,.bool false)]) w) :
  (Code.region id opOes true).wp Tryz.prog Q base W0:=by
 have hdr:∀ {w},But [] W0.drew w→But [] W0 w:=fun h=>(But.refl _ _).drew.trans' h
 have hT:∀ i,i<10→opOeT i<base.tmps.size:=fun i hi=>by
  have h:opOeT i≤26:=by revert i;decide
  omega
 refine region_go (by kernel_rfl) (low_of (by kernel_rfl)) (opOeC b off N cp b2 of2 c2 ka s1 x1 y1 p1 s2 x2 y2 p2) opOeT (by kernel_rfl) ?_ opOeT_inj hT (fun i w w' v hi h hb=>opOeC_but h hi hb) ?_ ?_
 ·intro i o j want ho hg w v hv
  have hi:i<10:=(Array.getElem?_eq_some_iff.1 ho).1
  have:i=0∨i=1∨i=2∨i=3∨i=4∨i=5∨i=6∨i=7∨i=8∨i=9:=by omega
  rcases this with rfl | rfl | rfl | rfl | rfl | rfl | rfl | rfl | rfl | rfl
  ·obtain rfl:=Option.some.inj ((show opOes[0]? = some opOe0 from rfl).symm.trans ho)
   exact absurd (show (none:Option (Nat × Bool))=some (j,want) from hg) (by simp)
  ·obtain rfl:=Option.some.inj ((show opOes[1]? = some opOe1 from rfl).symm.trans ho)
   exact absurd (show (none:Option (Nat × Bool))=some (j,want) from hg) (by simp)
  ·obtain rfl:=Option.some.inj ((show opOes[2]? = some opOe2 from rfl).symm.trans ho)
   exact absurd (show (none:Option (Nat × Bool))=some (j,want) from hg) (by simp)
  ·obtain rfl:=Option.some.inj ((show opOes[3]? = some opOe3 from rfl).symm.trans ho)
   exact absurd (show (none:Option (Nat × Bool))=some (j,want) from hg) (by simp)
  ·obtain rfl:=Option.some.inj ((show opOes[4]? = some opOe4 from rfl).symm.trans ho)
   exact absurd (show (none:Option (Nat × Bool))=some (j,want) from hg) (by simp)
  ·obtain rfl:=Option.some.inj ((show opOes[5]? = some opOe5 from rfl).symm.trans ho)
   exact absurd (show (none:Option (Nat × Bool))=some (j,want) from hg) (by simp)
  ·obtain rfl:=Option.some.inj ((show opOes[6]? = some opOe6 from rfl).symm.trans ho)
   exact absurd (show (none:Option (Nat × Bool))=some (j,want) from hg) (by simp)
  ·obtain rfl:=Option.some.inj ((show opOes[7]? = some opOe7 from rfl).symm.trans ho)
   exact absurd (show (none:Option (Nat × Bool))=some (j,want) from hg) (by simp)
  ·obtain rfl:=Option.some.inj ((show opOes[8]? = some opOe8 from rfl).symm.trans ho)
   exact absurd (show (none:Option (Nat × Bool))=some (j,want) from hg) (by simp)
  ·obtain rfl:=Option.some.inj ((show opOes[9]? = some opOe9 from rfl).symm.trans ho)
   exact absurd (show (none:Option (Nat × Bool))=some (j,want) from hg) (by simp)
 ·intro i o a w K ho hH he hdep hk
  have hi:i<10:=(Array.getElem?_eq_some_iff.1 ho).1
  have hD:=dep_have (ps:=[(2,0),(2,1),(3,2),(6,4),(6,5),(7,6),(8,3),(8,7),(9,8)]) (by kernel_rfl) ho (fun j=>opOeC b off N cp b2 of2 c2 ka s1 x1 y1 p1 s2 x2 y2 p2 j w (a.eval (.tmp (opOeT j)))) hdep
  have e0':=(he 0 (fun j hj e=>absurd e.symm (by revert j;decide))).trans e0
  have e5':=(he 5 (fun j hj e=>absurd e.symm (by revert j;decide))).trans e5
  have e1':=(he 1 (fun j hj e=>absurd e.symm (by revert j;decide))).trans e1
  have:i=0∨i=1∨i=2∨i=3∨i=4∨i=5∨i=6∨i=7∨i=8∨i=9:=by omega
  rcases this with rfl | rfl | rfl | rfl | rfl | rfl | rfl | rfl | rfl | rfl
  ·obtain rfl:=Option.some.inj ((show opOes[0]? = some opOe0 from rfl).symm.trans ho)
   exact wp_value (run_mvK a w _ _ _ _ _ _ _ e0') (hk _ _ (But.refl _ _) rfl)
  ·obtain rfl:=Option.some.inj ((show opOes[1]? = some opOe1 from rfl).symm.trans ho)
   exact wp_value (run_mvK a w _ _ _ _ _ _ _ e5') (hk _ _ (But.refl _ _) rfl)
  ·obtain rfl:=Option.some.inj ((show opOes[2]? = some opOe2 from rfl).symm.trans ho)
   exact wp_value (run_indexK a w _ _ _ _ _ _ _ b off N cp ka hka hN2 (hD 0 (by simp)) (hD 1 (by simp))) (hk _ _ (But.refl _ _) rfl)
  ·obtain rfl:=Option.some.inj ((show opOes[3]? = some opOe3 from rfl).symm.trans ho)
   exact wp_value (run_loadK a w _ _ _ _ _ _ b _ _ _ _ _ (hD 2 (by simp)) (k1.but (hdr hH) (by simp))) (hk _ _ (But.refl _ _) rfl)
  ·obtain rfl:=Option.some.inj ((show opOes[4]? = some opOe4 from rfl).symm.trans ho)
   exact wp_value (run_mvK a w _ _ _ _ _ _ _ e1') (hk _ _ (But.refl _ _) rfl)
  ·obtain rfl:=Option.some.inj ((show opOes[5]? = some opOe5 from rfl).symm.trans ho)
   exact wp_value (run_mvK a w _ _ _ _ _ _ _ e5') (hk _ _ (But.refl _ _) rfl)
  ·obtain rfl:=Option.some.inj ((show opOes[6]? = some opOe6 from rfl).symm.trans ho)
   exact wp_value (run_indexK a w _ _ _ _ _ _ _ b2 of2 N c2 ka hka hN2 (hD 4 (by simp)) (hD 5 (by simp))) (hk _ _ (But.refl _ _) rfl)
  ·obtain rfl:=Option.some.inj ((show opOes[7]? = some opOe7 from rfl).symm.trans ho)
   exact wp_value (run_loadK a w _ _ _ _ _ _ b2 _ _ _ _ _ (hD 6 (by simp)) (k2.but (hdr hH) (by simp))) (hk _ _ (But.refl _ _) rfl)
  ·obtain rfl:=Option.some.inj ((show opOes[8]? = some opOe8 from rfl).symm.trans ho)
   exact wp_enter (run_likeK a w _ _ _ _ _ _ _ _ _ (hD 3 (by simp)) (hD 7 (by simp))) (R:=fun w' v=>But [] w w'∧v=_) ((LK w (hdr hH)).mono fun e w' ⟨he,hb⟩=>⟨_,he,hb,rfl⟩) (fun v w' hv=>hk v w' hv.1 hv.2)
  ·obtain rfl:=Option.some.inj ((show opOes[9]? = some opOe9 from rfl).symm.trans ho)
   exact wp_value (run_notK a w _ _ _ _ _ _ true (hD 8 (by simp))) (hk _ _ (But.refl _ _) rfl)
 ·intro a w h
  have ea:=h.puts hT (fun i=>match i with
   | 0=>.slice (some ⟨b,off,none⟩) N cp
   | 1=>.int .i64 (ka:Int)
   | 2=>.pointer (some ⟨b,off+ka*4,none⟩)
   | 3=>.agg #[.bool s1,.int .u64 x1,.int .u64 y1,.pointer p1]
   | 4=>.slice (some ⟨b2,of2,none⟩) N c2
   | 5=>.int .i64 (ka:Int)
   | 6=>.pointer (some ⟨b2,of2+ka*4,none⟩)
   | 7=>.agg #[.bool s2,.int .u64 x2,.int .u64 y2,.pointer p2]
   | 8=>.bool true
   | _=>.bool false) (fun i hi=>by
   have hi':i<10:=hi
   have hc:=h.has i hi rfl
   have:i=0∨i=1∨i=2∨i=3∨i=4∨i=5∨i=6∨i=7∨i=8∨i=9:=by omega
   rcases this with rfl | rfl | rfl | rfl | rfl | rfl | rfl | rfl | rfl | rfl
   all_goals first | exact hc | rfl)
  rw [ea]
  exact hQ w (hdr h.but)
end Go.Proofs.YthlnhheblhapgaaGreatDoor

namespace Go.Proofs.YthlnhheblhapgaaGreatDoor
open Go.RowKit
set_option maxHeartbeats 8000000
set_option maxRecDepth 100000
theorem like_len (va vb:Value) (f:Rat) (w:World) (ha:FracAt w va f) (hb:FracAt w vb f) (hl:Len f 1000000) (htab:Lib.TabIs Tryz.prog w "internal/strconv.uint64pow10" .u64 Lib.pow10Tab) :
  Calls Tryz.prog 15 #[va,vb] w fun e w'=>e=.returned (.bool true)∧But [] w w':=by
 have hl2:Len f 33554431:=⟨Nat.le_trans hl.1 (by omega),Nat.le_trans hl.2 (by omega)⟩
 obtain ⟨t,ht⟩:∃ t,t=fracTxt (decide (f.num<0)) f.num.natAbs f.den:=⟨_,rfl⟩
 have CM:Hid (∀ W,But [] w W→Calls Tryz.prog 18 #[va,vb] W fun e w'=>e=.returned (.int .i64 0)∧But [] W w'):=fun W h=>fracCmp_any va vb f f W (ha.but h) (hb.but h) hl2 hl2 0 (by show _=_;simp [cmpZ])
 have TA:Hid (∀ W,But [] w W→Calls Tryz.prog 22 #[va] W fun e w'=>e=.returned (.string t)∧But [] W w'):=fun W h=>fracText_len va f W (ha.but h) hl (TabIs.but htab h) t ht
 have TB:Hid (∀ W,But [] w W→Calls Tryz.prog 22 #[vb] W fun e w'=>e=.returned (.string t)∧But [] W w'):=fun W h=>fracText_len vb f W (hb.but h) hl (TabIs.but htab h) t ht
 obtain ⟨x1,y1,p1,rfl,-⟩:=ha.agg
 obtain ⟨x2,y2,p2,rfl,-⟩:=hb.agg
 clear ha hb hl hl2 ht htab
 generalize hs:decide (f.num<0)=s at *
 clear hs
 obtain ⟨W,hW⟩:∃ W,W=((w.alloc (.cells #[.bool s,.int .u64 x1,.int .u64 y1,.pointer p1] 41)).alloc (.cells #[.bool s,.int .u64 x2,.int .u64 y2,.pointer p2] 41)):=⟨_,rfl⟩
 obtain ⟨tA,tB,-,hB⟩:=two_new w W _ _ _ hW
 have a0:=tA 0
 have a1:=tA 1
 have a2:=tA 2
 have a3:=tA 3
 have b0:=tB 0
 have b1:=tB 1
 have b2:=tB 2
 have b3:=tB 3
 simp only [List.getElem?_toArray,List.getElem?_cons_zero,List.getElem?_cons_succ] at a0 a1 a2 a3 b0 b1 b2 b3
 clear tA tB
 have HW:=hide hW
 have HB:=hide hB
 clear hW hB
 go_enter Tryz.func15,Tryz.ntmps15
 go_wp2
 rw [← unhide HW]
 obtain ⟨ga,hga⟩:∃ ga,ga=w.heap.size:=⟨_,rfl⟩
 obtain ⟨gb,hgb⟩:∃ gb,gb=w.heap.size+1:=⟨_,rfl⟩
 rw [← hga] at a0 a1 a2 a3
 rw [← hgb] at b0 b1 b2 b3
 rw [← hgb,← hga]
 clear hga hgb HW
 go_region_held (fun w'=>w'.cell? ⟨ga,0,none⟩=some (.bool s)∧w'.cell? ⟨ga,1,none⟩=some (.int .u64 x1)∧w'.cell? ⟨ga,2,none⟩=some (.int .u64 y1)∧w'.cell? ⟨ga,3,none⟩=some (.pointer p1)∧w'.cell? ⟨gb,0,none⟩=some (.bool s)∧w'.cell? ⟨gb,1,none⟩=some (.int .u64 x2)∧w'.cell? ⟨gb,2,none⟩=some (.int .u64 y2)∧w'.cell? ⟨gb,3,none⟩=some (.pointer p2)) (go_keep) (first
  | (go_at_call 22;have hchk:=B2;clear hchk;refine (unhide TB _ (by first | exact (unhide HB).trans' B2 | exact ((unhide HB).trans' B2).drew)).mono ?_;rintro e w3 ⟨rfl,hc3⟩;have B3:But [] W w3:=(by first | exact B2.trans' hc3 | exact (B2.drew).trans' hc3);clear hc3;have a0_3:=B3.cell_some a0 (by simp);have a1_3:=B3.cell_some a1 (by simp);have a2_3:=B3.cell_some a2 (by simp);have a3_3:=B3.cell_some a3 (by simp);have b0_3:=B3.cell_some b0 (by simp);have b1_3:=B3.cell_some b1 (by simp);have b2_3:=B3.cell_some b2 (by simp);have b3_3:=B3.cell_some b3 (by simp);clear a0_2 a1_2 a2_2 a3_2 b0_2 b1_2 b2_2 b3_2)
  | (go_at_call 22;have hchk:=B1;clear hchk;refine (unhide TA _ (by first | exact (unhide HB).trans' B1 | exact ((unhide HB).trans' B1).drew)).mono ?_;rintro e w2 ⟨rfl,hc2⟩;have B2:But [] W w2:=(by first | exact B1.trans' hc2 | exact (B1.drew).trans' hc2);clear hc2;have a0_2:=B2.cell_some a0 (by simp);have a1_2:=B2.cell_some a1 (by simp);have a2_2:=B2.cell_some a2 (by simp);have a3_2:=B2.cell_some a3 (by simp);have b0_2:=B2.cell_some b0 (by simp);have b1_2:=B2.cell_some b1 (by simp);have b2_2:=B2.cell_some b2 (by simp);have b3_2:=B2.cell_some b3 (by simp);clear a0_1 a1_1 a2_1 a3_1 b0_1 b1_1 b2_1 b3_1)
  | (go_at_call 18;refine (unhide CM _ (by first | exact unhide HB | exact (unhide HB).drew)).mono ?_;rintro e w1 ⟨rfl,hc1⟩;have B1:But [] W w1:=(by first | exact hc1 | exact (But.refl _ _).drew.trans' hc1);clear hc1;have a0_1:=B1.cell_some a0 (by simp);have a1_1:=B1.cell_some a1 (by simp);have a2_1:=B1.cell_some a2 (by simp);have a3_1:=B1.cell_some a3 (by simp);have b0_1:=B1.cell_some b0 (by simp);have b1_1:=B1.cell_some b1 (by simp);have b2_1:=B1.cell_some b2 (by simp);have b3_1:=B1.cell_some b3 (by simp)))
 have HB3:Hid (But [] w w3):=(unhide HB).trans' B3
 clear B1 B2 B3
 go_wp2
 go_ret
 exact ⟨rfl,unhide HB3⟩
end Go.Proofs.YthlnhheblhapgaaGreatDoor

namespace Go.Proofs.YthlnhheblhapgaaGreatDoor
open Go.RowKit
set_option maxHeartbeats 16000000
set_option maxRecDepth 100000
theorem likes_eq (b off cap b2 of2 c2 n:Nat) (fs:List Rat) (w:World) (ha:FracsAt w (.slice (some ⟨b,off,none⟩) n cap) fs) (hb:FracsAt w (.slice (some ⟨b2,of2,none⟩) n c2) fs) (hn:n≤1000) (lf:∀ f ∈ fs,Len f 1000000) (htab:Lib.TabIs Tryz.prog w "internal/strconv.uint64pow10" .u64 Lib.pow10Tab) :
  Calls Tryz.prog 14 #[.slice (some ⟨b,off,none⟩) n cap,.slice (some ⟨b2,of2,none⟩) n c2] w fun e w'=>e=.returned (.bool true)∧But [] w w':=by
 have LA:=hide (fun k=>len_at lf (by omega) k)
 have HA:=hide ha
 have HB:=hide hb
 have HT:=hide htab
 clear ha hb lf htab
 go_enter Tryz.func14,Tryz.ntmps14
 go_wp2
 go_loopw [5] (fun iv wr=>∃ k:Nat,k≤n∧iv=.int .i64 (k:Int)∧Hid (But [] w wr)) (fun iv _=>n-(intOf iv).toNat)
 case atStart=>exact ⟨0,Nat.zero_le _,rfl,But.refl _ _⟩
 case round =>
  obtain ⟨k,hk,rfl,HI⟩:=hrel
  rename World=>wr
  by_cases hlt:k<n
  ·go_wp2
   obtain ⟨s1,x1,y1,p1,r1,hf1⟩:=((unhide HA).but (unhide HI)).get k hlt
   obtain ⟨s2,x2,y2,p2,r2,hf2⟩:=((unhide HB).but (unhide HI)).get k hlt
   refine likes_region 6 _ _ wr b off n cap b2 of2 c2 k s1 x1 y1 p1 s2 x2 y2 p2 (by simp) (by simp [Act.eval]) (by simp [Act.eval]) (by simp [Act.eval]) hlt (by omega) r1 r2 (fun w' hb=>like_len _ _ (fs[k]?.getD 0) w' (hf1.but hb) (hf2.but hb) (unhide LA k) (TabIs.but (unhide HT) ((unhide HI).trans' hb))) ?_
   intro w2 hb2
   simp only [putted,List.foldl_cons,List.foldl_nil,Act.put,List.setIfInBounds_toArray,List.set_cons_zero,List.set_cons_succ]
   have JB:=hide ((unhide HI).trans' hb2)
   clear hb2 r1 r2 hf1 hf2 HI
   go_wp2
   exact ⟨⟨k+1,by omega,by go_num,unhide JB⟩,by simp [intOf];omega⟩
  ·obtain rfl:k=n:=by omega
   go_wp2
   go_ret
   exact ⟨rfl,unhide HI⟩
theorem keepSumL_any (b off cap n:Nat) (fs:List Rat) (w:World) (hv:FracsAt w (.slice (some ⟨b,off,none⟩) n cap) fs) (hn:n≤1000) (lf:∀ k,k<n→Len (atR fs k) 499000) (ls:∀ k,k≤n→Len (sgR (atR fs) k) 499000) :
  Calls Tryz.prog 16 #[.slice (some ⟨b,off,none⟩) n cap] w fun e w'=>∃ v,e=.returned v∧FracAt w' v (sgR (atR fs) n)∧But [] w w':=by
 have LA:=hide lf
 have LS:=hide ls
 obtain ⟨ws,wx,FW,CW⟩:=whole_is 0 (by omega) (by omega)
 have HFW:=hide FW
 have HCW:=hide CW
 have HV:=hide hv
 have bA:But [] w (w.alloc (.cells #[.bool false,.int .u64 0,.int .u64 0,.pointer none] 41)):=(But.refl _ _).alloc _
 have X2:=hide (BoxAt.new w false 0 0 none 0 41 (zero_at _))
 have BA:=hide bA
 clear hv bA FW CW lf ls
 go_enter Tryz.func16,Tryz.ntmps16
 go_wp2_with fail
 refine (unhide HCW _).mono ?_
 rintro e w1 ⟨rfl,hb1⟩
 have hal:But [] w1 (w1.alloc (.cells #[.bool ws,.int .u64 wx,.int .u64 0,.pointer none] 41)):=(But.refl _ _).alloc _
 have X21:=hide (((unhide X2).but hb1).but hal)
 have l2:w.heap.size<w1.heap.size:=by have:=((unhide X2).but hb1).lt;exact this
 have X3:=hide (BoxAt.new w1 ws wx 0 none ((0:Int):Rat) 41 (unhide HFW w1))
 have B1:=hide (((unhide BA).trans' hb1).trans' hal)
 clear hb1 hal X2 BA HCW
 go_wp2
 generalize hg3:w1.heap.size=g3 at *
 generalize w1.alloc (.cells #[.bool ws,.int .u64 wx,.int .u64 0,.pointer none] 41)=V at *
 generalize hg2:w.heap.size=g2 at *
 go_loopw [4] (fun iv wr=>∃ k:Nat,k≤n∧iv=.int .i64 (k:Int)∧Hid (BoxAt wr g3 (sgR (atR fs) k)∧BoxAt wr g2 0∧But [] w wr)) (fun iv _=>n-(intOf iv).toNat)
 case atStart=>exact ⟨0,Nat.zero_le _,rfl,unhide X3,unhide X21,unhide B1⟩
 case round =>
  obtain ⟨k,hk,rfl,HI⟩:=hrel
  rename World=>wr
  clear X3 X21 B1
  by_cases hlt:k<n
  ·go_wp2
   obtain ⟨⟨⟨t3,a3,b3,q3,k3,f3⟩,z3⟩,hx2,hbw⟩:=unhide HI
   obtain ⟨sr,xr,yr,pr,r0,hfr⟩:=((unhide HV).but hbw).get k hlt
   refine sum_region 5 _ _ wr b off n cap k t3 a3 b3 q3 sr xr yr pr (sgR (atR fs) k) (fs[k]?.getD 0) g3 (by simp) (by simp [Act.eval]) k3 z3 (by simp [Act.eval]) (by simp [Act.eval]) hlt (by omega) k3 r0 (fun w' hb=>fracAdd_any _ _ _ _ w' (f3.but hb) (hfr.but hb) ((unhide LS k hk).mono (by omega)) (Len.mono (f:=atR fs k) (unhide LA k hlt) (by omega))) ?_
   intro w2 s5 x5 y5 p5 hb2 hf2
   simp only [putted,List.foldl_cons,List.foldl_nil,Act.put,List.setIfInBounds_toArray,List.set_cons_zero,List.set_cons_succ]
   have hP:=put4_but w2 g3 s5 x5 y5 p5
   have J3:=hide (((unhide HI).1.but hb2).put hf2)
   have J2:=hide ((hx2.but hb2).beside hP (by simp;omega) (fun g hg=>by simp at hg;subst hg;exact ((unhide HI).1.but hb2).bool))
   have JB:=hide ((hbw.trans' hb2).trans hP (fun x hx=>by simp at hx;subst hx;exact .inr (by omega)))
   generalize put4 w2 g3 s5 x5 y5 p5=V2 at *
   clear hP hf2 hb2 k3 f3 z3 r0 hfr hx2 hbw HI
   go_wp2
   exact ⟨⟨k+1,by omega,by go_num,unhide J3,unhide J2,unhide JB⟩,by simp [intOf];omega⟩
  ·obtain rfl:k=n:=by omega
   obtain ⟨⟨⟨t6,a6,b6,q6',⟨d0,d1,d2,d3⟩,hf6⟩,z6⟩,⟨⟨t2,a2,b2,q2,⟨c0,c1,c2,c3⟩,-⟩,z2⟩,hbw⟩:=unhide HI
   have HF6:=hide hf6
   have HBW:=hide hbw
   have P2:Hid (P4 wr g2 t2 a2 b2 q2):=⟨c0,c1,c2,c3⟩
   clear HI hf6 hbw
   go_wp2
   have hP:=put4_but wr g2 t6 a6 b6 q6'
   obtain ⟨m0,m1,m2,m3⟩:=put4_p4 wr g2 t6 a6 b6 q6' (unhide P2)
   have hF:But [] w (put4 wr g2 t6 a6 b6 q6'):=(unhide HBW).trans hP (fun x hx=>by simp at hx;subst hx;exact .inr (by omega))
   have hff:=(unhide HF6).over (unhide P2).1 hP
   change bodyPost _ _ _ _ _ (put4 wr g2 t6 a6 b6 q6')
   generalize put4 wr g2 t6 a6 b6 q6'=F at *
   exact bodyPost_ret (v:=.agg #[.bool t6,.int .u64 a6,.int .u64 b6,.pointer q6']) (by simp [results,Tryz.results16,go_sem,m0,m1,m2,m3]) rfl ⟨_,rfl,hff,hF⟩
end Go.Proofs.YthlnhheblhapgaaGreatDoor
