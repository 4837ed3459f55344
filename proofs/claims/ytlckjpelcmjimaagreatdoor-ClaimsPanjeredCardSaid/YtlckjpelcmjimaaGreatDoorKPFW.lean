/- A whole number as a fraction, as the Go  -/
import Derived.Test.YtlckjpelcmjimaaGreatDoorKPR0
namespace Go.Proofs.YtlckjpelcmjimaaGreatDoor
open Go.RowKit
set_option maxHeartbeats 1000000
set_option maxRecDepth 100000
theorem whole_any (x:Int) (h1:-9223372036854775808≤x) (h2:x<9223372036854775808) (w:World) :
  Calls Tryz.prog 27 #[.int .i64 x] w fun e w'=>e=.returned (.agg #[.bool (decide (x<0)),.int .u64 ((x.natAbs:Nat):Int),.int .u64 (((1:Nat):Int)-1),.pointer none])∧But [] w w':=by
 obtain ⟨s,hs⟩:∃ s,s=decide (x<0):=⟨_,rfl⟩
 obtain ⟨n,hn⟩:∃ n,n=x.natAbs:=⟨_,rfl⟩
 rw [← hs,← hn]
 have HS:=af hs
 have HN:=af hn
 go_enter Tryz.func27,Tryz.ntmps27
 go_wp2_with fail
 refine (size_any x h1 h2 _).mono ?_
 rintro e w1 ⟨rfl,hw⟩
 obtain rfl:=hw.symm
 go_wp2
 exact bodyPost_ret (v:=.agg #[.bool (decide (x<0)),.int .u64 ((x.natAbs:Nat):Int),.int .u64 0,.pointer none]) (by simp [results,Tryz.results27,go_sem]) rfl ⟨by rw [ae HS,ae HN];rfl,(But.refl _ _).alloc _⟩
theorem aq (a:Act) (w:World) (d t:Nat) (u:TypeId) (ps:String) (ed:Array Edge) (gd:Option (Nat × Bool)) (b o:Nat) (s:Bool) (x y:Int) (p:Option Addr) (h1:a.eval (.tmp t)=.pointer (some ⟨b,o,none⟩)) (hc:P4o w b o s x y p) :
  (execOp a.eval { dst:=some d,op:=Op.load 29 (.tmp t),type:=u,pos:=ps,after:=ed,guard:=gd }).run Tryz.prog w=.ok (.value (.agg #[.bool s,.int .u64 x,.int .u64 y,.pointer p])) w:=by
 obtain ⟨c0,c1,c2,c3⟩:=hc
 unfold execOp
 simp only [h1]
 go_simp
theorem run_eq0K (a:Act) (w:World) (d t:Nat) (u:TypeId) (ps:String) (ed:Array Edge) (gd:Option (Nat × Bool)) (x:Int) (h:a.eval (.tmp t)=.int .i64 x) :
  (execOp a.eval { dst:=some d,op:=Op.binOp BinOp.eql 3 (.tmp t) (.const (.int .i64 0)) 3,type:=u,pos:=ps,after:=ed,guard:=gd }).run Tryz.prog w=.ok (.value (.bool (x==0))) w:=by
 have e:a.eval (.const (.int .i64 0))=.int .i64 0:=rfl
 unfold execOp
 simp only [h,e]
 go_simp
theorem run_addK (a:Act) (w:World) (d t1 t2:Nat) (u:TypeId) (ps:String) (ed:Array Edge) (gd:Option (Nat × Bool)) (x1 x2:Value) (h1:a.eval (.tmp t1)=x1) (h2:a.eval (.tmp t2)=x2) :
  (execOp a.eval { dst:=some d,op:=Op.call { callee:=Callee.value (Operand.func 22),args:=#[Operand.tmp t1,Operand.tmp t2],argTypes:=#[29,29] },type:=u,pos:=ps,after:=ed,guard:=gd }).run Tryz.prog w=.ok (.enter 22 #[x1,x2]) w:=by
 unfold execOp
 go_simp
 rw [← h1,← h2]
 simp [Act.eval]
theorem run_mulK (a:Act) (w:World) (d t1 t2:Nat) (u:TypeId) (ps:String) (ed:Array Edge) (gd:Option (Nat × Bool)) (x1 x2:Value) (h1:a.eval (.tmp t1)=x1) (h2:a.eval (.tmp t2)=x2) :
  (execOp a.eval { dst:=some d,op:=Op.call { callee:=Callee.value (Operand.func 33),args:=#[Operand.tmp t1,Operand.tmp t2],argTypes:=#[29,29] },type:=u,pos:=ps,after:=ed,guard:=gd }).run Tryz.prog w=.ok (.enter 33 #[x1,x2]) w:=by
 unfold execOp
 go_simp
 rw [← h1,← h2]
 simp [Act.eval]
theorem run_cmpK (a:Act) (w:World) (d t1 t2:Nat) (u:TypeId) (ps:String) (ed:Array Edge) (gd:Option (Nat × Bool)) (x1 x2:Value) (h1:a.eval (.tmp t1)=x1) (h2:a.eval (.tmp t2)=x2) :
  (execOp a.eval { dst:=some d,op:=Op.call { callee:=Callee.value (Operand.func 25),args:=#[Operand.tmp t1,Operand.tmp t2],argTypes:=#[29,29] },type:=u,pos:=ps,after:=ed,guard:=gd }).run Tryz.prog w=.ok (.enter 25 #[x1,x2]) w:=by
 unfold execOp
 go_simp
 rw [← h1,← h2]
 simp [Act.eval]
theorem run_floorK (a:Act) (w:World) (d t1:Nat) (u:TypeId) (ps:String) (ed:Array Edge) (gd:Option (Nat × Bool)) (x1:Value) (h1:a.eval (.tmp t1)=x1) :
  (execOp a.eval { dst:=some d,op:=Op.call { callee:=Callee.value (Operand.func 188),args:=#[Operand.tmp t1],argTypes:=#[29] },type:=u,pos:=ps,after:=ed,guard:=gd }).run Tryz.prog w=.ok (.enter 188 #[x1]) w:=by
 unfold execOp
 go_simp
 rw [← h1]
 simp [Act.eval]
theorem run_lowerK (a:Act) (w:World) (d t1:Nat) (u:TypeId) (ps:String) (ed:Array Edge) (gd:Option (Nat × Bool)) (x1:Value) (h1:a.eval (.tmp t1)=x1) :
  (execOp a.eval { dst:=some d,op:=Op.call { callee:=Callee.value (Operand.func 156),args:=#[Operand.tmp t1],argTypes:=#[29] },type:=u,pos:=ps,after:=ed,guard:=gd }).run Tryz.prog w=.ok (.enter 156 #[x1]) w:=by
 unfold execOp
 go_simp
 rw [← h1]
 simp [Act.eval]
def opKa0:Oper:={ dst:=some 12,op:=Op.load 29 (Operand.tmp 1),type:=29,pos:= "whole.go:24",after:=#[],guard:=none }
def opKa1:Oper:={ dst:=some 13,op:=Op.load 29 (Operand.tmp 1),type:=29,pos:= "whole.go:24",after:=#[],guard:=none }
def opKa2:Oper:={ dst:=some 14,op:=Op.call { callee:=Callee.value (Operand.func 188),args:=#[Operand.tmp 13],argTypes:=#[29] },type:=29,pos:= "whole.go:24",after:=#[⟨1,.data⟩],guard:=none }
def opKa3:Oper:={ dst:=some 15,op:=Op.call { callee:=Callee.value (Operand.func 25),args:=#[Operand.tmp 12,Operand.tmp 14],argTypes:=#[29,29] },type:=3,pos:= "whole.go:24",after:=#[⟨0,.data⟩,⟨2,.data⟩,⟨2,.chain⟩],guard:=none }
def opKa4:Oper:={ dst:=some 16,op:=Op.binOp BinOp.eql 3 (Operand.tmp 15) (Operand.const (Value.int IntKind.i64 0)) 3,type:=4,pos:= "whole.go:24",after:=#[⟨3,.data⟩],guard:=none }
def opKas:Array Oper:=#[opKa0,opKa1,opKa2,opKa3,opKa4]
def opKaT (i:Nat):Nat:=match i with
 | 0=>12
 | 1=>13
 | 2=>14
 | 3=>15
 | _=>16
def opKaC (s1:Bool) (x1:Int) (y1:Int) (p1:Option Addr) (r:Int) (g:Rat) (i:Nat) (w:World) (v:Value):Prop:=match i with
 | 0=>v=.agg #[.bool s1,.int .u64 x1,.int .u64 y1,.pointer p1]
 | 1=>v=.agg #[.bool s1,.int .u64 x1,.int .u64 y1,.pointer p1]
 | 2=>am w v g
 | 3=>v=.int .i64 r
 | _=>v=.bool (r==0)
theorem opKaC_but {s1:Bool} {x1:Int} {y1:Int} {p1:Option Addr} {r:Int} {g:Rat} {i:Nat} {w w':World} {v:Value} (h:opKaC s1 x1 y1 p1 r g i w v) (hi:i<5) (hb:But [] w w'):opKaC s1 x1 y1 p1 r g i w' v:=by
 have:i=0∨i=1∨i=2∨i=3∨i=4:=by omega
 rcases this with rfl | rfl | rfl | rfl | rfl
 all_goals first | exact h | exact am.but h hb | exact an.but h hb
theorem opKaT_inj:∀ i j,i<5→j<5→opKaT i=opKaT j→i=j:=fun i j hi hj=>(by decide:∀ i,i<5→∀ j,j<5→opKaT i=opKaT j→i=j) i hi j hj
theorem lower_region1 (id:Nat) (Q:Exit→Act→World→Prop) (base:Act) (W0:World) (s1:Bool) (x1:Int) (y1:Int) (p1:Option Addr) (r:Int) (g:Rat) (hs:16<base.tmps.size) (g1:Nat) (e1:base.eval (.tmp 1)=.pointer (some ⟨g1,0,none⟩))
  (c1:P4 W0 g1 s1 x1 y1 p1)
  (FL:∀ w,But [] W0 w→Calls Tryz.prog 188 #[.agg #[.bool s1,.int .u64 x1,.int .u64 y1,.pointer p1]] w fun e w'=>∃ v,e=.returned v∧am w' v g∧But [] w w')
  (CM:∀ w,But [] W0 w→∀ v,am w v g→Calls Tryz.prog 25 #[.agg #[.bool s1,.int .u64 x1,.int .u64 y1,.pointer p1],v] w fun e w'=>e=.returned (.int .i64 r)∧But [] w w')
  (hQ:∀ w (v2:Value),But [] W0 w→Q .normal (bb base [(12,.agg #[.bool s1,.int .u64 x1,.int .u64 y1,.pointer p1]),(13,.agg #[.bool s1,.int .u64 x1,.int .u64 y1,.pointer p1]),(14,v2),(15,.int .i64 r),(16,.bool (r==0))]) w) :
  (Code.region id opKas true).wp Tryz.prog Q base W0:=by
 have hdr:∀ {w},But [] W0.drew w→But [] W0 w:=fun h=>(But.refl _ _).drew.trans' h
 have hT:∀ i,i<5→opKaT i<base.tmps.size:=fun i hi=>by
  have h:opKaT i≤16:=by revert i;decide
  omega
 refine region_go (by kernel_rfl) (low_of (by kernel_rfl)) (opKaC s1 x1 y1 p1 r g) opKaT (by kernel_rfl) ?_ opKaT_inj hT (fun i w w' v hi h hb=>opKaC_but h hi hb) ?_ ?_
 ·intro i o j want ho hg w v hv
  have hi:i<5:=(Array.getElem?_eq_some_iff.1 ho).1
  have:i=0∨i=1∨i=2∨i=3∨i=4:=by omega
  rcases this with rfl | rfl | rfl | rfl | rfl
  ·obtain rfl:=Option.some.inj ((show opKas[0]? = some opKa0 from rfl).symm.trans ho)
   exact absurd (show (none:Option (Nat × Bool))=some (j,want) from hg) (by simp)
  ·obtain rfl:=Option.some.inj ((show opKas[1]? = some opKa1 from rfl).symm.trans ho)
   exact absurd (show (none:Option (Nat × Bool))=some (j,want) from hg) (by simp)
  ·obtain rfl:=Option.some.inj ((show opKas[2]? = some opKa2 from rfl).symm.trans ho)
   exact absurd (show (none:Option (Nat × Bool))=some (j,want) from hg) (by simp)
  ·obtain rfl:=Option.some.inj ((show opKas[3]? = some opKa3 from rfl).symm.trans ho)
   exact absurd (show (none:Option (Nat × Bool))=some (j,want) from hg) (by simp)
  ·obtain rfl:=Option.some.inj ((show opKas[4]? = some opKa4 from rfl).symm.trans ho)
   exact absurd (show (none:Option (Nat × Bool))=some (j,want) from hg) (by simp)
 ·intro i o a w K ho hH he hdep hk
  have hi:i<5:=(Array.getElem?_eq_some_iff.1 ho).1
  have hD:=dep_have (ps:=[(2,1),(3,0),(3,2),(4,3)]) (by kernel_rfl) ho (fun j=>opKaC s1 x1 y1 p1 r g j w (a.eval (.tmp (opKaT j)))) hdep
  have e1':=(he 1 (fun j hj e=>absurd e.symm (by revert j;decide))).trans e1
  have:i=0∨i=1∨i=2∨i=3∨i=4:=by omega
  rcases this with rfl | rfl | rfl | rfl | rfl
  ·obtain rfl:=Option.some.inj ((show opKas[0]? = some opKa0 from rfl).symm.trans ho)
   exact al (aq a w _ _ _ _ _ _ g1 0 _ _ _ _ e1' (c1.but (hdr hH) (by simp))) (hk _ _ (But.refl _ _) rfl)
  ·obtain rfl:=Option.some.inj ((show opKas[1]? = some opKa1 from rfl).symm.trans ho)
   exact al (aq a w _ _ _ _ _ _ g1 0 _ _ _ _ e1' (c1.but (hdr hH) (by simp))) (hk _ _ (But.refl _ _) rfl)
  ·obtain rfl:=Option.some.inj ((show opKas[2]? = some opKa2 from rfl).symm.trans ho)
   exact av (run_floorK a w _ _ _ _ _ _ _ (hD 1 (by simp))) (R:=fun w' v=>am w' v (g)∧But [] w w') (FL w (hdr hH)) (fun v w' hv=>hk v w' hv.2 hv.1)
  ·obtain rfl:=Option.some.inj ((show opKas[3]? = some opKa3 from rfl).symm.trans ho)
   exact av (run_cmpK a w _ _ _ _ _ _ _ _ _ (hD 0 (by simp)) rfl) (R:=fun w' v=>But [] w w'∧v=_) ((CM w (hdr hH) _ (hD 2 (by simp))).mono fun e w' ⟨he,hb⟩=>⟨_,he,hb,rfl⟩) (fun v w' hv=>hk v w' hv.1 hv.2)
  ·obtain rfl:=Option.some.inj ((show opKas[4]? = some opKa4 from rfl).symm.trans ho)
   exact al (run_eq0K a w _ _ _ _ _ _ _ (hD 3 (by simp))) (hk _ _ (But.refl _ _) rfl)
 ·intro a w h
  have ea:=h.puts hT (fun i=>match i with
   | 0=>.agg #[.bool s1,.int .u64 x1,.int .u64 y1,.pointer p1]
   | 1=>.agg #[.bool s1,.int .u64 x1,.int .u64 y1,.pointer p1]
   | 2=>a.eval (.tmp 14)
   | 3=>.int .i64 r
   | _=>.bool (r==0)) (fun i hi=>by
   have hi':i<5:=hi
   have hc:=h.has i hi rfl
   have:i=0∨i=1∨i=2∨i=3∨i=4:=by omega
   rcases this with rfl | rfl | rfl | rfl | rfl
   all_goals first | exact hc | rfl)
  rw [ea]
  exact hQ w (a.eval (.tmp 14)) (hdr h.but)
def opKb0:Oper:={ dst:=some 44,op:=Op.load 29 (Operand.tmp 6),type:=29,pos:= "whole.go:33",after:=#[],guard:=none }
def opKb1:Oper:={ dst:=some 45,op:=Op.load 29 (Operand.tmp 10),type:=29,pos:= "whole.go:33",after:=#[],guard:=none }
def opKb2:Oper:={ dst:=some 46,op:=Op.call { callee:=Callee.value (Operand.func 33),args:=#[Operand.tmp 44,Operand.tmp 45],argTypes:=#[29,29] },type:=29,pos:= "whole.go:33",after:=#[⟨0,.data⟩,⟨1,.data⟩],guard:=none }
def opKb3:Oper:={ dst:=some 47,op:=Op.load 29 (Operand.tmp 8),type:=29,pos:= "whole.go:33",after:=#[],guard:=none }
def opKb4:Oper:={ dst:=some 48,op:=Op.call { callee:=Callee.value (Operand.func 22),args:=#[Operand.tmp 46,Operand.tmp 47],argTypes:=#[29,29] },type:=29,pos:= "whole.go:33",after:=#[⟨2,.data⟩,⟨3,.data⟩,⟨2,.chain⟩],guard:=none }
def opKb5:Oper:={ dst:=none,op:=Op.store 29 (Operand.tmp 6) (Operand.tmp 48),type:=0,pos:= "whole.go:33",after:=#[⟨4,.data⟩,⟨4,.chain⟩,⟨0,.phase⟩,⟨1,.phase⟩,⟨2,.phase⟩,⟨3,.phase⟩,⟨4,.phase⟩],guard:=none }
def opKbs:Array Oper:=#[opKb0,opKb1,opKb2,opKb3,opKb4,opKb5]
def opKbT (i:Nat):Nat:=match i with
 | 0=>44
 | 1=>45
 | 2=>46
 | 3=>47
 | _=>48
def opKbC (s1:Bool) (x1:Int) (y1:Int) (p1:Option Addr) (s2:Bool) (x2:Int) (y2:Int) (p2:Option Addr) (s3:Bool) (x3:Int) (y3:Int) (p3:Option Addr) (f1:Rat) (f2:Rat) (f3:Rat) (i:Nat) (w:World) (v:Value):Prop:=match i with
 | 0=>v=.agg #[.bool s1,.int .u64 x1,.int .u64 y1,.pointer p1]
 | 1=>v=.agg #[.bool s2,.int .u64 x2,.int .u64 y2,.pointer p2]
 | 2=>am w v (f1*f2)
 | 3=>v=.agg #[.bool s3,.int .u64 x3,.int .u64 y3,.pointer p3]
 | _=>am w v (f1*f2+f3)
theorem opKbC_but {s1:Bool} {x1:Int} {y1:Int} {p1:Option Addr} {s2:Bool} {x2:Int} {y2:Int} {p2:Option Addr} {s3:Bool} {x3:Int} {y3:Int} {p3:Option Addr} {f1:Rat} {f2:Rat} {f3:Rat} {i:Nat} {w w':World} {v:Value} (h:opKbC s1 x1 y1 p1 s2 x2 y2 p2 s3 x3 y3 p3 f1 f2 f3 i w v) (hi:i<5) (hb:But [] w w'):opKbC s1 x1 y1 p1 s2 x2 y2 p2 s3 x3 y3 p3 f1 f2 f3 i w' v:=by
 have:i=0∨i=1∨i=2∨i=3∨i=4:=by omega
 rcases this with rfl | rfl | rfl | rfl | rfl
 all_goals first | exact h | exact am.but h hb | exact an.but h hb
theorem opKbT_inj:∀ i j,i<5→j<5→opKbT i=opKbT j→i=j:=fun i j hi hj=>(by decide:∀ i,i<5→∀ j,j<5→opKbT i=opKbT j→i=j) i hi j hj
theorem lower_region9 (id:Nat) (Q:Exit→Act→World→Prop) (base:Act) (W0:World) (s1:Bool) (x1:Int) (y1:Int) (p1:Option Addr) (s2:Bool) (x2:Int) (y2:Int) (p2:Option Addr) (s3:Bool) (x3:Int) (y3:Int) (p3:Option Addr) (f1:Rat) (f2:Rat) (f3:Rat) (gb g8 g10:Nat) {sb:Bool} {xb yb:Int} {pb:Option Addr} (hs:48<base.tmps.size) (eb:base.eval (.tmp 6)=.pointer (some ⟨gb,0,none⟩)) (cb:P4 W0 gb sb xb yb pb) (fzb:∀ j,W0.frozen? ⟨gb,j,none⟩=false) (e10:base.eval (.tmp 10)=.pointer (some ⟨g10,0,none⟩)) (e8:base.eval (.tmp 8)=.pointer (some ⟨g8,0,none⟩))
  (c1:P4 W0 gb s1 x1 y1 p1) (c2:P4 W0 g10 s2 x2 y2 p2) (c3:P4 W0 g8 s3 x3 y3 p3)
  (MU:∀ w,But [] W0 w→Calls Tryz.prog 33 #[.agg #[.bool s1,.int .u64 x1,.int .u64 y1,.pointer p1],.agg #[.bool s2,.int .u64 x2,.int .u64 y2,.pointer p2]] w fun e w'=>∃ v,e=.returned v∧am w' v (f1*f2)∧But [] w w')
  (AD:∀ w,But [] W0 w→∀ v,am w v (f1*f2)→Calls Tryz.prog 22 #[v,.agg #[.bool s3,.int .u64 x3,.int .u64 y3,.pointer p3]] w fun e w'=>∃ v,e=.returned v∧am w' v (f1*f2+f3)∧But [] w w')
  (hQ:∀ w1 v2 s' x' y' p',But [] W0 w1→am w1 (.agg #[.bool s',.int .u64 x',.int .u64 y',.pointer p']) (f1*f2+f3)→Q .normal (bb base [(44,.agg #[.bool s1,.int .u64 x1,.int .u64 y1,.pointer p1]),(45,.agg #[.bool s2,.int .u64 x2,.int .u64 y2,.pointer p2]),(46,v2),(47,.agg #[.bool s3,.int .u64 x3,.int .u64 y3,.pointer p3]),(48,(.agg #[.bool s',.int .u64 x',.int .u64 y',.pointer p']))]) (put4 w1 gb s' x' y' p')) :
  (Code.region id opKbs true).wp Tryz.prog Q base W0:=by
 have hdr:∀ {w},But [] W0.drew w→But [] W0 w:=fun h=>(But.refl _ _).drew.trans' h
 have lgb:gb<W0.heap.size:=ai cb.1
 have hT:∀ i,i<5→opKbT i<base.tmps.size:=fun i hi=>by
  have h:opKbT i≤48:=by revert i;decide
  omega
 refine region_flow (by kernel_rfl) (low_of (by kernel_rfl)) (fun i o ho=>(calm_of (ops:=opKbs) (by kernel_rfl) i o ho).1)
  (fun _ w=>But [] W0.drew w) (opKbC s1 x1 y1 p1 s2 x2 y2 p2 s3 x3 y3 p3 f1 f2 f3) opKbT 5 rfl opKbT_inj hT (But.refl _ _)
  (fun i hi=>?_) ?_ (fun a w=>∃ w1 v2 s' x' y' p',a=bb base [(44,.agg #[.bool s1,.int .u64 x1,.int .u64 y1,.pointer p1]),(45,.agg #[.bool s2,.int .u64 x2,.int .u64 y2,.pointer p2]),(46,v2),(47,.agg #[.bool s3,.int .u64 x3,.int .u64 y3,.pointer p3]),(48,(.agg #[.bool s',.int .u64 x',.int .u64 y',.pointer p']))]∧w=put4 w1 gb s' x' y' p'∧But [] W0 w1∧am w1 (.agg #[.bool s',.int .u64 x',.int .u64 y',.pointer p']) (f1*f2+f3)) ?_ ?_
 ·exact dep_of (ops:=opKbs) (ps:=[(5,0),(5,1),(5,2),(5,3),(5,4)]) (by kernel_rfl) 5 i (by
   have:i=0∨i=1∨i=2∨i=3∨i=4:=by omega
   rcases this with rfl | rfl | rfl | rfl | rfl <;> simp)
 ·intro dn i o a w K hi ho hdi hH he hdep hK
  have hD:=fun j hj=>(dep_have (ps:=[(2,0),(2,1),(4,2),(4,3)]) (by kernel_rfl) ho (fun j=>dn j=true∧opKbC s1 x1 y1 p1 s2 x2 y2 p2 s3 x3 y3 p3 f1 f2 f3 j w (a.eval (.tmp (opKbT j)))) hdep j hj).2
  have hk:∀ v w',But [] w w'→opKbC s1 x1 y1 p1 s2 x2 y2 p2 s3 x3 y3 p3 f1 f2 f3 i w' v→K (a.put (some (opKbT i)) v) w':=fun v w' hb hv=>hK v w' (hH.trans' hb) (fun j hj _ u hu=>opKbC_but hu hj hb) hv
  have eb':=(he 6 (fun j hj e=>absurd e.symm (by revert j;decide))).trans eb
  have e10':=(he 10 (fun j hj e=>absurd e.symm (by revert j;decide))).trans e10
  have e8':=(he 8 (fun j hj e=>absurd e.symm (by revert j;decide))).trans e8
  have:i=0∨i=1∨i=2∨i=3∨i=4:=by omega
  rcases this with rfl | rfl | rfl | rfl | rfl
  ·obtain rfl:=Option.some.inj ((show opKbs[0]? = some opKb0 from rfl).symm.trans ho)
   exact al (aq a w _ _ _ _ _ _ gb 0 _ _ _ _ eb' (c1.but (hdr hH) (by simp))) (hk _ _ (But.refl _ _) rfl)
  ·obtain rfl:=Option.some.inj ((show opKbs[1]? = some opKb1 from rfl).symm.trans ho)
   exact al (aq a w _ _ _ _ _ _ g10 0 _ _ _ _ e10' (c2.but (hdr hH) (by simp))) (hk _ _ (But.refl _ _) rfl)
  ·obtain rfl:=Option.some.inj ((show opKbs[2]? = some opKb2 from rfl).symm.trans ho)
   exact av (run_mulK a w _ _ _ _ _ _ _ _ _ (hD 0 (by simp)) (hD 1 (by simp))) (R:=fun w' v=>am w' v (f1*f2)∧But [] w w') (MU w (hdr hH)) (fun v w' hv=>hk v w' hv.2 hv.1)
  ·obtain rfl:=Option.some.inj ((show opKbs[3]? = some opKb3 from rfl).symm.trans ho)
   exact al (aq a w _ _ _ _ _ _ g8 0 _ _ _ _ e8' (c3.but (hdr hH) (by simp))) (hk _ _ (But.refl _ _) rfl)
  ·obtain rfl:=Option.some.inj ((show opKbs[4]? = some opKb4 from rfl).symm.trans ho)
   exact av (run_addK a w _ _ _ _ _ _ _ _ _ rfl (hD 3 (by simp))) (R:=fun w' v=>am w' v (f1*f2+f3)∧But [] w w') (AD w (hdr hH) _ (hD 2 (by simp))) (fun v w' hv=>hk v w' hv.2 hv.1)
 ·intro dn o a w K ho hall h hK
  obtain rfl:=Option.some.inj ((show opKbs[5]? = some opKb5 from rfl).symm.trans ho)
  have eb':=(h.eval 6 (fun j hj e=>absurd e.symm (by revert j;decide))).trans eb
  have cl:am w (a.eval (.tmp 48)) (f1*f2+f3):=h.has 4 (by omega) (hall 4 (by omega))
  have cl':=cl
  obtain ⟨x',y',p',ev,-⟩:=cl.agg
  rw [ev] at cl'
  have ea:=h.puts hT (fun i=>match i with
   | 0=>.agg #[.bool s1,.int .u64 x1,.int .u64 y1,.pointer p1]
   | 1=>.agg #[.bool s2,.int .u64 x2,.int .u64 y2,.pointer p2]
   | 2=>a.eval (.tmp 46)
   | 3=>.agg #[.bool s3,.int .u64 x3,.int .u64 y3,.pointer p3]
   | _=>.agg #[.bool (decide ((f1*f2+f3).num<0)),.int .u64 x',.int .u64 y',.pointer p']) (fun i hi=>by
   have hc:=h.has i hi (hall i hi)
   have:i=0∨i=1∨i=2∨i=3∨i=4:=by omega
   rcases this with rfl | rfl | rfl | rfl | rfl
   all_goals first | exact ev | exact hc | rfl)
  exact wp_skipped (run_store4 a w _ _ _ _ _ gb _ x' y' p' eb' ev (cb.but (hdr h.mem) (by simp)) (fun j=>((hdr h.mem).frozen (p:=⟨gb,j,none⟩) lgb (by simp)).trans (fzb j))) (hK _ _ ⟨w,a.eval (.tmp 46),_,x',y',p',ea,rfl,hdr h.mem,cl'⟩)
 ·rintro a w ⟨w1,v2,s',x',y',p',rfl,rfl,h1,h2⟩
  exact hQ  w1 v2 s' x' y' p' h1 h2
def opKc0:Oper:={ dst:=some 21,op:=Op.load 29 (Operand.tmp 3),type:=29,pos:= "whole.go:16",after:=#[],guard:=none }
def opKc1:Oper:={ dst:=some 22,op:=Op.load 29 (Operand.tmp 7),type:=29,pos:= "whole.go:16",after:=#[],guard:=none }
def opKc2:Oper:={ dst:=some 23,op:=Op.load 29 (Operand.tmp 3),type:=29,pos:= "whole.go:16",after:=#[],guard:=none }
def opKc3:Oper:={ dst:=some 24,op:=Op.call { callee:=Callee.value (Operand.func 33),args:=#[Operand.tmp 22,Operand.tmp 23],argTypes:=#[29,29] },type:=29,pos:= "whole.go:16",after:=#[⟨1,.data⟩,⟨2,.data⟩],guard:=none }
def opKc4:Oper:={ dst:=some 25,op:=Op.call { callee:=Callee.value (Operand.func 156),args:=#[Operand.tmp 24],argTypes:=#[29] },type:=29,pos:= "whole.go:16",after:=#[⟨3,.data⟩,⟨3,.chain⟩],guard:=none }
def opKc5:Oper:={ dst:=some 26,op:=Op.call { callee:=Callee.value (Operand.func 33),args:=#[Operand.tmp 21,Operand.tmp 25],argTypes:=#[29,29] },type:=29,pos:= "whole.go:16",after:=#[⟨0,.data⟩,⟨4,.data⟩,⟨4,.chain⟩],guard:=none }
def opKc6:Oper:={ dst:=none,op:=Op.store 29 (Operand.tmp 3) (Operand.tmp 26),type:=0,pos:= "whole.go:16",after:=#[⟨5,.data⟩,⟨5,.chain⟩,⟨0,.phase⟩,⟨1,.phase⟩,⟨2,.phase⟩,⟨3,.phase⟩,⟨4,.phase⟩,⟨5,.phase⟩],guard:=none }
def opKcs:Array Oper:=#[opKc0,opKc1,opKc2,opKc3,opKc4,opKc5,opKc6]
def opKcT (i:Nat):Nat:=match i with
 | 0=>21
 | 1=>22
 | 2=>23
 | 3=>24
 | 4=>25
 | _=>26
def opKcC (s1:Bool) (x1:Int) (y1:Int) (p1:Option Addr) (s2:Bool) (x2:Int) (y2:Int) (p2:Option Addr) (f1:Rat) (f2:Rat) (z:Rat) (i:Nat) (w:World) (v:Value):Prop:=match i with
 | 0=>v=.agg #[.bool s1,.int .u64 x1,.int .u64 y1,.pointer p1]
 | 1=>v=.agg #[.bool s2,.int .u64 x2,.int .u64 y2,.pointer p2]
 | 2=>v=.agg #[.bool s1,.int .u64 x1,.int .u64 y1,.pointer p1]
 | 3=>am w v (f2*f1)
 | 4=>am w v z
 | _=>am w v (f1*z)
theorem opKcC_but {s1:Bool} {x1:Int} {y1:Int} {p1:Option Addr} {s2:Bool} {x2:Int} {y2:Int} {p2:Option Addr} {f1:Rat} {f2:Rat} {z:Rat} {i:Nat} {w w':World} {v:Value} (h:opKcC s1 x1 y1 p1 s2 x2 y2 p2 f1 f2 z i w v) (hi:i<6) (hb:But [] w w'):opKcC s1 x1 y1 p1 s2 x2 y2 p2 f1 f2 z i w' v:=by
 have:i=0∨i=1∨i=2∨i=3∨i=4∨i=5:=by omega
 rcases this with rfl | rfl | rfl | rfl | rfl | rfl
 all_goals first | exact h | exact am.but h hb | exact an.but h hb
theorem opKcT_inj:∀ i j,i<6→j<6→opKcT i=opKcT j→i=j:=fun i j hi hj=>(by decide:∀ i,i<6→∀ j,j<6→opKcT i=opKcT j→i=j) i hi j hj
theorem common_region (id:Nat) (Q:Exit→Act→World→Prop) (base:Act) (W0:World) (s1:Bool) (x1:Int) (y1:Int) (p1:Option Addr) (s2:Bool) (x2:Int) (y2:Int) (p2:Option Addr) (f1:Rat) (f2:Rat) (z:Rat) (gb g7:Nat) {sb:Bool} {xb yb:Int} {pb:Option Addr} (hs:26<base.tmps.size) (eb:base.eval (.tmp 3)=.pointer (some ⟨gb,0,none⟩)) (cb:P4 W0 gb sb xb yb pb) (fzb:∀ j,W0.frozen? ⟨gb,j,none⟩=false) (e7:base.eval (.tmp 7)=.pointer (some ⟨g7,0,none⟩))
  (c1:P4 W0 gb s1 x1 y1 p1) (c2:P4 W0 g7 s2 x2 y2 p2)
  (MU:∀ w,But [] W0 w→Calls Tryz.prog 33 #[.agg #[.bool s2,.int .u64 x2,.int .u64 y2,.pointer p2],.agg #[.bool s1,.int .u64 x1,.int .u64 y1,.pointer p1]] w fun e w'=>∃ v,e=.returned v∧am w' v (f2*f1)∧But [] w w')
  (LO:∀ w,But [] W0 w→∀ v,am w v (f2*f1)→Calls Tryz.prog 156 #[v] w fun e w'=>∃ v,e=.returned v∧am w' v z∧But [] w w')
  (MZ:∀ w,But [] W0 w→∀ v,am w v z→Calls Tryz.prog 33 #[.agg #[.bool s1,.int .u64 x1,.int .u64 y1,.pointer p1],v] w fun e w'=>∃ v,e=.returned v∧am w' v (f1*z)∧But [] w w')
  (hQ:∀ w1 v3 v4 s' x' y' p',But [] W0 w1→am w1 (.agg #[.bool s',.int .u64 x',.int .u64 y',.pointer p']) (f1*z)→Q .normal (bb base [(21,.agg #[.bool s1,.int .u64 x1,.int .u64 y1,.pointer p1]),(22,.agg #[.bool s2,.int .u64 x2,.int .u64 y2,.pointer p2]),(23,.agg #[.bool s1,.int .u64 x1,.int .u64 y1,.pointer p1]),(24,v3),(25,v4),(26,(.agg #[.bool s',.int .u64 x',.int .u64 y',.pointer p']))]) (put4 w1 gb s' x' y' p')) :
  (Code.region id opKcs true).wp Tryz.prog Q base W0:=by
 have hdr:∀ {w},But [] W0.drew w→But [] W0 w:=fun h=>(But.refl _ _).drew.trans' h
 have lgb:gb<W0.heap.size:=ai cb.1
 have hT:∀ i,i<6→opKcT i<base.tmps.size:=fun i hi=>by
  have h:opKcT i≤26:=by revert i;decide
  omega
 refine region_flow (by kernel_rfl) (low_of (by kernel_rfl)) (fun i o ho=>(calm_of (ops:=opKcs) (by kernel_rfl) i o ho).1)
  (fun _ w=>But [] W0.drew w) (opKcC s1 x1 y1 p1 s2 x2 y2 p2 f1 f2 z) opKcT 6 rfl opKcT_inj hT (But.refl _ _)
  (fun i hi=>?_) ?_ (fun a w=>∃ w1 v3 v4 s' x' y' p',a=bb base [(21,.agg #[.bool s1,.int .u64 x1,.int .u64 y1,.pointer p1]),(22,.agg #[.bool s2,.int .u64 x2,.int .u64 y2,.pointer p2]),(23,.agg #[.bool s1,.int .u64 x1,.int .u64 y1,.pointer p1]),(24,v3),(25,v4),(26,(.agg #[.bool s',.int .u64 x',.int .u64 y',.pointer p']))]∧w=put4 w1 gb s' x' y' p'∧But [] W0 w1∧am w1 (.agg #[.bool s',.int .u64 x',.int .u64 y',.pointer p']) (f1*z)) ?_ ?_
 ·exact dep_of (ops:=opKcs) (ps:=[(6,0),(6,1),(6,2),(6,3),(6,4),(6,5)]) (by kernel_rfl) 6 i (by
   have:i=0∨i=1∨i=2∨i=3∨i=4∨i=5:=by omega
   rcases this with rfl | rfl | rfl | rfl | rfl | rfl <;> simp)
 ·intro dn i o a w K hi ho hdi hH he hdep hK
  have hD:=fun j hj=>(dep_have (ps:=[(3,1),(3,2),(4,3),(5,0),(5,4)]) (by kernel_rfl) ho (fun j=>dn j=true∧opKcC s1 x1 y1 p1 s2 x2 y2 p2 f1 f2 z j w (a.eval (.tmp (opKcT j)))) hdep j hj).2
  have hk:∀ v w',But [] w w'→opKcC s1 x1 y1 p1 s2 x2 y2 p2 f1 f2 z i w' v→K (a.put (some (opKcT i)) v) w':=fun v w' hb hv=>hK v w' (hH.trans' hb) (fun j hj _ u hu=>opKcC_but hu hj hb) hv
  have eb':=(he 3 (fun j hj e=>absurd e.symm (by revert j;decide))).trans eb
  have e7':=(he 7 (fun j hj e=>absurd e.symm (by revert j;decide))).trans e7
  have:i=0∨i=1∨i=2∨i=3∨i=4∨i=5:=by omega
  rcases this with rfl | rfl | rfl | rfl | rfl | rfl
  ·obtain rfl:=Option.some.inj ((show opKcs[0]? = some opKc0 from rfl).symm.trans ho)
   exact al (aq a w _ _ _ _ _ _ gb 0 _ _ _ _ eb' (c1.but (hdr hH) (by simp))) (hk _ _ (But.refl _ _) rfl)
  ·obtain rfl:=Option.some.inj ((show opKcs[1]? = some opKc1 from rfl).symm.trans ho)
   exact al (aq a w _ _ _ _ _ _ g7 0 _ _ _ _ e7' (c2.but (hdr hH) (by simp))) (hk _ _ (But.refl _ _) rfl)
  ·obtain rfl:=Option.some.inj ((show opKcs[2]? = some opKc2 from rfl).symm.trans ho)
   exact al (aq a w _ _ _ _ _ _ gb 0 _ _ _ _ eb' (c1.but (hdr hH) (by simp))) (hk _ _ (But.refl _ _) rfl)
  ·obtain rfl:=Option.some.inj ((show opKcs[3]? = some opKc3 from rfl).symm.trans ho)
   exact av (run_mulK a w _ _ _ _ _ _ _ _ _ (hD 1 (by simp)) (hD 2 (by simp))) (R:=fun w' v=>am w' v (f2*f1)∧But [] w w') (MU w (hdr hH)) (fun v w' hv=>hk v w' hv.2 hv.1)
  ·obtain rfl:=Option.some.inj ((show opKcs[4]? = some opKc4 from rfl).symm.trans ho)
   exact av (run_lowerK a w _ _ _ _ _ _ _ rfl) (R:=fun w' v=>am w' v (z)∧But [] w w') (LO w (hdr hH) _ (hD 3 (by simp))) (fun v w' hv=>hk v w' hv.2 hv.1)
  ·obtain rfl:=Option.some.inj ((show opKcs[5]? = some opKc5 from rfl).symm.trans ho)
   exact av (run_mulK a w _ _ _ _ _ _ _ _ _ (hD 0 (by simp)) rfl) (R:=fun w' v=>am w' v (f1*z)∧But [] w w') (MZ w (hdr hH) _ (hD 4 (by simp))) (fun v w' hv=>hk v w' hv.2 hv.1)
 ·intro dn o a w K ho hall h hK
  obtain rfl:=Option.some.inj ((show opKcs[6]? = some opKc6 from rfl).symm.trans ho)
  have eb':=(h.eval 3 (fun j hj e=>absurd e.symm (by revert j;decide))).trans eb
  have cl:am w (a.eval (.tmp 26)) (f1*z):=h.has 5 (by omega) (hall 5 (by omega))
  have cl':=cl
  obtain ⟨x',y',p',ev,-⟩:=cl.agg
  rw [ev] at cl'
  have ea:=h.puts hT (fun i=>match i with
   | 0=>.agg #[.bool s1,.int .u64 x1,.int .u64 y1,.pointer p1]
   | 1=>.agg #[.bool s2,.int .u64 x2,.int .u64 y2,.pointer p2]
   | 2=>.agg #[.bool s1,.int .u64 x1,.int .u64 y1,.pointer p1]
   | 3=>a.eval (.tmp 24)
   | 4=>a.eval (.tmp 25)
   | _=>.agg #[.bool (decide ((f1*z).num<0)),.int .u64 x',.int .u64 y',.pointer p']) (fun i hi=>by
   have hc:=h.has i hi (hall i hi)
   have:i=0∨i=1∨i=2∨i=3∨i=4∨i=5:=by omega
   rcases this with rfl | rfl | rfl | rfl | rfl | rfl
   all_goals first | exact ev | exact hc | rfl)
  exact wp_skipped (run_store4 a w _ _ _ _ _ gb _ x' y' p' eb' ev (cb.but (hdr h.mem) (by simp)) (fun j=>((hdr h.mem).frozen (p:=⟨gb,j,none⟩) lgb (by simp)).trans (fzb j))) (hK _ _ ⟨w,a.eval (.tmp 24),a.eval (.tmp 25),_,x',y',p',ea,rfl,hdr h.mem,cl'⟩)
 ·rintro a w ⟨w1,v3,v4,s',x',y',p',rfl,rfl,h1,h2⟩
  exact hQ  w1 v3 v4 s' x' y' p' h1 h2
theorem run_oneK (a:Act) (w:World) (d:Nat) (u:TypeId) (ps:String) (ed:Array Edge) (gd:Option (Nat × Bool)) (n:Int) :
  (execOp a.eval { dst:=some d,op:=Op.call { callee:=Callee.value (Operand.func 27),args:=#[Operand.const (Value.int IntKind.i64 n)],argTypes:=#[3] },type:=u,pos:=ps,after:=ed,guard:=gd }).run Tryz.prog w=.ok (.enter 27 #[.int .i64 n]) w:=by
 unfold execOp
 go_simp
theorem run_wholeK (a:Act) (w:World) (d t1:Nat) (u:TypeId) (ps:String) (ed:Array Edge) (gd:Option (Nat × Bool)) (x1:Value) (h1:a.eval (.tmp t1)=x1) :
  (execOp a.eval { dst:=some d,op:=Op.call { callee:=Callee.value (Operand.func 27),args:=#[Operand.tmp t1],argTypes:=#[3] },type:=u,pos:=ps,after:=ed,guard:=gd }).run Tryz.prog w=.ok (.enter 27 #[x1]) w:=by
 unfold execOp
 go_simp
 rw [← h1]
 simp [Act.eval]
theorem run_ne0K (a:Act) (w:World) (d t:Nat) (u:TypeId) (ps:String) (ed:Array Edge) (gd:Option (Nat × Bool)) (x:Int) (h:a.eval (.tmp t)=.int .i64 x) :
  (execOp a.eval { dst:=some d,op:=Op.binOp BinOp.neq 3 (.tmp t) (.const (.int .i64 0)) 3,type:=u,pos:=ps,after:=ed,guard:=gd }).run Tryz.prog w=.ok (.value (.bool (x != 0))) w:=by
 have e:a.eval (.const (.int .i64 0))=.int .i64 0:=rfl
 unfold execOp
 simp only [h,e]
 go_simp
theorem bh (a:Act) (w:World) (d t:Nat) (u:TypeId) (ps:String) (ed:Array Edge) (gd:Option (Nat × Bool)) (N:Value) (h:a.eval (.tmp t)=N) :
  (execOp a.eval { dst:=some d,op:=Op.move (.tmp t),type:=u,pos:=ps,after:=ed,guard:=gd }).run Tryz.prog w=.ok (.value N) w:=by
 unfold execOp
 simp only [h]
 go_simp
def opKd0:Oper:={ dst:=some 29,op:=Op.load 29 (Operand.tmp 3),type:=29,pos:= "claims.go:26",after:=#[],guard:=none }
def opKd1:Oper:={ dst:=some 30,op:=Op.call { callee:=Callee.value (Operand.func 27),args:=#[Operand.const (Value.int IntKind.i64 1)],argTypes:=#[3] },type:=29,pos:= "claims.go:26",after:=#[],guard:=none }
def opKd2:Oper:={ dst:=some 31,op:=Op.call { callee:=Callee.value (Operand.func 25),args:=#[Operand.tmp 29,Operand.tmp 30],argTypes:=#[29,29] },type:=3,pos:= "claims.go:26",after:=#[⟨0,.data⟩,⟨1,.data⟩,⟨1,.chain⟩],guard:=none }
def opKd3:Oper:={ dst:=some 32,op:=Op.binOp BinOp.neq 3 (Operand.tmp 31) (Operand.const (Value.int IntKind.i64 0)) 3,type:=4,pos:= "claims.go:26",after:=#[⟨2,.data⟩],guard:=none }
def opKds:Array Oper:=#[opKd0,opKd1,opKd2,opKd3]
def opKdT (i:Nat):Nat:=match i with
 | 0=>29
 | 1=>30
 | 2=>31
 | _=>32
def opKdC (s1:Bool) (x1:Int) (y1:Int) (p1:Option Addr) (ws:Bool) (wx:Int) (r:Int) (i:Nat) (_w:World) (v:Value):Prop:=match i with
 | 0=>v=.agg #[.bool s1,.int .u64 x1,.int .u64 y1,.pointer p1]
 | 1=>v=.agg #[.bool ws,.int .u64 wx,.int .u64 0,.pointer none]
 | 2=>v=.int .i64 r
 | _=>v=.bool (r != 0)
theorem opKdC_but {s1:Bool} {x1:Int} {y1:Int} {p1:Option Addr} {ws:Bool} {wx:Int} {r:Int} {i:Nat} {w w':World} {v:Value} (h:opKdC s1 x1 y1 p1 ws wx r i w v) (hi:i<4) (_hb:But [] w w'):opKdC s1 x1 y1 p1 ws wx r i w' v:=by
 have:i=0∨i=1∨i=2∨i=3:=by omega
 rcases this with rfl | rfl | rfl | rfl
 all_goals exact h
theorem opKdT_inj:∀ i j,i<4→j<4→opKdT i=opKdT j→i=j:=fun i j hi hj=>(by decide:∀ i,i<4→∀ j,j<4→opKdT i=opKdT j→i=j) i hi j hj
theorem check_region (id:Nat) (Q:Exit→Act→World→Prop) (base:Act) (W0:World) (s1:Bool) (x1:Int) (y1:Int) (p1:Option Addr) (ws:Bool) (wx:Int) (r:Int) (hs:32<base.tmps.size) (g3:Nat) (e3:base.eval (.tmp 3)=.pointer (some ⟨g3,0,none⟩))
  (c1:P4 W0 g3 s1 x1 y1 p1)
  (WH:∀ w,Calls Tryz.prog 27 #[.int .i64 1] w fun e w'=>e=.returned (.agg #[.bool ws,.int .u64 wx,.int .u64 0,.pointer none])∧But [] w w')
  (CM:∀ w,But [] W0 w→Calls Tryz.prog 25 #[.agg #[.bool s1,.int .u64 x1,.int .u64 y1,.pointer p1],.agg #[.bool ws,.int .u64 wx,.int .u64 0,.pointer none]] w fun e w'=>e=.returned (.int .i64 r)∧But [] w w')
  (hQ:∀ w,But [] W0 w→Q .normal (bb base [(29,.agg #[.bool s1,.int .u64 x1,.int .u64 y1,.pointer p1]),(30,.agg #[.bool ws,.int .u64 wx,.int .u64 0,.pointer none]),(31,.int .i64 r),(32,.bool (r != 0))]) w) :
  (Code.region id opKds true).wp Tryz.prog Q base W0:=by
 have hdr:∀ {w},But [] W0.drew w→But [] W0 w:=fun h=>(But.refl _ _).drew.trans' h
 have hT:∀ i,i<4→opKdT i<base.tmps.size:=fun i hi=>by
  have h:opKdT i≤32:=by revert i;decide
  omega
 refine region_go (by kernel_rfl) (low_of (by kernel_rfl)) (opKdC s1 x1 y1 p1 ws wx r) opKdT (by kernel_rfl) ?_ opKdT_inj hT (fun i w w' v hi h hb=>opKdC_but h hi hb) ?_ ?_
 ·intro i o j want ho hg w v hv
  have hi:i<4:=(Array.getElem?_eq_some_iff.1 ho).1
  have:i=0∨i=1∨i=2∨i=3:=by omega
  rcases this with rfl | rfl | rfl | rfl
  ·obtain rfl:=Option.some.inj ((show opKds[0]? = some opKd0 from rfl).symm.trans ho)
   exact absurd (show (none:Option (Nat × Bool))=some (j,want) from hg) (by simp)
  ·obtain rfl:=Option.some.inj ((show opKds[1]? = some opKd1 from rfl).symm.trans ho)
   exact absurd (show (none:Option (Nat × Bool))=some (j,want) from hg) (by simp)
  ·obtain rfl:=Option.some.inj ((show opKds[2]? = some opKd2 from rfl).symm.trans ho)
   exact absurd (show (none:Option (Nat × Bool))=some (j,want) from hg) (by simp)
  ·obtain rfl:=Option.some.inj ((show opKds[3]? = some opKd3 from rfl).symm.trans ho)
   exact absurd (show (none:Option (Nat × Bool))=some (j,want) from hg) (by simp)
 ·intro i o a w K ho hH he hdep hk
  have hi:i<4:=(Array.getElem?_eq_some_iff.1 ho).1
  have hD:=dep_have (ps:=[(2,0),(2,1),(3,2)]) (by kernel_rfl) ho (fun j=>opKdC s1 x1 y1 p1 ws wx r j w (a.eval (.tmp (opKdT j)))) hdep
  have e3':=(he 3 (fun j hj e=>absurd e.symm (by revert j;decide))).trans e3
  have:i=0∨i=1∨i=2∨i=3:=by omega
  rcases this with rfl | rfl | rfl | rfl
  ·obtain rfl:=Option.some.inj ((show opKds[0]? = some opKd0 from rfl).symm.trans ho)
   exact al (aq a w _ _ _ _ _ _ g3 0 _ _ _ _ e3' (c1.but (hdr hH) (by simp))) (hk _ _ (But.refl _ _) rfl)
  ·obtain rfl:=Option.some.inj ((show opKds[1]? = some opKd1 from rfl).symm.trans ho)
   exact av (run_oneK a w _ _ _ _ _ 1) (R:=fun w' v=>But [] w w'∧v=_) ((WH w).mono fun e w' ⟨he,hb⟩=>⟨_,he,hb,rfl⟩) (fun v w' hv=>hk v w' hv.1 hv.2)
  ·obtain rfl:=Option.some.inj ((show opKds[2]? = some opKd2 from rfl).symm.trans ho)
   exact av (run_cmpK a w _ _ _ _ _ _ _ _ _ (hD 0 (by simp)) (hD 1 (by simp))) (R:=fun w' v=>But [] w w'∧v=_) ((CM w (hdr hH)).mono fun e w' ⟨he,hb⟩=>⟨_,he,hb,rfl⟩) (fun v w' hv=>hk v w' hv.1 hv.2)
  ·obtain rfl:=Option.some.inj ((show opKds[3]? = some opKd3 from rfl).symm.trans ho)
   exact al (run_ne0K a w _ _ _ _ _ _ _ (hD 2 (by simp))) (hk _ _ (But.refl _ _) rfl)
 ·intro a w h
  have ea:=h.puts hT (fun i=>match i with
   | 0=>.agg #[.bool s1,.int .u64 x1,.int .u64 y1,.pointer p1]
   | 1=>.agg #[.bool ws,.int .u64 wx,.int .u64 0,.pointer none]
   | 2=>.int .i64 r
   | _=>.bool (r != 0)) (fun i hi=>by
   have hi':i<4:=hi
   have hc:=h.has i hi rfl
   have:i=0∨i=1∨i=2∨i=3:=by omega
   rcases this with rfl | rfl | rfl | rfl
   all_goals first | exact hc | rfl)
  rw [ea]
  exact hQ w (hdr h.but)
end Go.Proofs.YtlckjpelcmjimaaGreatDoor
