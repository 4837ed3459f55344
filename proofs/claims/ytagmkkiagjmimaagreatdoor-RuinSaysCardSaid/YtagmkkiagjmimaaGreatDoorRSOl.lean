/- Out of K2: what needs no more than these -/
import Derived.Test.YtagmkkiagjmimaaGreatDoorRF3
namespace Go.Proofs.YtagmkkiagjmimaaGreatDoor
open Go.Proofs.Tryz
open Go.RowKit
set_option maxHeartbeats 4000000
set_option maxRecDepth 100000
theorem av (a:Act) (w:World) (d t:Nat) (u:TypeId) (ps:String) (ed:Array Edge) (gd:Option (Nat × Bool)) (b o:Nat) (s:Bool) (x y:Int) (p:Option Addr) (h1:a.eval (.tmp t)=.pointer (some ⟨b,o,none⟩)) (hc:P4o w b o s x y p) :
  (execOp a.eval { dst:=some d,op:=Op.load 27 (.tmp t),type:=u,pos:=ps,after:=ed,guard:=gd }).run prog w=.ok (.value (.agg #[.bool s,.int .u64 x,.int .u64 y,.pointer p])) w:=by(
obtain⟨c0,c1,c2,c3⟩:=hc
unfold execOp
simp only[h1]
go_simp)
theorem zmp (a:Act) (w:World) (d t1 t2:Nat) (u:TypeId) (ps:String) (ed:Array Edge) (gd:Option (Nat × Bool)) (x1 x2:Value) (h1:a.eval (.tmp t1)=x1) (h2:a.eval (.tmp t2)=x2) :
  (execOp a.eval { dst:=some d,op:=Op.call { callee:=Callee.value (Operand.func 113),args:=#[Operand.tmp t1,Operand.tmp t2],argTypes:=#[27,27] },type:=u,pos:=ps,after:=ed,guard:=gd }).run prog w=.ok (.enter 113 #[x1,x2]) w:=by(
unfold execOp
go_simp
rw[← h1,← h2]
simp[Act.eval])
theorem zca (a:Act) (w:World) (d t1 t2:Nat) (u:TypeId) (ps:String) (ed:Array Edge) (gd:Option (Nat × Bool)) (x1 x2:Value) (h1:a.eval (.tmp t1)=x1) (h2:a.eval (.tmp t2)=x2) :
  (execOp a.eval { dst:=some d,op:=Op.call { callee:=Callee.value (Operand.func 89),args:=#[Operand.tmp t1,Operand.tmp t2],argTypes:=#[27,27] },type:=u,pos:=ps,after:=ed,guard:=gd }).run prog w=.ok (.enter 89 #[x1,x2]) w:=by(
unfold execOp
go_simp
rw[← h1,← h2]
simp[Act.eval])
theorem zmo (a:Act) (w:World) (d t1 t2:Nat) (u:TypeId) (ps:String) (ed:Array Edge) (gd:Option (Nat × Bool)) (x1 x2:Value) (h1:a.eval (.tmp t1)=x1) (h2:a.eval (.tmp t2)=x2) :
  (execOp a.eval { dst:=some d,op:=Op.call { callee:=Callee.value (Operand.func 58),args:=#[Operand.tmp t1,Operand.tmp t2],argTypes:=#[27,27] },type:=u,pos:=ps,after:=ed,guard:=gd }).run prog w=.ok (.enter 58 #[x1,x2]) w:=by(
unfold execOp
go_simp
rw[← h1,← h2]
simp[Act.eval])
theorem qfq (a:Act) (w:World) (d t:Nat) (u:TypeId) (ps:String) (ed:Array Edge) (gd:Option (Nat × Bool)) (x:Int) (h:a.eval (.tmp t)=.int .i64 x) :
  (execOp a.eval { dst:=some d,op:=Op.binOp BinOp.eql 3 (.tmp t) (.const (.int .i64 0)) 3,type:=u,pos:=ps,after:=ed,guard:=gd }).run prog w=.ok (.value (.bool (x==0))) w:=by(
have e:a.eval (.const (.int .i64 0))=.int .i64 0:=rfl
unfold execOp
simp only[h,e]
go_simp)
theorem zxh (a:Act) (w:World) (d t1:Nat) (u:TypeId) (ps:String) (ed:Array Edge) (gd:Option (Nat × Bool)) (x1:Value) (h1:a.eval (.tmp t1)=x1) :
  (execOp a.eval { dst:=some d,op:=Op.call { callee:=Callee.value (Operand.func 129),args:=#[Operand.tmp t1],argTypes:=#[27] },type:=u,pos:=ps,after:=ed,guard:=gd }).run prog w=.ok (.enter 129 #[x1]) w:=by(
unfold execOp
go_simp
rw[← h1]
simp[Act.eval])
theorem zxg (a:Act) (w:World) (d t1:Nat) (u:TypeId) (ps:String) (ed:Array Edge) (gd:Option (Nat × Bool)) (x1:Value) (h1:a.eval (.tmp t1)=x1) :
  (execOp a.eval { dst:=some d,op:=Op.call { callee:=Callee.value (Operand.func 165),args:=#[Operand.tmp t1],argTypes:=#[27] },type:=u,pos:=ps,after:=ed,guard:=gd }).run prog w=.ok (.enter 165 #[x1]) w:=by(
unfold execOp
go_simp
rw[← h1]
simp[Act.eval])
def qgt:Oper:=⟨some 12,.load 27 (.tmp 1),27, "whole.go:24",#[],none⟩
def qgs:Oper:=⟨some 13,.load 27 (.tmp 1),27, "whole.go:24",#[],none⟩
def qgr:Oper:=⟨some 14,.call { callee:=.value (.func 129),args:=#[.tmp 13],argTypes:=#[27] },27, "whole.go:24",#[⟨1,.data⟩],none⟩
def qgq:Oper:=⟨some 15,.call { callee:=.value (.func 58),args:=#[.tmp 12,.tmp 14],argTypes:=#[27,27] },3, "whole.go:24",#[⟨0,.data⟩,⟨2,.data⟩,⟨2,.chain⟩],none⟩
def qgp:Oper:=⟨some 16,.binOp .eql 3 (.tmp 15) (.const (.int .i64 0)) 3,4, "whole.go:24",#[⟨3,.data⟩],none⟩
def zfh:Array Oper:=#[qgt,qgs,qgr,qgq,qgp]
def zkl (i:Nat):Nat:=match i with
 | 0=>12
 | 1=>13
 | 2=>14
 | 3=>15
 | _=>16
def qaa (s1:Bool) (x1:Int) (y1:Int) (p1:Option Addr) (r:Int) (g:Rat) (i:Nat) (w:World) (v:Value):Prop:=match i with
 | 0=>v=.agg #[.bool s1,.int .u64 x1,.int .u64 y1,.pointer p1]
 | 1=>v=.agg #[.bool s1,.int .u64 x1,.int .u64 y1,.pointer p1]
 | 2=>am w v g
 | 3=>v=.int .i64 r
 | _=>v=.bool (r==0)
theorem qck {s1:Bool} {x1:Int} {y1:Int} {p1:Option Addr} {r:Int} {g:Rat} {i:Nat} {w w':World} {v:Value} (h:qaa s1 x1 y1 p1 r g i w v) (hi:i<5) (hb:But [] w w'):qaa s1 x1 y1 p1 r g i w' v:=by(
have:i=0∨i=1∨i=2∨i=3∨i=4:=by omega
rcases this with rfl|rfl|rfl|rfl|rfl
all_goals first | exact h | exact am.but h hb | exact aq.but h hb)
theorem qcj:∀ i j,i<5→j<5→zkl i=zkl j→i=j:=fun i j hi hj=>(by decide:∀ i,i<5→∀ j,j<5→zkl i=zkl j→i=j) i hi j hj
theorem zox (id:Nat) (Q:Exit→Act→World→Prop) (base:Act) (W0:World) (s1:Bool) (x1:Int) (y1:Int) (p1:Option Addr) (r:Int) (g:Rat) (hs:16<base.tmps.size) (g1:Nat) (e1:base.eval (.tmp 1)=.pointer (some ⟨g1,0,none⟩))
  (c1:P4 W0 g1 s1 x1 y1 p1)
  (FL:∀ w,But [] W0 w→Calls prog 129 #[.agg #[.bool s1,.int .u64 x1,.int .u64 y1,.pointer p1]] w fun e w'=>∃ v,e=.returned v∧am w' v g∧But [] w w')
  (CM:∀ w,But [] W0 w→∀ v,am w v g→Calls prog 58 #[.agg #[.bool s1,.int .u64 x1,.int .u64 y1,.pointer p1],v] w fun e w'=>e=.returned (.int .i64 r)∧But [] w w')
  (hQ:∀ w (v2:Value),But [] W0 w→Q .normal (bi base [(12,.agg #[.bool s1,.int .u64 x1,.int .u64 y1,.pointer p1]),(13,.agg #[.bool s1,.int .u64 x1,.int .u64 y1,.pointer p1]),(14,v2),(15,.int .i64 r),(16,.bool (r==0))]) w) :
  (Code.region id zfh true).wp prog Q base W0:=by(
have hdr:∀ {w},But [] W0.drew w→But [] W0 w:=fun h=>(But.refl _ _).drew.trans' h
have hT:∀ i,i<5→zkl i<base.tmps.size:=fun i hi=>by
 have h:zkl i≤16:=by revert i;decide
 omega
refine zfx (by kernel_rfl) (dx (by kernel_rfl)) (qaa s1 x1 y1 p1 r g) zkl (by kernel_rfl) ?_ qcj hT (fun i w w' v hi h hb=>qck h hi hb) ?_ ?_
·(
intro i o j want ho hg w v hv
have hi:i<5:=(Array.getElem?_eq_some_iff.1 ho).1
have:i=0∨i=1∨i=2∨i=3∨i=4:=by omega
rcases this with rfl|rfl|rfl|rfl|rfl
·obtain rfl:=so (show zfh[0]? =some qgt from rfl) ho
 exact absurd (show (none:Option (Nat × Bool))=some (j,want) from hg) (by simp)
·obtain rfl:=so (show zfh[1]? =some qgs from rfl) ho
 exact absurd (show (none:Option (Nat × Bool))=some (j,want) from hg) (by simp)
·obtain rfl:=so (show zfh[2]? =some qgr from rfl) ho
 exact absurd (show (none:Option (Nat × Bool))=some (j,want) from hg) (by simp)
·obtain rfl:=so (show zfh[3]? =some qgq from rfl) ho
 exact absurd (show (none:Option (Nat × Bool))=some (j,want) from hg) (by simp)
·obtain rfl:=so (show zfh[4]? =some qgp from rfl) ho
 exact absurd (show (none:Option (Nat × Bool))=some (j,want) from hg) (by simp))
·(
intro i o a w K ho hH he hdep hk
have hi:i<5:=(Array.getElem?_eq_some_iff.1 ho).1
have hD:=xu (ps:=[(2,1),(3,0),(3,2),(4,3)]) (by kernel_rfl) ho (fun j=>qaa s1 x1 y1 p1 r g j w (a.eval (.tmp (zkl j)))) hdep
have e1':=(he 1 (fun j hj e=>absurd e.symm (by revert j;decide))).trans e1
have:i=0∨i=1∨i=2∨i=3∨i=4:=by omega
rcases this with rfl|rfl|rfl|rfl|rfl
·obtain rfl:=so (show zfh[0]? =some qgt from rfl) ho
 exact al (av a w _ _ _ _ _ _ g1 0 _ _ _ _ e1' (c1.but (hdr hH) (by simp))) (hk _ _ (But.refl _ _) rfl)
·obtain rfl:=so (show zfh[1]? =some qgs from rfl) ho
 exact al (av a w _ _ _ _ _ _ g1 0 _ _ _ _ e1' (c1.but (hdr hH) (by simp))) (hk _ _ (But.refl _ _) rfl)
·obtain rfl:=so (show zfh[2]? =some qgr from rfl) ho
 exact ax (zxh a w _ _ _ _ _ _ _ (hD 1 (by simp))) (R:=fun w' v=>am w' v (g)∧But [] w w') (FL w (hdr hH)) (fun v w' hv=>hk v w' hv.2 hv.1)
·obtain rfl:=so (show zfh[3]? =some qgq from rfl) ho
 exact ax (zmo a w _ _ _ _ _ _ _ _ _ (hD 0 (by simp)) rfl) (R:=fun w' v=>But [] w w'∧v=_) ((CM w (hdr hH) _ (hD 2 (by simp))).mono fun e w' ⟨he,hb⟩=>⟨_,he,hb,rfl⟩) (fun v w' hv=>hk v w' hv.1 hv.2)
·obtain rfl:=so (show zfh[4]? =some qgp from rfl) ho
 exact al (qfq a w _ _ _ _ _ _ _ (hD 3 (by simp))) (hk _ _ (But.refl _ _) rfl))
·(
intro a w h
have ea:=h.puts hT (fun i=>match i with
 | 0=>.agg #[.bool s1,.int .u64 x1,.int .u64 y1,.pointer p1]
 | 1=>.agg #[.bool s1,.int .u64 x1,.int .u64 y1,.pointer p1]
 | 2=>a.eval (.tmp 14)
 | 3=>.int .i64 r
 | _=>.bool (r==0)) (fun i hi=>by
 have hi':i<5:=hi
 have hc:=h.has i hi rfl
 have:i=0∨i=1∨i=2∨i=3∨i=4:=by omega
 rcases this with rfl|rfl|rfl|rfl|rfl
 all_goals first | exact hc|rfl)
rw[ea]
exact hQ w (a.eval (.tmp 14)) (hdr h.but)))
def qnh:Oper:=⟨some 44,.load 27 (.tmp 6),27, "whole.go:33",#[],none⟩
def qng:Oper:=⟨some 45,.load 27 (.tmp 10),27, "whole.go:33",#[],none⟩
def qnf:Oper:=⟨some 46,.call { callee:=.value (.func 89),args:=#[.tmp 44,.tmp 45],argTypes:=#[27,27] },27, "whole.go:33",#[⟨0,.data⟩,⟨1,.data⟩],none⟩
def qne:Oper:=⟨some 47,.load 27 (.tmp 8),27, "whole.go:33",#[],none⟩
def qnd:Oper:=⟨some 48,.call { callee:=.value (.func 113),args:=#[.tmp 46,.tmp 47],argTypes:=#[27,27] },27, "whole.go:33",#[⟨2,.data⟩,⟨3,.data⟩,⟨2,.chain⟩],none⟩
def qnc:Oper:=⟨none,.store 27 (.tmp 6) (.tmp 48),0, "whole.go:33",#[⟨4,.data⟩,⟨4,.chain⟩,⟨0,.phase⟩,⟨1,.phase⟩,⟨2,.phase⟩,⟨3,.phase⟩,⟨4,.phase⟩],none⟩
def zhz:Array Oper:=#[qnh,qng,qnf,qne,qnd,qnc]
def zia (i:Nat):Nat:=match i with
 | 0=>44
 | 1=>45
 | 2=>46
 | 3=>47
 | _=>48
def zuv (s1:Bool) (x1:Int) (y1:Int) (p1:Option Addr) (s2:Bool) (x2:Int) (y2:Int) (p2:Option Addr) (s3:Bool) (x3:Int) (y3:Int) (p3:Option Addr) (f1:Rat) (f2:Rat) (f3:Rat) (i:Nat) (w:World) (v:Value):Prop:=match i with
 | 0=>v=.agg #[.bool s1,.int .u64 x1,.int .u64 y1,.pointer p1]
 | 1=>v=.agg #[.bool s2,.int .u64 x2,.int .u64 y2,.pointer p2]
 | 2=>am w v (f1*f2)
 | 3=>v=.agg #[.bool s3,.int .u64 x3,.int .u64 y3,.pointer p3]
 | _=>am w v (f1*f2+f3)
theorem qci {s1:Bool} {x1:Int} {y1:Int} {p1:Option Addr} {s2:Bool} {x2:Int} {y2:Int} {p2:Option Addr} {s3:Bool} {x3:Int} {y3:Int} {p3:Option Addr} {f1:Rat} {f2:Rat} {f3:Rat} {i:Nat} {w w':World} {v:Value} (h:zuv s1 x1 y1 p1 s2 x2 y2 p2 s3 x3 y3 p3 f1 f2 f3 i w v) (hi:i<5) (hb:But [] w w'):zuv s1 x1 y1 p1 s2 x2 y2 p2 s3 x3 y3 p3 f1 f2 f3 i w' v:=by(
have:i=0∨i=1∨i=2∨i=3∨i=4:=by omega
rcases this with rfl|rfl|rfl|rfl|rfl
all_goals first | exact h | exact am.but h hb | exact aq.but h hb)
theorem qch:∀ i j,i<5→j<5→zia i=zia j→i=j:=fun i j hi hj=>(by decide:∀ i,i<5→∀ j,j<5→zia i=zia j→i=j) i hi j hj
theorem zow (id:Nat) (Q:Exit→Act→World→Prop) (base:Act) (W0:World) (s1:Bool) (x1:Int) (y1:Int) (p1:Option Addr) (s2:Bool) (x2:Int) (y2:Int) (p2:Option Addr) (s3:Bool) (x3:Int) (y3:Int) (p3:Option Addr) (f1:Rat) (f2:Rat) (f3:Rat) (gb g8 g10:Nat) {sb:Bool} {xb yb:Int} {pb:Option Addr} (hs:48<base.tmps.size) (eb:base.eval (.tmp 6)=.pointer (some ⟨gb,0,none⟩)) (cb:P4 W0 gb sb xb yb pb) (fzb:∀ j,W0.frozen? ⟨gb,j,none⟩=false) (e10:base.eval (.tmp 10)=.pointer (some ⟨g10,0,none⟩)) (e8:base.eval (.tmp 8)=.pointer (some ⟨g8,0,none⟩))
  (c1:P4 W0 gb s1 x1 y1 p1) (c2:P4 W0 g10 s2 x2 y2 p2) (c3:P4 W0 g8 s3 x3 y3 p3)
  (MU:∀ w,But [] W0 w→Calls prog 89 #[.agg #[.bool s1,.int .u64 x1,.int .u64 y1,.pointer p1],.agg #[.bool s2,.int .u64 x2,.int .u64 y2,.pointer p2]] w fun e w'=>∃ v,e=.returned v∧am w' v (f1*f2)∧But [] w w')
  (AD:∀ w,But [] W0 w→∀ v,am w v (f1*f2)→Calls prog 113 #[v,.agg #[.bool s3,.int .u64 x3,.int .u64 y3,.pointer p3]] w fun e w'=>∃ v,e=.returned v∧am w' v (f1*f2+f3)∧But [] w w')
  (hQ:∀ w1 v2 s' x' y' p',But [] W0 w1→am w1 (.agg #[.bool s',.int .u64 x',.int .u64 y',.pointer p']) (f1*f2+f3)→Q .normal (bi base [(44,.agg #[.bool s1,.int .u64 x1,.int .u64 y1,.pointer p1]),(45,.agg #[.bool s2,.int .u64 x2,.int .u64 y2,.pointer p2]),(46,v2),(47,.agg #[.bool s3,.int .u64 x3,.int .u64 y3,.pointer p3]),(48,(.agg #[.bool s',.int .u64 x',.int .u64 y',.pointer p']))]) (jc w1 gb s' x' y' p')) :
  (Code.region id zhz true).wp prog Q base W0:=by(
have hdr:∀ {w},But [] W0.drew w→But [] W0 w:=fun h=>(But.refl _ _).drew.trans' h
have lgb:gb<W0.heap.size:=ai cb.1
have hT:∀ i,i<5→zia i<base.tmps.size:=fun i hi=>by
 have h:zia i≤48:=by revert i;decide
 omega
refine ic (by kernel_rfl) (dx (by kernel_rfl)) (fun i o ho=>(zao (ops:=zhz) (by kernel_rfl) i o ho).1)
 (fun _ w=>But [] W0.drew w) (zuv s1 x1 y1 p1 s2 x2 y2 p2 s3 x3 y3 p3 f1 f2 f3) zia 5 rfl qch hT (But.refl _ _)
 (fun i hi=>?_) ?_ (fun a w=>∃ w1 v2 s' x' y' p',a=bi base [(44,.agg #[.bool s1,.int .u64 x1,.int .u64 y1,.pointer p1]),(45,.agg #[.bool s2,.int .u64 x2,.int .u64 y2,.pointer p2]),(46,v2),(47,.agg #[.bool s3,.int .u64 x3,.int .u64 y3,.pointer p3]),(48,(.agg #[.bool s',.int .u64 x',.int .u64 y',.pointer p']))]∧w=jc w1 gb s' x' y' p'∧But [] W0 w1∧am w1 (.agg #[.bool s',.int .u64 x',.int .u64 y',.pointer p']) (f1*f2+f3)) ?_ ?_
·exact pg (ops:=zhz) (ps:=[(5,0),(5,1),(5,2),(5,3),(5,4)]) (by kernel_rfl) 5 i (by
  have:i=0∨i=1∨i=2∨i=3∨i=4:=by omega
  rcases this with rfl|rfl|rfl|rfl|rfl <;> simp)
·(
intro dn i o a w K hi ho hdi hH he hdep hK
have hD:=fun j hj=>(xu (ps:=[(2,0),(2,1),(4,2),(4,3)]) (by kernel_rfl) ho (fun j=>dn j=true∧zuv s1 x1 y1 p1 s2 x2 y2 p2 s3 x3 y3 p3 f1 f2 f3 j w (a.eval (.tmp (zia j)))) hdep j hj).2
have hk:∀ v w',But [] w w'→zuv s1 x1 y1 p1 s2 x2 y2 p2 s3 x3 y3 p3 f1 f2 f3 i w' v→K (a.put (some (zia i)) v) w':=fun v w' hb hv=>hK v w' (hH.trans' hb) (fun j hj _ u hu=>qci hu hj hb) hv
have eb':=(he 6 (fun j hj e=>absurd e.symm (by revert j;decide))).trans eb
have e10':=(he 10 (fun j hj e=>absurd e.symm (by revert j;decide))).trans e10
have e8':=(he 8 (fun j hj e=>absurd e.symm (by revert j;decide))).trans e8
have:i=0∨i=1∨i=2∨i=3∨i=4:=by omega
rcases this with rfl|rfl|rfl|rfl|rfl
·obtain rfl:=so (show zhz[0]? =some qnh from rfl) ho
 exact al (av a w _ _ _ _ _ _ gb 0 _ _ _ _ eb' (c1.but (hdr hH) (by simp))) (hk _ _ (But.refl _ _) rfl)
·obtain rfl:=so (show zhz[1]? =some qng from rfl) ho
 exact al (av a w _ _ _ _ _ _ g10 0 _ _ _ _ e10' (c2.but (hdr hH) (by simp))) (hk _ _ (But.refl _ _) rfl)
·obtain rfl:=so (show zhz[2]? =some qnf from rfl) ho
 exact ax (zca a w _ _ _ _ _ _ _ _ _ (hD 0 (by simp)) (hD 1 (by simp))) (R:=fun w' v=>am w' v (f1*f2)∧But [] w w') (MU w (hdr hH)) (fun v w' hv=>hk v w' hv.2 hv.1)
·obtain rfl:=so (show zhz[3]? =some qne from rfl) ho
 exact al (av a w _ _ _ _ _ _ g8 0 _ _ _ _ e8' (c3.but (hdr hH) (by simp))) (hk _ _ (But.refl _ _) rfl)
·obtain rfl:=so (show zhz[4]? =some qnd from rfl) ho
 exact ax (zmp a w _ _ _ _ _ _ _ _ _ rfl (hD 3 (by simp))) (R:=fun w' v=>am w' v (f1*f2+f3)∧But [] w w') (AD w (hdr hH) _ (hD 2 (by simp))) (fun v w' hv=>hk v w' hv.2 hv.1))
·(
intro dn o a w K ho hall h hK
obtain rfl:=so (show zhz[5]? =some qnc from rfl) ho
have eb':=(h.eval 6 (fun j hj e=>absurd e.symm (by revert j;decide))).trans eb
have cl:am w (a.eval (.tmp 48)) (f1*f2+f3):=h.has 4 (by omega) (hall 4 (by omega))
have cl':=cl
obtain⟨x',y',p',ev,-⟩:=cl.agg
rw[ev] at cl'
have ea:=h.puts hT (fun i=>match i with
 | 0=>.agg #[.bool s1,.int .u64 x1,.int .u64 y1,.pointer p1]
 | 1=>.agg #[.bool s2,.int .u64 x2,.int .u64 y2,.pointer p2]
 | 2=>a.eval (.tmp 46)
 | 3=>.agg #[.bool s3,.int .u64 x3,.int .u64 y3,.pointer p3]
 | _=>.agg #[.bool (decide ((f1*f2+f3).num<0)),.int .u64 x',.int .u64 y',.pointer p']) (fun i hi=>by
 have hc:=h.has i hi (hall i hi)
 have:i=0∨i=1∨i=2∨i=3∨i=4:=by omega
 rcases this with rfl|rfl|rfl|rfl|rfl
 all_goals first | exact ev | exact hc|rfl)
exact xh (zad a w _ _ _ _ _ gb _ x' y' p' eb' ev (cb.but (hdr h.mem) (by simp)) (fun j=>((hdr h.mem).frozen (p:=⟨gb,j,none⟩) lgb (by simp)).trans (fzb j))) (hK _ _ ⟨w,a.eval (.tmp 46),_,x',y',p',ea,rfl,hdr h.mem,cl'⟩))
·rintro a w ⟨w1,v2,s',x',y',p',rfl,rfl,h1,h2⟩
 exact hQ  w1 v2 s' x' y' p' h1 h2)
def qnb:Oper:=⟨some 21,.load 27 (.tmp 3),27, "whole.go:16",#[],none⟩
def qna:Oper:=⟨some 22,.load 27 (.tmp 7),27, "whole.go:16",#[],none⟩
def qmz:Oper:=⟨some 23,.load 27 (.tmp 3),27, "whole.go:16",#[],none⟩
def qmy:Oper:=⟨some 24,.call { callee:=.value (.func 89),args:=#[.tmp 22,.tmp 23],argTypes:=#[27,27] },27, "whole.go:16",#[⟨1,.data⟩,⟨2,.data⟩],none⟩
def qmx:Oper:=⟨some 25,.call { callee:=.value (.func 165),args:=#[.tmp 24],argTypes:=#[27] },27, "whole.go:16",#[⟨3,.data⟩,⟨3,.chain⟩],none⟩
def qmw:Oper:=⟨some 26,.call { callee:=.value (.func 89),args:=#[.tmp 21,.tmp 25],argTypes:=#[27,27] },27, "whole.go:16",#[⟨0,.data⟩,⟨4,.data⟩,⟨4,.chain⟩],none⟩
def qmv:Oper:=⟨none,.store 27 (.tmp 3) (.tmp 26),0, "whole.go:16",#[⟨5,.data⟩,⟨5,.chain⟩,⟨0,.phase⟩,⟨1,.phase⟩,⟨2,.phase⟩,⟨3,.phase⟩,⟨4,.phase⟩,⟨5,.phase⟩],none⟩
def zgn:Array Oper:=#[qnb,qna,qmz,qmy,qmx,qmw,qmv]
def zhy (i:Nat):Nat:=match i with
 | 0=>21
 | 1=>22
 | 2=>23
 | 3=>24
 | 4=>25
 | _=>26
def zuu (s1:Bool) (x1:Int) (y1:Int) (p1:Option Addr) (s2:Bool) (x2:Int) (y2:Int) (p2:Option Addr) (f1:Rat) (f2:Rat) (z:Rat) (i:Nat) (w:World) (v:Value):Prop:=match i with
 | 0=>v=.agg #[.bool s1,.int .u64 x1,.int .u64 y1,.pointer p1]
 | 1=>v=.agg #[.bool s2,.int .u64 x2,.int .u64 y2,.pointer p2]
 | 2=>v=.agg #[.bool s1,.int .u64 x1,.int .u64 y1,.pointer p1]
 | 3=>am w v (f2*f1)
 | 4=>am w v z
 | _=>am w v (f1*z)
theorem qcg {s1:Bool} {x1:Int} {y1:Int} {p1:Option Addr} {s2:Bool} {x2:Int} {y2:Int} {p2:Option Addr} {f1:Rat} {f2:Rat} {z:Rat} {i:Nat} {w w':World} {v:Value} (h:zuu s1 x1 y1 p1 s2 x2 y2 p2 f1 f2 z i w v) (hi:i<6) (hb:But [] w w'):zuu s1 x1 y1 p1 s2 x2 y2 p2 f1 f2 z i w' v:=by(
have:i=0∨i=1∨i=2∨i=3∨i=4∨i=5:=by omega
rcases this with rfl|rfl|rfl|rfl|rfl|rfl
all_goals first | exact h | exact am.but h hb | exact aq.but h hb)
theorem qcf:∀ i j,i<6→j<6→zhy i=zhy j→i=j:=fun i j hi hj=>(by decide:∀ i,i<6→∀ j,j<6→zhy i=zhy j→i=j) i hi j hj
theorem zpe (id:Nat) (Q:Exit→Act→World→Prop) (base:Act) (W0:World) (s1:Bool) (x1:Int) (y1:Int) (p1:Option Addr) (s2:Bool) (x2:Int) (y2:Int) (p2:Option Addr) (f1:Rat) (f2:Rat) (z:Rat) (gb g7:Nat) {sb:Bool} {xb yb:Int} {pb:Option Addr} (hs:26<base.tmps.size) (eb:base.eval (.tmp 3)=.pointer (some ⟨gb,0,none⟩)) (cb:P4 W0 gb sb xb yb pb) (fzb:∀ j,W0.frozen? ⟨gb,j,none⟩=false) (e7:base.eval (.tmp 7)=.pointer (some ⟨g7,0,none⟩))
  (c1:P4 W0 gb s1 x1 y1 p1) (c2:P4 W0 g7 s2 x2 y2 p2)
  (MU:∀ w,But [] W0 w→Calls prog 89 #[.agg #[.bool s2,.int .u64 x2,.int .u64 y2,.pointer p2],.agg #[.bool s1,.int .u64 x1,.int .u64 y1,.pointer p1]] w fun e w'=>∃ v,e=.returned v∧am w' v (f2*f1)∧But [] w w')
  (LO:∀ w,But [] W0 w→∀ v,am w v (f2*f1)→Calls prog 165 #[v] w fun e w'=>∃ v,e=.returned v∧am w' v z∧But [] w w')
  (MZ:∀ w,But [] W0 w→∀ v,am w v z→Calls prog 89 #[.agg #[.bool s1,.int .u64 x1,.int .u64 y1,.pointer p1],v] w fun e w'=>∃ v,e=.returned v∧am w' v (f1*z)∧But [] w w')
  (hQ:∀ w1 v3 v4 s' x' y' p',But [] W0 w1→am w1 (.agg #[.bool s',.int .u64 x',.int .u64 y',.pointer p']) (f1*z)→Q .normal (bi base [(21,.agg #[.bool s1,.int .u64 x1,.int .u64 y1,.pointer p1]),(22,.agg #[.bool s2,.int .u64 x2,.int .u64 y2,.pointer p2]),(23,.agg #[.bool s1,.int .u64 x1,.int .u64 y1,.pointer p1]),(24,v3),(25,v4),(26,(.agg #[.bool s',.int .u64 x',.int .u64 y',.pointer p']))]) (jc w1 gb s' x' y' p')) :
  (Code.region id zgn true).wp prog Q base W0:=by(
have hdr:∀ {w},But [] W0.drew w→But [] W0 w:=fun h=>(But.refl _ _).drew.trans' h
have lgb:gb<W0.heap.size:=ai cb.1
have hT:∀ i,i<6→zhy i<base.tmps.size:=fun i hi=>by
 have h:zhy i≤26:=by revert i;decide
 omega
refine ic (by kernel_rfl) (dx (by kernel_rfl)) (fun i o ho=>(zao (ops:=zgn) (by kernel_rfl) i o ho).1)
 (fun _ w=>But [] W0.drew w) (zuu s1 x1 y1 p1 s2 x2 y2 p2 f1 f2 z) zhy 6 rfl qcf hT (But.refl _ _)
 (fun i hi=>?_) ?_ (fun a w=>∃ w1 v3 v4 s' x' y' p',a=bi base [(21,.agg #[.bool s1,.int .u64 x1,.int .u64 y1,.pointer p1]),(22,.agg #[.bool s2,.int .u64 x2,.int .u64 y2,.pointer p2]),(23,.agg #[.bool s1,.int .u64 x1,.int .u64 y1,.pointer p1]),(24,v3),(25,v4),(26,(.agg #[.bool s',.int .u64 x',.int .u64 y',.pointer p']))]∧w=jc w1 gb s' x' y' p'∧But [] W0 w1∧am w1 (.agg #[.bool s',.int .u64 x',.int .u64 y',.pointer p']) (f1*z)) ?_ ?_
·exact pg (ops:=zgn) (ps:=[(6,0),(6,1),(6,2),(6,3),(6,4),(6,5)]) (by kernel_rfl) 6 i (by
  have:i=0∨i=1∨i=2∨i=3∨i=4∨i=5:=by omega
  rcases this with rfl|rfl|rfl|rfl|rfl|rfl <;> simp)
·(
intro dn i o a w K hi ho hdi hH he hdep hK
have hD:=fun j hj=>(xu (ps:=[(3,1),(3,2),(4,3),(5,0),(5,4)]) (by kernel_rfl) ho (fun j=>dn j=true∧zuu s1 x1 y1 p1 s2 x2 y2 p2 f1 f2 z j w (a.eval (.tmp (zhy j)))) hdep j hj).2
have hk:∀ v w',But [] w w'→zuu s1 x1 y1 p1 s2 x2 y2 p2 f1 f2 z i w' v→K (a.put (some (zhy i)) v) w':=fun v w' hb hv=>hK v w' (hH.trans' hb) (fun j hj _ u hu=>qcg hu hj hb) hv
have eb':=(he 3 (fun j hj e=>absurd e.symm (by revert j;decide))).trans eb
have e7':=(he 7 (fun j hj e=>absurd e.symm (by revert j;decide))).trans e7
have:i=0∨i=1∨i=2∨i=3∨i=4∨i=5:=by omega
rcases this with rfl|rfl|rfl|rfl|rfl|rfl
·obtain rfl:=so (show zgn[0]? =some qnb from rfl) ho
 exact al (av a w _ _ _ _ _ _ gb 0 _ _ _ _ eb' (c1.but (hdr hH) (by simp))) (hk _ _ (But.refl _ _) rfl)
·obtain rfl:=so (show zgn[1]? =some qna from rfl) ho
 exact al (av a w _ _ _ _ _ _ g7 0 _ _ _ _ e7' (c2.but (hdr hH) (by simp))) (hk _ _ (But.refl _ _) rfl)
·obtain rfl:=so (show zgn[2]? =some qmz from rfl) ho
 exact al (av a w _ _ _ _ _ _ gb 0 _ _ _ _ eb' (c1.but (hdr hH) (by simp))) (hk _ _ (But.refl _ _) rfl)
·obtain rfl:=so (show zgn[3]? =some qmy from rfl) ho
 exact ax (zca a w _ _ _ _ _ _ _ _ _ (hD 1 (by simp)) (hD 2 (by simp))) (R:=fun w' v=>am w' v (f2*f1)∧But [] w w') (MU w (hdr hH)) (fun v w' hv=>hk v w' hv.2 hv.1)
·obtain rfl:=so (show zgn[4]? =some qmx from rfl) ho
 exact ax (zxg a w _ _ _ _ _ _ _ rfl) (R:=fun w' v=>am w' v (z)∧But [] w w') (LO w (hdr hH) _ (hD 3 (by simp))) (fun v w' hv=>hk v w' hv.2 hv.1)
·obtain rfl:=so (show zgn[5]? =some qmw from rfl) ho
 exact ax (zca a w _ _ _ _ _ _ _ _ _ (hD 0 (by simp)) rfl) (R:=fun w' v=>am w' v (f1*z)∧But [] w w') (MZ w (hdr hH) _ (hD 4 (by simp))) (fun v w' hv=>hk v w' hv.2 hv.1))
·(
intro dn o a w K ho hall h hK
obtain rfl:=so (show zgn[6]? =some qmv from rfl) ho
have eb':=(h.eval 3 (fun j hj e=>absurd e.symm (by revert j;decide))).trans eb
have cl:am w (a.eval (.tmp 26)) (f1*z):=h.has 5 (by omega) (hall 5 (by omega))
have cl':=cl
obtain⟨x',y',p',ev,-⟩:=cl.agg
rw[ev] at cl'
have ea:=h.puts hT (fun i=>match i with
 | 0=>.agg #[.bool s1,.int .u64 x1,.int .u64 y1,.pointer p1]
 | 1=>.agg #[.bool s2,.int .u64 x2,.int .u64 y2,.pointer p2]
 | 2=>.agg #[.bool s1,.int .u64 x1,.int .u64 y1,.pointer p1]
 | 3=>a.eval (.tmp 24)
 | 4=>a.eval (.tmp 25)
 | _=>.agg #[.bool (decide ((f1*z).num<0)),.int .u64 x',.int .u64 y',.pointer p']) (fun i hi=>by
 have hc:=h.has i hi (hall i hi)
 have:i=0∨i=1∨i=2∨i=3∨i=4∨i=5:=by omega
 rcases this with rfl|rfl|rfl|rfl|rfl|rfl
 all_goals first | exact ev | exact hc|rfl)
exact xh (zad a w _ _ _ _ _ gb _ x' y' p' eb' ev (cb.but (hdr h.mem) (by simp)) (fun j=>((hdr h.mem).frozen (p:=⟨gb,j,none⟩) lgb (by simp)).trans (fzb j))) (hK _ _ ⟨w,a.eval (.tmp 24),a.eval (.tmp 25),_,x',y',p',ea,rfl,hdr h.mem,cl'⟩))
·rintro a w ⟨w1,v3,v4,s',x',y',p',rfl,rfl,h1,h2⟩
 exact hQ  w1 v3 v4 s' x' y' p' h1 h2)
theorem zez (a:Act) (w:World) (d t1 t2:Nat) (u:TypeId) (ps:String) (ed:Array Edge) (gd:Option (Nat × Bool)) (b off n c k:Nat) (hk:k<n) (_hn:n<1000000) (h1:a.eval (.tmp t1)=.slice (some ⟨b,off,none⟩) n c) (h2:a.eval (.tmp t2)=.int .i64 (k:Int)) :
  (execOp a.eval { dst:=some d,op:=Op.indexAddr 63 (.tmp t1) (.tmp t2),type:=u,pos:=ps,after:=ed,guard:=gd }).run prog w=.ok (.value (.pointer (some ⟨b,off+k,none⟩))) w:=by(
unfold execOp
simp only[h1,h2]
go_simp)
theorem zgy (a:Act) (w:World) (d t:Nat) (u:TypeId) (ps:String) (ed:Array Edge) (gd:Option (Nat × Bool)) (b o:Nat) (q:Option Addr) (m c:Nat) (h1:a.eval (.tmp t)=.pointer (some ⟨b,o,none⟩)) (hc:w.cell? ⟨b,o,none⟩=some (.slice q m c)) :
  (execOp a.eval { dst:=some d,op:=Op.load 46 (.tmp t),type:=u,pos:=ps,after:=ed,guard:=gd }).run prog w=.ok (.value (.slice q m c)) w:=by(
unfold execOp
simp only[h1]
go_simp)
theorem zon {P:Program} {id l0 n0:Nat} {ops:Array Oper} {Q:Exit→Act→World→Prop} {base:Act} {W0:World} (hm:P.follows .mixedOrders=true)
  (hnd:∀ (i:Nat) (o:Oper),ops[i]? = some o→o.guard=none∧∀ c,o.op≠.defer c)
  (hlow:∀ i o,ops[i]? = some o→∀ e ∈ o.after,Region.binds .any e=true→e.on<i)
  (C:Nat→World→Value→Prop) (T:Nat→Nat) (m:Nat) (hsz:ops.size=m+1)
  (hinj:∀ i j,i<m→j<m→T i=T j→i=j) (hT:∀ i,i<m→T i<base.tmps.size) (hC:∀ i w w' v,i<m→C i w v→But [] w w'→C i w' v)
  (hall:∀ i,i<m→∃ o,ops[m]? = some o∧∃ e ∈ o.after,Region.binds .any e=true∧e.on=i)
  (hstep:∀ (i:Nat) (o:Oper) (a:Act) (w:World) (K:Act→World→Prop),i<m→ops[i]? = some o→But [] W0.drew w→(∀ t,(∀ j,j<m→t≠T j)→a.eval (.tmp t)=base.eval (.tmp t))→(∀ e ∈ o.after,Region.binds .any e=true→C e.on w (a.eval (.tmp (T e.on))))→(∀ v w',But [] w w'→C i w' v→K (a.put (some (T i)) v) w')→o.wp P a w K Q)
  (Fin:Act→World→Prop)
  (hlast:∀ (d:Nat→Bool) (o:Oper) (a:Act) (w:World) (K:Act→World→Prop),ops[m]? = some o→(∀ i,i<m→d i=true)→zbm base (fun _ w=>But [] W0.drew w) C T m d a w→(∀ a' w',Fin a' w'→K a' w')→o.wp P a w K Q)
  (hend:∀ a w,Fin a w→Q .normal a w) :
  (Code.region id ops true).wpIn (Fence.wide.inRound l0) n0 P Q base W0:=by(
refine zua hm hnd hlow (fun d a w=>if d m=true then (Fin a w∧∀ i,i<m→d i=true) else zbm base (fun _ w=>But [] W0.drew w) C T m d a w) ?_ ?_ ?_
·simp only[Bool.false_eq_true,if_false]
 exact⟨But.refl _ _,rfl,rfl,fun _ _=>rfl,fun _ _ h=>by simp at h⟩
·intro d a w hd h
 rw[if_pos (hd m (by omega))] at h
 exact hend a w h.1
·(
intro d i o a w ho hdi hdep h
have hi:i<m+1:=by rw[← hsz];exact (Array.getElem?_eq_some_iff.1 ho).1
by_cases e:i=m
·(
subst e
rw[if_neg (by rw[hdi];simp)] at h
have hd:∀ j,j<i→d j=true:=fun j hj=>by
 obtain⟨o',ho',ed,he,hb,rfl⟩:=hall j hj
 rw[ho] at ho'
 obtain rfl:=Option.some.inj ho'
 exact hdep ed he hb
refine hlast d o a w _ ho hd h (fun a' w' hf=>?_)
rw[if_pos (xg d i)]
exact⟨hf,fun j hj=>by rw[qw d (by omega)];exact hd j hj⟩)
·(
have him:i<m:=by omega
by_cases hdm:d m=true
·exfalso
 rw[if_pos hdm] at h
 rw[h.2 i him] at hdi
 simp at hdi
·rw[if_neg hdm] at h
 refine hstep i o a w _ him ho h.mem (fun t ht=>h.eval t ht) (fun ed he hb=>h.has _ (by have:=hlow i o ho ed he hb;omega) (hdep ed he hb)) (fun v w' hB hv=>?_)
 rw[if_neg (by rw[qw d (Ne.symm e)];exact hdm)]
 exact h.next hinj hT i him v w' (h.mem.trans' hB) (fun j hj _ u hu=>hC j w w' u hj hu hB) hv)))
def qpz:Oper:=⟨some 16,.load 27 (.tmp 7),27, "bound.go:58",#[],none⟩
def qpy:Oper:=⟨some 17,.load 27 (.tmp 4),27, "bound.go:58",#[],none⟩
def qpx:Oper:=⟨some 18,.call { callee:=.value (.func 89),args:=#[.tmp 16,.tmp 17],argTypes:=#[27,27] },27, "bound.go:58",#[⟨0,.data⟩,⟨1,.data⟩],none⟩
def qpw:Oper:=⟨some 19,.load 27 (.tmp 10),27, "bound.go:58",#[],none⟩
def qpv:Oper:=⟨some 20,.load 27 (.tmp 8),27, "bound.go:58",#[],none⟩
def qpu:Oper:=⟨some 21,.call { callee:=.value (.func 89),args:=#[.tmp 19,.tmp 20],argTypes:=#[27,27] },27, "bound.go:58",#[⟨3,.data⟩,⟨4,.data⟩,⟨2,.chain⟩],none⟩
def qpt:Oper:=⟨some 22,.call { callee:=.value (.func 113),args:=#[.tmp 18,.tmp 21],argTypes:=#[27,27] },27, "bound.go:58",#[⟨2,.data⟩,⟨5,.data⟩,⟨5,.chain⟩],none⟩
def qps:Oper:=⟨none,.store 27 (.tmp 7) (.tmp 22),0, "bound.go:58",#[⟨6,.data⟩,⟨6,.chain⟩,⟨0,.phase⟩,⟨1,.phase⟩,⟨2,.phase⟩,⟨3,.phase⟩,⟨4,.phase⟩,⟨5,.phase⟩,⟨6,.phase⟩],none⟩
def zgq:Array Oper:=#[qpz,qpy,qpx,qpw,qpv,qpu,qpt,qps]
def qpr (s1:Bool) (x1 y1:Int) (p1:Option Addr) (s2:Bool) (x2 y2:Int) (p2:Option Addr) (s3:Bool) (x3 y3:Int) (p3:Option Addr) (s4:Bool) (x4 y4:Int) (p4:Option Addr) (f1 f2 f3 f4:Rat) (i:Nat) (w:World) (v:Value):Prop:=match i with
 | 0=>v=.agg #[.bool s1,.int .u64 x1,.int .u64 y1,.pointer p1]
 | 1=>v=.agg #[.bool s2,.int .u64 x2,.int .u64 y2,.pointer p2]
 | 2=>am w v (f1*f2)
 | 3=>v=.agg #[.bool s3,.int .u64 x3,.int .u64 y3,.pointer p3]
 | 4=>v=.agg #[.bool s4,.int .u64 x4,.int .u64 y4,.pointer p4]
 | 5=>am w v (f3*f4)
 | _=>am w v (f1*f2+f3*f4)
theorem zrc (id l0 n0:Nat) (Q:Exit→Act→World→Prop) (base:Act) (W0:World) (s1:Bool) (x1 y1:Int) (p1:Option Addr) (s2:Bool) (x2 y2:Int) (p2:Option Addr) (s3:Bool) (x3 y3:Int) (p3:Option Addr) (s4:Bool) (x4 y4:Int) (p4:Option Addr) (f1 f2 f3 f4:Rat) (g7 g4 g10 g8:Nat)
  (hs:22<base.tmps.size) (e7:base.eval (.tmp 7)=.pointer (some ⟨g7,0,none⟩)) (e4:base.eval (.tmp 4)=.pointer (some ⟨g4,0,none⟩)) (e10:base.eval (.tmp 10)=.pointer (some ⟨g10,0,none⟩)) (e8:base.eval (.tmp 8)=.pointer (some ⟨g8,0,none⟩))
  (c1:P4 W0 g7 s1 x1 y1 p1) (fz:∀ j,W0.frozen? ⟨g7,j,none⟩=false) (c2:P4 W0 g4 s2 x2 y2 p2) (c3:P4 W0 g10 s3 x3 y3 p3) (c4:P4 W0 g8 s4 x4 y4 p4)
  (MA:∀ w,But [] W0 w→Calls prog 89 #[.agg #[.bool s1,.int .u64 x1,.int .u64 y1,.pointer p1],.agg #[.bool s2,.int .u64 x2,.int .u64 y2,.pointer p2]] w fun e w'=>∃ v,e=.returned v∧am w' v (f1*f2)∧But [] w w')
  (MB:∀ w,But [] W0 w→Calls prog 89 #[.agg #[.bool s3,.int .u64 x3,.int .u64 y3,.pointer p3],.agg #[.bool s4,.int .u64 x4,.int .u64 y4,.pointer p4]] w fun e w'=>∃ v,e=.returned v∧am w' v (f3*f4)∧But [] w w')
  (AD:∀ w v v',But [] W0 w→am w v (f1*f2)→am w v' (f3*f4)→Calls prog 113 #[v,v'] w fun e w'=>∃ v,e=.returned v∧am w' v (f1*f2+f3*f4)∧But [] w w')
  (hQ:∀ w1 v2 v5 s' x' y' p',But [] W0 w1→am w1 (.agg #[.bool s',.int .u64 x',.int .u64 y',.pointer p']) (f1*f2+f3*f4)→Q .normal (bi base [(16,.agg #[.bool s1,.int .u64 x1,.int .u64 y1,.pointer p1]),(17,.agg #[.bool s2,.int .u64 x2,.int .u64 y2,.pointer p2]),(18,v2),(19,.agg #[.bool s3,.int .u64 x3,.int .u64 y3,.pointer p3]),(20,.agg #[.bool s4,.int .u64 x4,.int .u64 y4,.pointer p4]),(21,v5),(22,(.agg #[.bool s',.int .u64 x',.int .u64 y',.pointer p']))]) (jc w1 g7 s' x' y' p')) :
  (Code.region id zgq true).wpIn (Fence.wide.inRound l0) n0 prog Q base W0:=by(
have lg:g7<W0.heap.size:=ai c1.1
have hdr:∀ {w},But [] W0.drew w→But [] W0 w:=fun h=>(But.refl _ _).drew.trans' h
have hT:∀ i,i<7→16+i<base.tmps.size:=fun i hi=>by omega
refine zon (by kernel_rfl) (zao (by kernel_rfl)) (dx (by kernel_rfl))
 (qpr s1 x1 y1 p1 s2 x2 y2 p2 s3 x3 y3 p3 s4 x4 y4 p4 f1 f2 f3 f4) (fun i=>16+i) 7 rfl (fun i j _ _ e=>by omega) hT ?_ (fun i hi=>?_) ?_
 (fun a w=>∃ w1 v2 v5 s' x' y' p',a=bi base [(16,.agg #[.bool s1,.int .u64 x1,.int .u64 y1,.pointer p1]),(17,.agg #[.bool s2,.int .u64 x2,.int .u64 y2,.pointer p2]),(18,v2),(19,.agg #[.bool s3,.int .u64 x3,.int .u64 y3,.pointer p3]),(20,.agg #[.bool s4,.int .u64 x4,.int .u64 y4,.pointer p4]),(21,v5),(22,(.agg #[.bool s',.int .u64 x',.int .u64 y',.pointer p']))]∧w=jc w1 g7 s' x' y' p'∧But [] W0 w1∧am w1 (.agg #[.bool s',.int .u64 x',.int .u64 y',.pointer p']) (f1*f2+f3*f4)) ?_ ?_
·intro i w w' v hi h hb
 have:i=0∨i=1∨i=2∨i=3∨i=4∨i=5∨i=6:=by omega
 rcases this with rfl|rfl|rfl|rfl|rfl|rfl|rfl
 all_goals first | exact h | exact am.but h hb
·have hh:=pg (ops:=zgq) (ps:=[(7,0),(7,1),(7,2),(7,3),(7,4),(7,5),(7,6)]) (by kernel_rfl) 7 i (by
  have:i=0∨i=1∨i=2∨i=3∨i=4∨i=5∨i=6:=by omega
  rcases this with rfl|rfl|rfl|rfl|rfl|rfl|rfl <;> simp)
 exact hh
·(
intro i o a w K hi ho hH he hdep hk
have:i=0∨i=1∨i=2∨i=3∨i=4∨i=5∨i=6:=by omega
have hD:=xu (ps:=[(2,0),(2,1),(5,3),(5,4),(6,2),(6,5)]) (by kernel_rfl) ho (fun j=>qpr s1 x1 y1 p1 s2 x2 y2 p2 s3 x3 y3 p3 s4 x4 y4 p4 f1 f2 f3 f4 j w (a.eval (.tmp (16+j)))) hdep
have e7':=(he 7 (fun j _=>by omega)).trans e7
have e4':=(he 4 (fun j _=>by omega)).trans e4
have e10':=(he 10 (fun j _=>by omega)).trans e10
have e8':=(he 8 (fun j _=>by omega)).trans e8
rcases this with rfl|rfl|rfl|rfl|rfl|rfl|rfl
·obtain rfl:=so (show zgq[0]? =some qpz from rfl) ho
 exact al (av a w _ _ _ _ _ _ g7 0 _ _ _ _ e7' (c1.but (hdr hH) (by simp))) (hk _ _ (But.refl _ _) rfl)
·obtain rfl:=so (show zgq[1]? =some qpy from rfl) ho
 exact al (av a w _ _ _ _ _ _ g4 0 _ _ _ _ e4' (c2.but (hdr hH) (by simp))) (hk _ _ (But.refl _ _) rfl)
·obtain rfl:=so (show zgq[2]? =some qpx from rfl) ho
 exact ax (zca a w _ _ _ _ _ _ _ _ _ (hD 0 (by simp)) (hD 1 (by simp))) (R:=fun w' v=>am w' v (f1*f2)∧But [] w w') (MA w (hdr hH)) (fun v w' hv=>hk v w' hv.2 hv.1)
·obtain rfl:=so (show zgq[3]? =some qpw from rfl) ho
 exact al (av a w _ _ _ _ _ _ g10 0 _ _ _ _ e10' (c3.but (hdr hH) (by simp))) (hk _ _ (But.refl _ _) rfl)
·obtain rfl:=so (show zgq[4]? =some qpv from rfl) ho
 exact al (av a w _ _ _ _ _ _ g8 0 _ _ _ _ e8' (c4.but (hdr hH) (by simp))) (hk _ _ (But.refl _ _) rfl)
·obtain rfl:=so (show zgq[5]? =some qpu from rfl) ho
 exact ax (zca a w _ _ _ _ _ _ _ _ _ (hD 3 (by simp)) (hD 4 (by simp))) (R:=fun w' v=>am w' v (f3*f4)∧But [] w w') (MB w (hdr hH)) (fun v w' hv=>hk v w' hv.2 hv.1)
·obtain rfl:=so (show zgq[6]? =some qpt from rfl) ho
 exact ax (zmp a w _ _ _ _ _ _ _ _ _ rfl rfl) (R:=fun w' v=>am w' v (f1*f2+f3*f4)∧But [] w w') (AD w _ _ (hdr hH) (hD 2 (by simp)) (hD 5 (by simp))) (fun v w' hv=>hk v w' hv.2 hv.1))
·(
intro dn o a w K ho hall h hK
obtain rfl:=so (show zgq[7]? =some qps from rfl) ho
have e7':=(h.eval 7 (fun j _=>by omega)).trans e7
have cl:am w (a.eval (.tmp 22)) (f1*f2+f3*f4):=h.has 6 (by omega) (hall 6 (by omega))
have cl':=cl
obtain⟨x',y',p',ev,-⟩:=cl.agg
rw[ev] at cl'
have ea:=h.puts hT (fun i=>match i with
 | 0=>.agg #[.bool s1,.int .u64 x1,.int .u64 y1,.pointer p1]
 | 1=>.agg #[.bool s2,.int .u64 x2,.int .u64 y2,.pointer p2]
 | 2=>a.eval (.tmp 18)
 | 3=>.agg #[.bool s3,.int .u64 x3,.int .u64 y3,.pointer p3]
 | 4=>.agg #[.bool s4,.int .u64 x4,.int .u64 y4,.pointer p4]
 | 5=>a.eval (.tmp 21)
 | _=>.agg #[.bool (decide ((f1*f2+f3*f4).num<0)),.int .u64 x',.int .u64 y',.pointer p']) (fun i hi=>by
 have hc:=h.has i hi (hall i hi)
 have:i=0∨i=1∨i=2∨i=3∨i=4∨i=5∨i=6:=by omega
 rcases this with rfl|rfl|rfl|rfl|rfl|rfl|rfl
 ·exact hc
 ·exact hc
 ·rfl
 ·exact hc
 ·exact hc
 ·rfl
 ·exact ev)
exact xh (zad a w _ _ _ _ _ g7 _ x' y' p' e7' ev (c1.but (hdr h.mem) (by simp)) (fun j=>((hdr h.mem).frozen (p:=⟨g7,j,none⟩) lg (by simp)).trans (fz j))) (hK _ _ ⟨w,_,_,_,x',y',p',ea,rfl,hdr h.mem,cl'⟩))
·rintro a w ⟨w1,v2,v5,s',x',y',p',rfl,rfl,h1,h2⟩
 exact hQ w1 v2 v5 s' x' y' p' h1 h2)
end Go.Proofs.YtagmkkiagjmimaaGreatDoor
