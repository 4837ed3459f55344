/- Out of K5: what needs no more than these -/
import Derived.Test.YtagmkkiagjmimaaGreatDoorYRK
import Derived.Test.YtagmkkiagjmimaaGreatDoorYSOp
namespace Go.Proofs.YtagmkkiagjmimaaGreatDoor
set_option linter.unusedVariables false
open Go.Proofs.Tryz
open Go.RowKit
set_option maxRecDepth 100000
theorem zhe (a:Act) (w:World) (d:Nat) (u:TypeId) (ps:String) (ed:Array Edge) (gd:Option (Nat × Bool)) (n:Int) :
  (execOp a.eval { dst:=some d,op:=Op.call { callee:=Callee.value (Operand.func 79),args:=#[Operand.const (Value.int IntKind.i64 n)],argTypes:=#[3] },type:=u,pos:=ps,after:=ed,guard:=gd }).run prog w=.ok (.enter 79 #[.int .i64 n]) w:=by
 unfold execOp
 go_simp
theorem zmc (a:Act) (w:World) (d t1:Nat) (u:TypeId) (ps:String) (ed:Array Edge) (gd:Option (Nat × Bool)) (x1:Value) (h1:a.eval (.tmp t1)=x1) :
   (execOp a.eval { dst:=some d,op:=Op.call { callee:=Callee.value (Operand.func 79),args:=#[Operand.tmp t1],argTypes:=#[3] },type:=u,pos:=ps,after:=ed,guard:=gd }).run prog w=.ok (.enter 79 #[x1]) w:=by(
 unfold execOp
 go_simp
 rw[← h1]
 simp[Act.eval])
theorem qcq (a:Act) (w:World) (d t:Nat) (u:TypeId) (ps:String) (ed:Array Edge) (gd:Option (Nat × Bool)) (x:Int) (h:a.eval (.tmp t)=.int .i64 x) :
   (execOp a.eval { dst:=some d,op:=Op.binOp BinOp.neq 3 (.tmp t) (.const (.int .i64 0)) 3,type:=u,pos:=ps,after:=ed,guard:=gd }).run prog w=.ok (.value (.bool (x != 0))) w:=by(
 have e:a.eval (.const (.int .i64 0))=.int .i64 0:=rfl
 unfold execOp
 simp only[h,e]
 go_simp)
theorem zps (a:Act) (w:World) (d t1 t2:Nat) (u:TypeId) (ps:String) (ed:Array Edge) (gd:Option (Nat × Bool)) (f:FuncId) (fr:Array Value) (x2:Value) (h1:a.eval (.tmp t1)=.func (.func f) #[] fr) (h2:a.eval (.tmp t2)=x2) (he:∀ args W,(callFunc f args).run prog W=.ok (.enter f args) W) :
   (execOp a.eval { dst:=some d,op:=Op.call { callee:=Callee.value (Operand.tmp t1),args:=#[Operand.tmp t2],argTypes:=#[3] },type:=u,pos:=ps,after:=ed,guard:=gd }).run prog w=.ok (.enter f (#[x2]++fr)) w:=by(
 have h1':a.tmps[t1]?.getD undef=.func (.func f) #[] fr:=by rw[← Array.getD_eq_getD_getElem?];exact h1
 have h2':a.tmps[t2]?.getD undef=x2:=by rw[← Array.getD_eq_getD_getElem?];exact h2
 simp[execOp,resolve,Deferred.ofValue,invoke,Act.eval,h1',h2',he,go_sem])
def qew:Oper:=⟨some 29,.load 27 (.tmp 3),27, "claims.go:26",#[],none⟩
def qev:Oper:=⟨some 30,.call { callee:=.value (.func 79),args:=#[.const (.int .i64 1)],argTypes:=#[3] },27, "claims.go:26",#[],none⟩
def qeu:Oper:=⟨some 31,.call { callee:=.value (.func 58),args:=#[.tmp 29,.tmp 30],argTypes:=#[27,27] },3, "claims.go:26",#[⟨0,.data⟩,⟨1,.data⟩,⟨1,.chain⟩],none⟩
def qet:Oper:=⟨some 32,.binOp .neq 3 (.tmp 31) (.const (.int .i64 0)) 3,4, "claims.go:26",#[⟨2,.data⟩],none⟩
def zhs:Array Oper:=#[qew,qev,qeu,qet]
def zkk (i:Nat):Nat:=match i with
 | 0=>29
 | 1=>30
 | 2=>31
 | _=>32
def zxx (s1:Bool) (x1:Int) (y1:Int) (p1:Option Addr) (ws:Bool) (wx:Int) (r:Int) (i:Nat) (_w:World) (v:Value):Prop:=match i with
 | 0=>v=.agg #[.bool s1,.int .u64 x1,.int .u64 y1,.pointer p1]
 | 1=>v=.agg #[.bool ws,.int .u64 wx,.int .u64 0,.pointer none]
 | 2=>v=.int .i64 r
 | _=>v=.bool (r != 0)
theorem qae {s1:Bool} {x1:Int} {y1:Int} {p1:Option Addr} {ws:Bool} {wx:Int} {r:Int} {i:Nat} {w w':World} {v:Value} (h:zxx s1 x1 y1 p1 ws wx r i w v) (hi:i<4) (_hb:But [] w w'):zxx s1 x1 y1 p1 ws wx r i w' v:=by(
 have:i=0∨i=1∨i=2∨i=3:=by omega
 rcases this with rfl|rfl|rfl|rfl
 all_goals exact h)
theorem qad:∀ i j,i<4→j<4→zkk i=zkk j→i=j:=fun i j hi hj=>(by decide:∀ i,i<4→∀ j,j<4→zkk i=zkk j→i=j) i hi j hj
theorem zrb (id:Nat) (Q:Exit→Act→World→Prop) (base:Act) (W0:World) (s1:Bool) (x1:Int) (y1:Int) (p1:Option Addr) (ws:Bool) (wx:Int) (r:Int) (hs:32<base.tmps.size) (g3:Nat) (e3:base.eval (.tmp 3)=.pointer (some ⟨g3,0,none⟩))
   (c1:P4 W0 g3 s1 x1 y1 p1)
   (WH:∀ w,Calls prog 79 #[.int .i64 1] w fun e w'=>e=.returned (.agg #[.bool ws,.int .u64 wx,.int .u64 0,.pointer none])∧But [] w w')
   (CM:∀ w,But [] W0 w→Calls prog 58 #[.agg #[.bool s1,.int .u64 x1,.int .u64 y1,.pointer p1],.agg #[.bool ws,.int .u64 wx,.int .u64 0,.pointer none]] w fun e w'=>e=.returned (.int .i64 r)∧But [] w w')
   (hQ:∀ w,But [] W0 w→Q .normal (bj base [(29,.agg #[.bool s1,.int .u64 x1,.int .u64 y1,.pointer p1]),(30,.agg #[.bool ws,.int .u64 wx,.int .u64 0,.pointer none]),(31,.int .i64 r),(32,.bool (r != 0))]) w) :
   (Code.region id zhs true).wp prog Q base W0:=by(
 have hdr:∀ {w},But [] W0.drew w→But [] W0 w:=fun h=>(But.refl _ _).drew.trans' h
 have hT:∀ i,i<4→zkk i<base.tmps.size:=fun i hi=>by
  have h:zkk i≤32:=by revert i;decide
  omega
 refine ziw (by kernel_rfl) (ou (by kernel_rfl)) (zxx s1 x1 y1 p1 ws wx r) zkk (by kernel_rfl) ?_ qad hT (fun i w w' v hi h hb=>qae h hi hb) ?_ ?_
 ·(
 intro i o j want ho hg w v hv
 have hi:i<4:=(Array.getElem?_eq_some_iff.1 ho).1
 have:i=0∨i=1∨i=2∨i=3:=by omega
 rcases this with rfl|rfl|rfl|rfl
 ·obtain rfl:=so (show zhs[0]? =some qew from rfl) ho
  exact absurd (show (none:Option (Nat × Bool))=some (j,want) from hg) (by simp)
 ·obtain rfl:=so (show zhs[1]? =some qev from rfl) ho
  exact absurd (show (none:Option (Nat × Bool))=some (j,want) from hg) (by simp)
 ·obtain rfl:=so (show zhs[2]? =some qeu from rfl) ho
  exact absurd (show (none:Option (Nat × Bool))=some (j,want) from hg) (by simp)
 ·obtain rfl:=so (show zhs[3]? =some qet from rfl) ho
  exact absurd (show (none:Option (Nat × Bool))=some (j,want) from hg) (by simp))
 ·(
 intro i o a w K ho hH he hdep hk
 have hi:i<4:=(Array.getElem?_eq_some_iff.1 ho).1
 have hD:=mh (ps:=[(2,0),(2,1),(3,2)]) (by kernel_rfl) ho (fun j=>zxx s1 x1 y1 p1 ws wx r j w (a.eval (.tmp (zkk j)))) hdep
 have e3':=(he 3 (fun j hj e=>absurd e.symm (by revert j;decide))).trans e3
 have:i=0∨i=1∨i=2∨i=3:=by omega
 rcases this with rfl|rfl|rfl|rfl
 ·obtain rfl:=so (show zhs[0]? =some qew from rfl) ho
  exact al (aw a w _ _ _ _ _ _ g3 0 _ _ _ _ e3' (c1.but (hdr hH) (by simp))) (hk _ _ (But.refl _ _) rfl)
 ·obtain rfl:=so (show zhs[1]? =some qev from rfl) ho
  exact ay (zhe a w _ _ _ _ _ 1) (R:=fun w' v=>But [] w w'∧v=_) ((WH w).mono fun e w' ⟨he,hb⟩=>⟨_,he,hb,rfl⟩) (fun v w' hv=>hk v w' hv.1 hv.2)
 ·obtain rfl:=so (show zhs[2]? =some qeu from rfl) ho
  exact ay (zmd a w _ _ _ _ _ _ _ _ _ (hD 0 (by simp)) (hD 1 (by simp))) (R:=fun w' v=>But [] w w'∧v=_) ((CM w (hdr hH)).mono fun e w' ⟨he,hb⟩=>⟨_,he,hb,rfl⟩) (fun v w' hv=>hk v w' hv.1 hv.2)
 ·obtain rfl:=so (show zhs[3]? =some qet from rfl) ho
  exact al (qcq a w _ _ _ _ _ _ _ (hD 2 (by simp))) (hk _ _ (But.refl _ _) rfl))
 ·(
 intro a w h
 have ea:=h.puts hT (fun i=>match i with
  | 0=>.agg #[.bool s1,.int .u64 x1,.int .u64 y1,.pointer p1]
  | 1=>.agg #[.bool ws,.int .u64 wx,.int .u64 0,.pointer none]
  | 2=>.int .i64 r
  | _=>.bool (r != 0)) (fun i hi=>by
  have hi':i<4:=hi
  have hc:=h.has i hi rfl
  have:i=0∨i=1∨i=2∨i=3:=by omega
  rcases this with rfl|rfl|rfl|rfl
  all_goals first | exact hc|rfl)
 rw[ea]
 exact hQ w (hdr h.but)))
def qkz:Oper:=⟨some 15,.load 27 (.tmp 5),27, "claims.go:70",#[],none⟩
def qky:Oper:=⟨some 16,.load 27 (.tmp 7),27, "claims.go:70",#[],none⟩
def qkx:Oper:=⟨some 17,.move (.tmp 1),148, "claims.go:70",#[],none⟩
def qkw:Oper:=⟨some 18,.move (.tmp 6),3, "claims.go:70",#[],none⟩
def qkv:Oper:=⟨some 19,.call { callee:=.value (.tmp 17),args:=#[.tmp 18],argTypes:=#[3] },3, "claims.go:70",#[⟨2,.data⟩,⟨3,.data⟩],none⟩
def qku:Oper:=⟨some 20,.call { callee:=.value (.func 79),args:=#[.tmp 19],argTypes:=#[3] },27, "claims.go:70",#[⟨4,.data⟩,⟨4,.chain⟩],none⟩
def qkt:Oper:=⟨some 21,.call { callee:=.value (.func 89),args:=#[.tmp 16,.tmp 20],argTypes:=#[27,27] },27, "claims.go:70",#[⟨1,.data⟩,⟨5,.data⟩,⟨5,.chain⟩],none⟩
def qks:Oper:=⟨some 22,.call { callee:=.value (.func 113),args:=#[.tmp 15,.tmp 21],argTypes:=#[27,27] },27, "claims.go:70",#[⟨0,.data⟩,⟨6,.data⟩,⟨6,.chain⟩],none⟩
def qkr:Oper:=⟨none,.store 27 (.tmp 5) (.tmp 22),0, "claims.go:70",#[⟨7,.data⟩,⟨7,.chain⟩,⟨0,.phase⟩,⟨1,.phase⟩,⟨2,.phase⟩,⟨3,.phase⟩,⟨4,.phase⟩,⟨5,.phase⟩,⟨6,.phase⟩,⟨7,.phase⟩],none⟩
def zej:Array Oper:=#[qkz,qky,qkx,qkw,qkv,qku,qkt,qks,qkr]
def zhr (i:Nat):Nat:=match i with
 | 0=>15
 | 1=>16
 | 2=>17
 | 3=>18
 | 4=>19
 | 5=>20
 | 6=>21
 | _=>22
def zta (s1:Bool) (x1:Int) (y1:Int) (p1:Option Addr) (s2:Bool) (x2:Int) (y2:Int) (p2:Option Addr) (fo:FuncId) (fe:Array Value) (k:Int) (n:Int) (ws:Bool) (wx:Int) (f1:Rat) (f2:Rat) (i:Nat) (w:World) (v:Value):Prop:=match i with
 | 0=>v=.agg #[.bool s1,.int .u64 x1,.int .u64 y1,.pointer p1]
 | 1=>v=.agg #[.bool s2,.int .u64 x2,.int .u64 y2,.pointer p2]
 | 2=>v=.func (.func fo) #[] fe
 | 3=>v=.int .i64 k
 | 4=>v=.int .i64 n
 | 5=>v=.agg #[.bool ws,.int .u64 wx,.int .u64 0,.pointer none]
 | 6=>aq w v (f2*((n:Int):Rat))
 | _=>aq w v (f1+f2*((n:Int):Rat))
theorem qac {s1:Bool} {x1:Int} {y1:Int} {p1:Option Addr} {s2:Bool} {x2:Int} {y2:Int} {p2:Option Addr} {fo:FuncId} {fe:Array Value} {k:Int} {n:Int} {ws:Bool} {wx:Int} {f1:Rat} {f2:Rat} {i:Nat} {w w':World} {v:Value} (h:zta s1 x1 y1 p1 s2 x2 y2 p2 fo fe k n ws wx f1 f2 i w v) (hi:i<8) (hb:But [] w w'):zta s1 x1 y1 p1 s2 x2 y2 p2 fo fe k n ws wx f1 f2 i w' v:=by(
 have:i=0∨i=1∨i=2∨i=3∨i=4∨i=5∨i=6∨i=7:=by omega
 rcases this with rfl|rfl|rfl|rfl|rfl|rfl|rfl|rfl
 all_goals first | exact h | exact aq.but h hb | exact au.but h hb)
theorem qab:∀ i j,i<8→j<8→zhr i=zhr j→i=j:=fun i j hi hj=>(by decide:∀ i,i<8→∀ j,j<8→zhr i=zhr j→i=j) i hi j hj
theorem zte (id:Nat) (Q:Exit→Act→World→Prop) (base:Act) (W0:World) (s1:Bool) (x1:Int) (y1:Int) (p1:Option Addr) (s2:Bool) (x2:Int) (y2:Int) (p2:Option Addr) (fo:FuncId) (fe:Array Value) (k:Int) (n:Int) (ws:Bool) (wx:Int) (f1:Rat) (f2:Rat) (gb g7:Nat) {sb:Bool} {xb yb:Int} {pb:Option Addr} (hs:22<base.tmps.size) (eb:base.eval (.tmp 5)=.pointer (some ⟨gb,0,none⟩)) (cb:P4 W0 gb sb xb yb pb) (fzb:∀ j,W0.frozen? ⟨gb,j,none⟩=false) (e7:base.eval (.tmp 7)=.pointer (some ⟨g7,0,none⟩)) (e1:base.eval (.tmp 1)=.func (.func fo) #[] fe) (e6:base.eval (.tmp 6)=.int .i64 k)
   (c1:P4 W0 gb s1 x1 y1 p1) (c2:P4 W0 g7 s2 x2 y2 p2) (EN:∀ args W,(callFunc fo args).run prog W=.ok (.enter fo args) W)
   (OF:∀ w,But [] W0 w→Calls prog fo (#[.int .i64 k]++fe) w fun e w'=>e=.returned (.int .i64 n)∧But [] w w')
   (WH:∀ w,Calls prog 79 #[.int .i64 n] w fun e w'=>e=.returned (.agg #[.bool ws,.int .u64 wx,.int .u64 0,.pointer none])∧But [] w w')
   (MU:∀ w,But [] W0 w→Calls prog 89 #[.agg #[.bool s2,.int .u64 x2,.int .u64 y2,.pointer p2],.agg #[.bool ws,.int .u64 wx,.int .u64 0,.pointer none]] w fun e w'=>∃ v,e=.returned v∧aq w' v (f2*((n:Int):Rat))∧But [] w w')
   (AD:∀ w,But [] W0 w→∀ v,aq w v (f2*((n:Int):Rat))→Calls prog 113 #[.agg #[.bool s1,.int .u64 x1,.int .u64 y1,.pointer p1],v] w fun e w'=>∃ v,e=.returned v∧aq w' v (f1+f2*((n:Int):Rat))∧But [] w w')
   (hQ:∀ w1 v6 s' x' y' p',But [] W0 w1→aq w1 (.agg #[.bool s',.int .u64 x',.int .u64 y',.pointer p']) (f1+f2*((n:Int):Rat))→Q .normal (bj base [(15,.agg #[.bool s1,.int .u64 x1,.int .u64 y1,.pointer p1]),(16,.agg #[.bool s2,.int .u64 x2,.int .u64 y2,.pointer p2]),(17,.func (.func fo) #[] fe),(18,.int .i64 k),(19,.int .i64 n),(20,.agg #[.bool ws,.int .u64 wx,.int .u64 0,.pointer none]),(21,v6),(22,(.agg #[.bool s',.int .u64 x',.int .u64 y',.pointer p']))]) (qw w1 gb s' x' y' p')) :
   (Code.region id zej true).wp prog Q base W0:=by(
 have hdr:∀ {w},But [] W0.drew w→But [] W0 w:=fun h=>(But.refl _ _).drew.trans' h
 have lgb:gb<W0.heap.size:=ai cb.1
 have hT:∀ i,i<8→zhr i<base.tmps.size:=fun i hi=>by
  have h:zhr i≤22:=by revert i;decide
  omega
 refine zas (by kernel_rfl) (ou (by kernel_rfl)) (fun i o ho=>(zgf (ops:=zej) (by kernel_rfl) i o ho).1)
  (fun _ w=>But [] W0.drew w) (zta s1 x1 y1 p1 s2 x2 y2 p2 fo fe k n ws wx f1 f2) zhr 8 rfl qab hT (But.refl _ _)
  (fun i hi=>?_) ?_ (fun a w=>∃ w1 v6 s' x' y' p',a=bj base [(15,.agg #[.bool s1,.int .u64 x1,.int .u64 y1,.pointer p1]),(16,.agg #[.bool s2,.int .u64 x2,.int .u64 y2,.pointer p2]),(17,.func (.func fo) #[] fe),(18,.int .i64 k),(19,.int .i64 n),(20,.agg #[.bool ws,.int .u64 wx,.int .u64 0,.pointer none]),(21,v6),(22,(.agg #[.bool s',.int .u64 x',.int .u64 y',.pointer p']))]∧w=qw w1 gb s' x' y' p'∧But [] W0 w1∧aq w1 (.agg #[.bool s',.int .u64 x',.int .u64 y',.pointer p']) (f1+f2*((n:Int):Rat))) ?_ ?_
 ·exact zed (ops:=zej) (ps:=[(8,0),(8,1),(8,2),(8,3),(8,4),(8,5),(8,6),(8,7)]) (by kernel_rfl) 8 i (by
   have:i=0∨i=1∨i=2∨i=3∨i=4∨i=5∨i=6∨i=7:=by omega
   rcases this with rfl|rfl|rfl|rfl|rfl|rfl|rfl|rfl <;> simp)
 ·(
 intro dn i o a w K hi ho hdi hH he hdep hK
 have hD:=fun j hj=>(mh (ps:=[(4,2),(4,3),(5,4),(6,1),(6,5),(7,0),(7,6)]) (by kernel_rfl) ho (fun j=>dn j=true∧zta s1 x1 y1 p1 s2 x2 y2 p2 fo fe k n ws wx f1 f2 j w (a.eval (.tmp (zhr j)))) hdep j hj).2
 have hk:∀ v w',But [] w w'→zta s1 x1 y1 p1 s2 x2 y2 p2 fo fe k n ws wx f1 f2 i w' v→K (a.put (some (zhr i)) v) w':=fun v w' hb hv=>hK v w' (hH.trans' hb) (fun j hj _ u hu=>qac hu hj hb) hv
 have eb':=(he 5 (fun j hj e=>absurd e.symm (by revert j;decide))).trans eb
 have e7':=(he 7 (fun j hj e=>absurd e.symm (by revert j;decide))).trans e7
 have e1':=(he 1 (fun j hj e=>absurd e.symm (by revert j;decide))).trans e1
 have e6':=(he 6 (fun j hj e=>absurd e.symm (by revert j;decide))).trans e6
 have:i=0∨i=1∨i=2∨i=3∨i=4∨i=5∨i=6∨i=7:=by omega
 rcases this with rfl|rfl|rfl|rfl|rfl|rfl|rfl|rfl
 ·obtain rfl:=so (show zej[0]? =some qkz from rfl) ho
  exact al (aw a w _ _ _ _ _ _ gb 0 _ _ _ _ eb' (c1.but (hdr hH) (by simp))) (hk _ _ (But.refl _ _) rfl)
 ·obtain rfl:=so (show zej[1]? =some qky from rfl) ho
  exact al (aw a w _ _ _ _ _ _ g7 0 _ _ _ _ e7' (c2.but (hdr hH) (by simp))) (hk _ _ (But.refl _ _) rfl)
 ·obtain rfl:=so (show zej[2]? =some qkx from rfl) ho
  exact al (br a w _ _ _ _ _ _ _ e1') (hk _ _ (But.refl _ _) rfl)
 ·obtain rfl:=so (show zej[3]? =some qkw from rfl) ho
  exact al (br a w _ _ _ _ _ _ _ e6') (hk _ _ (But.refl _ _) rfl)
 ·obtain rfl:=so (show zej[4]? =some qkv from rfl) ho
  exact ay (zps a w _ _ _ _ _ _ _ fo fe _ (hD 2 (by simp)) (hD 3 (by simp)) EN) (R:=fun w' v=>But [] w w'∧v=_) ((OF w (hdr hH)).mono fun e w' ⟨he,hb⟩=>⟨_,he,hb,rfl⟩) (fun v w' hv=>hk v w' hv.1 hv.2)
 ·obtain rfl:=so (show zej[5]? =some qku from rfl) ho
  exact ay (zmc a w _ _ _ _ _ _ _ (hD 4 (by simp))) (R:=fun w' v=>But [] w w'∧v=_) ((WH w).mono fun e w' ⟨he,hb⟩=>⟨_,he,hb,rfl⟩) (fun v w' hv=>hk v w' hv.1 hv.2)
 ·obtain rfl:=so (show zej[6]? =some qkt from rfl) ho
  exact ay (zsb a w _ _ _ _ _ _ _ _ _ (hD 1 (by simp)) (hD 5 (by simp))) (R:=fun w' v=>aq w' v (f2*((n:Int):Rat))∧But [] w w') (MU w (hdr hH)) (fun v w' hv=>hk v w' hv.2 hv.1)
 ·obtain rfl:=so (show zej[7]? =some qks from rfl) ho
  exact ay (zhg a w _ _ _ _ _ _ _ _ _ (hD 0 (by simp)) rfl) (R:=fun w' v=>aq w' v (f1+f2*((n:Int):Rat))∧But [] w w') (AD w (hdr hH) _ (hD 6 (by simp))) (fun v w' hv=>hk v w' hv.2 hv.1))
 ·(
 intro dn o a w K ho hall h hK
 obtain rfl:=so (show zej[8]? =some qkr from rfl) ho
 have eb':=(h.eval 5 (fun j hj e=>absurd e.symm (by revert j;decide))).trans eb
 have cl:aq w (a.eval (.tmp 22)) (f1+f2*((n:Int):Rat)):=h.has 7 (by omega) (hall 7 (by omega))
 have cl':=cl
 obtain⟨x',y',p',ev,-⟩:=cl.agg
 rw[ev] at cl'
 have ea:=h.puts hT (fun i=>match i with
  | 0=>.agg #[.bool s1,.int .u64 x1,.int .u64 y1,.pointer p1]
  | 1=>.agg #[.bool s2,.int .u64 x2,.int .u64 y2,.pointer p2]
  | 2=>.func (.func fo) #[] fe
  | 3=>.int .i64 k
  | 4=>.int .i64 n
  | 5=>.agg #[.bool ws,.int .u64 wx,.int .u64 0,.pointer none]
  | 6=>a.eval (.tmp 21)
  | _=>.agg #[.bool (decide ((f1+f2*((n:Int):Rat)).num<0)),.int .u64 x',.int .u64 y',.pointer p']) (fun i hi=>by
  have hc:=h.has i hi (hall i hi)
  have:i=0∨i=1∨i=2∨i=3∨i=4∨i=5∨i=6∨i=7:=by omega
  rcases this with rfl|rfl|rfl|rfl|rfl|rfl|rfl|rfl
  all_goals first | exact ev | exact hc|rfl)
 exact oo (zbv a w _ _ _ _ _ gb _ x' y' p' eb' ev (cb.but (hdr h.mem) (by simp)) (fun j=>((hdr h.mem).frozen (p:=⟨gb,j,none⟩) lgb (by simp)).trans (fzb j))) (hK _ _ ⟨w,a.eval (.tmp 21),_,x',y',p',ea,rfl,hdr h.mem,cl'⟩))
 ·rintro a w ⟨w1,v6,s',x',y',p',rfl,rfl,h1,h2⟩
  exact hQ  w1 v6 s' x' y' p' h1 h2)
end Go.Proofs.YtagmkkiagjmimaaGreatDoor
