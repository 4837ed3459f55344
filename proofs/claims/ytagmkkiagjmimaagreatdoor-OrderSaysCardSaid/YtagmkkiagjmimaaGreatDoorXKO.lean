/- The least amount that is not gone beyond -/
import Derived.Test.YtagmkkiagjmimaaGreatDoorXK6
import Derived.Test.YtagmkkiagjmimaaGreatDoorXKCr
namespace Go.Proofs.YtagmkkiagjmimaaGreatDoor
set_option linter.unusedVariables false
open Go.Proofs.Tryz
open Go.RowKit
set_option maxHeartbeats 8000000
set_option maxRecDepth 100000
def zoi (B:Nat) (w:World) (v:Value):Prop:=∃ b,v=.pointer (some ⟨b,0,none⟩)∧B≤b∧P4 w b false 0 0 none∧∀ j,w.frozen? ⟨b,j,none⟩=false
theorem zoi.but {B:Nat} {w w':World} {v:Value} (h:zoi B w v) (hb:But [] w w'):zoi B w' v:=by(
 obtain⟨b,h1,h2,h3,h4⟩:=h
 have hl:b<w.heap.size:=ai h3.1
 exact⟨b,h1,h2,h3.but hb (by simp),fun j=>(hb.frozen (p:=⟨b,j,none⟩) hl (by simp)).trans (h4 j)⟩)
theorem zui (a:Act) (w:World) (d:Nat) (u:TypeId) (ps:String) (ed:Array Edge) :
  (execOp a.eval { dst:=some d,op:=Op.alloc 27,type:=u,pos:=ps,after:=ed,guard:=none }).run prog w=.ok (.value (.pointer (some ⟨w.heap.size,0,none⟩))) (w.alloc (.cells #[.bool false,.int .u64 0,.int .u64 0,.pointer none] 27)):=by
 unfold execOp
 go_simp
theorem qap (a:Act) (w:World) (d t1 t2:Nat) (u:TypeId) (ps:String) (ed:Array Edge) (gd:Option (Nat × Bool)) (x1 x2:Value) (h1:a.eval (.tmp t1)=x1) (h2:a.eval (.tmp t2)=x2) :
   (execOp a.eval { dst:=some d,op:=Op.call { callee:=Callee.value (Operand.func 56),args:=#[Operand.tmp t1,Operand.tmp t2],argTypes:=#[27,27] },type:=u,pos:=ps,after:=ed,guard:=gd }).run prog w=.ok (.enter 56 #[x1,x2]) w:=by(
 unfold execOp
 go_simp
 rw[← h1,← h2]
 simp[Act.eval])
theorem zug (a:Act) (w:World) (d t1 t2:Nat) (u:TypeId) (ps:String) (ed:Array Edge) (gd:Option (Nat × Bool)) (x1 x2:Value) (h1:a.eval (.tmp t1)=x1) (h2:a.eval (.tmp t2)=x2) :
   (execOp a.eval { dst:=some d,op:=Op.call { callee:=Callee.value (Operand.func 173),args:=#[Operand.tmp t1,Operand.tmp t2],argTypes:=#[27,27] },type:=u,pos:=ps,after:=ed,guard:=gd }).run prog w=.ok (.enter 173 #[x1,x2]) w:=by(
 unfold execOp
 go_simp
 rw[← h1,← h2]
 simp[Act.eval])
def qgt:Oper:=⟨some 40,.load 27 (.tmp 11),27, "order.go:46",#[],none⟩
def qgs:Oper:=⟨some 41,.load 27 (.tmp 13),27, "order.go:46",#[],none⟩
def qgr:Oper:=⟨some 42,.move (.tmp 12),3, "order.go:46",#[],none⟩
def qgq:Oper:=⟨some 43,.call { callee:=.value (.func 79),args:=#[.tmp 42],argTypes:=#[3] },27, "order.go:46",#[⟨2,.data⟩],none⟩
def qgp:Oper:=⟨some 44,.call { callee:=.value (.func 89),args:=#[.tmp 41,.tmp 43],argTypes:=#[27,27] },27, "order.go:46",#[⟨1,.data⟩,⟨3,.data⟩,⟨3,.chain⟩],none⟩
def qgo:Oper:=⟨some 45,.call { callee:=.value (.func 113),args:=#[.tmp 40,.tmp 44],argTypes:=#[27,27] },27, "order.go:46",#[⟨0,.data⟩,⟨4,.data⟩,⟨4,.chain⟩],none⟩
def qgn:Oper:=⟨none,.store 27 (.tmp 11) (.tmp 45),0, "order.go:46",#[⟨5,.data⟩,⟨5,.chain⟩,⟨0,.phase⟩,⟨1,.phase⟩,⟨2,.phase⟩,⟨3,.phase⟩,⟨4,.phase⟩,⟨5,.phase⟩],none⟩
def zfw:Array Oper:=#[qgt,qgs,qgr,qgq,qgp,qgo,qgn]
def zhh (i:Nat):Nat:=match i with
 | 0=>40
 | 1=>41
 | 2=>42
 | 3=>43
 | 4=>44
 | _=>45
def zsa (s1:Bool) (x1:Int) (y1:Int) (p1:Option Addr) (s2:Bool) (x2:Int) (y2:Int) (p2:Option Addr) (k:Int) (ws:Bool) (wx:Int) (f1:Rat) (f2:Rat) (i:Nat) (w:World) (v:Value):Prop:=match i with
 | 0=>v=.agg #[.bool s1,.int .u64 x1,.int .u64 y1,.pointer p1]
 | 1=>v=.agg #[.bool s2,.int .u64 x2,.int .u64 y2,.pointer p2]
 | 2=>v=.int .i64 k
 | 3=>v=.agg #[.bool ws,.int .u64 wx,.int .u64 0,.pointer none]
 | 4=>au w v (f2*((k:Int):Rat))
 | _=>au w v (f1+f2*((k:Int):Rat))
theorem zym {s1:Bool} {x1:Int} {y1:Int} {p1:Option Addr} {s2:Bool} {x2:Int} {y2:Int} {p2:Option Addr} {k:Int} {ws:Bool} {wx:Int} {f1:Rat} {f2:Rat} {i:Nat} {w w':World} {v:Value} (h:zsa s1 x1 y1 p1 s2 x2 y2 p2 k ws wx f1 f2 i w v) (hi:i<6) (hb:But [] w w'):zsa s1 x1 y1 p1 s2 x2 y2 p2 k ws wx f1 f2 i w' v:=by(
 have:i=0∨i=1∨i=2∨i=3∨i=4∨i=5:=by omega
 rcases this with rfl|rfl|rfl|rfl|rfl|rfl
 all_goals first | exact h | exact au.but h hb | exact av.but h hb)
theorem zyl:∀ i j,i<6→j<6→zhh i=zhh j→i=j:=fun i j hi hj=>(by decide:∀ i,i<6→∀ j,j<6→zhh i=zhh j→i=j) i hi j hj
theorem ru (id:Nat) (Q:Exit→Act→World→Prop) (base:Act) (W0:World) (s1:Bool) (x1:Int) (y1:Int) (p1:Option Addr) (s2:Bool) (x2:Int) (y2:Int) (p2:Option Addr) (k:Int) (ws:Bool) (wx:Int) (f1:Rat) (f2:Rat) (gb g13:Nat) {sb:Bool} {xb yb:Int} {pb:Option Addr} (hs:45<base.tmps.size) (eb:base.eval (.tmp 11)=.pointer (some ⟨gb,0,none⟩)) (cb:P4 W0 gb sb xb yb pb) (fzb:∀ j,W0.frozen? ⟨gb,j,none⟩=false) (e13:base.eval (.tmp 13)=.pointer (some ⟨g13,0,none⟩)) (e12:base.eval (.tmp 12)=.int .i64 k)
   (c1:P4 W0 gb s1 x1 y1 p1) (c2:P4 W0 g13 s2 x2 y2 p2)
   (WH:∀ w,Calls prog 79 #[.int .i64 k] w fun e w'=>e=.returned (.agg #[.bool ws,.int .u64 wx,.int .u64 0,.pointer none])∧But [] w w')
   (MU:∀ w,But [] W0 w→Calls prog 89 #[.agg #[.bool s2,.int .u64 x2,.int .u64 y2,.pointer p2],.agg #[.bool ws,.int .u64 wx,.int .u64 0,.pointer none]] w fun e w'=>∃ v,e=.returned v∧au w' v (f2*((k:Int):Rat))∧But [] w w')
   (AD:∀ w v,But [] W0 w→au w v (f2*((k:Int):Rat))→Calls prog 113 #[.agg #[.bool s1,.int .u64 x1,.int .u64 y1,.pointer p1],v] w fun e w'=>∃ v,e=.returned v∧au w' v (f1+f2*((k:Int):Rat))∧But [] w w')
   (hQ:∀ w1 v4 s' x' y' p',But [] W0 w1→au w1 (.agg #[.bool s',.int .u64 x',.int .u64 y',.pointer p']) (f1+f2*((k:Int):Rat))→Q .normal (bk base [(40,.agg #[.bool s1,.int .u64 x1,.int .u64 y1,.pointer p1]),(41,.agg #[.bool s2,.int .u64 x2,.int .u64 y2,.pointer p2]),(42,.int .i64 k),(43,.agg #[.bool ws,.int .u64 wx,.int .u64 0,.pointer none]),(44,v4),(45,(.agg #[.bool s',.int .u64 x',.int .u64 y',.pointer p']))]) (mh w1 gb s' x' y' p')) :
   (Code.region id zfw true).wp prog Q base W0:=by(
 have hdr:∀ {w},But [] W0.drew w→But [] W0 w:=fun h=>(But.refl _ _).drew.trans' h
 have lgb:gb<W0.heap.size:=ai cb.1
 have hT:∀ i,i<6→zhh i<base.tmps.size:=fun i hi=>by
  have h:zhh i≤45:=by revert i;decide
  omega
 refine zen (by kernel_rfl) (zcu (by kernel_rfl)) (fun i o ho=>(zkh (ops:=zfw) (by kernel_rfl) i o ho).1)
  (fun _ w=>But [] W0.drew w) (zsa s1 x1 y1 p1 s2 x2 y2 p2 k ws wx f1 f2) zhh 6 rfl zyl hT (But.refl _ _)
  (fun i hi=>?_) ?_ (fun a w=>∃ w1 v4 s' x' y' p',a=bk base [(40,.agg #[.bool s1,.int .u64 x1,.int .u64 y1,.pointer p1]),(41,.agg #[.bool s2,.int .u64 x2,.int .u64 y2,.pointer p2]),(42,.int .i64 k),(43,.agg #[.bool ws,.int .u64 wx,.int .u64 0,.pointer none]),(44,v4),(45,(.agg #[.bool s',.int .u64 x',.int .u64 y',.pointer p']))]∧w=mh w1 gb s' x' y' p'∧But [] W0 w1∧au w1 (.agg #[.bool s',.int .u64 x',.int .u64 y',.pointer p']) (f1+f2*((k:Int):Rat))) ?_ ?_
 ·exact zcw (ops:=zfw) (ps:=[(6,0),(6,1),(6,2),(6,3),(6,4),(6,5)]) (by kernel_rfl) 6 i (by
   have:i=0∨i=1∨i=2∨i=3∨i=4∨i=5:=by omega
   rcases this with rfl|rfl|rfl|rfl|rfl|rfl <;> simp)
 ·(
 intro dn i o a w K hi ho hdi hH he hdep hK
 have hD:=fun j hj=>(zex (ps:=[(3,2),(4,1),(4,3),(5,0),(5,4)]) (by kernel_rfl) ho (fun j=>dn j=true∧zsa s1 x1 y1 p1 s2 x2 y2 p2 k ws wx f1 f2 j w (a.eval (.tmp (zhh j)))) hdep j hj).2
 have hk:∀ v w',But [] w w'→zsa s1 x1 y1 p1 s2 x2 y2 p2 k ws wx f1 f2 i w' v→K (a.put (some (zhh i)) v) w':=fun v w' hb hv=>hK v w' (hH.trans' hb) (fun j hj _ u hu=>zym hu hj hb) hv
 have eb':=(he 11 (fun j hj e=>absurd e.symm (by revert j;decide))).trans eb
 have e13':=(he 13 (fun j hj e=>absurd e.symm (by revert j;decide))).trans e13
 have e12':=(he 12 (fun j hj e=>absurd e.symm (by revert j;decide))).trans e12
 have:i=0∨i=1∨i=2∨i=3∨i=4∨i=5:=by omega
 rcases this with rfl|rfl|rfl|rfl|rfl|rfl
 ·obtain rfl:=so (show zfw[0]? =some qgt from rfl) ho
  exact aq (ax a w _ _ _ _ _ _ gb 0 _ _ _ _ eb' (c1.but (hdr hH) (by simp))) (hk _ _ (But.refl _ _) rfl)
 ·obtain rfl:=so (show zfw[1]? =some qgs from rfl) ho
  exact aq (ax a w _ _ _ _ _ _ g13 0 _ _ _ _ e13' (c2.but (hdr hH) (by simp))) (hk _ _ (But.refl _ _) rfl)
 ·obtain rfl:=so (show zfw[2]? =some qgr from rfl) ho
  exact aq (bz a w _ _ _ _ _ _ _ e12') (hk _ _ (But.refl _ _) rfl)
 ·obtain rfl:=so (show zfw[3]? =some qgq from rfl) ho
  exact az (zue a w _ _ _ _ _ _ _ (hD 2 (by simp))) (R:=fun w' v=>But [] w w'∧v=_) ((WH w).mono fun e w' ⟨he,hb⟩=>⟨_,he,hb,rfl⟩) (fun v w' hv=>hk v w' hv.1 hv.2)
 ·obtain rfl:=so (show zfw[4]? =some qgp from rfl) ho
  exact az (qas a w _ _ _ _ _ _ _ _ _ (hD 1 (by simp)) (hD 3 (by simp))) (R:=fun w' v=>au w' v (f2*((k:Int):Rat))∧But [] w w') (MU w (hdr hH)) (fun v w' hv=>hk v w' hv.2 hv.1)
 ·obtain rfl:=so (show zfw[5]? =some qgo from rfl) ho
  exact az (qau a w _ _ _ _ _ _ _ _ _ (hD 0 (by simp)) rfl) (R:=fun w' v=>au w' v (f1+f2*((k:Int):Rat))∧But [] w w') (AD w _ (hdr hH) (hD 4 (by simp))) (fun v w' hv=>hk v w' hv.2 hv.1))
 ·(
 intro dn o a w K ho hall h hK
 obtain rfl:=so (show zfw[6]? =some qgn from rfl) ho
 have eb':=(h.eval 11 (fun j hj e=>absurd e.symm (by revert j;decide))).trans eb
 have cl:au w (a.eval (.tmp 45)) (f1+f2*((k:Int):Rat)):=h.has 5 (by omega) (hall 5 (by omega))
 have cl':=cl
 obtain⟨x',y',p',ev,-⟩:=cl.agg
 rw[ev] at cl'
 have ea:=h.puts hT (fun i=>match i with
  | 0=>.agg #[.bool s1,.int .u64 x1,.int .u64 y1,.pointer p1]
  | 1=>.agg #[.bool s2,.int .u64 x2,.int .u64 y2,.pointer p2]
  | 2=>.int .i64 k
  | 3=>.agg #[.bool ws,.int .u64 wx,.int .u64 0,.pointer none]
  | 4=>a.eval (.tmp 44)
  | _=>.agg #[.bool (decide ((f1+f2*((k:Int):Rat)).num<0)),.int .u64 x',.int .u64 y',.pointer p']) (fun i hi=>by
  have hc:=h.has i hi (hall i hi)
  have:i=0∨i=1∨i=2∨i=3∨i=4∨i=5:=by omega
  rcases this with rfl|rfl|rfl|rfl|rfl|rfl
  all_goals first | exact ev | exact hc|rfl)
 exact zga (zkw a w _ _ _ _ _ gb _ x' y' p' eb' ev (cb.but (hdr h.mem) (by simp)) (fun j=>((hdr h.mem).frozen (p:=⟨gb,j,none⟩) lgb (by simp)).trans (fzb j))) (hK _ _ ⟨w,a.eval (.tmp 44),_,x',y',p',ea,rfl,hdr h.mem,cl'⟩))
 ·rintro a w ⟨w1,v4,s',x',y',p',rfl,rfl,h1,h2⟩
  exact hQ  w1 v4 s' x' y' p' h1 h2)
def qgm:Oper:=⟨some 13,.load 27 (.tmp 5),27, "beside.go:34",#[],none⟩
def qgl:Oper:=⟨some 14,.move (.tmp 1),46, "beside.go:34",#[],none⟩
def qgk:Oper:=⟨some 15,.move (.tmp 6),3, "beside.go:34",#[],none⟩
def qgj:Oper:=⟨some 16,.indexAddr 46 (.tmp 14) (.tmp 15),0, "beside.go:34",#[⟨1,.data⟩,⟨2,.data⟩],none⟩
def qgi:Oper:=⟨some 17,.load 27 (.tmp 16),27, "beside.go:34",#[⟨3,.data⟩],none⟩
def qgh:Oper:=⟨some 18,.call { callee:=.value (.func 173),args:=#[.tmp 13,.tmp 17],argTypes:=#[27,27] },27, "beside.go:34",#[⟨0,.data⟩,⟨4,.data⟩],none⟩
def qgg:Oper:=⟨some 7,.alloc 27,0, "beside.go:34",#[],none⟩
def qgf:Oper:=⟨none,.store 27 (.tmp 7) (.tmp 18),0, "beside.go:34",#[⟨6,.data⟩,⟨5,.data⟩,⟨5,.chain⟩,⟨0,.phase⟩,⟨1,.phase⟩,⟨2,.phase⟩,⟨3,.phase⟩,⟨4,.phase⟩,⟨5,.phase⟩,⟨6,.phase⟩],none⟩
def zer:Array Oper:=#[qgm,qgl,qgk,qgj,qgi,qgh,qgg,qgf]
def zhg (i:Nat):Nat:=match i with
 | 0=>13
 | 1=>14
 | 2=>15
 | 3=>16
 | 4=>17
 | 5=>18
 | _=>7
def zrz (b:Nat) (off:Nat) (N:Nat) (cp:Nat) (ka:Nat) (B:Nat) (s1:Bool) (x1:Int) (y1:Int) (p1:Option Addr) (s2:Bool) (x2:Int) (y2:Int) (p2:Option Addr) (f1:Rat) (i:Nat) (w:World) (v:Value):Prop:=match i with
 | 0=>v=.agg #[.bool s1,.int .u64 x1,.int .u64 y1,.pointer p1]
 | 1=>v=.slice (some ⟨b,off,none⟩) N cp
 | 2=>v=.int .i64 (ka:Int)
 | 3=>v=.pointer (some ⟨b,off+ka*4,none⟩)
 | 4=>v=.agg #[.bool s2,.int .u64 x2,.int .u64 y2,.pointer p2]
 | 5=>au w v f1
 | _=>zoi B w v
theorem zyk {b:Nat} {off:Nat} {N:Nat} {cp:Nat} {ka:Nat} {B:Nat} {s1:Bool} {x1:Int} {y1:Int} {p1:Option Addr} {s2:Bool} {x2:Int} {y2:Int} {p2:Option Addr} {f1:Rat} {i:Nat} {w w':World} {v:Value} (h:zrz b off N cp ka B s1 x1 y1 p1 s2 x2 y2 p2 f1 i w v) (hi:i<7) (hb:But [] w w'):zrz b off N cp ka B s1 x1 y1 p1 s2 x2 y2 p2 f1 i w' v:=by(
 have:i=0∨i=1∨i=2∨i=3∨i=4∨i=5∨i=6:=by omega
 rcases this with rfl|rfl|rfl|rfl|rfl|rfl|rfl
 all_goals first | exact h | exact au.but h hb | exact av.but h hb | exact zoi.but h hb)
theorem zyj:∀ i j,i<7→j<7→zhg i=zhg j→i=j:=fun i j hi hj=>(by decide:∀ i,i<7→∀ j,j<7→zhg i=zhg j→i=j) i hi j hj
theorem zln (id:Nat) (Q:Exit→Act→World→Prop) (base:Act) (W0:World) (b:Nat) (off:Nat) (N:Nat) (cp:Nat) (ka:Nat) (B:Nat) (s1:Bool) (x1:Int) (y1:Int) (p1:Option Addr) (s2:Bool) (x2:Int) (y2:Int) (p2:Option Addr) (f1:Rat) (hs:18<base.tmps.size) (g5:Nat) (hBW:B≤W0.heap.size) (e5:base.eval (.tmp 5)=.pointer (some ⟨g5,0,none⟩)) (e1:base.eval (.tmp 1)=.slice (some ⟨b,off,none⟩) N cp) (e6:base.eval (.tmp 6)=.int .i64 (ka:Int))
   (hka:ka<N) (hN2:N<1000000) (c1:P4 W0 g5 s1 x1 y1 p1) (c2:P4o W0 b (off+ka*4) s2 x2 y2 p2)
   (LE:∀ w,But [] W0 w→Calls prog 173 #[.agg #[.bool s1,.int .u64 x1,.int .u64 y1,.pointer p1],.agg #[.bool s2,.int .u64 x2,.int .u64 y2,.pointer p2]] w fun e w'=>∃ v,e=.returned v∧au w' v f1∧But [] w w')
   (hQ:∀ w1 bn s' x' y' p',But [] W0 w1→B≤bn→P4 w1 bn false 0 0 none→(∀ j,w1.frozen? ⟨bn,j,none⟩=false)→au w1 (.agg #[.bool s',.int .u64 x',.int .u64 y',.pointer p']) (f1)→Q .normal (bk base [(13,.agg #[.bool s1,.int .u64 x1,.int .u64 y1,.pointer p1]),(14,.slice (some ⟨b,off,none⟩) N cp),(15,.int .i64 (ka:Int)),(16,.pointer (some ⟨b,off+ka*4,none⟩)),(17,.agg #[.bool s2,.int .u64 x2,.int .u64 y2,.pointer p2]),(18,(.agg #[.bool s',.int .u64 x',.int .u64 y',.pointer p'])),(7,.pointer (some ⟨bn,0,none⟩))]) (mh w1 bn s' x' y' p')) :
   (Code.region id zer true).wp prog Q base W0:=by(
 have hdr:∀ {w},But [] W0.drew w→But [] W0 w:=fun h=>(But.refl _ _).drew.trans' h
 have hT:∀ i,i<7→zhg i<base.tmps.size:=fun i hi=>by
  have h:zhg i≤18:=by revert i;decide
  omega
 refine zen (by kernel_rfl) (zcu (by kernel_rfl)) (fun i o ho=>(zkh (ops:=zer) (by kernel_rfl) i o ho).1)
  (fun _ w=>But [] W0.drew w) (zrz b off N cp ka B s1 x1 y1 p1 s2 x2 y2 p2 f1) zhg 7 rfl zyj hT (But.refl _ _)
  (fun i hi=>?_) ?_ (fun a w=>∃ w1 bn s' x' y' p',a=bk base [(13,.agg #[.bool s1,.int .u64 x1,.int .u64 y1,.pointer p1]),(14,.slice (some ⟨b,off,none⟩) N cp),(15,.int .i64 (ka:Int)),(16,.pointer (some ⟨b,off+ka*4,none⟩)),(17,.agg #[.bool s2,.int .u64 x2,.int .u64 y2,.pointer p2]),(18,(.agg #[.bool s',.int .u64 x',.int .u64 y',.pointer p'])),(7,.pointer (some ⟨bn,0,none⟩))]∧w=mh w1 bn s' x' y' p'∧But [] W0 w1∧B≤bn∧P4 w1 bn false 0 0 none∧(∀ j,w1.frozen? ⟨bn,j,none⟩=false)∧au w1 (.agg #[.bool s',.int .u64 x',.int .u64 y',.pointer p']) (f1)) ?_ ?_
 ·exact zcw (ops:=zer) (ps:=[(7,0),(7,1),(7,2),(7,3),(7,4),(7,5),(7,6)]) (by kernel_rfl) 7 i (by
   have:i=0∨i=1∨i=2∨i=3∨i=4∨i=5∨i=6:=by omega
   rcases this with rfl|rfl|rfl|rfl|rfl|rfl|rfl <;> simp)
 ·(
 intro dn i o a w K hi ho hdi hH he hdep hK
 have hD:=fun j hj=>(zex (ps:=[(3,1),(3,2),(4,3),(5,0),(5,4)]) (by kernel_rfl) ho (fun j=>dn j=true∧zrz b off N cp ka B s1 x1 y1 p1 s2 x2 y2 p2 f1 j w (a.eval (.tmp (zhg j)))) hdep j hj).2
 have hk:∀ v w',But [] w w'→zrz b off N cp ka B s1 x1 y1 p1 s2 x2 y2 p2 f1 i w' v→K (a.put (some (zhg i)) v) w':=fun v w' hb hv=>hK v w' (hH.trans' hb) (fun j hj _ u hu=>zyk hu hj hb) hv
 have e5':=(he 5 (fun j hj e=>absurd e.symm (by revert j;decide))).trans e5
 have e1':=(he 1 (fun j hj e=>absurd e.symm (by revert j;decide))).trans e1
 have e6':=(he 6 (fun j hj e=>absurd e.symm (by revert j;decide))).trans e6
 have:i=0∨i=1∨i=2∨i=3∨i=4∨i=5∨i=6:=by omega
 rcases this with rfl|rfl|rfl|rfl|rfl|rfl|rfl
 ·obtain rfl:=so (show zer[0]? =some qgm from rfl) ho
  exact aq (ax a w _ _ _ _ _ _ g5 0 _ _ _ _ e5' (c1.but (hdr hH) (by simp))) (hk _ _ (But.refl _ _) rfl)
 ·obtain rfl:=so (show zer[1]? =some qgl from rfl) ho
  exact aq (bz a w _ _ _ _ _ _ _ e1') (hk _ _ (But.refl _ _) rfl)
 ·obtain rfl:=so (show zer[2]? =some qgk from rfl) ho
  exact aq (bz a w _ _ _ _ _ _ _ e6') (hk _ _ (But.refl _ _) rfl)
 ·obtain rfl:=so (show zer[3]? =some qgj from rfl) ho
  exact aq (zge a w _ _ _ _ _ _ _ b off N cp ka hka hN2 (hD 1 (by simp)) (hD 2 (by simp))) (hk _ _ (But.refl _ _) rfl)
 ·obtain rfl:=so (show zer[4]? =some qgi from rfl) ho
  exact aq (ax a w _ _ _ _ _ _ b _ _ _ _ _ (hD 3 (by simp)) (c2.but (hdr hH) (by simp))) (hk _ _ (But.refl _ _) rfl)
 ·obtain rfl:=so (show zer[5]? =some qgh from rfl) ho
  exact az (zug a w _ _ _ _ _ _ _ _ _ (hD 0 (by simp)) (hD 4 (by simp))) (R:=fun w' v=>au w' v (f1)∧But [] w w') (LE w (hdr hH)) (fun v w' hv=>hk v w' hv.2 hv.1)
 ·obtain rfl:=so (show zer[6]? =some qgg from rfl) ho
  exact aq (zui a w _ _ _ _) (hk _ _ ((But.refl _ _).alloc _) ⟨w.heap.size,rfl,Nat.le_trans hBW (hdr hH).size,⟨by simp,by simp,by simp,by simp⟩,fun j=>by simp⟩))
 ·(
 intro dn o a w K ho hall h hK
 obtain rfl:=so (show zer[7]? =some qgf from rfl) ho
 have cl:au w (a.eval (.tmp 18)) (f1):=h.has 5 (by omega) (hall 5 (by omega))
 obtain⟨bn,eb,hb1,hb2,hb3⟩:zoi B w (a.eval (.tmp 7)):=h.has 6 (by omega) (hall 6 (by omega))
 have cl':=cl
 obtain⟨x',y',p',ev,-⟩:=cl.agg
 rw[ev] at cl'
 have ea:=h.puts hT (fun i=>match i with
  | 0=>.agg #[.bool s1,.int .u64 x1,.int .u64 y1,.pointer p1]
  | 1=>.slice (some ⟨b,off,none⟩) N cp
  | 2=>.int .i64 (ka:Int)
  | 3=>.pointer (some ⟨b,off+ka*4,none⟩)
  | 4=>.agg #[.bool s2,.int .u64 x2,.int .u64 y2,.pointer p2]
  | 5=>.agg #[.bool (decide ((f1).num<0)),.int .u64 x',.int .u64 y',.pointer p']
  | _=>.pointer (some ⟨bn,0,none⟩)) (fun i hi=>by
  have hc:=h.has i hi (hall i hi)
  have:i=0∨i=1∨i=2∨i=3∨i=4∨i=5∨i=6:=by omega
  rcases this with rfl|rfl|rfl|rfl|rfl|rfl|rfl
  all_goals first | exact ev | exact eb | exact hc|rfl)
 exact zga (zkw a w _ _ _ _ _ bn _ x' y' p' eb ev hb2 hb3) (hK _ _ ⟨w,bn,_,x',y',p',ea,rfl,hdr h.mem,hb1,hb2,hb3,cl'⟩))
 ·rintro a w ⟨w1,bn,s',x',y',p',rfl,rfl,h1,h2,h3,h4,h5⟩
  exact hQ  w1 bn s' x' y' p' h1 h2 h3 h4 h5)
def qge:Oper:=⟨some 23,.move (.tmp 1),46, "beside.go:36",#[],none⟩
def qgd:Oper:=⟨some 24,.move (.tmp 6),3, "beside.go:36",#[],none⟩
def qgc:Oper:=⟨some 25,.move (.tmp 1),46, "beside.go:36",#[],none⟩
def qgb:Oper:=⟨some 26,.move (.tmp 6),3, "beside.go:36",#[],none⟩
def qga:Oper:=⟨some 27,.indexAddr 46 (.tmp 25) (.tmp 26),0, "beside.go:36",#[⟨2,.data⟩,⟨3,.data⟩],none⟩
def qfz:Oper:=⟨some 28,.load 27 (.tmp 27),27, "beside.go:36",#[⟨4,.data⟩],none⟩
def qfy:Oper:=⟨some 29,.load 27 (.tmp 7),27, "beside.go:36",#[],none⟩
def qfx:Oper:=⟨some 30,.call { callee:=.value (.func 56),args:=#[.tmp 28,.tmp 29],argTypes:=#[27,27] },27, "beside.go:36",#[⟨5,.data⟩,⟨6,.data⟩],none⟩
def qfw:Oper:=⟨some 31,.indexAddr 46 (.tmp 23) (.tmp 24),0, "beside.go:36",#[⟨0,.data⟩,⟨1,.data⟩,⟨0,.phase⟩,⟨1,.phase⟩,⟨2,.phase⟩,⟨3,.phase⟩,⟨4,.phase⟩,⟨5,.phase⟩,⟨6,.phase⟩,⟨7,.phase⟩],none⟩
def qfv:Oper:=⟨none,.store 27 (.tmp 31) (.tmp 30),0, "beside.go:36",#[⟨8,.data⟩,⟨7,.data⟩,⟨7,.chain⟩,⟨0,.phase⟩,⟨1,.phase⟩,⟨2,.phase⟩,⟨3,.phase⟩,⟨4,.phase⟩,⟨5,.phase⟩,⟨6,.phase⟩,⟨7,.phase⟩],none⟩
def zdg:Array Oper:=#[qge,qgd,qgc,qgb,qga,qfz,qfy,qfx,qfw,qfv]
def zhf (i:Nat):Nat:=match i with
 | 0=>23
 | 1=>24
 | 2=>25
 | 3=>26
 | 4=>27
 | 5=>28
 | 6=>29
 | 7=>30
 | _=>31
def zry (gb:Nat) (go:Nat) (off:Nat) (N:Nat) (cp:Nat) (ka:Nat) (s1:Bool) (x1:Int) (y1:Int) (p1:Option Addr) (s2:Bool) (x2:Int) (y2:Int) (p2:Option Addr) (f1:Rat) (f2:Rat) (i:Nat) (w:World) (v:Value):Prop:=match i with
 | 0=>v=.slice (some ⟨gb,off,none⟩) N cp
 | 1=>v=.int .i64 (ka:Int)
 | 2=>v=.slice (some ⟨gb,off,none⟩) N cp
 | 3=>v=.int .i64 (ka:Int)
 | 4=>v=.pointer (some ⟨gb,go,none⟩)
 | 5=>v=.agg #[.bool s1,.int .u64 x1,.int .u64 y1,.pointer p1]
 | 6=>v=.agg #[.bool s2,.int .u64 x2,.int .u64 y2,.pointer p2]
 | 7=>au w v (f1-f2)
 | _=>v=.pointer (some ⟨gb,go,none⟩)
theorem zyi {gb:Nat} {go:Nat} {off:Nat} {N:Nat} {cp:Nat} {ka:Nat} {s1:Bool} {x1:Int} {y1:Int} {p1:Option Addr} {s2:Bool} {x2:Int} {y2:Int} {p2:Option Addr} {f1:Rat} {f2:Rat} {i:Nat} {w w':World} {v:Value} (h:zry gb go off N cp ka s1 x1 y1 p1 s2 x2 y2 p2 f1 f2 i w v) (hi:i<9) (hb:But [] w w'):zry gb go off N cp ka s1 x1 y1 p1 s2 x2 y2 p2 f1 f2 i w' v:=by(
 have:i=0∨i=1∨i=2∨i=3∨i=4∨i=5∨i=6∨i=7∨i=8:=by omega
 rcases this with rfl|rfl|rfl|rfl|rfl|rfl|rfl|rfl|rfl
 all_goals first | exact h | exact au.but h hb | exact av.but h hb)
theorem zyh:∀ i j,i<9→j<9→zhf i=zhf j→i=j:=fun i j hi hj=>(by decide:∀ i,i<9→∀ j,j<9→zhf i=zhf j→i=j) i hi j hj
theorem zlm (id:Nat) (Q:Exit→Act→World→Prop) (base:Act) (W0:World) (gb:Nat) (go:Nat) (off:Nat) (N:Nat) (cp:Nat) (ka:Nat) (s1:Bool) (x1:Int) (y1:Int) (p1:Option Addr) (s2:Bool) (x2:Int) (y2:Int) (p2:Option Addr) (f1:Rat) (f2:Rat) (g7:Nat) {sb:Bool} {xb yb:Int} {pb:Option Addr} (hs:31<base.tmps.size) (cb:P4o W0 gb go sb xb yb pb) (fzb:∀ j,W0.frozen? ⟨gb,j,none⟩=false) (e1:base.eval (.tmp 1)=.slice (some ⟨gb,off,none⟩) N cp) (e6:base.eval (.tmp 6)=.int .i64 (ka:Int)) (e7:base.eval (.tmp 7)=.pointer (some ⟨g7,0,none⟩))
   (hgo:go=off+ka*4) (hka:ka<N) (hN2:N<1000000) (c1:P4o W0 gb go s1 x1 y1 p1) (c2:P4 W0 g7 s2 x2 y2 p2)
   (SU:∀ w,But [] W0 w→Calls prog 56 #[.agg #[.bool s1,.int .u64 x1,.int .u64 y1,.pointer p1],.agg #[.bool s2,.int .u64 x2,.int .u64 y2,.pointer p2]] w fun e w'=>∃ v,e=.returned v∧au w' v (f1-f2)∧But [] w w')
   (hQ:∀ w1 s' x' y' p',But [] W0 w1→au w1 (.agg #[.bool s',.int .u64 x',.int .u64 y',.pointer p']) (f1-f2)→Q .normal (bk base [(23,.slice (some ⟨gb,off,none⟩) N cp),(24,.int .i64 (ka:Int)),(25,.slice (some ⟨gb,off,none⟩) N cp),(26,.int .i64 (ka:Int)),(27,.pointer (some ⟨gb,go,none⟩)),(28,.agg #[.bool s1,.int .u64 x1,.int .u64 y1,.pointer p1]),(29,.agg #[.bool s2,.int .u64 x2,.int .u64 y2,.pointer p2]),(30,(.agg #[.bool s',.int .u64 x',.int .u64 y',.pointer p'])),(31,.pointer (some ⟨gb,go,none⟩))]) (w1.setCells gb go [.bool s',.int .u64 x',.int .u64 y',.pointer p'])) :
   (Code.region id zdg true).wp prog Q base W0:=by(
 have hdr:∀ {w},But [] W0.drew w→But [] W0 w:=fun h=>(But.refl _ _).drew.trans' h
 have lgb:gb<W0.heap.size:=ai cb.1
 have hT:∀ i,i<9→zhf i<base.tmps.size:=fun i hi=>by
  have h:zhf i≤31:=by revert i;decide
  omega
 refine zen (by kernel_rfl) (zcu (by kernel_rfl)) (fun i o ho=>(zkh (ops:=zdg) (by kernel_rfl) i o ho).1)
  (fun _ w=>But [] W0.drew w) (zry gb go off N cp ka s1 x1 y1 p1 s2 x2 y2 p2 f1 f2) zhf 9 rfl zyh hT (But.refl _ _)
  (fun i hi=>?_) ?_ (fun a w=>∃ w1 s' x' y' p',a=bk base [(23,.slice (some ⟨gb,off,none⟩) N cp),(24,.int .i64 (ka:Int)),(25,.slice (some ⟨gb,off,none⟩) N cp),(26,.int .i64 (ka:Int)),(27,.pointer (some ⟨gb,go,none⟩)),(28,.agg #[.bool s1,.int .u64 x1,.int .u64 y1,.pointer p1]),(29,.agg #[.bool s2,.int .u64 x2,.int .u64 y2,.pointer p2]),(30,(.agg #[.bool s',.int .u64 x',.int .u64 y',.pointer p'])),(31,.pointer (some ⟨gb,go,none⟩))]∧w=w1.setCells gb go [.bool s',.int .u64 x',.int .u64 y',.pointer p']∧But [] W0 w1∧au w1 (.agg #[.bool s',.int .u64 x',.int .u64 y',.pointer p']) (f1-f2)) ?_ ?_
 ·exact zcw (ops:=zdg) (ps:=[(9,0),(9,1),(9,2),(9,3),(9,4),(9,5),(9,6),(9,7),(9,8)]) (by kernel_rfl) 9 i (by
   have:i=0∨i=1∨i=2∨i=3∨i=4∨i=5∨i=6∨i=7∨i=8:=by omega
   rcases this with rfl|rfl|rfl|rfl|rfl|rfl|rfl|rfl|rfl <;> simp)
 ·(
 intro dn i o a w K hi ho hdi hH he hdep hK
 have hD:=fun j hj=>(zex (ps:=[(4,2),(4,3),(5,4),(7,5),(7,6),(8,0),(8,1),(8,2),(8,3),(8,4),(8,5),(8,6),(8,7)]) (by kernel_rfl) ho (fun j=>dn j=true∧zry gb go off N cp ka s1 x1 y1 p1 s2 x2 y2 p2 f1 f2 j w (a.eval (.tmp (zhf j)))) hdep j hj).2
 have hk:∀ v w',But [] w w'→zry gb go off N cp ka s1 x1 y1 p1 s2 x2 y2 p2 f1 f2 i w' v→K (a.put (some (zhf i)) v) w':=fun v w' hb hv=>hK v w' (hH.trans' hb) (fun j hj _ u hu=>zyi hu hj hb) hv
 have e1':=(he 1 (fun j hj e=>absurd e.symm (by revert j;decide))).trans e1
 have e6':=(he 6 (fun j hj e=>absurd e.symm (by revert j;decide))).trans e6
 have e7':=(he 7 (fun j hj e=>absurd e.symm (by revert j;decide))).trans e7
 have:i=0∨i=1∨i=2∨i=3∨i=4∨i=5∨i=6∨i=7∨i=8:=by omega
 rcases this with rfl|rfl|rfl|rfl|rfl|rfl|rfl|rfl|rfl
 ·obtain rfl:=so (show zdg[0]? =some qge from rfl) ho
  exact aq (bz a w _ _ _ _ _ _ _ e1') (hk _ _ (But.refl _ _) rfl)
 ·obtain rfl:=so (show zdg[1]? =some qgd from rfl) ho
  exact aq (bz a w _ _ _ _ _ _ _ e6') (hk _ _ (But.refl _ _) rfl)
 ·obtain rfl:=so (show zdg[2]? =some qgc from rfl) ho
  exact aq (bz a w _ _ _ _ _ _ _ e1') (hk _ _ (But.refl _ _) rfl)
 ·obtain rfl:=so (show zdg[3]? =some qgb from rfl) ho
  exact aq (bz a w _ _ _ _ _ _ _ e6') (hk _ _ (But.refl _ _) rfl)
 ·obtain rfl:=so (show zdg[4]? =some qga from rfl) ho
  refine aq (zge a w _ _ _ _ _ _ _ gb off N cp ka hka hN2 (hD 2 (by simp)) (hD 3 (by simp))) (hk _ _ (But.refl _ _) ?_)
  show Value.pointer _=Value.pointer _
  rw[hgo]
 ·obtain rfl:=so (show zdg[5]? =some qfz from rfl) ho
  exact aq (ax a w _ _ _ _ _ _ gb go _ _ _ _ (hD 4 (by simp)) (c1.but (hdr hH) (by simp))) (hk _ _ (But.refl _ _) rfl)
 ·obtain rfl:=so (show zdg[6]? =some qfy from rfl) ho
  exact aq (ax a w _ _ _ _ _ _ g7 0 _ _ _ _ e7' (c2.but (hdr hH) (by simp))) (hk _ _ (But.refl _ _) rfl)
 ·obtain rfl:=so (show zdg[7]? =some qfx from rfl) ho
  exact az (qap a w _ _ _ _ _ _ _ _ _ (hD 5 (by simp)) (hD 6 (by simp))) (R:=fun w' v=>au w' v (f1-f2)∧But [] w w') (SU w (hdr hH)) (fun v w' hv=>hk v w' hv.2 hv.1)
 ·obtain rfl:=so (show zdg[8]? =some qfw from rfl) ho
  refine aq (zge a w _ _ _ _ _ _ _ gb off N cp ka hka hN2 (hD 0 (by simp)) (hD 1 (by simp))) (hk _ _ (But.refl _ _) ?_)
  show Value.pointer _=Value.pointer _
  rw[hgo])
 ·(
 intro dn o a w K ho hall h hK
 obtain rfl:=so (show zdg[9]? =some qfv from rfl) ho
 have eb':a.eval (.tmp 31)=.pointer (some ⟨gb,go,none⟩):=h.has 8 (by omega) (hall 8 (by omega))
 have cl:au w (a.eval (.tmp 30)) (f1-f2):=h.has 7 (by omega) (hall 7 (by omega))
 have cl':=cl
 obtain⟨x',y',p',ev,-⟩:=cl.agg
 rw[ev] at cl'
 have ea:=h.puts hT (fun i=>match i with
  | 0=>.slice (some ⟨gb,off,none⟩) N cp
  | 1=>.int .i64 (ka:Int)
  | 2=>.slice (some ⟨gb,off,none⟩) N cp
  | 3=>.int .i64 (ka:Int)
  | 4=>.pointer (some ⟨gb,go,none⟩)
  | 5=>.agg #[.bool s1,.int .u64 x1,.int .u64 y1,.pointer p1]
  | 6=>.agg #[.bool s2,.int .u64 x2,.int .u64 y2,.pointer p2]
  | 7=>.agg #[.bool (decide ((f1-f2).num<0)),.int .u64 x',.int .u64 y',.pointer p']
  | _=>.pointer (some ⟨gb,go,none⟩)) (fun i hi=>by
  have hc:=h.has i hi (hall i hi)
  have:i=0∨i=1∨i=2∨i=3∨i=4∨i=5∨i=6∨i=7∨i=8:=by omega
  rcases this with rfl|rfl|rfl|rfl|rfl|rfl|rfl|rfl|rfl
  all_goals first | exact ev | exact hc|rfl)
 exact zga (zqx a w _ _ _ _ _ gb go _ x' y' p' eb' ev (cb.but (hdr h.mem) (by simp)) (fun j=>((hdr h.mem).frozen (p:=⟨gb,j,none⟩) lgb (by simp)).trans (fzb j))) (hK _ _ ⟨w,_,x',y',p',ea,rfl,hdr h.mem,cl'⟩))
 ·rintro a w ⟨w1,s',x',y',p',rfl,rfl,h1,h2⟩
  exact hQ  w1 s' x' y' p' h1 h2)
end Go.Proofs.YtagmkkiagjmimaaGreatDoor
