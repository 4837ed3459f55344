/- Out of KX: what needs no more than these -/
import Derived.Test.YtagmkkiagjmimaaGreatDoorYKK
import Derived.Test.YtagmkkiagjmimaaGreatDoorYT2
namespace Go.Proofs.YtagmkkiagjmimaaGreatDoor
set_option linter.unusedVariables false
open Go.Proofs.Tryz
open Go.RowKit
set_option maxHeartbeats 4000000
set_option maxRecDepth 100000
theorem qav {qs:List (Int × Int)} (hf:∀ q ∈ qs,Fits q):∀ r ∈ qs.map qf,Len r 1:=fun r hr=>by
 obtain⟨q,hq,rfl⟩:=List.mem_map.1 hr
 obtain⟨-,-,-,h,-⟩:=zjb q (hf q hq)
 exact h
theorem zqc (v:Value) (qs:List (Int × Int)) (w:World) (hq:zuo w v qs) (hf:∀ q ∈ qs,Fits q) (hn:qs.length≤1000) :
   Calls prog 18 #[v] w fun e w'=>∃ v',e=.returned v'∧au w' v' (qs.map qf)∧But [] w w':=by(
 have FS:=af (zsu v qs w hq hf hn)
 obtain⟨a,cap,rfl,-,-⟩:=hq
 clear hf
 go_enter func18,ntmps18
 go_wp2_with fail
 refine (ae FS).mono ?_
 rintro e w1 ⟨v',vs,rfl,hh,hb⟩
 have H1:=af hh
 have B1:=af hb
 clear hh hb
 go_wp2
 go_ret
 exact⟨_,rfl,(ae H1).ztw,ae B1⟩)
theorem qcn (a:Act) (w:World) (d t1 t2:Nat) (u:TypeId) (ps:String) (ed:Array Edge) (gd:Option (Nat × Bool)) (x1 x2:Value) (h1:a.eval (.tmp t1)=x1) (h2:a.eval (.tmp t2)=x2) :
   (execOp a.eval { dst:=some d,op:=Op.call { callee:=Callee.value (Operand.func 56),args:=#[Operand.tmp t1,Operand.tmp t2],argTypes:=#[27,27] },type:=u,pos:=ps,after:=ed,guard:=gd }).run prog w=.ok (.enter 56 #[x1,x2]) w:=by(
 unfold execOp
 go_simp
 rw[← h1,← h2]
 simp[Act.eval])
def qjr:Oper:=⟨some 23,.call { callee:=.value (.func 79),args:=#[.const (.int .i64 1)],argTypes:=#[3] },27, "claims.go:99",#[],none⟩
def qjq:Oper:=⟨some 24,.load 27 (.tmp 3),27, "claims.go:99",#[],none⟩
def qjp:Oper:=⟨some 25,.call { callee:=.value (.func 56),args:=#[.tmp 23,.tmp 24],argTypes:=#[27,27] },27, "claims.go:99",#[⟨0,.data⟩,⟨1,.data⟩,⟨0,.chain⟩],none⟩
def qjo:Oper:=⟨some 7,.alloc 27,0, "claims.go:99",#[],none⟩
def qjn:Oper:=⟨none,.store 27 (.tmp 7) (.tmp 25),0, "claims.go:99",#[⟨3,.data⟩,⟨2,.data⟩,⟨2,.chain⟩,⟨0,.phase⟩,⟨1,.phase⟩,⟨2,.phase⟩,⟨3,.phase⟩],none⟩
def zkf:Array Oper:=#[qjr,qjq,qjp,qjo,qjn]
def zhm (i:Nat):Nat:=match i with
 | 0=>23
 | 1=>24
 | 2=>25
 | _=>7
def zsw (B:Nat) (s1:Bool) (x1:Int) (y1:Int) (p1:Option Addr) (ws:Bool) (wx:Int) (f1:Rat) (i:Nat) (w:World) (v:Value):Prop:=match i with
 | 0=>v=.agg #[.bool ws,.int .u64 wx,.int .u64 0,.pointer none]
 | 1=>v=.agg #[.bool s1,.int .u64 x1,.int .u64 y1,.pointer p1]
 | 2=>aq w v (((1:Int):Rat)-f1)
 | _=>zik B w v
theorem zzo {B:Nat} {s1:Bool} {x1:Int} {y1:Int} {p1:Option Addr} {ws:Bool} {wx:Int} {f1:Rat} {i:Nat} {w w':World} {v:Value} (h:zsw B s1 x1 y1 p1 ws wx f1 i w v) (hi:i<4) (hb:But [] w w'):zsw B s1 x1 y1 p1 ws wx f1 i w' v:=by(
 have:i=0∨i=1∨i=2∨i=3:=by omega
 rcases this with rfl|rfl|rfl|rfl
 all_goals first | exact h | exact aq.but h hb | exact au.but h hb | exact zik.but h hb)
theorem zzn:∀ i j,i<4→j<4→zhm i=zhm j→i=j:=fun i j hi hj=>(by decide:∀ i,i<4→∀ j,j<4→zhm i=zhm j→i=j) i hi j hj
theorem znj (id:Nat) (Q:Exit→Act→World→Prop) (base:Act) (W0:World) (B:Nat) (s1:Bool) (x1:Int) (y1:Int) (p1:Option Addr) (ws:Bool) (wx:Int) (f1:Rat) (hs:25<base.tmps.size) (g3:Nat) (hBW:B≤W0.heap.size) (e3:base.eval (.tmp 3)=.pointer (some ⟨g3,0,none⟩))
   (c1:P4 W0 g3 s1 x1 y1 p1)
   (WH:∀ w,Calls prog 79 #[.int .i64 1] w fun e w'=>e=.returned (.agg #[.bool ws,.int .u64 wx,.int .u64 0,.pointer none])∧But [] w w')
   (SU:∀ w,But [] W0 w→Calls prog 56 #[.agg #[.bool ws,.int .u64 wx,.int .u64 0,.pointer none],.agg #[.bool s1,.int .u64 x1,.int .u64 y1,.pointer p1]] w fun e w'=>∃ v,e=.returned v∧aq w' v (((1:Int):Rat)-f1)∧But [] w w')
   (hQ:∀ w1 bn s' x' y' p',But [] W0 w1→B≤bn→P4 w1 bn false 0 0 none→(∀ j,w1.frozen? ⟨bn,j,none⟩=false)→aq w1 (.agg #[.bool s',.int .u64 x',.int .u64 y',.pointer p']) (((1:Int):Rat)-f1)→Q .normal (bj base [(23,.agg #[.bool ws,.int .u64 wx,.int .u64 0,.pointer none]),(24,.agg #[.bool s1,.int .u64 x1,.int .u64 y1,.pointer p1]),(25,(.agg #[.bool s',.int .u64 x',.int .u64 y',.pointer p'])),(7,.pointer (some ⟨bn,0,none⟩))]) (qw w1 bn s' x' y' p')) :
   (Code.region id zkf true).wp prog Q base W0:=by(
 have hdr:∀ {w},But [] W0.drew w→But [] W0 w:=fun h=>(But.refl _ _).drew.trans' h
 have hT:∀ i,i<4→zhm i<base.tmps.size:=fun i hi=>by
  have h:zhm i≤25:=by revert i;decide
  omega
 refine zas (by kernel_rfl) (ou (by kernel_rfl)) (fun i o ho=>(zgf (ops:=zkf) (by kernel_rfl) i o ho).1)
  (fun _ w=>But [] W0.drew w) (zsw B s1 x1 y1 p1 ws wx f1) zhm 4 rfl zzn hT (But.refl _ _)
  (fun i hi=>?_) ?_ (fun a w=>∃ w1 bn s' x' y' p',a=bj base [(23,.agg #[.bool ws,.int .u64 wx,.int .u64 0,.pointer none]),(24,.agg #[.bool s1,.int .u64 x1,.int .u64 y1,.pointer p1]),(25,(.agg #[.bool s',.int .u64 x',.int .u64 y',.pointer p'])),(7,.pointer (some ⟨bn,0,none⟩))]∧w=qw w1 bn s' x' y' p'∧But [] W0 w1∧B≤bn∧P4 w1 bn false 0 0 none∧(∀ j,w1.frozen? ⟨bn,j,none⟩=false)∧aq w1 (.agg #[.bool s',.int .u64 x',.int .u64 y',.pointer p']) (((1:Int):Rat)-f1)) ?_ ?_
 ·exact zed (ops:=zkf) (ps:=[(4,0),(4,1),(4,2),(4,3)]) (by kernel_rfl) 4 i (by
   have:i=0∨i=1∨i=2∨i=3:=by omega
   rcases this with rfl|rfl|rfl|rfl <;> simp)
 ·(
 intro dn i o a w K hi ho hdi hH he hdep hK
 have hD:=fun j hj=>(mh (ps:=[(2,0),(2,1)]) (by kernel_rfl) ho (fun j=>dn j=true∧zsw B s1 x1 y1 p1 ws wx f1 j w (a.eval (.tmp (zhm j)))) hdep j hj).2
 have hk:∀ v w',But [] w w'→zsw B s1 x1 y1 p1 ws wx f1 i w' v→K (a.put (some (zhm i)) v) w':=fun v w' hb hv=>hK v w' (hH.trans' hb) (fun j hj _ u hu=>zzo hu hj hb) hv
 have e3':=(he 3 (fun j hj e=>absurd e.symm (by revert j;decide))).trans e3
 have:i=0∨i=1∨i=2∨i=3:=by omega
 rcases this with rfl|rfl|rfl|rfl
 ·obtain rfl:=so (show zkf[0]? =some qjr from rfl) ho
  exact ay (zhe a w _ _ _ _ _ 1) (R:=fun w' v=>But [] w w'∧v=_) ((WH w).mono fun e w' ⟨he,hb⟩=>⟨_,he,hb,rfl⟩) (fun v w' hv=>hk v w' hv.1 hv.2)
 ·obtain rfl:=so (show zkf[1]? =some qjq from rfl) ho
  exact al (aw a w _ _ _ _ _ _ g3 0 _ _ _ _ e3' (c1.but (hdr hH) (by simp))) (hk _ _ (But.refl _ _) rfl)
 ·obtain rfl:=so (show zkf[2]? =some qjp from rfl) ho
  exact ay (qcn a w _ _ _ _ _ _ _ _ _ (hD 0 (by simp)) (hD 1 (by simp))) (R:=fun w' v=>aq w' v (((1:Int):Rat)-f1)∧But [] w w') (SU w (hdr hH)) (fun v w' hv=>hk v w' hv.2 hv.1)
 ·obtain rfl:=so (show zkf[3]? =some qjo from rfl) ho
  exact al (zmf a w _ _ _ _) (hk _ _ ((But.refl _ _).alloc _) ⟨w.heap.size,rfl,Nat.le_trans hBW (hdr hH).size,⟨by simp,by simp,by simp,by simp⟩,fun j=>by simp⟩))
 ·(
 intro dn o a w K ho hall h hK
 obtain rfl:=so (show zkf[4]? =some qjn from rfl) ho
 have cl:aq w (a.eval (.tmp 25)) (((1:Int):Rat)-f1):=h.has 2 (by omega) (hall 2 (by omega))
 obtain⟨bn,eb,hb1,hb2,hb3⟩:zik B w (a.eval (.tmp 7)):=h.has 3 (by omega) (hall 3 (by omega))
 have cl':=cl
 obtain⟨x',y',p',ev,-⟩:=cl.agg
 rw[ev] at cl'
 have ea:=h.puts hT (fun i=>match i with
  | 0=>.agg #[.bool ws,.int .u64 wx,.int .u64 0,.pointer none]
  | 1=>.agg #[.bool s1,.int .u64 x1,.int .u64 y1,.pointer p1]
  | 2=>.agg #[.bool (decide ((((1:Int):Rat)-f1).num<0)),.int .u64 x',.int .u64 y',.pointer p']
  | _=>.pointer (some ⟨bn,0,none⟩)) (fun i hi=>by
  have hc:=h.has i hi (hall i hi)
  have:i=0∨i=1∨i=2∨i=3:=by omega
  rcases this with rfl|rfl|rfl|rfl
  all_goals first | exact ev | exact eb | exact hc|rfl)
 exact oo (zbv a w _ _ _ _ _ bn _ x' y' p' eb ev hb2 hb3) (hK _ _ ⟨w,bn,_,x',y',p',ea,rfl,hdr h.mem,hb1,hb2,hb3,cl'⟩))
 ·rintro a w ⟨w1,bn,s',x',y',p',rfl,rfl,h1,h2,h3,h4,h5⟩
  exact hQ  w1 bn s' x' y' p' h1 h2 h3 h4 h5)
def qjm:Oper:=⟨some 39,.load 27 (.tmp 9),27, "claims.go:107",#[],none⟩
def qjl:Oper:=⟨some 40,.load 27 (.tmp 11),27, "claims.go:107",#[],none⟩
def qjk:Oper:=⟨some 41,.move (.tmp 10),3, "claims.go:107",#[],none⟩
def qjj:Oper:=⟨some 42,.call { callee:=.value (.func 79),args:=#[.tmp 41],argTypes:=#[3] },27, "claims.go:107",#[⟨2,.data⟩],none⟩
def qji:Oper:=⟨some 43,.call { callee:=.value (.func 89),args:=#[.tmp 40,.tmp 42],argTypes:=#[27,27] },27, "claims.go:107",#[⟨1,.data⟩,⟨3,.data⟩,⟨3,.chain⟩],none⟩
def qjh:Oper:=⟨some 44,.call { callee:=.value (.func 113),args:=#[.tmp 39,.tmp 43],argTypes:=#[27,27] },27, "claims.go:107",#[⟨0,.data⟩,⟨4,.data⟩,⟨4,.chain⟩],none⟩
def qjg:Oper:=⟨none,.store 27 (.tmp 9) (.tmp 44),0, "claims.go:107",#[⟨5,.data⟩,⟨5,.chain⟩,⟨0,.phase⟩,⟨1,.phase⟩,⟨2,.phase⟩,⟨3,.phase⟩,⟨4,.phase⟩,⟨5,.phase⟩],none⟩
def zhl:Array Oper:=#[qjm,qjl,qjk,qjj,qji,qjh,qjg]
def qjf (s1:Bool) (x1 y1:Int) (p1:Option Addr) (s2:Bool) (x2 y2:Int) (p2:Option Addr) (k:Int) (ws:Bool) (wx:Int) (f1 f2:Rat) (i:Nat) (w:World) (v:Value):Prop:=match i with
 | 0=>v=.agg #[.bool s1,.int .u64 x1,.int .u64 y1,.pointer p1]
 | 1=>v=.agg #[.bool s2,.int .u64 x2,.int .u64 y2,.pointer p2]
 | 2=>v=.int .i64 k
 | 3=>v=.agg #[.bool ws,.int .u64 wx,.int .u64 0,.pointer none]
 | 4=>aq w v (f2*((k:Int):Rat))
 | _=>aq w v (f1+f2*((k:Int):Rat))
theorem zeq (id l0 n0:Nat) (Q:Exit→Act→World→Prop) (base:Act) (W0:World) (s1:Bool) (x1 y1:Int) (p1:Option Addr) (s2:Bool) (x2 y2:Int) (p2:Option Addr) (k:Int) (ws:Bool) (wx:Int) (f1 f2:Rat) (g9 g11:Nat)
   (hs:44<base.tmps.size) (e9:base.eval (.tmp 9)=.pointer (some ⟨g9,0,none⟩)) (e11:base.eval (.tmp 11)=.pointer (some ⟨g11,0,none⟩)) (e10:base.eval (.tmp 10)=.int .i64 k)
   (c1:P4 W0 g9 s1 x1 y1 p1) (fz:∀ j,W0.frozen? ⟨g9,j,none⟩=false) (c2:P4 W0 g11 s2 x2 y2 p2)
   (WH:∀ w,Calls prog 79 #[.int .i64 k] w fun e w'=>e=.returned (.agg #[.bool ws,.int .u64 wx,.int .u64 0,.pointer none])∧But [] w w')
   (MU:∀ w,But [] W0 w→Calls prog 89 #[.agg #[.bool s2,.int .u64 x2,.int .u64 y2,.pointer p2],.agg #[.bool ws,.int .u64 wx,.int .u64 0,.pointer none]] w fun e w'=>∃ v,e=.returned v∧aq w' v (f2*((k:Int):Rat))∧But [] w w')
   (AD:∀ w v,But [] W0 w→aq w v (f2*((k:Int):Rat))→Calls prog 113 #[.agg #[.bool s1,.int .u64 x1,.int .u64 y1,.pointer p1],v] w fun e w'=>∃ v,e=.returned v∧aq w' v (f1+f2*((k:Int):Rat))∧But [] w w')
   (hQ:∀ a w1 s' x' y' p',But [] W0 w1→aq w1 (.agg #[.bool s',.int .u64 x',.int .u64 y',.pointer p']) (f1+f2*((k:Int):Rat))→Q .normal a (qw w1 g9 s' x' y' p')) :
   (Code.region id zhl true).wpIn (Fence.wide.inRound l0) n0 prog Q base W0:=by(
 have lg:g9<W0.heap.size:=ai c1.1
 have hdr:∀ {w},But [] W0.drew w→But [] W0 w:=fun h=>(But.refl _ _).drew.trans' h
 refine zpu (by kernel_rfl) (zgf (by kernel_rfl)) (ou (by kernel_rfl))
  (qjf s1 x1 y1 p1 s2 x2 y2 p2 k ws wx f1 f2) (fun i=>39+i) 6 rfl (fun i j _ _ e=>by omega) (fun i hi=>by omega) ?_ (fun i hi=>?_) ?_
  (fun w=>∃ w1 s' x' y' p',w=qw w1 g9 s' x' y' p'∧But [] W0 w1∧aq w1 (.agg #[.bool s',.int .u64 x',.int .u64 y',.pointer p']) (f1+f2*((k:Int):Rat))) ?_ ?_
 ·intro i w w' v hi h hb
  have:i=0∨i=1∨i=2∨i=3∨i=4∨i=5:=by omega
  rcases this with rfl|rfl|rfl|rfl|rfl|rfl
  all_goals first | exact h | exact aq.but h hb
 ·have hh:=zed (ops:=zhl) (ps:=[(6,0),(6,1),(6,2),(6,3),(6,4),(6,5)]) (by kernel_rfl) 6 i (by
   have:i=0∨i=1∨i=2∨i=3∨i=4∨i=5:=by omega
   rcases this with rfl|rfl|rfl|rfl|rfl|rfl <;> simp)
  exact hh
 ·(
 intro i o a w K hi ho hH he hdep hk
 have:i=0∨i=1∨i=2∨i=3∨i=4∨i=5:=by omega
 have hD:=mh (ps:=[(3,2),(4,1),(4,3),(5,0),(5,4)]) (by kernel_rfl) ho (fun j=>qjf s1 x1 y1 p1 s2 x2 y2 p2 k ws wx f1 f2 j w (a.eval (.tmp (39+j)))) hdep
 have e9':=(he 9 (fun j _=>by omega)).trans e9
 have e11':=(he 11 (fun j _=>by omega)).trans e11
 have e10':=(he 10 (fun j _=>by omega)).trans e10
 rcases this with rfl|rfl|rfl|rfl|rfl|rfl
 ·obtain rfl:=so (show zhl[0]? =some qjm from rfl) ho
  exact al (aw a w _ _ _ _ _ _ g9 0 _ _ _ _ e9' (c1.but (hdr hH) (by simp))) (hk _ _ (But.refl _ _) rfl)
 ·obtain rfl:=so (show zhl[1]? =some qjl from rfl) ho
  exact al (aw a w _ _ _ _ _ _ g11 0 _ _ _ _ e11' (c2.but (hdr hH) (by simp))) (hk _ _ (But.refl _ _) rfl)
 ·obtain rfl:=so (show zhl[2]? =some qjk from rfl) ho
  exact al (br a w _ _ _ _ _ _ _ e10') (hk _ _ (But.refl _ _) rfl)
 ·obtain rfl:=so (show zhl[3]? =some qjj from rfl) ho
  exact ay (zmc a w _ _ _ _ _ _ _ (hD 2 (by simp))) (R:=fun w' v=>But [] w w'∧v=_) ((WH w).mono fun e w' ⟨he,hb⟩=>⟨_,he,hb,rfl⟩) (fun v w' hv=>hk v w' hv.1 hv.2)
 ·obtain rfl:=so (show zhl[4]? =some qji from rfl) ho
  exact ay (zsb a w _ _ _ _ _ _ _ _ _ (hD 1 (by simp)) (hD 3 (by simp))) (R:=fun w' v=>aq w' v (f2*((k:Int):Rat))∧But [] w w') (MU w (hdr hH)) (fun v w' hv=>hk v w' hv.2 hv.1)
 ·obtain rfl:=so (show zhl[5]? =some qjh from rfl) ho
  exact ay (zhg a w _ _ _ _ _ _ _ _ _ (hD 0 (by simp)) rfl) (R:=fun w' v=>aq w' v (f1+f2*((k:Int):Rat))∧But [] w w') (AD w _ (hdr hH) (hD 4 (by simp))) (fun v w' hv=>hk v w' hv.2 hv.1))
 ·(
 intro o a w K ho hb he hall hK
 have e9':=(he 9 (fun j _=>by omega)).trans e9
 obtain rfl:=so (show zhl[6]? =some qjg from rfl) ho
 have h7:aq w (a.eval (.tmp 44)) (f1+f2*((k:Int):Rat)):=hall 5 (by omega)
 have h7':=h7
 obtain⟨x',y',p',ev,-⟩:=h7.agg
 rw[ev] at h7'
 exact oo (zbv a w _ _ _ _ _ g9 _ x' y' p' e9' ev (c1.but (hdr hb) (by simp)) (fun j=>((hdr hb).frozen (p:=⟨g9,j,none⟩) lg (by simp)).trans (fz j))) (hK _ _ ⟨w,_,x',y',p',rfl,hdr hb,h7'⟩))
 ·rintro a w ⟨w1,s',x',y',p',rfl,h1,h2⟩
  exact hQ a w1 s' x' y' p' h1 h2)
end Go.Proofs.YtagmkkiagjmimaaGreatDoor
