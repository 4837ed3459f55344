import Derived.Test.YtagmkkiagjmimaaGreatDoorRRUc
namespace Go.Proofs.YtagmkkiagjmimaaGreatDoor
open Go.Proofs.Tryz
open Go.RowKit
set_option maxHeartbeats 64000000
set_option maxRecDepth 100000
set_option linter.unusedVariables false
def qWI (st inc ys:Int) (fs:List Rat) (ev1:Value) (f1:Rat) (w:World):Prop:=∀ W v,But [] w W→aq W v fs→Calls prog 17 #[.int .i64 st,.int .i64 inc,v,.int .i64 ys] W fun e w'=>∃ t:FZ,e=.returned (.tuple #[.agg #[.bool t.1,.int .u64 t.2.1,.int .u64 t.2.2.1,.pointer t.2.2.2],ev1])∧am w' (.agg #[.bool t.1,.int .u64 t.2.1,.int .u64 t.2.2.1,.pointer t.2.2.2]) f1∧Len f1 10000∧But [] W w'
theorem qZS {P Q:Prop} {a b c d:World} (h:P∧Q∧But [] a c∧But [] b c) (k:But [] c d):P∧Q∧But [] a d∧But [] b d:=⟨h.1,h.2.1,h.2.2.1.trans' k,h.2.2.2.trans' k⟩
theorem qkv (a:Act) (w:World) (d t0:Nat) (u:TypeId) (ps:String) (ed:Array Edge) (gd:Option (Nat × Bool)) (z0:Value) (h0:a.eval (.tmp t0)=z0) :
  (execOp a.eval { dst:=some d,op:=Op.call { callee:=Callee.value (Operand.func 18),args:=#[Operand.tmp t0],argTypes:=#[41] },type:=u,pos:=ps,after:=ed,guard:=gd }).run prog w=.ok (.enter 18 #[z0]) w:=by(
unfold execOp
go_simp
rw[← h0]
simp[Act.eval])
theorem qku (a:Act) (w:World) (d t:Nat) (u:TypeId) (ps:String) (ed:Array Edge) (gd:Option (Nat × Bool)) (b o:Nat) (v0 v1:Value) (h1:a.eval (.tmp t)=.pointer (some ⟨b,o,none⟩)) (c0:w.cell? ⟨b,o,none⟩=some v0) (c1:w.cell? ⟨b,o+1,none⟩=some v1) :
  (execOp a.eval { dst:=some d,op:=Op.load 23 (.tmp t),type:=u,pos:=ps,after:=ed,guard:=gd }).run prog w=.ok (.value (.agg #[v0,v1])) w:=by(
unfold execOp
simp only[h1]
go_simp)
theorem qkt (a:Act) (w:World) (d t0:Nat) (u:TypeId) (ps:String) (ed:Array Edge) (gd:Option (Nat × Bool)) (z0:Value) (h0:a.eval (.tmp t0)=z0) :
  (execOp a.eval { dst:=some d,op:=Op.call { callee:=Callee.value (Operand.func 9),args:=#[Operand.tmp t0],argTypes:=#[23] },type:=u,pos:=ps,after:=ed,guard:=gd }).run prog w=.ok (.enter 9 #[z0]) w:=by(
unfold execOp
go_simp
rw[← h0]
simp[Act.eval])
theorem qks (a:Act) (w:World) (d t0 t1 t2:Nat) (u:TypeId) (ps:String) (ed:Array Edge) (gd:Option (Nat × Bool)) (z0 z1 z2:Value) (h0:a.eval (.tmp t0)=z0) (h1:a.eval (.tmp t1)=z1) (h2:a.eval (.tmp t2)=z2) :
  (execOp a.eval { dst:=some d,op:=Op.call { callee:=Callee.value (Operand.func 23),args:=#[Operand.tmp t0,Operand.tmp t1,Operand.tmp t2],argTypes:=#[3,47,27] },type:=u,pos:=ps,after:=ed,guard:=gd }).run prog w=.ok (.enter 23 #[z0,z1,z2]) w:=by(
unfold execOp
go_simp
rw[← h0,← h1,← h2]
simp[Act.eval])
def qmj:Oper:=⟨some 82,.move (.tmp 1),3, "law.go:858",#[],none⟩
def qmi:Oper:=⟨some 83,.move (.tmp 2),41, "law.go:858",#[],none⟩
def qmh:Oper:=⟨some 84,.call { callee:=.value (.func 18),args:=#[.tmp 83],argTypes:=#[41] },47, "law.go:858",#[⟨1,.data⟩],none⟩
def qmg:Oper:=⟨some 85,.load 23 (.tmp 9),23, "law.go:858",#[],none⟩
def qmf:Oper:=⟨some 86,.call { callee:=.value (.func 9),args:=#[.tmp 85],argTypes:=#[23] },27, "law.go:858",#[⟨3,.data⟩,⟨2,.chain⟩],none⟩
def qme:Oper:=⟨some 87,.call { callee:=.value (.func 23),args:=#[.tmp 82,.tmp 84,.tmp 86],argTypes:=#[3,47,27] },53, "law.go:858",#[⟨0,.data⟩,⟨2,.data⟩,⟨4,.data⟩,⟨4,.chain⟩],none⟩
def qmd:Oper:=⟨some 81,.move (.tmp 87),53, "law.go:858",#[⟨5,.data⟩],none⟩
def qmc:Oper:=⟨some 88,.extract (.tmp 81) 0,4, "law.go:858",#[⟨6,.data⟩],none⟩
def qmb:Oper:=⟨some 89,.extract (.tmp 81) 1,29, "law.go:858",#[⟨6,.data⟩,{ on:=9,ground:=.gcOnly Departure.lateStores }],none⟩
def qma:Oper:=⟨some 16,.assign (.tmp 88),4, "law.go:858",#[⟨7,.data⟩,⟨5,.chain⟩,⟨0,.phase⟩,⟨1,.phase⟩,⟨2,.phase⟩,⟨3,.phase⟩,⟨4,.phase⟩,⟨5,.phase⟩,⟨6,.phase⟩,⟨7,.phase⟩,{ on:=8,ground:=.textOnly Departure.lateStores }],none⟩
def qgf:Oper:=⟨some 14,.assign (.tmp 89),29, "law.go:858",#[⟨8,.data⟩,⟨9,.chain⟩,⟨0,.phase⟩,⟨1,.phase⟩,⟨2,.phase⟩,⟨3,.phase⟩,⟨4,.phase⟩,⟨5,.phase⟩,⟨6,.phase⟩,⟨7,.phase⟩,⟨8,.phase⟩,⟨9,.phase⟩],none⟩
def zdl:Array Oper:=#[qmj,qmi,qmh,qmg,qmf,qme,qmd,qmc,qmb,qma,qgf]
structure zhw (W0:World) (g9:Nat) (inc:Int) (vq:Value) (fs:List Rat) (bk:Bool) (ev:Value) (u5:Int) (v5:Int) (s1:Bool) (x1:Int) (y1:Int) (p1:Option Addr) (vl:Value) (b2:Bool) (w:World):Prop where
 mem:But [] W0 w
 f2:b2=true→aq w vl fs
theorem zhw.but {W0:World} {g9:Nat} {inc:Int} {vq:Value} {fs:List Rat} {bk:Bool} {ev:Value} {u5:Int} {v5:Int} {s1:Bool} {x1:Int} {y1:Int} {p1:Option Addr} {vl:Value} {b2:Bool} {w w':World} (h:zhw W0 g9 inc vq fs bk ev u5 v5 s1 x1 y1 p1 vl b2 w) (hb:But [] w w'):zhw W0 g9 inc vq fs bk ev u5 v5 s1 x1 y1 p1 vl b2 w' :=
 { mem:=h.mem.trans' hb,f2:=fun e=>(h.f2 e).but hb }
theorem zhw.s2 {W0:World} {g9:Nat} {inc:Int} {vq:Value} {fs:List Rat} {bk:Bool} {ev:Value} {u5:Int} {v5:Int} {s1:Bool} {x1:Int} {y1:Int} {p1:Option Addr} {vl:Value} {b2:Bool} {w:World} (h:zhw W0 g9 inc vq fs bk ev u5 v5 s1 x1 y1 p1 vl b2 w) (vl':Value) (hf:aq w vl' fs):zhw W0 g9 inc vq fs bk ev u5 v5 s1 x1 y1 p1 vl' true w :=
 { mem:=h.mem,f2:=fun _=>hf }
def zfe (i:Nat):Nat:=match i with
 | 0=>82
 | 1=>83
 | 2=>84
 | 3=>85
 | 4=>86
 | 5=>87
 | 6=>81
 | 7=>88
 | 8=>89
 | 9=>16
 | _=>14
def znd (i:Nat):Bool:=match i with
 | _=>true
def zzy (g9:Nat) (inc:Int) (vq:Value) (fs:List Rat) (bk:Bool) (ev:Value) (u5:Int) (v5:Int) (s1:Bool) (x1:Int) (y1:Int) (p1:Option Addr) (vl:Value) (i:Nat):Value:=match i with
 | 0=>.int .i64 inc
 | 1=>vq
 | 2=>vl
 | 3=>.agg #[.int .i64 u5,.int .i64 v5]
 | 4=>.agg #[.bool s1,.int .u64 x1,.int .u64 y1,.pointer p1]
 | 5=>.tuple #[.bool bk,ev]
 | 6=>.tuple #[.bool bk,ev]
 | 7=>.bool bk
 | 8=>ev
 | 9=>.bool bk
 | _=>ev
theorem qge:zei zdl [(2,1),(4,2),(4,3),(5,0),(5,2),(5,4),(6,5),(7,6),(8,6),(9,0),(9,1),(9,2),(9,3),(9,4),(9,5),(9,6),(9,7),(10,0),(10,1),(10,2),(10,3),(10,4),(10,5),(10,6),(10,7),(10,8),(10,9)]=true:=by kernel_rfl
theorem qcb:∀ i j,i<11→j<11→znd i=true→znd j=true→zfe i=zfe j→i=j:=fun i j hi hj=>(by decide:∀ i,i<11→∀ j,j<11→znd i=true→znd j=true→zfe i=zfe j→i=j) i hi j hj
theorem zgl (id:Nat) (Q:Exit→Act→World→Prop) (base:Act) (W0:World) (g9:Nat) (inc:Int) (vq:Value) (fs:List Rat) (bk:Bool) (ev:Value) (u5:Int) (v5:Int) (s1:Bool) (x1:Int) (y1:Int) (p1:Option Addr) (hs:89<base.tmps.size) (e1:base.eval (.tmp 1)=.int .i64 inc) (e2:base.eval (.tmp 2)=vq) (e9:base.eval (.tmp 9)=.pointer (some ⟨g9,0,none⟩))
  (ca:W0.cell? ⟨g9,0,none⟩=some (.int .i64 u5)) (cb:W0.cell? ⟨g9,0+1,none⟩=some (.int .i64 v5)) (PL:∀ w,But [] W0 w→Calls prog 18 #[vq] w fun e w'=>∃ v,e=.returned v∧aq w' v fs∧But [] w w') (PF:∀ w,Calls prog 9 #[.agg #[.int .i64 u5,.int .i64 v5]] w fun e w'=>e=.returned (.agg #[.bool s1,.int .u64 x1,.int .u64 y1,.pointer p1])∧But [] w w') (SA:∀ w v,But [] W0 w→aq w v fs→Calls prog 23 #[.int .i64 inc,v,.agg #[.bool s1,.int .u64 x1,.int .u64 y1,.pointer p1]] w fun e w'=>e=.returned (.tuple #[.bool bk,ev])∧But [] w w')
  (hQ:∀ (vl:Value) w1,zhw W0 g9 inc vq fs bk ev u5 v5 s1 x1 y1 p1 vl true w1→Q .normal (bi base [(82,.int .i64 inc),(83,vq),(84,vl),(85,.agg #[.int .i64 u5,.int .i64 v5]),(86,.agg #[.bool s1,.int .u64 x1,.int .u64 y1,.pointer p1]),(87,.tuple #[.bool bk,ev]),(81,.tuple #[.bool bk,ev]),(88,.bool bk),(89,ev),(16,.bool bk),(14,ev)]) w1) :
  (Code.region id zdl true).wp prog Q base W0:=by(
have hT:∀ i,i<11→znd i=true→zfe i<base.tmps.size:=fun i hi _=>by
 have h:zfe i≤89:=by revert i;decide
 omega
refine zms (by kernel_rfl) (dx (by kernel_rfl)) (zlv (by kernel_rfl)) (fun (N:(Value)) d w=>zhw W0 g9 inc vq fs bk ev u5 v5 s1 x1 y1 p1 N (d 2) w) (fun N=>zzy g9 inc vq fs bk ev u5 v5 s1 x1 y1 p1 N) zfe znd 11 (by kernel_rfl) qcb hT (undef) { mem:=(But.refl _ _).drew,f2:=fun h=>by simp at h } ?_ ?_
·(
intro N d i o a w K hi ho hdi hcl hH he hdep hK
have hD:=zso qge ho (fun j=>d j=true∧(znd j=true→a.eval (.tmp (zfe j))=zzy g9 inc vq fs bk ev u5 v5 s1 x1 y1 p1 N j)) hdep
have e1':=(he 1 (fun j hj _ _=>(by decide:∀ j,j<11→(1:Nat)≠zfe j) j hj)).trans e1
have e2':=(he 2 (fun j hj _ _=>(by decide:∀ j,j<11→(2:Nat)≠zfe j) j hj)).trans e2
have e9':=(he 9 (fun j hj _ _=>(by decide:∀ j,j<11→(9:Nat)≠zfe j) j hj)).trans e9
have:i=0∨i=1∨i=2∨i=3∨i=4∨i=5∨i=6∨i=7∨i=8∨i=9∨i=10:=by omega
rcases this with rfl|rfl|rfl|rfl|rfl|rfl|rfl|rfl|rfl|rfl|rfl
·obtain rfl:=so (show zdl[0]? =some qmj from rfl) ho
 exact al (bz a w _ _ _ _ _ _ _ e1') (hK N _ _ (fun _=>rfl) (fun _ _ _ _=>rfl) hH)
·obtain rfl:=so (show zdl[1]? =some qmi from rfl) ho
 exact al (bz a w _ _ _ _ _ _ _ e2') (hK N _ _ (fun _=>rfl) (fun _ _ _ _=>rfl) hH)
·(
obtain rfl:=so (show zdl[2]? =some qmh from rfl) ho
have hP:=hH
have hW:=hP.mem
exact ax (qkv a w _ _ _ _ _ _ _ ((hD 1 (by simp)).2 rfl)) (R:=fun w' u=>∃ v,u=v∧(aq w' v fs)∧But [] w w') ((PL w hW).mono fun e w' ⟨v,he,hf,hb⟩=>⟨_,he,v,rfl,hf,hb⟩) (fun u w' ⟨v,hu,hf,hb⟩=>hK (v) _ _ (fun _=>hu) (fun j hj _ hdj=>by
 have:j=0∨j=1∨j=2∨j=3∨j=4∨j=5∨j=6∨j=7∨j=8∨j=9∨j=10:=by omega
 rcases this with rfl|rfl|rfl|rfl|rfl|rfl|rfl|rfl|rfl|rfl|rfl <;> first|rfl | exact absurd (hdi.symm.trans hdj) (by simp)) ((hP.but hb).s2 v hf)))
·obtain rfl:=so (show zdl[3]? =some qmg from rfl) ho
 have hP:=hH
 have hW:=hP.mem
 exact al (qku a w _ _ _ _ _ _ g9 (0) _ _ e9' (hW.ag ca (by simp)) (hW.ag cb (by simp))) (hK N _ _ (fun _=>rfl) (fun _ _ _ _=>rfl) hH)
·obtain rfl:=so (show zdl[4]? =some qmf from rfl) ho
 have hP:=hH
 have hW:=hP.mem
 exact ax (qkt a w _ _ _ _ _ _ _ ((hD 3 (by simp)).2 rfl)) (R:=fun w' v=>v=zzy g9 inc vq fs bk ev u5 v5 s1 x1 y1 p1 N 4∧But [] w w') ((PF w).mono fun e w' ⟨he,hb⟩=>⟨_,he,rfl,hb⟩) (fun v w' hv=>hK N _ _ (fun _=>hv.1) (fun _ _ _ _=>rfl) (hP.but hv.2))
·(
obtain rfl:=so (show zdl[5]? =some qme from rfl) ho
have hP:=hH
have hW:=hP.mem
have t2:d 2=true:=(hD 2 (by simp)).1
exact ax (qks a w _ _ _ _ _ _ _ _ _ _ _ ((hD 0 (by simp)).2 rfl) ((hD 2 (by simp)).2 rfl) ((hD 4 (by simp)).2 rfl)) (R:=fun w' v=>v=zzy g9 inc vq fs bk ev u5 v5 s1 x1 y1 p1 N 5∧But [] w w') ((SA w N hW (hP.f2 t2)).mono fun e w' ⟨he,hb⟩=>⟨_,he,rfl,hb⟩) (fun v w' hv=>hK N _ _ (fun _=>hv.1) (fun _ _ _ _=>rfl) (hP.but hv.2)))
·obtain rfl:=so (show zdl[6]? =some qmd from rfl) ho
 exact al (bz a w _ _ _ _ _ _ _ ((hD 5 (by simp)).2 rfl)) (hK N _ _ (fun _=>rfl) (fun _ _ _ _=>rfl) hH)
·obtain rfl:=so (show zdl[7]? =some qmc from rfl) ho
 exact al (zlp a w _ _ _ _ _ _ _ _ _ ((hD 6 (by simp)).2 rfl) rfl) (hK N _ _ (fun _=>rfl) (fun _ _ _ _=>rfl) hH)
·obtain rfl:=so (show zdl[8]? =some qmb from rfl) ho
 exact al (zlp a w _ _ _ _ _ _ _ _ _ ((hD 6 (by simp)).2 rfl) rfl) (hK N _ _ (fun _=>rfl) (fun _ _ _ _=>rfl) hH)
·obtain rfl:=so (show zdl[9]? =some qma from rfl) ho
 exact al (zrf a w _ _ _ _ _ _ _ ((hD 7 (by simp)).2 rfl)) (hK N _ _ (fun _=>rfl) (fun _ _ _ _=>rfl) hH)
·obtain rfl:=so (show zdl[10]? =some qgf from rfl) ho
 exact al (zrf a w _ _ _ _ _ _ _ ((hD 8 (by simp)).2 rfl)) (hK N _ _ (fun _=>rfl) (fun _ _ _ _=>rfl) hH))
·intro N d w hd hH
 have hP:zhw W0 g9 inc vq fs bk ev u5 v5 s1 x1 y1 p1 N (d 2) w:=hH
 rw[hd 2 (by omega)] at hP
 exact hQ N w hP)
theorem qbr (st inc ys u5 v5:Int) (a:Option Addr) (n c:Nat) (w:World) (h:(12<n∧n≤201)∨¬ (12<n∧n≤201)∧(230<n∨n≤230∧6<ys∧ys≤16)) :
  Calls prog 4 #[.int .i64 st,.int .i64 inc,.slice a n c,.int .i64 ys,.agg #[.int .i64 u5,.int .i64 v5]] w fun e w'=>e=.returned (.bool true)∧But [] w w':=by(
have hx:(12<n∧n≤201)∨(230<n∧12<n∧¬ n≤201)∨(12<n∧¬ n≤201∧¬ 230<n∧ys > 6∧ys≤16)∨(¬ 12<n∧¬ 230<n∧ys > 6∧ys≤16):=by omega
clear h
rcases hx with ⟨h1,h2⟩|⟨h1,h2,h3⟩|⟨h1,h2,h3,h4,h5⟩|⟨h1,h2,h3,h4⟩
all_goals(
go_enter func4,ntmps4
go_wp2
go_ret
exact⟨rfl,(But.refl _ _).alloc _⟩))
theorem qft (st inc ys u5 v5:Int) (a:Option Addr) (n c:Nat) (fs:List Rat) (z1 z2:Int) (ev1 ev2:Value) (f1 r:Rat) (bk:Bool) (s5:Bool) (x5 y5:Int) (q5:Option Addr) (w:World)
  (hg:n≤12∨201<n∧n≤230) (hys:ys≤6∨16<ys) (hz1:z1=0∨(z1==0)=false) (hz2:z2=0∨(z2==0)=false)
  (LI:∀ W,But [] w W→Calls prog 15 #[.slice a n c] W fun e w'=>∃ v,e=.returned v∧xw w' v fs∧But [] W w')
  (RC1:∀ W v,xw W v fs→Calls prog 16 #[.int .i64 st,.int .i64 inc,v,.int .i64 ys] W fun e w'=>e=.returned (.int .i64 z1)∧But [] W w')
  (PL:∀ W,But [] w W→Calls prog 18 #[.slice a n c] W fun e w'=>∃ v,e=.returned v∧aq w' v fs∧But [] W w')
  (WI:qWI st inc ys fs ev1 f1 w)
  (I0:∀ W,Calls prog 19 #[.int .i64 0] W fun e w'=>∃ b,e=.returned (.pointer (some ⟨b,0,none⟩))∧zi w' b (((0:Int):Rat))∧But [] W w')
  (RW:z1=0→∀ W v,xw W v fs→Calls prog 20 #[.int .i64 st,.int .i64 inc,v,.int .i64 ys] W fun e w'=>∃ b,e=.returned (.pointer (some ⟨b,0,none⟩))∧zi w' b f1∧But [] W w')
  (E1:∀ W v x,But [] w W→am W v f1→Len f1 10000→(z1=0→zi W x f1)→Calls prog 21 #[v,ev1,.pointer (some ⟨x,0,none⟩),.int .i64 z1] W fun e w'=>e=.returned (.bool true)∧But [] W w')
  (RC2:∀ W v,xw W v fs→Calls prog 16 #[.int .i64 0,.int .i64 inc,v,.int .i64 0] W fun e w'=>e=.returned (.int .i64 z2)∧But [] W w')
  (RO:∀ W,Calls prog 14 #[.agg #[.int .i64 u5,.int .i64 v5]] W fun e w'=>∃ b,e=.returned (.pointer (some ⟨b,0,none⟩))∧zi w' b r∧But [] W w')
  (I1:∀ W,Calls prog 19 #[.int .i64 1] W fun e w'=>∃ b,e=.returned (.pointer (some ⟨b,0,none⟩))∧zi w' b (((1:Int):Rat))∧But [] W w')
  (CM:∀ W x y,zi W x r→zi W y (((1:Int):Rat))→Calls prog 22 #[.pointer (some ⟨x,0,none⟩),.pointer (some ⟨y,0,none⟩)] W fun e w'=>∃ c,e=.returned (.int .i64 c)∧(c<0↔r<((1:Int):Rat))∧But [] W w')
  (PF:∀ W,Calls prog 9 #[.agg #[.int .i64 u5,.int .i64 v5]] W fun e w'=>e=.returned (.agg #[.bool s5,.int .u64 x5,.int .u64 y5,.pointer q5])∧But [] W w')
  (SA:∀ W v,But [] w W→aq W v fs→Calls prog 23 #[.int .i64 inc,v,.agg #[.bool s5,.int .u64 x5,.int .u64 y5,.pointer q5]] W fun e w'=>e=.returned (.tuple #[.bool bk,ev2])∧But [] W w')
  (z3:Int) (hz3:z3=if z2=0∧r<((1:Int):Rat) then 2 else z2)
  (TE:∀ W,But [] w W→Calls prog 10 #[ev2] W fun e w'=>e=.returned (.int .i64 z3)∧But [] W w')
  (RS:z3=0→∀ W v x,xw W v fs→zi W x r→Calls prog 24 #[.int .i64 inc,v,.pointer (some ⟨x,0,none⟩)] W fun e w'=>e=.returned (.bool bk)∧But [] W w')
  (BK:z3≠0→bk=false) :
  Calls prog 4 #[.int .i64 st,.int .i64 inc,.slice a n c,.int .i64 ys,.agg #[.int .i64 u5,.int .i64 v5]] w fun e w'=>e=.returned (.bool true)∧But [] w w':=by(
have LIH:=af LI
have RC1H:=af RC1
have PLH:=af PL
have WIH:=af WI
have I0H:=af I0
have RWH:=af RW
have E1H:=af E1
have RC2H:=af RC2
have ROH:=af RO
have I1H:=af I1
have CMH:=af CM
have PFH:=af PF
have SAH:=af SA
have TEH:=af TE
have RSH:=af RS
have BKH:=af BK
have HZ1:=af hz1
have HZ2:=af hz2
have HZ3:=af hz3
clear LI RC1 PL WI I0 RW E1 RC2 RO I1 CM PF SA TE RS BK hz1 hz2 hz3
obtain⟨W1,hW1⟩:∃ W1,W1=w.alloc (.cells #[.int .i64 u5,.int .i64 v5] 23):=⟨_,rfl⟩
obtain⟨g9,hg9⟩:∃ g,g=w.heap.size:=⟨_,rfl⟩
have S0:Hid (W1.cell? ⟨g9,0,none⟩=some (.int .i64 u5)∧W1.cell? ⟨g9,0+1,none⟩=some (.int .i64 v5)∧But [] w W1):=by
 show _∧_∧_
 rw[hW1,hg9]
 exact⟨by simp,by simp,(But.refl _ _).alloc _⟩
have HW1:=af hW1
clear hW1
go_enter func4,ntmps4
have hgg:(n≤12∧¬ 12<n∧¬ 230<n)∨(12<n∧¬ n≤201∧¬ 230<n):=by omega
have hyy:¬ ys > 6∨(ys > 6∧¬ ys≤16):=by omega
have ALL:Hid True:=True.intro
clear ALL hg hys
rcases hgg with ⟨k1,k2,k3⟩|⟨k1,k2,k3⟩
all_goals(
rcases hyy with k4|⟨k4,k5⟩
all_goals(
go_wp2_with fail
rw[← ae HW1,← hg9]
clear HW1 hg9
refine (ae LIH _ (ae S0).2.2).mono ?_
rintro e w1 ⟨vr,rfl,hr,hb1⟩
have S1:=af (And.intro ((ae S0).1) (And.intro (ae S0).2.1 (And.intro hb1 ((ae S0).2.2.trans' hb1))))
have R1:=af hr
clear hr hb1 S0 LIH
go_wp2_with fail
refine (ae RC1H _ _ (ae R1)).mono ?_
rintro e w2 ⟨rfl,hb2⟩
have R2:=af ((ae R1).but hb2)
have S2:=af (qZS (ae S1) hb2)
clear hb2 S1 R1 RC1H
go_wp2_with fail
refine (ae PLH _ (ae S2).2.2.2).mono ?_
rintro e w3 ⟨v3,rfl,h3,hb3⟩
have D3:=af (ae WIH _ _ ((ae S2).2.2.2.trans' hb3) h3)
have R3:=af ((ae R2).but hb3)
have S3:=af (qZS (ae S2) hb3)
clear h3 hb3 S2 R2 WIH
go_wp2_with fail
refine (ae D3).mono ?_
rintro e w4 ⟨⟨s1,x1,y1,p1⟩,rfl,hf,hl1,hb4⟩
have HL1:=af hl1
clear hl1
dsimp only
have bA:But [] w4 (w4.alloc (.cells #[.bool s1,.int .u64 x1,.int .u64 y1,.pointer p1] 27)):=(But.refl _ _).alloc _
have K4:Hid (P4 (w4.alloc (.cells #[.bool s1,.int .u64 x1,.int .u64 y1,.pointer p1] 27)) w4.heap.size s1 x1 y1 p1):=⟨by simp,by simp,by simp,by simp⟩
have R4:=af ((ae R3).but (hb4.trans' bA))
have F4:=af (hf.but bA)
have S4:=af (qZS (ae S3) (hb4.trans' bA))
clear hf hb4 bA S3 R3 D3
go_wp2_with fail
generalize w4.heap.size=g13 at *
generalize w4.alloc (.cells #[.bool s1,.int .u64 x1,.int .u64 y1,.pointer p1] 27)=V4 at *
refine (ae I0H _).mono ?_
rintro e w5 ⟨b5,rfl,h5,hb5⟩
have R5:=af ((ae R4).but hb5)
have F5:=af ((ae F4).but hb5)
have K5:=af ((ae K4).but hb5 (by simp))
have S5:=af (qZS (ae S4) hb5)
clear h5 hb5 S4 R4 F4 K4 I0H
rcases ae HZ1 with rfl | hz1
case' inl =>(
go_wp2_with fail
refine (ae RWH (by simp) _ _ (ae R5)).mono ?_
rintro e w6 ⟨b6,rfl,h6,hb6⟩
have R6:=af ((ae R5).but hb6)
have S6:=af (qZS (ae S5) hb6)
have O6:=af (ae E1H _ _ b6 (ae S6).2.2.2 ((ae F5).but hb6) (ae HL1) (fun _=>h6))
obtain⟨m0,m1,m2,m3⟩:=(ae K5).but hb6 (by simp)
clear h6 hb6 S5 R5 F5 K5 RWH E1H)
case' inr =>(
have R6:=af (ae R5)
have S6:=af (ae S5)
have O6:=af (ae E1H _ _ b5 (ae S6).2.2.2 (ae F5) (ae HL1) (fun h=>absurd hz1 (by rw[h];decide)))
obtain⟨m0,m1,m2,m3⟩:=ae K5
clear S5 R5 F5 K5 RWH E1H)
all_goals(
go_wp2_with fail
refine (ae O6).mono ?_
rintro e w7 ⟨rfl,hb7⟩
have R7:=af ((ae R6).but hb7)
have S7:=af (qZS (ae S6) hb7)
clear hb7 S6 R6 O6 m0 m1 m2 m3
go_wp2_with fail
refine (ae RC2H _ _ (ae R7)).mono ?_
rintro e w8 ⟨rfl,hb8⟩
have R8:=af ((ae R7).but hb8)
have S8:=af (qZS (ae S7) hb8)
clear hb8 S7 R7 RC2H
rcases ae HZ2 with rfl | hz2
case' inl =>(
have q0:=(ae S8).2.2.1.ag (ae S8).1 (by simp)
have q1:=(ae S8).2.2.1.ag (ae S8).2.1 (by simp)
go_wp2_with fail
refine (ae ROH _).mono ?_
rintro e w9 ⟨b9,rfl,h9,hb9⟩
have Q9:=af (And.intro h9 hb9)
clear h9 hb9 q0 q1
go_wp2_with fail
refine (ae I1H _).mono ?_
rintro e wa ⟨ba,rfl,ha,hba⟩
have Ca:=af (ae CMH _ _ _ ((ae Q9).1.but hba) ha)
have Ba:=af ((ae Q9).2.trans' hba)
clear ha hba Q9 CMH I1H
go_wp2_with fail
refine (ae Ca).mono ?_
rintro e wb ⟨cc,rfl,hcc,hbb⟩
have Bb:=(ae Ba).trans' hbb
have Rb:=af ((ae R8).but Bb)
have Sb:=af (qZS (ae S8) Bb)
clear hbb Bb Ba Ca R8 S8
by_cases hlow:r<((1:Int):Rat)
case' pos =>(
have hneg:cc<0:=hcc.2 hlow
obtain rfl:z3=2:=by rw[ae HZ3,if_pos ⟨by simp,hlow⟩]
clear hcc hlow HZ3)
rotate_left
·(
have hneg:¬ cc<0:=fun h=>hlow (hcc.1 h)
obtain rfl:z3=0:=by rw[ae HZ3,if_neg (fun h=>hlow h.2)]
clear hcc hlow HZ3
go_wp2
refine zgl 14 _ _ _ g9 inc (.slice a n c) fs bk ev2 u5 v5 s5 x5 y5 q5 (by simp) (by simp[Act.eval]) (by simp[Act.eval]) (by simp[Act.eval]) ((ae Sb).2.2.1.ag (ae Sb).1 (by simp)) ((ae Sb).2.2.1.ag (ae Sb).2.1 (by simp)) (fun W hb=>ae PLH W ((ae Sb).2.2.2.trans' hb)) (ae PFH) (fun W v hb hv=>ae SAH W v ((ae Sb).2.2.2.trans' hb) hv) ?_
intro vl wc hP
simp only[bi,List.foldl_cons,List.foldl_nil,Act.put,List.setIfInBounds_toArray,List.set_cons_zero,List.set_cons_succ]
have Rc:=af ((ae Rb).but hP.mem)
have Sc:=af (qZS (ae Sb) hP.mem)
clear hP Rb Sb PLH PFH SAH
have q0:=(ae Sc).2.2.1.ag (ae Sc).1 (by simp)
have q1:=(ae Sc).2.2.1.ag (ae Sc).2.1 (by simp)
go_wp2_with fail
refine (ae ROH _).mono ?_
rintro e wd ⟨bd,rfl,hd,hbd⟩
have Dd:=af (ae RSH (by simp) _ _ bd ((ae Rc).but hbd) hd)
have Bd:=af ((ae Sc).2.2.2.trans' hbd)
clear hd hbd q0 q1 Rc Sc RSH
go_wp2_with fail
refine (ae Dd).mono ?_
rintro e we ⟨rfl,hbe⟩
have Be:=af ((ae Bd).trans' hbe)
clear hbe Bd Dd
go_wp2_with fail
refine (ae TEH _ (ae Be)).mono ?_
rintro e wf ⟨rfl,hbf⟩
have Bf:=af ((ae Be).trans' hbf)
clear hbf Be TEH
go_wp2
go_ret
exact⟨rfl,ae Bf⟩))
case' inr =>(
obtain rfl:z3=z2:=by rw[ae HZ3,if_neg (fun h=>by rw[h.1] at hz2;simp at hz2)]
have Rb:=af (ae R8)
have Sb:=af (ae S8)
clear R8 S8 HZ3 CMH I1H)
all_goals(
go_wp2
refine zgl 14 _ _ _ g9 inc (.slice a n c) fs bk ev2 u5 v5 s5 x5 y5 q5 (by simp) (by simp[Act.eval]) (by simp[Act.eval]) (by simp[Act.eval]) ((ae Sb).2.2.1.ag (ae Sb).1 (by simp)) ((ae Sb).2.2.1.ag (ae Sb).2.1 (by simp)) (fun W hb=>ae PLH W ((ae Sb).2.2.2.trans' hb)) (ae PFH) (fun W v hb hv=>ae SAH W v ((ae Sb).2.2.2.trans' hb) hv) ?_
intro vl wc hP
simp only[bi,List.foldl_cons,List.foldl_nil,Act.put,List.setIfInBounds_toArray,List.set_cons_zero,List.set_cons_succ]
have Rc:=af ((ae Rb).but hP.mem)
have Sc:=af (qZS (ae Sb) hP.mem)
clear hP Rb Sb PLH PFH SAH
have Be:=af (ae Sc).2.2.2
clear Rc Sc RSH ROH
obtain rfl:=ae BKH (by first | decide | (intro h;rw[h] at hz2;simp at hz2))
clear BKH
go_wp2_with fail
refine (ae TEH _ (ae Be)).mono ?_
rintro e wf ⟨rfl,hbf⟩
have Bf:=af ((ae Be).trans' hbf)
clear hbf Be TEH
go_wp2
go_ret
exact⟨rfl,ae Bf⟩)))))
theorem qbc (w:World):Calls prog 10 #[.nilIface] w fun e w'=>e=.returned (.int .i64 0)∧But [] w w':=by(
go_enter func10,ntmps10
go_wp2
go_ret
exact⟨rfl,But.refl _ _⟩)
theorem zty {fs:List Rat} {st inc ys:Int} (h:ruE fs st inc ys=0):ol fs=0∧(0≤st∧st≤60∧0≤inc∧inc≤20∧0≤ys∧ys≤16)∧fs.length≤41:=by(
unfold ruE at h
by_cases h1:ol fs=0
·(
rw[if_neg (fun h=>h h1)] at h
by_cases h2:0≤st∧st≤60∧0≤inc∧inc≤20∧0≤ys∧ys≤16
·rw[if_neg (fun h=>h h2)] at h
 by_cases h3:41<fs.length
 ·rw[if_pos h3] at h;exact absurd h (by decide)
 ·exact⟨h1,h2,by omega⟩
·rw[if_pos h2] at h;exact absurd h (by decide))
·rw[if_pos h1] at h;exact absurd h h1)
theorem qfu (fs:List Rat) (inc:Int):ruE fs 0 inc 0=ckR fs (decide (0≤inc∧inc≤20)):=by(
unfold ruE ckR
by_cases h1:ol fs=0
·(
have e:¬ ol fs≠0:=fun h=>h h1
rw[if_neg e,if_neg e]
by_cases h2:0≤inc∧inc≤20
·have e2:¬ ¬ ((0:Int)≤0∧(0:Int)≤60∧0≤inc∧inc≤20∧(0:Int)≤0∧(0:Int)≤16):=fun h=>h ⟨by omega,by omega,h2.1,h2.2,by omega,by omega⟩
 rw[if_neg e2,decide_eq_true h2,if_neg (show ¬ (true=false) by decide)]
·have e2:¬ ((0:Int)≤0∧(0:Int)≤60∧0≤inc∧inc≤20∧(0:Int)≤0∧(0:Int)≤16):=fun h=>h2 ⟨h.2.2.1,h.2.2.2.1⟩
 rw[if_pos e2,decide_eq_false h2,if_pos rfl])
·have e:ol fs≠0:=h1
 rw[if_pos e,if_pos e])
theorem zqi {fs:List Rat} (lf:∀ f ∈ fs,Len f 1) (h:fs.length≤12):(wd 18446744073709551616 (jf 1 fs)).length≤20:=by(
refine Nat.le_trans (zdt 1 fs 1 lf) ?_
have h1:(wd 18446744073709551616 1).length≤1:=aj (by omega) _ 1 (by omega)
omega)
theorem qlq (X t:Nat) (hX:(wd 18446744073709551616 X).length≤20) (ht:t≤6):(wd 4294967296 (X^t)).length≤1000:=by(
have h1:=ak (B:=18446744073709551616) (by omega) X 20 hX
have e:(18446744073709551616:Nat)^20=4294967296^40:=by decide
rw[e] at h1
rcases Nat.eq_zero_or_pos t with rfl | h0
·rw[Nat.pow_zero]
 exact Nat.le_trans (aj (by omega) 1 1 (by omega)) (by omega)
·have h2:=Nat.pow_lt_pow_left h1 (by omega:t≠0)
 rw[← Nat.pow_mul] at h2
 exact Nat.le_trans (aj (by omega) _ _ h2) (by omega))
theorem zxn (fs:List Rat) (st inc ys:Int) (mx:Int) (w:World) (hn:fs.length≤12∨201<fs.length∧fs.length≤230) (hys:ys≤6∨16<ys) (lf:∀ f ∈ fs,Len f 1) (htab:Lib.TabIs prog w "internal/strconv.uint64pow10" .u64 Lib.pow10Tab) (herr:w.cell? ⟨0,0,none⟩=some (.iface 219 (.agg #[.pointer (some ⟨7,29,none⟩)]))) (hmx:w.cell? ⟨4,0,none⟩=some (.int .i64 mx)) (z1:Int) (hz:z1=ruE fs st inc ys) :
  ∃ (ev1:Value) (f1:Rat),(qWI st inc ys fs ev1 f1 w)
   ∧ (z1=0→∀ W v,xw W v fs→Calls prog 20 #[.int .i64 st,.int .i64 inc,v,.int .i64 ys] W fun e w'=>∃ b,e=.returned (.pointer (some ⟨b,0,none⟩))∧zi w' b f1∧But [] W w')
   ∧ (∀ W v x,But [] w W→am W v f1→Len f1 10000→(z1=0→zi W x f1)→Calls prog 21 #[v,ev1,.pointer (some ⟨x,0,none⟩),.int .i64 z1] W fun e w'=>e=.returned (.bool true)∧But [] W w'):=by(
by_cases h0:z1=0
·(
obtain⟨hk,⟨p1,p2,p3,p4,p5,p6⟩,hl⟩:=zty (hz.symm.trans h0)
obtain⟨sn,rfl⟩:∃ k:Nat,st=(k:Int):=⟨st.toNat,by omega⟩
obtain⟨cn,rfl⟩:∃ k:Nat,inc=(k:Int):=⟨inc.toNat,by omega⟩
obtain⟨yn,rfl⟩:∃ k:Nat,ys=(k:Int):=⟨ys.toNat,by omega⟩
have hU20:=zqi lf (by omega)
obtain⟨hn0,-,hp,-⟩:=zfn hk
obtain⟨hsum1,-⟩:=zhh hk
refine⟨.nilIface,((1:Int):Rat)-phi (atR fs) fs.length cn yn sn,fun W v hb hv=>?_,fun _ W v hr=>?_,fun W v x hb hv hl2 hx=>?_⟩
·refine (qav v fs sn cn yn W mx hv hl (by omega) (by omega) (by omega) lf hU20 hk (TabIs.but htab hb) (hb.ag hmx (by simp))).mono ?_
 rintro e w' ⟨s,x,y,p,he,h⟩
 exact⟨(s,x,y,p),he,h⟩
·exact zrm v fs sn cn yn W hr (by omega) hl (by omega) (by omega) (by omega) hp hsum1 lf (fun t ht=>qlq _ t hU20 (by omega))
·rw[h0]
 exact qqp v _ x W hv (hx h0) (hl2.mono (by omega)) (TabIs.but htab hb))
·(
refine⟨.iface 33 (.int .i64 z1),0,fun W v hb hv=>?_,fun h=>absurd h h0,fun W v x hb hv _ hx=>?_⟩
·refine (zwt v fs st inc ys W 1 hv (by omega) lf (by omega) z1 hz h0).mono ?_
 rintro e w' ⟨he,hbt⟩
 exact⟨(false,0,0,none),he,dz w',zim _ (by omega),hbt⟩
·exact qlf z1 v _ W hv (by simpa using h0) (TabIs.but htab hb) (hb.ag herr (by simp))))
theorem zxm (fs:List Rat) (inc:Int) (r:Rat) (s5:Bool) (x5 y5:Int) (mx:Int) (w:World) (hn:fs.length≤12∨201<fs.length∧fs.length≤230) (lf:∀ f ∈ fs,Len f 1) (lr:Len r 1) (hr:∀ W,am W (.agg #[.bool s5,.int .u64 x5,.int .u64 y5,.pointer none]) r) (htab:Lib.TabIs prog w "internal/strconv.uint64pow10" .u64 Lib.pow10Tab) (herr:w.cell? ⟨0,0,none⟩=some (.iface 219 (.agg #[.pointer (some ⟨7,29,none⟩)]))) (hmx:w.cell? ⟨4,0,none⟩=some (.int .i64 mx)) (z2 z3:Int) (hz:z2=ruE fs 0 inc 0) (hz3:z3=if z2=0∧r<((1:Int):Rat) then 2 else z2) :
  ∃ (ev2:Value) (bk:Bool),(∀ W v,But [] w W→aq W v fs→Calls prog 23 #[.int .i64 inc,v,.agg #[.bool s5,.int .u64 x5,.int .u64 y5,.pointer none]] W fun e w'=>e=.returned (.tuple #[.bool bk,ev2])∧But [] W w')
   ∧ (∀ W,But [] w W→Calls prog 10 #[ev2] W fun e w'=>e=.returned (.int .i64 z3)∧But [] W w')
   ∧ (z3=0→∀ W v x,xw W v fs→zi W x r→Calls prog 24 #[.int .i64 inc,v,.pointer (some ⟨x,0,none⟩)] W fun e w'=>e=.returned (.bool bk)∧But [] W w')
   ∧ (z3≠0→bk=false):=by(
rw[qfu] at hz
by_cases h0:z2=0
·(
have hk0:=hz
rw[← qfu,h0] at hk0
obtain⟨hk,⟨-,-,p3,p4,-,-⟩,hl⟩:=zty hk0.symm
clear hk0
by_cases h1:r<((1:Int):Rat)
·obtain rfl:z3=2:=by rw[hz3,if_pos ⟨h0,h1⟩]
 exact⟨.iface 33 (.int .i64 2),false,fun W v hb hv=>qfl v fs inc r s5 x5 y5 none W 1 hv (by omega) lf (by omega) (hz.symm.trans h0) hr (lr.mono (by omega)) h1,fun W hb=>zgw 2 W (hb.ag herr (by simp)),fun h=>absurd h (by decide),fun _=>rfl⟩
·(
obtain rfl:z3=0:=by rw[hz3,if_neg (fun h=>h1 h.2),h0]
obtain⟨cn,rfl⟩:∃ k:Nat,inc=(k:Int):=⟨inc.toNat,by omega⟩
have hU20:=zqi lf (by omega)
have lx:∀ f ∈ exL fs cn,Len f 100:=fun f hf=>(qdz cn 20 hk hU20 (by omega) f hf).mono (by omega)
have lu:Len (((jf 1 [r]:Nat):Int):Rat) 2:=by
 refine jq _ _ (Nat.le_refl _) (Nat.le_trans (zdt 1 [r] 1 (fun f hf=>by simp at hf;subst hf;exact lr)) ?_) (by omega)
 have h1:(wd 18446744073709551616 1).length≤1:=aj (by omega) _ 1 (by omega)
 simp
 omega
have hcp:(0:Rat)<(((jf 1 [r]:Nat):Int):Rat):=Rat.intCast_pos.2 (by have:=zgi [r] 1 (by omega);omega)
refine⟨.nilIface,decide (sgR (fun j=>atR fs j*zw r j) fs.length≤zw r cn),fun W v hb hv=>?_,fun W hb=>qbc W,fun _ W v x hv hx=>zxq v fs cn x r W hv hx hl (by omega) lf lr _ rfl,fun h=>absurd rfl h⟩
have h2:=zri v _ fs cn r W mx 1 hv (hr W) hl (by omega) lf (by omega) hk (Rat.not_lt.1 h1) lr (zan lr lu 100 (by omega)) (lu.mono (by omega)) lx (TabIs.but htab hb) (hb.ag hmx (by simp))
rw[qfi fs cn _ _ r hcp rfl] at h2
exact h2))
·obtain rfl:z3=z2:=by rw[hz3,if_neg (fun h=>h0 h.1)]
 exact⟨.iface 33 (.int .i64 z3),false,fun W v hb hv=>qfm v fs inc s5 x5 y5 none W 1 hv (by omega) lf (by omega) z3 hz h0,fun W hb=>zgw z3 W (hb.ag herr (by simp)),fun h=>absurd h h0,fun _=>rfl⟩)
theorem zrh (v:Value) (qs:List (Int × Int)) (st inc ys u5 v5:Int) (mx:Int) (w:World) (hv:zwo w v qs) (hf:∀ q ∈ qs,Fits q) (hr:Fits (u5,v5)) (htab:Lib.TabIs prog w "internal/strconv.uint64pow10" .u64 Lib.pow10Tab) (herr:w.cell? ⟨0,0,none⟩=some (.iface 219 (.agg #[.pointer (some ⟨7,29,none⟩)]))) (hmx:w.cell? ⟨4,0,none⟩=some (.int .i64 mx)) :
  Calls prog 4 #[.int .i64 st,.int .i64 inc,v,.int .i64 ys,.agg #[.int .i64 u5,.int .i64 v5]] w fun e w'=>e=.returned (.bool true)∧But [] w w':=by(
obtain⟨a,cap,rfl,-,-⟩:=id hv
by_cases hg:(12<qs.length∧qs.length≤201)∨¬ (12<qs.length∧qs.length≤201)∧(230<qs.length∨qs.length≤230∧6<ys∧ys≤16)
·exact qbr st inc ys u5 v5 a qs.length cap w hg
have hg1:qs.length≤12∨201<qs.length∧qs.length≤230:=by omega
have hg2:ys≤6∨16<ys:=by omega
obtain⟨fs,hfs⟩:∃ fs,fs=qs.map qf:=⟨_,rfl⟩
have hln:fs.length=qs.length:=by rw[hfs];simp
have lf:=qdy hf
rw[← hfs] at lf
obtain⟨s5,x5,y5,lr,hfr,hpf⟩:=zjj (u5,v5) hr
obtain⟨z1,hz1⟩:∃ z,z=ruE fs st inc ys:=⟨_,rfl⟩
obtain⟨z2,hz2⟩:∃ z,z=ruE fs 0 inc 0:=⟨_,rfl⟩
obtain⟨z3,hz3⟩:∃ z,z=if z2=0∧qf (u5,v5)<((1:Int):Rat) then 2 else z2:=⟨_,rfl⟩
obtain⟨ev1,f1,WI,RW,E1⟩:=zxn fs st inc ys mx w (by omega) hg2 lf htab herr hmx z1 hz1
obtain⟨ev2,bk,SA,TE,RS,BK⟩:=zxm fs inc (qf (u5,v5)) s5 x5 y5 mx w (by omega) lf lr hfr htab herr hmx z2 z3 hz2 hz3
have zz:∀ z:Int,z=0∨(z==0)=false:=fun z=>by
 by_cases h:z=0
 ·exact .inl h
 ·exact .inr (by simpa using h)
refine qft st inc ys u5 v5 a qs.length cap fs z1 z2 ev1 ev2 f1 (qf (u5,v5)) bk s5 x5 y5 none w hg1 hg2 (zz z1) (zz z2) (fun W hb=>?_) (fun W v h=>?_) (fun W hb=>?_) WI (fun W=>zfy 0 W (by omega) (by omega)) RW E1 (fun W v h=>?_) (fun W=>?_) (fun W=>zfy 1 W (by omega) (by omega)) (fun W x y hx hy=>?_) hpf SA z3 hz3 TE RS BK
·rw[hfs]
 exact (zug _ qs W (hv.but hb) hf (by omega)).mono fun e w' ⟨v',us,he,ho,hbt⟩=>⟨v',he,ho.qrq,hbt⟩
·rw[hz1];exact zkf v fs st inc ys W 1 h (by omega) lf (by omega)
·rw[hfs];exact zrs _ qs W (hv.but hb) hf (by omega)
·rw[hz2];exact zkf v fs 0 inc 0 W 1 h (by omega) lf (by omega)
·obtain⟨g1,g2,g3,g4⟩:=hr
 exact qql u5 v5 _ W g1 g2 g3 g4 (zun (u5,v5) ⟨g1,g2,g3,g4⟩)
·exact (zro x y _ _ W hx hy ((zdo lr).mono (by omega)) ((ja.int (by decide)).mono (by omega))).mono fun e w' ⟨c,he,h1,_,_,hbt⟩=>⟨c,he,h1,hbt⟩)
end Go.Proofs.YtagmkkiagjmimaaGreatDoor
