/- A line without what its kind has, as the -/
import Derived.Test.YtjlfllhedceigaaGreatDoorRR0
namespace Go.Proofs.YtjlfllhedceigaaGreatDoor
set_option linter.unusedVariables false
open Go.Proofs.Tryz
open Go.RowKit
set_option maxHeartbeats 8000000
set_option maxRecDepth 100000
theorem zia (s:Bool) (x y:Int) (p:Option Addr) (fr li ti pr:Int) (toB:ByteArray) (w:World) :
   Calls prog 152 #[zh 1 s x y p fr li ti pr toB] w fun e w'=>e=.returned (zh 1 false 0 0 none fr li ti pr toB)∧But [] w w':=by(
 unfold zh
 go_enter func152,ntmps152
 go_wp2
 exact bodyPost_ret (v:=zh 1 false 0 0 none fr li ti pr toB) (by simp[results,results152,go_sem,zh]) rfl ⟨rfl,((But.refl _ _).alloc _).alloc _⟩)
theorem zhz (s:Bool) (x y:Int) (p:Option Addr) (fr li ti pr:Int) (toB:ByteArray) (w:World) :
   Calls prog 152 #[zh 2 s x y p fr li ti pr toB] w fun e w'=>e=.returned (zh 2 s x y p fr 0 0 pr toB)∧But [] w w':=by(
 unfold zh
 go_enter func152,ntmps152
 go_wp2
 exact bodyPost_ret (v:=zh 2 s x y p fr 0 0 pr toB) (by simp[results,results152,go_sem,zh]) rfl ⟨rfl,((But.refl _ _).alloc _).alloc _⟩)
theorem zdx (s:Bool) (x y:Int) (p:Option Addr) (fr li ti pr:Int) (toB:ByteArray) (w:World) :
   Calls prog 152 #[zh 3 s x y p fr li ti pr toB] w fun e w'=>e=.returned (zh 3 s x y p 0 0 0 0 toB)∧But [] w w':=by(
 unfold zh
 go_enter func152,ntmps152
 go_wp2
 exact bodyPost_ret (v:=zh 3 s x y p 0 0 0 0 toB) (by simp[results,results152,go_sem,zh]) rfl ⟨rfl,((But.refl _ _).alloc _).alloc _⟩)
theorem zfo (s:Bool) (x y:Int) (p:Option Addr) (fr li ti pr:Int) (toB:ByteArray) (w:World) :
   Calls prog 152 #[zh 4 s x y p fr li ti pr toB] w fun e w'=>e=.returned (zh 4 s x y p 0 0 ti pr toB)∧But [] w w':=by(
 unfold zh
 go_enter func152,ntmps152
 go_wp2
 exact bodyPost_ret (v:=zh 4 s x y p 0 0 ti pr toB) (by simp[results,results152,go_sem,zh]) rfl ⟨rfl,((But.refl _ _).alloc _).alloc _⟩)
theorem fo (kd:Int) (s:Bool) (x y:Int) (p:Option Addr) (fr li ti pr:Int) (toB:ByteArray) (f:Rat) (w:World) (hf:am w (.agg #[.bool s,.int .u64 x,.int .u64 y,.pointer p]) f) (b:Bool) (hb:b=decide (f.num=0∧fr=0∧li=0∧ti=0∧pr=0)) :
   Calls prog 153 #[zh kd s x y p fr li ti pr toB] w fun e w'=>e=.returned (.bool b)∧But [] w w':=by(
 have SG:=af (fun W (h:But [] w W)=>ui _ f W (hf.but h))
 have HBB:=af hb
 clear hf hb
 unfold zh
 go_enter func153,ntmps153
 go_wp2_with fail
 refine (ae SG _ ((But.refl _ _).alloc _)).mono ?_
 rintro e w1 ⟨rfl,hb1⟩
 have B1:=af (((But.refl [] w).alloc (.cells #[.int .i64 kd,.bool s,.int .u64 x,.int .u64 y,.pointer p,.int .i64 fr,.int .i64 li,.int .i64 ti,.int .i64 pr,.string toB] 77)).trans' hb1)
 have c5:w1.cell? ⟨w.heap.size,5,none⟩=some (.int .i64 fr):=hb1.ag (by simp) (by simp)
 have c6:w1.cell? ⟨w.heap.size,6,none⟩=some (.int .i64 li):=hb1.ag (by simp) (by simp)
 have c7:w1.cell? ⟨w.heap.size,7,none⟩=some (.int .i64 ti):=hb1.ag (by simp) (by simp)
 have c8:w1.cell? ⟨w.heap.size,8,none⟩=some (.int .i64 pr):=hb1.ag (by simp) (by simp)
 generalize w.heap.size=g at c5 c6 c7 c8 ⊢
 clear hb1 SG
 by_cases h0:f.num=0
 ·(
 have hs:f.num.sign=0:=by rw[h0];rfl
 rw[hs]
 by_cases h1:fr=0∧li=0∧ti=0∧pr=0
 ·obtain⟨rfl,rfl,rfl,rfl⟩:=h1
  obtain rfl:b=true:=by rw[ae HBB];exact decide_eq_true ⟨h0,rfl,rfl,rfl,rfl⟩
  go_wp2
  all_goals exact bodyPost_ret (v:=.bool true) (by simp[results,results153,go_sem]) rfl ⟨rfl,ae B1⟩
 ·obtain rfl:b=false:=by rw[ae HBB];exact decide_eq_false (fun h=>h1 h.2)
  go_wp2
  all_goals exact bodyPost_ret (v:=.bool false) (by simp[results,results153,go_sem];try omega) rfl ⟨rfl,ae B1⟩)
 ·(
 have hs:(f.num.sign==0)=false:=beq_eq_false_iff_ne.2 (fun h=>h0 (Int.sign_eq_zero_iff_zero.1 h))
 obtain rfl:b=false:=by rw[ae HBB];exact decide_eq_false (fun h=>h0 h.1)
 generalize f.num.sign=sg at *
 go_wp2
 all_goals exact bodyPost_ret (v:=.bool false) (by simp[results,results153,go_sem]) rfl ⟨rfl,ae B1⟩))
theorem znt (a:Act) (w:World) (d t:Nat) (u:TypeId) (ps:String) (ed:Array Edge) (gd:Option (Nat × Bool)) (b:Nat) (h1:a.eval (.tmp t)=.pointer (some ⟨b,0,none⟩)) :
   (execOp a.eval { dst:=some d,op:=Op.fieldAddr 77 (.tmp t) 1,type:=u,pos:=ps,after:=ed,guard:=gd }).run prog w=.ok (.value (.pointer (some ⟨b,1,none⟩))) w:=by(
 unfold execOp
 simp only[h1]
 go_simp)
theorem zmo (a:Act) (w:World) (d t0:Nat) (u:TypeId) (ps:String) (ed:Array Edge) (gd:Option (Nat × Bool)) (z0:Value) (h0:a.eval (.tmp t0)=z0) :
   (execOp a.eval { dst:=some d,op:=Op.call { callee:=Callee.value (Operand.func 84),args:=#[Operand.tmp t0],argTypes:=#[27] },type:=u,pos:=ps,after:=ed,guard:=gd }).run prog w=.ok (.enter 84 #[z0]) w:=by(
 unfold execOp
 go_simp
 rw[← h0]
 simp[Act.eval])
theorem zyz (a:Act) (w:World) (d t0 t1:Nat) (u:TypeId) (ps:String) (ed:Array Edge) (gd:Option (Nat × Bool)) (z0 z1:Value) (h0:a.eval (.tmp t0)=z0) (h1:a.eval (.tmp t1)=z1) :
   (execOp a.eval { dst:=some d,op:=Op.call { callee:=Callee.value (Operand.func 46),args:=#[Operand.tmp t0,Operand.tmp t1],argTypes:=#[27,27] },type:=u,pos:=ps,after:=ed,guard:=gd }).run prog w=.ok (.enter 46 #[z0,z1]) w:=by(
 unfold execOp
 go_simp
 rw[← h0,← h1]
 simp[Act.eval])
theorem zyx (a:Act) (w:World) (d:Nat) (u:TypeId) (ps:String) (ed:Array Edge) (gd:Option (Nat × Bool)) :
  (execOp a.eval { dst:=some d,op:=Op.call { callee:=Callee.value (Operand.func 101),args:=#[Operand.const (Value.int IntKind.i64 1)],argTypes:=#[3] },type:=u,pos:=ps,after:=ed,guard:=gd }).run prog w=.ok (.enter 101 #[.int .i64 1]) w:=by
 unfold execOp
 go_simp
theorem zpu (a:Act) (w:World) (d t:Nat) (u:TypeId) (ps:String) (ed:Array Edge) (gd:Option (Nat × Bool)) (x:Int) (b:Bool) (hb:b=decide (0≤x)) (h:a.eval (.tmp t)=.int .i64 x) :
   (execOp a.eval { dst:=some d,op:=Op.binOp BinOp.geq 3 (.tmp t) (Operand.const (Value.int IntKind.i64 0)) 3,type:=u,pos:=ps,after:=ed,guard:=gd }).run prog w=.ok (.value (.bool b)) w:=by(
 have e:a.eval (.const (.int .i64 0))=.int .i64 0:=rfl
 subst hb
 unfold execOp
 simp only[h,e]
 go_simp)
theorem zyy (a:Act) (w:World) (d t:Nat) (u:TypeId) (ps:String) (ed:Array Edge) (gd:Option (Nat × Bool)) (x:Int) (b:Bool) (hb:b=decide (x≤0)) (h:a.eval (.tmp t)=.int .i64 x) :
   (execOp a.eval { dst:=some d,op:=Op.binOp BinOp.leq 3 (.tmp t) (Operand.const (Value.int IntKind.i64 0)) 3,type:=u,pos:=ps,after:=ed,guard:=gd }).run prog w=.ok (.value (.bool b)) w:=by(
 have e:a.eval (.const (.int .i64 0))=.int .i64 0:=rfl
 subst hb
 unfold execOp
 simp only[h,e]
 go_simp)
theorem zpv (a:Act) (w:World) (d t1 t2:Nat) (u:TypeId) (ps:String) (ed:Array Edge) (gd:Option (Nat × Bool)) (b:Bool) (v o:Value) (ho:o=if b then v else .bool false) (h1:a.eval (.tmp t1)=.bool b) (h2:a.eval (.tmp t2)=v) :
   (execOp a.eval { dst:=some d,op:=Op.pick (.tmp t1) (.tmp t2) (.const (.bool false)),type:=u,pos:=ps,after:=ed,guard:=gd }).run prog w=.ok (.value o) w:=by(
 subst ho
 cases b
 ·unfold execOp
  simp only[h1,h2]
  go_simp
 ·unfold execOp
  simp only[h1,h2]
  go_simp)
def qae:Oper:=⟨some 7,.fieldAddr 77 (.tmp 1) 1,0, "treaty.go:72",#[],none⟩
def qad:Oper:=⟨some 8,.load 27 (.tmp 7),27, "treaty.go:72",#[⟨0,.data⟩],none⟩
def qac:Oper:=⟨some 9,.call { callee:=.value (.func 84),args:=#[.tmp 8],argTypes:=#[27] },3, "treaty.go:72",#[⟨1,.data⟩],none⟩
def qab:Oper:=⟨some 10,.binOp .geq 3 (.tmp 9) (.const (.int .i64 0)) 3,4, "treaty.go:72",#[⟨2,.data⟩],none⟩
def qaa:Oper:=⟨some 11,.move (.tmp 10),4, "treaty.go:72",#[⟨3,.data⟩,⟨2,.chain⟩],none⟩
def zzz:Oper:=⟨some 12,.fieldAddr 77 (.tmp 1) 1,0, "treaty.go:72",#[⟨4,.guard⟩],some (4,true)⟩
def zzy:Oper:=⟨some 13,.load 27 (.tmp 12),27, "treaty.go:72",#[⟨5,.data⟩,⟨4,.guard⟩],some (4,true)⟩
def zzx:Oper:=⟨some 14,.call { callee:=.value (.func 101),args:=#[.const (.int .i64 1)],argTypes:=#[3] },27, "treaty.go:72",#[⟨4,.chain⟩,⟨4,.guard⟩],some (4,true)⟩
def zzw:Oper:=⟨some 15,.call { callee:=.value (.func 46),args:=#[.tmp 13,.tmp 14],argTypes:=#[27,27] },3, "treaty.go:72",#[⟨6,.data⟩,⟨7,.data⟩,⟨7,.chain⟩,⟨4,.guard⟩],some (4,true)⟩
def zzv:Oper:=⟨some 16,.binOp .leq 3 (.tmp 15) (.const (.int .i64 0)) 3,4, "treaty.go:72",#[⟨8,.data⟩,⟨4,.guard⟩],some (4,true)⟩
def zsg:Oper:=⟨some 17,.pick (.tmp 11) (.tmp 16) (.const (.bool false)),4, "treaty.go:72",#[⟨4,.data⟩,⟨9,.data⟩],none⟩
def zsf:Oper:=⟨some 2,.assign (.tmp 17),4, "treaty.go:72",#[⟨10,.data⟩,⟨8,.chain⟩,⟨0,.phase⟩,⟨1,.phase⟩,⟨2,.phase⟩,⟨3,.phase⟩,⟨4,.phase⟩,⟨5,.phase⟩,⟨6,.phase⟩,⟨7,.phase⟩,⟨8,.phase⟩,⟨9,.phase⟩,⟨10,.phase⟩],none⟩
def xq:Array Oper:=#[qae,qad,qac,qab,qaa,zzz,zzy,zzx,zzw,zzv,zsg,zsf]
def zhk (i:Nat):Nat:=match i with
 | 0=>7
 | 1=>8
 | 2=>9
 | 3=>10
 | 4=>11
 | 5=>12
 | 6=>13
 | 7=>14
 | 8=>15
 | 9=>16
 | 10=>17
 | _=>2
def zul (g1:Nat) (s1:Bool) (x1:Int) (y1:Int) (p1:Option Addr) (sg:Int) (ws:Bool) (wx:Int) (r:Int) (b:Bool) (i:Nat) (_w:World) (v:Value):Prop:=match i with
 | 0=>v=.pointer (some ⟨g1,1,none⟩)
 | 1=>v=.agg #[.bool s1,.int .u64 x1,.int .u64 y1,.pointer p1]
 | 2=>v=.int .i64 sg
 | 3=>v=.bool true
 | 4=>v=.bool true
 | 5=>v=.pointer (some ⟨g1,1,none⟩)
 | 6=>v=.agg #[.bool s1,.int .u64 x1,.int .u64 y1,.pointer p1]
 | 7=>v=.agg #[.bool ws,.int .u64 wx,.int .u64 0,.pointer none]
 | 8=>v=.int .i64 r
 | 9=>v=.bool b
 | 10=>v=.bool b
 | _=>v=.bool b
theorem zwh {g1:Nat} {s1:Bool} {x1:Int} {y1:Int} {p1:Option Addr} {sg:Int} {ws:Bool} {wx:Int} {r:Int} {b:Bool} {i:Nat} {w w':World} {v:Value} (h:zul g1 s1 x1 y1 p1 sg ws wx r b i w v) (hi:i<12) (_hb:But [] w w'):zul g1 s1 x1 y1 p1 sg ws wx r b i w' v:=by(
 have:i=0∨i=1∨i=2∨i=3∨i=4∨i=5∨i=6∨i=7∨i=8∨i=9∨i=10∨i=11:=by omega
 rcases this with rfl|rfl|rfl|rfl|rfl|rfl|rfl|rfl|rfl|rfl|rfl|rfl
 all_goals first | exact h)
theorem zwg:∀ i j,i<12→j<12→zhk i=zhk j→i=j:=fun i j hi hj=>(by decide:∀ i,i<12→∀ j,j<12→zhk i=zhk j→i=j) i hi j hj
theorem qdn (id:Nat) (Q:Exit→Act→World→Prop) (base:Act) (W0:World) (g1:Nat) (s1:Bool) (x1:Int) (y1:Int) (p1:Option Addr) (sg:Int) (ws:Bool) (wx:Int) (r:Int) (b:Bool) (hs:17<base.tmps.size) (e1:base.eval (.tmp 1)=.pointer (some ⟨g1,0,none⟩))
   (hsg:0≤sg) (hbb:b=decide (r≤0)) (c1:P4o W0 g1 1 s1 x1 y1 p1)
   (SG:∀ w,But [] W0 w→Calls prog 84 #[.agg #[.bool s1,.int .u64 x1,.int .u64 y1,.pointer p1]] w fun e w'=>e=.returned (.int .i64 sg)∧But [] w w')
   (WH:∀ w,Calls prog 101 #[.int .i64 1] w fun e w'=>e=.returned (.agg #[.bool ws,.int .u64 wx,.int .u64 0,.pointer none])∧But [] w w')
   (CM:∀ w,But [] W0 w→Calls prog 46 #[.agg #[.bool s1,.int .u64 x1,.int .u64 y1,.pointer p1],.agg #[.bool ws,.int .u64 wx,.int .u64 0,.pointer none]] w fun e w'=>e=.returned (.int .i64 r)∧But [] w w')
   (hQ:∀ w,But [] W0 w→Q .normal (bi base [(7,.pointer (some ⟨g1,1,none⟩)),(8,.agg #[.bool s1,.int .u64 x1,.int .u64 y1,.pointer p1]),(9,.int .i64 sg),(10,.bool true),(11,.bool true),(12,.pointer (some ⟨g1,1,none⟩)),(13,.agg #[.bool s1,.int .u64 x1,.int .u64 y1,.pointer p1]),(14,.agg #[.bool ws,.int .u64 wx,.int .u64 0,.pointer none]),(15,.int .i64 r),(16,.bool b),(17,.bool b),(2,.bool b)]) w) :
   (Code.region id xq true).wp prog Q base W0:=by(
 have hdr:∀ {w},But [] W0.drew w→But [] W0 w:=fun h=>(But.refl _ _).drew.trans' h
 have hT:∀ i,i<12→zhk i<base.tmps.size:=fun i hi=>by
  have h:zhk i≤17:=by revert i;decide
  omega
 refine zbe (by kernel_rfl) (di (by kernel_rfl)) (zul g1 s1 x1 y1 p1 sg ws wx r b) zhk (by kernel_rfl) ?_ zwg hT (fun i w w' v hi h hb=>zwh h hi hb) ?_ ?_
 ·(
 intro i o j want ho hg w v hv
 have hi:i<12:=(Array.getElem?_eq_some_iff.1 ho).1
 have:i=0∨i=1∨i=2∨i=3∨i=4∨i=5∨i=6∨i=7∨i=8∨i=9∨i=10∨i=11:=by omega
 rcases this with rfl|rfl|rfl|rfl|rfl|rfl|rfl|rfl|rfl|rfl|rfl|rfl
 ·obtain rfl:=so (show xq[0]? =some qae from rfl) ho
  exact absurd (show (none:Option (Nat × Bool))=some (j,want) from hg) (by simp)
 ·obtain rfl:=so (show xq[1]? =some qad from rfl) ho
  exact absurd (show (none:Option (Nat × Bool))=some (j,want) from hg) (by simp)
 ·obtain rfl:=so (show xq[2]? =some qac from rfl) ho
  exact absurd (show (none:Option (Nat × Bool))=some (j,want) from hg) (by simp)
 ·obtain rfl:=so (show xq[3]? =some qab from rfl) ho
  exact absurd (show (none:Option (Nat × Bool))=some (j,want) from hg) (by simp)
 ·obtain rfl:=so (show xq[4]? =some qaa from rfl) ho
  exact absurd (show (none:Option (Nat × Bool))=some (j,want) from hg) (by simp)
 ·obtain rfl:=so (show xq[5]? =some zzz from rfl) ho
  obtain⟨rfl,rfl⟩:=Prod.mk.inj (Option.some.inj (show some (4,true)=some (j,want) from hg))
  exact hv
 ·obtain rfl:=so (show xq[6]? =some zzy from rfl) ho
  obtain⟨rfl,rfl⟩:=Prod.mk.inj (Option.some.inj (show some (4,true)=some (j,want) from hg))
  exact hv
 ·obtain rfl:=so (show xq[7]? =some zzx from rfl) ho
  obtain⟨rfl,rfl⟩:=Prod.mk.inj (Option.some.inj (show some (4,true)=some (j,want) from hg))
  exact hv
 ·obtain rfl:=so (show xq[8]? =some zzw from rfl) ho
  obtain⟨rfl,rfl⟩:=Prod.mk.inj (Option.some.inj (show some (4,true)=some (j,want) from hg))
  exact hv
 ·obtain rfl:=so (show xq[9]? =some zzv from rfl) ho
  obtain⟨rfl,rfl⟩:=Prod.mk.inj (Option.some.inj (show some (4,true)=some (j,want) from hg))
  exact hv
 ·obtain rfl:=so (show xq[10]? =some zsg from rfl) ho
  exact absurd (show (none:Option (Nat × Bool))=some (j,want) from hg) (by simp)
 ·obtain rfl:=so (show xq[11]? =some zsf from rfl) ho
  exact absurd (show (none:Option (Nat × Bool))=some (j,want) from hg) (by simp))
 ·(
 intro i o a w K ho hH he hdep hk
 have hi:i<12:=(Array.getElem?_eq_some_iff.1 ho).1
 have hD:=jq (ps:=[(1,0),(2,1),(3,2),(4,2),(4,3),(5,4),(6,4),(6,5),(7,4),(8,4),(8,6),(8,7),(9,4),(9,8),(10,4),(10,9),(11,0),(11,1),(11,2),(11,3),(11,4),(11,5),(11,6),(11,7),(11,8),(11,9),(11,10)]) (by kernel_rfl) ho (fun j=>zul g1 s1 x1 y1 p1 sg ws wx r b j w (a.eval (.tmp (zhk j)))) hdep
 have e1':=(he 1 (fun j hj e=>absurd e.symm (by revert j;decide))).trans e1
 have:i=0∨i=1∨i=2∨i=3∨i=4∨i=5∨i=6∨i=7∨i=8∨i=9∨i=10∨i=11:=by omega
 rcases this with rfl|rfl|rfl|rfl|rfl|rfl|rfl|rfl|rfl|rfl|rfl|rfl
 ·obtain rfl:=so (show xq[0]? =some qae from rfl) ho
  exact al (znt a w _ _ _ _ _ _ g1 e1') (hk _ _ (But.refl _ _) rfl)
 ·obtain rfl:=so (show xq[1]? =some qad from rfl) ho
  exact al (au a w _ _ _ _ _ _ g1 1 _ _ _ _ (hD 0 (by simp)) (c1.but (hdr hH) (by simp))) (hk _ _ (But.refl _ _) rfl)
 ·obtain rfl:=so (show xq[2]? =some qac from rfl) ho
  exact aw (zmo a w _ _ _ _ _ _ _ (hD 1 (by simp))) (R:=fun w' v=>But [] w w'∧v=_) ((SG w (hdr hH)).mono fun e w' ⟨he,hb⟩=>⟨_,he,hb,rfl⟩) (fun v w' hv=>hk v w' hv.1 hv.2)
 ·obtain rfl:=so (show xq[3]? =some qab from rfl) ho
  exact al (zpu a w _ _ _ _ _ _ _ true (decide_eq_true hsg).symm (hD 2 (by simp))) (hk _ _ (But.refl _ _) rfl)
 ·obtain rfl:=so (show xq[4]? =some qaa from rfl) ho
  exact al (br a w _ _ _ _ _ _ _ (hD 3 (by simp))) (hk _ _ (But.refl _ _) rfl)
 ·obtain rfl:=so (show xq[5]? =some zzz from rfl) ho
  exact al (znt a w _ _ _ _ _ _ g1 e1') (hk _ _ (But.refl _ _) rfl)
 ·obtain rfl:=so (show xq[6]? =some zzy from rfl) ho
  exact al (au a w _ _ _ _ _ _ g1 1 _ _ _ _ (hD 5 (by simp)) (c1.but (hdr hH) (by simp))) (hk _ _ (But.refl _ _) rfl)
 ·obtain rfl:=so (show xq[7]? =some zzx from rfl) ho
  exact aw (zyx a w _ _ _ _ _) (R:=fun w' v=>But [] w w'∧v=_) ((WH w).mono fun e w' ⟨he,hb⟩=>⟨_,he,hb,rfl⟩) (fun v w' hv=>hk v w' hv.1 hv.2)
 ·obtain rfl:=so (show xq[8]? =some zzw from rfl) ho
  exact aw (zyz a w _ _ _ _ _ _ _ _ _ (hD 6 (by simp)) (hD 7 (by simp))) (R:=fun w' v=>But [] w w'∧v=_) ((CM w (hdr hH)).mono fun e w' ⟨he,hb⟩=>⟨_,he,hb,rfl⟩) (fun v w' hv=>hk v w' hv.1 hv.2)
 ·obtain rfl:=so (show xq[9]? =some zzv from rfl) ho
  exact al (zyy a w _ _ _ _ _ _ _ b hbb (hD 8 (by simp))) (hk _ _ (But.refl _ _) rfl)
 ·obtain rfl:=so (show xq[10]? =some zsg from rfl) ho
  exact al (zpv a w _ _ _ _ _ _ _ true _ _ rfl (hD 4 (by simp)) (hD 9 (by simp))) (hk _ _ (But.refl _ _) rfl)
 ·obtain rfl:=so (show xq[11]? =some zsf from rfl) ho
  exact al (zat a w _ _ _ _ _ _ _ (hD 10 (by simp))) (hk _ _ (But.refl _ _) rfl))
 ·(
 intro a w h
 have ea:=h.puts hT (fun i=>match i with
  | 0=>.pointer (some ⟨g1,1,none⟩)
  | 1=>.agg #[.bool s1,.int .u64 x1,.int .u64 y1,.pointer p1]
  | 2=>.int .i64 sg
  | 3=>.bool true
  | 4=>.bool true
  | 5=>.pointer (some ⟨g1,1,none⟩)
  | 6=>.agg #[.bool s1,.int .u64 x1,.int .u64 y1,.pointer p1]
  | 7=>.agg #[.bool ws,.int .u64 wx,.int .u64 0,.pointer none]
  | 8=>.int .i64 r
  | 9=>.bool b
  | 10=>.bool b
  | _=>.bool b) (fun i hi=>by
  have hi':i<12:=hi
  have hc:=h.has i hi rfl
  have:i=0∨i=1∨i=2∨i=3∨i=4∨i=5∨i=6∨i=7∨i=8∨i=9∨i=10∨i=11:=by omega
  rcases this with rfl|rfl|rfl|rfl|rfl|rfl|rfl|rfl|rfl|rfl|rfl|rfl
  all_goals first | exact hc|rfl)
 rw[ea]
 exact hQ w (hdr h.but)))
def zzu:Oper:=⟨some 7,.fieldAddr 77 (.tmp 1) 1,0, "treaty.go:72",#[],none⟩
def zzt:Oper:=⟨some 8,.load 27 (.tmp 7),27, "treaty.go:72",#[⟨0,.data⟩],none⟩
def zzs:Oper:=⟨some 9,.call { callee:=.value (.func 84),args:=#[.tmp 8],argTypes:=#[27] },3, "treaty.go:72",#[⟨1,.data⟩],none⟩
def zzr:Oper:=⟨some 10,.binOp .geq 3 (.tmp 9) (.const (.int .i64 0)) 3,4, "treaty.go:72",#[⟨2,.data⟩],none⟩
def zzq:Oper:=⟨some 11,.move (.tmp 10),4, "treaty.go:72",#[⟨3,.data⟩,⟨2,.chain⟩],none⟩
def zzp:Oper:=⟨some 12,.fieldAddr 77 (.tmp 1) 1,0, "treaty.go:72",#[⟨4,.guard⟩],some (4,true)⟩
def zzo:Oper:=⟨some 13,.load 27 (.tmp 12),27, "treaty.go:72",#[⟨5,.data⟩,⟨4,.guard⟩],some (4,true)⟩
def zzn:Oper:=⟨some 14,.call { callee:=.value (.func 101),args:=#[.const (.int .i64 1)],argTypes:=#[3] },27, "treaty.go:72",#[⟨4,.chain⟩,⟨4,.guard⟩],some (4,true)⟩
def zzm:Oper:=⟨some 15,.call { callee:=.value (.func 46),args:=#[.tmp 13,.tmp 14],argTypes:=#[27,27] },3, "treaty.go:72",#[⟨6,.data⟩,⟨7,.data⟩,⟨7,.chain⟩,⟨4,.guard⟩],some (4,true)⟩
def zzl:Oper:=⟨some 16,.binOp .leq 3 (.tmp 15) (.const (.int .i64 0)) 3,4, "treaty.go:72",#[⟨8,.data⟩,⟨4,.guard⟩],some (4,true)⟩
def zse:Oper:=⟨some 17,.pick (.tmp 11) (.tmp 16) (.const (.bool false)),4, "treaty.go:72",#[⟨4,.data⟩,⟨9,.data⟩],none⟩
def zsd:Oper:=⟨some 2,.assign (.tmp 17),4, "treaty.go:72",#[⟨10,.data⟩,⟨8,.chain⟩,⟨0,.phase⟩,⟨1,.phase⟩,⟨2,.phase⟩,⟨3,.phase⟩,⟨4,.phase⟩,⟨5,.phase⟩,⟨6,.phase⟩,⟨7,.phase⟩,⟨8,.phase⟩,⟨9,.phase⟩,⟨10,.phase⟩],none⟩
def xk:Array Oper:=#[zzu,zzt,zzs,zzr,zzq,zzp,zzo,zzn,zzm,zzl,zse,zsd]
def zhj (i:Nat):Nat:=match i with
 | 0=>7
 | 1=>8
 | 2=>9
 | 3=>10
 | 4=>11
 | 5=>12
 | 6=>13
 | 7=>14
 | 8=>15
 | 9=>16
 | 10=>17
 | _=>2
def zuk (g1:Nat) (s1:Bool) (x1:Int) (y1:Int) (p1:Option Addr) (sg:Int) (i:Nat) (_w:World) (v:Value):Prop:=match i with
 | 0=>v=.pointer (some ⟨g1,1,none⟩)
 | 1=>v=.agg #[.bool s1,.int .u64 x1,.int .u64 y1,.pointer p1]
 | 2=>v=.int .i64 sg
 | 3=>v=.bool false
 | 4=>v=.bool false
 | 5=>v=undef
 | 6=>v=undef
 | 7=>v=undef
 | 8=>v=undef
 | 9=>v=undef
 | 10=>v=.bool false
 | _=>v=.bool false
def qgs (i:Nat):Bool:=match i with
 | 5=>true
 | 6=>true
 | 7=>true
 | 8=>true
 | 9=>true
 | _=>false
theorem zwf:∀ i j,i<12→j<12→zhj i=zhj j→i=j:=fun i j hi hj=>(by decide:∀ i,i<12→∀ j,j<12→zhj i=zhj j→i=j) i hi j hj
theorem qdo (id:Nat) (Q:Exit→Act→World→Prop) (base:Act) (W0:World) (g1:Nat) (s1:Bool) (x1:Int) (y1:Int) (p1:Option Addr) (sg:Int) (hs:17<base.tmps.size) (e1:base.eval (.tmp 1)=.pointer (some ⟨g1,0,none⟩))
   (hsg:¬ 0≤sg) (c1:P4o W0 g1 1 s1 x1 y1 p1)
   (SG:∀ w,But [] W0 w→Calls prog 84 #[.agg #[.bool s1,.int .u64 x1,.int .u64 y1,.pointer p1]] w fun e w'=>e=.returned (.int .i64 sg)∧But [] w w')
   (hQ:∀ w,But [] W0 w→Q .normal (bi base [(7,.pointer (some ⟨g1,1,none⟩)),(8,.agg #[.bool s1,.int .u64 x1,.int .u64 y1,.pointer p1]),(9,.int .i64 sg),(10,.bool false),(11,.bool false),(12,undef),(13,undef),(14,undef),(15,undef),(16,undef),(17,.bool false),(2,.bool false)]) w) :
   (Code.region id xk true).wp prog Q base W0:=by(
 have hdr:∀ {w},But [] W0.drew w→But [] W0 w:=fun h=>(But.refl _ _).drew.trans' h
 have hT:∀ i,i<12→zhj i<base.tmps.size:=fun i hi=>by
  have h:zhj i≤17:=by revert i;decide
  omega
 have hCb:∀ i w w' v,i<12→zuk g1 s1 x1 y1 p1 sg i w v→zuk g1 s1 x1 y1 p1 sg i w' v:=fun i w w' v hi h=>by
  have:i=0∨i=1∨i=2∨i=3∨i=4∨i=5∨i=6∨i=7∨i=8∨i=9∨i=10∨i=11:=by omega
  rcases this with rfl|rfl|rfl|rfl|rfl|rfl|rfl|rfl|rfl|rfl|rfl|rfl
  ·exact (show v=.pointer (some ⟨g1,1,none⟩) from h)
  ·exact (show v=.agg #[.bool s1,.int .u64 x1,.int .u64 y1,.pointer p1] from h)
  ·exact (show v=.int .i64 sg from h)
  ·exact (show v=.bool false from h)
  ·exact (show v=.bool false from h)
  ·exact (show v=undef from h)
  ·exact (show v=undef from h)
  ·exact (show v=undef from h)
  ·exact (show v=undef from h)
  ·exact (show v=undef from h)
  ·exact (show v=.bool false from h)
  ·exact (show v=.bool false from h)
 refine zpx (by kernel_rfl) (di (by kernel_rfl)) (zuk g1 s1 x1 y1 p1 sg) zhj (by kernel_rfl) qgs ?_ ?_ ?_ zwf hT (fun i w w' v hi h _=>hCb i w w' v hi h) ?_ ?_
 ·(
 intro i o j want ho hg w v hv
 have hi:i<12:=(Array.getElem?_eq_some_iff.1 ho).1
 have:i=0∨i=1∨i=2∨i=3∨i=4∨i=5∨i=6∨i=7∨i=8∨i=9∨i=10∨i=11:=by omega
 rcases this with rfl|rfl|rfl|rfl|rfl|rfl|rfl|rfl|rfl|rfl|rfl|rfl
 ·obtain rfl:=so (show xk[0]? =some zzu from rfl) ho
  exact absurd (show (none:Option (Nat × Bool))=some (j,want) from hg) (by simp)
 ·obtain rfl:=so (show xk[1]? =some zzt from rfl) ho
  exact absurd (show (none:Option (Nat × Bool))=some (j,want) from hg) (by simp)
 ·obtain rfl:=so (show xk[2]? =some zzs from rfl) ho
  exact absurd (show (none:Option (Nat × Bool))=some (j,want) from hg) (by simp)
 ·obtain rfl:=so (show xk[3]? =some zzr from rfl) ho
  exact absurd (show (none:Option (Nat × Bool))=some (j,want) from hg) (by simp)
 ·obtain rfl:=so (show xk[4]? =some zzq from rfl) ho
  exact absurd (show (none:Option (Nat × Bool))=some (j,want) from hg) (by simp)
 ·obtain rfl:=so (show xk[5]? =some zzp from rfl) ho
  obtain⟨rfl,rfl⟩:=Prod.mk.inj (Option.some.inj (show some (4,true)=some (j,want) from hg))
  exact hv
 ·obtain rfl:=so (show xk[6]? =some zzo from rfl) ho
  obtain⟨rfl,rfl⟩:=Prod.mk.inj (Option.some.inj (show some (4,true)=some (j,want) from hg))
  exact hv
 ·obtain rfl:=so (show xk[7]? =some zzn from rfl) ho
  obtain⟨rfl,rfl⟩:=Prod.mk.inj (Option.some.inj (show some (4,true)=some (j,want) from hg))
  exact hv
 ·obtain rfl:=so (show xk[8]? =some zzm from rfl) ho
  obtain⟨rfl,rfl⟩:=Prod.mk.inj (Option.some.inj (show some (4,true)=some (j,want) from hg))
  exact hv
 ·obtain rfl:=so (show xk[9]? =some zzl from rfl) ho
  obtain⟨rfl,rfl⟩:=Prod.mk.inj (Option.some.inj (show some (4,true)=some (j,want) from hg))
  exact hv
 ·obtain rfl:=so (show xk[10]? =some zse from rfl) ho
  exact absurd (show (none:Option (Nat × Bool))=some (j,want) from hg) (by simp)
 ·obtain rfl:=so (show xk[11]? =some zsd from rfl) ho
  exact absurd (show (none:Option (Nat × Bool))=some (j,want) from hg) (by simp))
 ·(
 intro i o ho hk hg
 have hi:i<12:=(Array.getElem?_eq_some_iff.1 ho).1
 have:i=0∨i=1∨i=2∨i=3∨i=4∨i=5∨i=6∨i=7∨i=8∨i=9∨i=10∨i=11:=by omega
 rcases this with rfl|rfl|rfl|rfl|rfl|rfl|rfl|rfl|rfl|rfl|rfl|rfl
 ·exact absurd (show false=true from hk) (by simp)
 ·exact absurd (show false=true from hk) (by simp)
 ·exact absurd (show false=true from hk) (by simp)
 ·exact absurd (show false=true from hk) (by simp)
 ·exact absurd (show false=true from hk) (by simp)
 ·obtain rfl:=so (show xk[5]? =some zzp from rfl) ho
  exact absurd (show some (4,true)=(none:Option (Nat × Bool)) from hg) (by simp)
 ·obtain rfl:=so (show xk[6]? =some zzo from rfl) ho
  exact absurd (show some (4,true)=(none:Option (Nat × Bool)) from hg) (by simp)
 ·obtain rfl:=so (show xk[7]? =some zzn from rfl) ho
  exact absurd (show some (4,true)=(none:Option (Nat × Bool)) from hg) (by simp)
 ·obtain rfl:=so (show xk[8]? =some zzm from rfl) ho
  exact absurd (show some (4,true)=(none:Option (Nat × Bool)) from hg) (by simp)
 ·obtain rfl:=so (show xk[9]? =some zzl from rfl) ho
  exact absurd (show some (4,true)=(none:Option (Nat × Bool)) from hg) (by simp)
 ·exact absurd (show false=true from hk) (by simp)
 ·exact absurd (show false=true from hk) (by simp))
 ·(
 intro i w hk
 by_cases hi:i<12
 ·(
 have:i=0∨i=1∨i=2∨i=3∨i=4∨i=5∨i=6∨i=7∨i=8∨i=9∨i=10∨i=11:=by omega
 rcases this with rfl|rfl|rfl|rfl|rfl|rfl|rfl|rfl|rfl|rfl|rfl|rfl
 ·exact absurd (show false=true from hk) (by simp)
 ·exact absurd (show false=true from hk) (by simp)
 ·exact absurd (show false=true from hk) (by simp)
 ·exact absurd (show false=true from hk) (by simp)
 ·exact absurd (show false=true from hk) (by simp)
 ·exact (show undef=undef from rfl)
 ·exact (show undef=undef from rfl)
 ·exact (show undef=undef from rfl)
 ·exact (show undef=undef from rfl)
 ·exact (show undef=undef from rfl)
 ·exact absurd (show false=true from hk) (by simp)
 ·exact absurd (show false=true from hk) (by simp))
 ·(
 exfalso
 unfold qgs at hk
 split at hk
 ·omega
 ·omega
 ·omega
 ·omega
 ·omega
 ·simp at hk))
 ·(
 intro i o a w K hki ho hH he hdep hk
 have hi:i<12:=(Array.getElem?_eq_some_iff.1 ho).1
 have hD:=jq (ps:=[(1,0),(2,1),(3,2),(4,2),(4,3),(5,4),(6,4),(6,5),(7,4),(8,4),(8,6),(8,7),(9,4),(9,8),(10,4),(10,9),(11,0),(11,1),(11,2),(11,3),(11,4),(11,5),(11,6),(11,7),(11,8),(11,9),(11,10)]) (by kernel_rfl) ho (fun j=>zuk g1 s1 x1 y1 p1 sg j w (a.eval (.tmp (zhj j)))) hdep
 have e1':=(he 1 (fun j hj e=>absurd e.symm (by revert j;decide))).trans e1
 have:i=0∨i=1∨i=2∨i=3∨i=4∨i=5∨i=6∨i=7∨i=8∨i=9∨i=10∨i=11:=by omega
 rcases this with rfl|rfl|rfl|rfl|rfl|rfl|rfl|rfl|rfl|rfl|rfl|rfl
 ·obtain rfl:=so (show xk[0]? =some zzu from rfl) ho
  exact al (znt a w _ _ _ _ _ _ g1 e1') (hk _ _ (But.refl _ _) rfl)
 ·obtain rfl:=so (show xk[1]? =some zzt from rfl) ho
  exact al (au a w _ _ _ _ _ _ g1 1 _ _ _ _ (hD 0 (by simp)) (c1.but (hdr hH) (by simp))) (hk _ _ (But.refl _ _) rfl)
 ·obtain rfl:=so (show xk[2]? =some zzs from rfl) ho
  exact aw (zmo a w _ _ _ _ _ _ _ (hD 1 (by simp))) (R:=fun w' v=>But [] w w'∧v=_) ((SG w (hdr hH)).mono fun e w' ⟨he,hb⟩=>⟨_,he,hb,rfl⟩) (fun v w' hv=>hk v w' hv.1 hv.2)
 ·obtain rfl:=so (show xk[3]? =some zzr from rfl) ho
  exact al (zpu a w _ _ _ _ _ _ _ false (decide_eq_false hsg).symm (hD 2 (by simp))) (hk _ _ (But.refl _ _) rfl)
 ·obtain rfl:=so (show xk[4]? =some zzq from rfl) ho
  exact al (br a w _ _ _ _ _ _ _ (hD 3 (by simp))) (hk _ _ (But.refl _ _) rfl)
 ·exact absurd (show true=false from hki) (by simp)
 ·exact absurd (show true=false from hki) (by simp)
 ·exact absurd (show true=false from hki) (by simp)
 ·exact absurd (show true=false from hki) (by simp)
 ·exact absurd (show true=false from hki) (by simp)
 ·obtain rfl:=so (show xk[10]? =some zse from rfl) ho
  exact al (zpv a w _ _ _ _ _ _ _ false _ _ rfl (hD 4 (by simp)) rfl) (hk _ _ (But.refl _ _) rfl)
 ·obtain rfl:=so (show xk[11]? =some zsd from rfl) ho
  exact al (zat a w _ _ _ _ _ _ _ (hD 10 (by simp))) (hk _ _ (But.refl _ _) rfl))
 ·(
 intro a w h
 have ea:=h.puts hT (fun i=>match i with
  | 0=>.pointer (some ⟨g1,1,none⟩)
  | 1=>.agg #[.bool s1,.int .u64 x1,.int .u64 y1,.pointer p1]
  | 2=>.int .i64 sg
  | 3=>.bool false
  | 4=>.bool false
  | 5=>undef
  | 6=>undef
  | 7=>undef
  | 8=>undef
  | 9=>undef
  | 10=>.bool false
  | _=>.bool false) (fun i hi=>by
  have hi':i<12:=hi
  have hc:=h.has i hi rfl
  have:i=0∨i=1∨i=2∨i=3∨i=4∨i=5∨i=6∨i=7∨i=8∨i=9∨i=10∨i=11:=by omega
  rcases this with rfl|rfl|rfl|rfl|rfl|rfl|rfl|rfl|rfl|rfl|rfl|rfl
  all_goals first | exact hc|rfl)
 rw[ea]
 exact hQ w (hdr h.but)))
theorem zle (s:Bool) (x y:Int) (p:Option Addr) (fr li ti pr:Int) (toB:ByteArray) (f:Rat) (w:World) (hf:am w (.agg #[.bool s,.int .u64 x,.int .u64 y,.pointer p]) f) (lf:Len f 1) :
   Calls prog 151 #[zh 1 s x y p fr li ti pr toB] w fun e w'=>e=.returned (.bool (decide (0≤f∧f≤1)))∧But [] w w':=by(
 obtain⟨ws,wx,FW,CW⟩:=zyb 1 (by omega) (by omega)
 have l1:Len (((1:Int):Rat)) 1:=qfu 1 (by decide)
 obtain⟨sg,hsg⟩:∃ sg,sg=f.num.sign:=⟨_,rfl⟩
 have h0n:0≤f↔0≤f.num:=Rat.num_nonneg.symm
 have hs0:0≤sg↔0≤f.num:=by
  rw[hsg]
  rcases Int.lt_trichotomy f.num 0 with h | h | h
  ·rw[Int.sign_eq_neg_one_of_neg h];omega
  ·rw[h];decide
  ·rw[Int.sign_eq_one_of_pos h];omega
 have SG:=af (fun W (h:But [] w W)=>ui _ f W (hf.but h))
 rw[← hsg] at SG
 obtain⟨r,hr⟩:∃ r,r=zda (f.num*((((1:Int):Rat)).den:Int)) ((((1:Int):Rat)).num*(f.den:Int)):=⟨_,rfl⟩
 have CM:=af (fun W (h:But [] w W)=>zqx _ _ f ((1:Int):Rat) W (hf.but h) (FW W) (lf.mono (by omega)) (l1.mono (by omega)) r hr)
 have hr1:r≤0↔f≤1:=by
  rw[hr]
  obtain⟨e1,e2⟩:=bk 1
  rw[e1,e2]
  unfold zda
  have h3:f≤1↔f.num≤(f.den:Int):=by
   rw[Rat.le_iff]
   simp
  rw[h3]
  split
  ·omega
  ·split <;> omega
 have x1:=af (rf.new w 1 s x y p fr li ti pr toB)
 have bA:=af ((But.refl [] w).alloc (.cells #[.int .i64 1,.bool s,.int .u64 x,.int .u64 y,.pointer p,.int .i64 fr,.int .i64 li,.int .i64 ti,.int .i64 pr,.string toB] 77))
 have HCW:=af CW
 clear hf lf CW FW hsg hr
 obtain⟨bb,hbb⟩:∃ bb,bb=decide (0≤f∧f≤1):=⟨_,rfl⟩
 rw[← hbb]
 have HBB:=af hbb
 clear hbb
 unfold zh
 go_enter func151,ntmps151
 go_wp2
 generalize w.heap.size=g1 at x1 ⊢
 generalize w.alloc (.cells #[.int .i64 1,.bool s,.int .u64 x,.int .u64 y,.pointer p,.int .i64 fr,.int .i64 li,.int .i64 ti,.int .i64 pr,.string toB] 77)=V at *
 have c1:P4o V g1 1 s x y p:=⟨(ae x1).cells 1 _ rfl,(ae x1).cells 2 _ rfl,(ae x1).cells 3 _ rfl,(ae x1).cells 4 _ rfl⟩
 by_cases hp:0≤sg
 ·(
 refine qdn 3 _ _ V g1 s x y p sg ws wx r bb (by simp) (by simp[Act.eval]) hp (by rw[ae HBB];exact decide_eq_decide.2 ⟨fun h=>hr1.2 h.2,fun h=>⟨h0n.2 (hs0.1 hp),hr1.1 h⟩⟩) c1 (fun W hb=>ae SG W ((ae bA).trans' hb)) (ae HCW) (fun W hb=>ae CM W ((ae bA).trans' hb)) ?_
 intro w1 hb1
 simp only[bi,List.foldl_cons,List.foldl_nil,Act.put,List.setIfInBounds_toArray,List.set_cons_zero,List.set_cons_succ]
 have B1:=af ((ae bA).trans' hb1)
 clear hb1 c1
 go_wp2
 exact bodyPost_ret (v:=.bool bb) (by simp[results,results151,go_sem]) rfl ⟨rfl,ae B1⟩)
 ·(
 obtain rfl:bb=false:=by rw[ae HBB];exact decide_eq_false (fun h=>hp (hs0.2 (h0n.1 h.1)))
 refine qdo 3 _ _ V g1 s x y p sg (by simp) (by simp[Act.eval]) hp c1 (fun W hb=>ae SG W ((ae bA).trans' hb)) ?_
 intro w1 hb1
 simp only[bi,List.foldl_cons,List.foldl_nil,Act.put,List.setIfInBounds_toArray,List.set_cons_zero,List.set_cons_succ]
 have B1:=af ((ae bA).trans' hb1)
 clear hb1 c1
 go_wp2
 exact bodyPost_ret (v:=.bool false) (by simp[results,results151,go_sem]) rfl ⟨rfl,ae B1⟩))
theorem zld (s:Bool) (x y:Int) (p:Option Addr) (fr li ti pr:Int) (toB:ByteArray) (w:World) :
   Calls prog 151 #[zh 2 s x y p fr li ti pr toB] w fun e w'=>e=.returned (.bool (decide (1≤li)))∧But [] w w':=by(
 unfold zh
 go_enter func151,ntmps151
 go_wp2
 exact bodyPost_ret (v:=.bool (decide (1≤li))) (by simp[results,results151,go_sem]) rfl ⟨rfl,(But.refl _ _).alloc _⟩)
theorem zeh (s:Bool) (x y:Int) (p:Option Addr) (fr li ti pr:Int) (toB:ByteArray) (w:World) :
   Calls prog 151 #[zh 3 s x y p fr li ti pr toB] w fun e w'=>e=.returned (.bool (decide (1≤li)))∧But [] w w':=by(
 unfold zh
 go_enter func151,ntmps151
 go_wp2
 exact bodyPost_ret (v:=.bool (decide (1≤li))) (by simp[results,results151,go_sem]) rfl ⟨rfl,(But.refl _ _).alloc _⟩)
theorem znb (s:Bool) (x y:Int) (p:Option Addr) (fr li ti pr:Int) (toB:ByteArray) (w:World) :
   Calls prog 151 #[zh 4 s x y p fr li ti pr toB] w fun e w'=>e=.returned (.bool true)∧But [] w w':=by(
 unfold zh
 go_enter func151,ntmps151
 go_wp2
 exact bodyPost_ret (v:=.bool true) (by simp[results,results151,go_sem]) rfl ⟨rfl,(But.refl _ _).alloc _⟩)
end Go.Proofs.YtjlfllhedceigaaGreatDoor
