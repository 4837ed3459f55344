/- Whether what a line has may be so in its -/
import Derived.Test.YtcgecpoedojhjaaGreatDoorKPXB
import Derived.Test.YtcgecpoedojhjaaGreatDoorKPXF
namespace Go.Proofs.YtcgecpoedojhjaaGreatDoor
open Go.Proofs.Tryz
open Go.RowKit
set_option maxHeartbeats 8000000
set_option maxRecDepth 100000
theorem zqd (a:Act) (w:World) (d t:Nat) (u:TypeId) (ps:String) (ed:Array Edge) (gd:Option (Nat × Bool)) (b:Nat) (h1:a.eval (.tmp t)=.pointer (some ⟨b,0,none⟩)) :
  (execOp a.eval { dst:=some d,op:=Op.fieldAddr 37 (.tmp t) 1,type:=u,pos:=ps,after:=ed,guard:=gd }).run prog w=.ok (.value (.pointer (some ⟨b,1,none⟩))) w:=by
 unfold execOp
 simp only[h1]
 go_simp
theorem zos (a:Act) (w:World) (d t0:Nat) (u:TypeId) (ps:String) (ed:Array Edge) (gd:Option (Nat × Bool)) (z0:Value) (h0:a.eval (.tmp t0)=z0) :
  (execOp a.eval { dst:=some d,op:=Op.call { callee:=Callee.value (Operand.func 38),args:=#[Operand.tmp t0],argTypes:=#[35] },type:=u,pos:=ps,after:=ed,guard:=gd }).run prog w=.ok (.enter 38 #[z0]) w:=by
 unfold execOp
 go_simp
 rw[← h0]
 simp[Act.eval]
theorem qbw (a:Act) (w:World) (d t0 t1:Nat) (u:TypeId) (ps:String) (ed:Array Edge) (gd:Option (Nat × Bool)) (z0 z1:Value) (h0:a.eval (.tmp t0)=z0) (h1:a.eval (.tmp t1)=z1) :
  (execOp a.eval { dst:=some d,op:=Op.call { callee:=Callee.value (Operand.func 20),args:=#[Operand.tmp t0,Operand.tmp t1],argTypes:=#[35,35] },type:=u,pos:=ps,after:=ed,guard:=gd }).run prog w=.ok (.enter 20 #[z0,z1]) w:=by
 unfold execOp
 go_simp
 rw[← h0,← h1]
 simp[Act.eval]
theorem qbr (a:Act) (w:World) (d:Nat) (u:TypeId) (ps:String) (ed:Array Edge) (gd:Option (Nat × Bool)) :
  (execOp a.eval { dst:=some d,op:=Op.call { callee:=Callee.value (Operand.func 58),args:=#[Operand.const (Value.int IntKind.i64 1)],argTypes:=#[3] },type:=u,pos:=ps,after:=ed,guard:=gd }).run prog w=.ok (.enter 58 #[.int .i64 1]) w:=by
 unfold execOp
 go_simp
theorem zse (a:Act) (w:World) (d t:Nat) (u:TypeId) (ps:String) (ed:Array Edge) (gd:Option (Nat × Bool)) (x:Int) (b:Bool) (hb:b=decide (0≤x)) (h:a.eval (.tmp t)=.int .i64 x) :
  (execOp a.eval { dst:=some d,op:=Op.binOp BinOp.geq 3 (.tmp t) (Operand.const (Value.int IntKind.i64 0)) 3,type:=u,pos:=ps,after:=ed,guard:=gd }).run prog w=.ok (.value (.bool b)) w:=by
 have e:a.eval (.const (.int .i64 0))=.int .i64 0:=rfl
 subst hb
 unfold execOp
 simp only[h,e]
 go_simp
theorem qbu (a:Act) (w:World) (d t:Nat) (u:TypeId) (ps:String) (ed:Array Edge) (gd:Option (Nat × Bool)) (x:Int) (b:Bool) (hb:b=decide (x≤0)) (h:a.eval (.tmp t)=.int .i64 x) :
  (execOp a.eval { dst:=some d,op:=Op.binOp BinOp.leq 3 (.tmp t) (Operand.const (Value.int IntKind.i64 0)) 3,type:=u,pos:=ps,after:=ed,guard:=gd }).run prog w=.ok (.value (.bool b)) w:=by
 have e:a.eval (.const (.int .i64 0))=.int .i64 0:=rfl
 subst hb
 unfold execOp
 simp only[h,e]
 go_simp
theorem zsf (a:Act) (w:World) (d t1 t2:Nat) (u:TypeId) (ps:String) (ed:Array Edge) (gd:Option (Nat × Bool)) (b:Bool) (v o:Value) (ho:o=if b then v else .bool false) (h1:a.eval (.tmp t1)=.bool b) (h2:a.eval (.tmp t2)=v) :
  (execOp a.eval { dst:=some d,op:=Op.pick (.tmp t1) (.tmp t2) (.const (.bool false)),type:=u,pos:=ps,after:=ed,guard:=gd }).run prog w=.ok (.value o) w:=by
 subst ho
 cases b
 ·unfold execOp
  simp only[h1,h2]
  go_simp
 ·unfold execOp
  simp only[h1,h2]
  go_simp
def qcv:Oper:=⟨some 7,.fieldAddr 37 (.tmp 1) 1,0, "treaty.go:72",#[],none⟩
def qcu:Oper:=⟨some 8,.load 35 (.tmp 7),35, "treaty.go:72",#[⟨0,.data⟩],none⟩
def qct:Oper:=⟨some 9,.call { callee:=.value (.func 38),args:=#[.tmp 8],argTypes:=#[35] },3, "treaty.go:72",#[⟨1,.data⟩],none⟩
def qcs:Oper:=⟨some 10,.binOp .geq 3 (.tmp 9) (.const (.int .i64 0)) 3,4, "treaty.go:72",#[⟨2,.data⟩],none⟩
def qcr:Oper:=⟨some 11,.move (.tmp 10),4, "treaty.go:72",#[⟨3,.data⟩,⟨2,.chain⟩],none⟩
def qcq:Oper:=⟨some 12,.fieldAddr 37 (.tmp 1) 1,0, "treaty.go:72",#[⟨4,.guard⟩],some (4,true)⟩
def qcp:Oper:=⟨some 13,.load 35 (.tmp 12),35, "treaty.go:72",#[⟨5,.data⟩,⟨4,.guard⟩],some (4,true)⟩
def qco:Oper:=⟨some 14,.call { callee:=.value (.func 58),args:=#[.const (.int .i64 1)],argTypes:=#[3] },35, "treaty.go:72",#[⟨4,.chain⟩,⟨4,.guard⟩],some (4,true)⟩
def qcn:Oper:=⟨some 15,.call { callee:=.value (.func 20),args:=#[.tmp 13,.tmp 14],argTypes:=#[35,35] },3, "treaty.go:72",#[⟨6,.data⟩,⟨7,.data⟩,⟨7,.chain⟩,⟨4,.guard⟩],some (4,true)⟩
def qcm:Oper:=⟨some 16,.binOp .leq 3 (.tmp 15) (.const (.int .i64 0)) 3,4, "treaty.go:72",#[⟨8,.data⟩,⟨4,.guard⟩],some (4,true)⟩
def zvk:Oper:=⟨some 17,.pick (.tmp 11) (.tmp 16) (.const (.bool false)),4, "treaty.go:72",#[⟨4,.data⟩,⟨9,.data⟩],none⟩
def zvj:Oper:=⟨some 2,.assign (.tmp 17),4, "treaty.go:72",#[⟨10,.data⟩,⟨8,.chain⟩,⟨0,.phase⟩,⟨1,.phase⟩,⟨2,.phase⟩,⟨3,.phase⟩,⟨4,.phase⟩,⟨5,.phase⟩,⟨6,.phase⟩,⟨7,.phase⟩,⟨8,.phase⟩,⟨9,.phase⟩,⟨10,.phase⟩],none⟩
def aj:Array Oper:=#[qcv,qcu,qct,qcs,qcr,qcq,qcp,qco,qcn,qcm,zvk,zvj]
def zib (i:Nat):Nat:=match i with
 | 0=>7
 | 1=>8
 | 2=>9
 | 3=>10
 | 4=>11
 | 5=>12
 | 6=>13
 | 7=>14
 | 8=>15
 | 9=>16
 | 10=>17
 | _=>2
def zxe (g1:Nat) (s1:Bool) (x1:Int) (y1:Int) (p1:Option Addr) (sg:Int) (ws:Bool) (wx:Int) (r:Int) (b:Bool) (i:Nat) (_w:World) (v:Value):Prop:=match i with
 | 0=>v=.pointer (some ⟨g1,1,none⟩)
 | 1=>v=.agg #[.bool s1,.int .u64 x1,.int .u64 y1,.pointer p1]
 | 2=>v=.int .i64 sg
 | 3=>v=.bool true
 | 4=>v=.bool true
 | 5=>v=.pointer (some ⟨g1,1,none⟩)
 | 6=>v=.agg #[.bool s1,.int .u64 x1,.int .u64 y1,.pointer p1]
 | 7=>v=.agg #[.bool ws,.int .u64 wx,.int .u64 0,.pointer none]
 | 8=>v=.int .i64 r
 | 9=>v=.bool b
 | 10=>v=.bool b
 | _=>v=.bool b
theorem zzc {g1:Nat} {s1:Bool} {x1:Int} {y1:Int} {p1:Option Addr} {sg:Int} {ws:Bool} {wx:Int} {r:Int} {b:Bool} {i:Nat} {w w':World} {v:Value} (h:zxe g1 s1 x1 y1 p1 sg ws wx r b i w v) (hi:i<12) (_hb:But [] w w'):zxe g1 s1 x1 y1 p1 sg ws wx r b i w' v:=by
 have:i=0∨i=1∨i=2∨i=3∨i=4∨i=5∨i=6∨i=7∨i=8∨i=9∨i=10∨i=11:=by omega
 rcases this with rfl|rfl|rfl|rfl|rfl|rfl|rfl|rfl|rfl|rfl|rfl|rfl
 all_goals first | exact h
theorem zzb:∀ i j,i<12→j<12→zib i=zib j→i=j:=fun i j hi hj=>(by decide:∀ i,i<12→∀ j,j<12→zib i=zib j→i=j) i hi j hj
theorem qgb (id:Nat) (Q:Exit→Act→World→Prop) (base:Act) (W0:World) (g1:Nat) (s1:Bool) (x1:Int) (y1:Int) (p1:Option Addr) (sg:Int) (ws:Bool) (wx:Int) (r:Int) (b:Bool) (hs:17<base.tmps.size) (e1:base.eval (.tmp 1)=.pointer (some ⟨g1,0,none⟩))
  (hsg:0≤sg) (hbb:b=decide (r≤0)) (c1:P4o W0 g1 1 s1 x1 y1 p1)
  (SG:∀ w,But [] W0 w→Calls prog 38 #[.agg #[.bool s1,.int .u64 x1,.int .u64 y1,.pointer p1]] w fun e w'=>e=.returned (.int .i64 sg)∧But [] w w')
  (WH:∀ w,Calls prog 58 #[.int .i64 1] w fun e w'=>e=.returned (.agg #[.bool ws,.int .u64 wx,.int .u64 0,.pointer none])∧But [] w w')
  (CM:∀ w,But [] W0 w→Calls prog 20 #[.agg #[.bool s1,.int .u64 x1,.int .u64 y1,.pointer p1],.agg #[.bool ws,.int .u64 wx,.int .u64 0,.pointer none]] w fun e w'=>e=.returned (.int .i64 r)∧But [] w w')
  (hQ:∀ w,But [] W0 w→Q .normal (qx base [(7,.pointer (some ⟨g1,1,none⟩)),(8,.agg #[.bool s1,.int .u64 x1,.int .u64 y1,.pointer p1]),(9,.int .i64 sg),(10,.bool true),(11,.bool true),(12,.pointer (some ⟨g1,1,none⟩)),(13,.agg #[.bool s1,.int .u64 x1,.int .u64 y1,.pointer p1]),(14,.agg #[.bool ws,.int .u64 wx,.int .u64 0,.pointer none]),(15,.int .i64 r),(16,.bool b),(17,.bool b),(2,.bool b)]) w) :
  (Code.region id aj true).wp prog Q base W0:=by
 have hdr:∀ {w},But [] W0.drew w→But [] W0 w:=fun h=>(But.refl _ _).drew.trans' h
 have hT:∀ i,i<12→zib i<base.tmps.size:=fun i hi=>by
  have h:zib i≤17:=by revert i;decide
  omega
 refine zbr (by kernel_rfl) (wh (by kernel_rfl)) (zxe g1 s1 x1 y1 p1 sg ws wx r b) zib (by kernel_rfl) ?_ zzb hT (fun i w w' v hi h hb=>zzc h hi hb) ?_ ?_
 ·intro i o j want ho hg w v hv
  have hi:i<12:=(Array.getElem?_eq_some_iff.1 ho).1
  have:i=0∨i=1∨i=2∨i=3∨i=4∨i=5∨i=6∨i=7∨i=8∨i=9∨i=10∨i=11:=by omega
  rcases this with rfl|rfl|rfl|rfl|rfl|rfl|rfl|rfl|rfl|rfl|rfl|rfl
  ·obtain rfl:=so (show aj[0]? =some qcv from rfl) ho
   exact absurd (show (none:Option (Nat × Bool))=some (j,want) from hg) (by simp)
  ·obtain rfl:=so (show aj[1]? =some qcu from rfl) ho
   exact absurd (show (none:Option (Nat × Bool))=some (j,want) from hg) (by simp)
  ·obtain rfl:=so (show aj[2]? =some qct from rfl) ho
   exact absurd (show (none:Option (Nat × Bool))=some (j,want) from hg) (by simp)
  ·obtain rfl:=so (show aj[3]? =some qcs from rfl) ho
   exact absurd (show (none:Option (Nat × Bool))=some (j,want) from hg) (by simp)
  ·obtain rfl:=so (show aj[4]? =some qcr from rfl) ho
   exact absurd (show (none:Option (Nat × Bool))=some (j,want) from hg) (by simp)
  ·obtain rfl:=so (show aj[5]? =some qcq from rfl) ho
   obtain⟨rfl,rfl⟩:=Prod.mk.inj (Option.some.inj (show some (4,true)=some (j,want) from hg))
   exact hv
  ·obtain rfl:=so (show aj[6]? =some qcp from rfl) ho
   obtain⟨rfl,rfl⟩:=Prod.mk.inj (Option.some.inj (show some (4,true)=some (j,want) from hg))
   exact hv
  ·obtain rfl:=so (show aj[7]? =some qco from rfl) ho
   obtain⟨rfl,rfl⟩:=Prod.mk.inj (Option.some.inj (show some (4,true)=some (j,want) from hg))
   exact hv
  ·obtain rfl:=so (show aj[8]? =some qcn from rfl) ho
   obtain⟨rfl,rfl⟩:=Prod.mk.inj (Option.some.inj (show some (4,true)=some (j,want) from hg))
   exact hv
  ·obtain rfl:=so (show aj[9]? =some qcm from rfl) ho
   obtain⟨rfl,rfl⟩:=Prod.mk.inj (Option.some.inj (show some (4,true)=some (j,want) from hg))
   exact hv
  ·obtain rfl:=so (show aj[10]? =some zvk from rfl) ho
   exact absurd (show (none:Option (Nat × Bool))=some (j,want) from hg) (by simp)
  ·obtain rfl:=so (show aj[11]? =some zvj from rfl) ho
   exact absurd (show (none:Option (Nat × Bool))=some (j,want) from hg) (by simp)
 ·intro i o a w K ho hH he hdep hk
  have hi:i<12:=(Array.getElem?_eq_some_iff.1 ho).1
  have hD:=zdy (ps:=[(1,0),(2,1),(3,2),(4,2),(4,3),(5,4),(6,4),(6,5),(7,4),(8,4),(8,6),(8,7),(9,4),(9,8),(10,4),(10,9),(11,0),(11,1),(11,2),(11,3),(11,4),(11,5),(11,6),(11,7),(11,8),(11,9),(11,10)]) (by kernel_rfl) ho (fun j=>zxe g1 s1 x1 y1 p1 sg ws wx r b j w (a.eval (.tmp (zib j)))) hdep
  have e1':=(he 1 (fun j hj e=>absurd e.symm (by revert j;decide))).trans e1
  have:i=0∨i=1∨i=2∨i=3∨i=4∨i=5∨i=6∨i=7∨i=8∨i=9∨i=10∨i=11:=by omega
  rcases this with rfl|rfl|rfl|rfl|rfl|rfl|rfl|rfl|rfl|rfl|rfl|rfl
  ·obtain rfl:=so (show aj[0]? =some qcv from rfl) ho
   exact zh (zqd a w _ _ _ _ _ _ g1 e1') (hk _ _ (But.refl _ _) rfl)
  ·obtain rfl:=so (show aj[1]? =some qcu from rfl) ho
   exact zh (zbq a w _ _ _ _ _ _ g1 1 _ _ _ _ (hD 0 (by simp)) (c1.but (hdr hH) (by simp))) (hk _ _ (But.refl _ _) rfl)
  ·obtain rfl:=so (show aj[2]? =some qct from rfl) ho
   exact jd (zos a w _ _ _ _ _ _ _ (hD 1 (by simp))) (R:=fun w' v=>But [] w w'∧v=_) ((SG w (hdr hH)).mono fun e w' ⟨he,hb⟩=>⟨_,he,hb,rfl⟩) (fun v w' hv=>hk v w' hv.1 hv.2)
  ·obtain rfl:=so (show aj[3]? =some qcs from rfl) ho
   exact zh (zse a w _ _ _ _ _ _ _ true (decide_eq_true hsg).symm (hD 2 (by simp))) (hk _ _ (But.refl _ _) rfl)
  ·obtain rfl:=so (show aj[4]? =some qcr from rfl) ho
   exact zh (zz a w _ _ _ _ _ _ _ (hD 3 (by simp))) (hk _ _ (But.refl _ _) rfl)
  ·obtain rfl:=so (show aj[5]? =some qcq from rfl) ho
   exact zh (zqd a w _ _ _ _ _ _ g1 e1') (hk _ _ (But.refl _ _) rfl)
  ·obtain rfl:=so (show aj[6]? =some qcp from rfl) ho
   exact zh (zbq a w _ _ _ _ _ _ g1 1 _ _ _ _ (hD 5 (by simp)) (c1.but (hdr hH) (by simp))) (hk _ _ (But.refl _ _) rfl)
  ·obtain rfl:=so (show aj[7]? =some qco from rfl) ho
   exact jd (qbr a w _ _ _ _ _) (R:=fun w' v=>But [] w w'∧v=_) ((WH w).mono fun e w' ⟨he,hb⟩=>⟨_,he,hb,rfl⟩) (fun v w' hv=>hk v w' hv.1 hv.2)
  ·obtain rfl:=so (show aj[8]? =some qcn from rfl) ho
   exact jd (qbw a w _ _ _ _ _ _ _ _ _ (hD 6 (by simp)) (hD 7 (by simp))) (R:=fun w' v=>But [] w w'∧v=_) ((CM w (hdr hH)).mono fun e w' ⟨he,hb⟩=>⟨_,he,hb,rfl⟩) (fun v w' hv=>hk v w' hv.1 hv.2)
  ·obtain rfl:=so (show aj[9]? =some qcm from rfl) ho
   exact zh (qbu a w _ _ _ _ _ _ _ b hbb (hD 8 (by simp))) (hk _ _ (But.refl _ _) rfl)
  ·obtain rfl:=so (show aj[10]? =some zvk from rfl) ho
   exact zh (zsf a w _ _ _ _ _ _ _ true _ _ rfl (hD 4 (by simp)) (hD 9 (by simp))) (hk _ _ (But.refl _ _) rfl)
  ·obtain rfl:=so (show aj[11]? =some zvj from rfl) ho
   exact zh (zae a w _ _ _ _ _ _ _ (hD 10 (by simp))) (hk _ _ (But.refl _ _) rfl)
 ·intro a w h
  have ea:=h.puts hT (fun i=>match i with
   | 0=>.pointer (some ⟨g1,1,none⟩)
   | 1=>.agg #[.bool s1,.int .u64 x1,.int .u64 y1,.pointer p1]
   | 2=>.int .i64 sg
   | 3=>.bool true
   | 4=>.bool true
   | 5=>.pointer (some ⟨g1,1,none⟩)
   | 6=>.agg #[.bool s1,.int .u64 x1,.int .u64 y1,.pointer p1]
   | 7=>.agg #[.bool ws,.int .u64 wx,.int .u64 0,.pointer none]
   | 8=>.int .i64 r
   | 9=>.bool b
   | 10=>.bool b
   | _=>.bool b) (fun i hi=>by
   have hi':i<12:=hi
   have hc:=h.has i hi rfl
   have:i=0∨i=1∨i=2∨i=3∨i=4∨i=5∨i=6∨i=7∨i=8∨i=9∨i=10∨i=11:=by omega
   rcases this with rfl|rfl|rfl|rfl|rfl|rfl|rfl|rfl|rfl|rfl|rfl|rfl
   all_goals first | exact hc|rfl)
  rw[ea]
  exact hQ w (hdr h.but)
def qcl:Oper:=⟨some 7,.fieldAddr 37 (.tmp 1) 1,0, "treaty.go:72",#[],none⟩
def qck:Oper:=⟨some 8,.load 35 (.tmp 7),35, "treaty.go:72",#[⟨0,.data⟩],none⟩
def qcj:Oper:=⟨some 9,.call { callee:=.value (.func 38),args:=#[.tmp 8],argTypes:=#[35] },3, "treaty.go:72",#[⟨1,.data⟩],none⟩
def qci:Oper:=⟨some 10,.binOp .geq 3 (.tmp 9) (.const (.int .i64 0)) 3,4, "treaty.go:72",#[⟨2,.data⟩],none⟩
def qch:Oper:=⟨some 11,.move (.tmp 10),4, "treaty.go:72",#[⟨3,.data⟩,⟨2,.chain⟩],none⟩
def qcg:Oper:=⟨some 12,.fieldAddr 37 (.tmp 1) 1,0, "treaty.go:72",#[⟨4,.guard⟩],some (4,true)⟩
def qcf:Oper:=⟨some 13,.load 35 (.tmp 12),35, "treaty.go:72",#[⟨5,.data⟩,⟨4,.guard⟩],some (4,true)⟩
def qce:Oper:=⟨some 14,.call { callee:=.value (.func 58),args:=#[.const (.int .i64 1)],argTypes:=#[3] },35, "treaty.go:72",#[⟨4,.chain⟩,⟨4,.guard⟩],some (4,true)⟩
def qcd:Oper:=⟨some 15,.call { callee:=.value (.func 20),args:=#[.tmp 13,.tmp 14],argTypes:=#[35,35] },3, "treaty.go:72",#[⟨6,.data⟩,⟨7,.data⟩,⟨7,.chain⟩,⟨4,.guard⟩],some (4,true)⟩
def qcc:Oper:=⟨some 16,.binOp .leq 3 (.tmp 15) (.const (.int .i64 0)) 3,4, "treaty.go:72",#[⟨8,.data⟩,⟨4,.guard⟩],some (4,true)⟩
def zvi:Oper:=⟨some 17,.pick (.tmp 11) (.tmp 16) (.const (.bool false)),4, "treaty.go:72",#[⟨4,.data⟩,⟨9,.data⟩],none⟩
def zvh:Oper:=⟨some 2,.assign (.tmp 17),4, "treaty.go:72",#[⟨10,.data⟩,⟨8,.chain⟩,⟨0,.phase⟩,⟨1,.phase⟩,⟨2,.phase⟩,⟨3,.phase⟩,⟨4,.phase⟩,⟨5,.phase⟩,⟨6,.phase⟩,⟨7,.phase⟩,⟨8,.phase⟩,⟨9,.phase⟩,⟨10,.phase⟩],none⟩
def ai:Array Oper:=#[qcl,qck,qcj,qci,qch,qcg,qcf,qce,qcd,qcc,zvi,zvh]
def zia (i:Nat):Nat:=match i with
 | 0=>7
 | 1=>8
 | 2=>9
 | 3=>10
 | 4=>11
 | 5=>12
 | 6=>13
 | 7=>14
 | 8=>15
 | 9=>16
 | 10=>17
 | _=>2
def zxd (g1:Nat) (s1:Bool) (x1:Int) (y1:Int) (p1:Option Addr) (sg:Int) (i:Nat) (_w:World) (v:Value):Prop:=match i with
 | 0=>v=.pointer (some ⟨g1,1,none⟩)
 | 1=>v=.agg #[.bool s1,.int .u64 x1,.int .u64 y1,.pointer p1]
 | 2=>v=.int .i64 sg
 | 3=>v=.bool false
 | 4=>v=.bool false
 | 5=>v=undef
 | 6=>v=undef
 | 7=>v=undef
 | 8=>v=undef
 | 9=>v=undef
 | 10=>v=.bool false
 | _=>v=.bool false
def qjj (i:Nat):Bool:=match i with
 | 5=>true
 | 6=>true
 | 7=>true
 | 8=>true
 | 9=>true
 | _=>false
theorem zza:∀ i j,i<12→j<12→zia i=zia j→i=j:=fun i j hi hj=>(by decide:∀ i,i<12→∀ j,j<12→zia i=zia j→i=j) i hi j hj
theorem qgc (id:Nat) (Q:Exit→Act→World→Prop) (base:Act) (W0:World) (g1:Nat) (s1:Bool) (x1:Int) (y1:Int) (p1:Option Addr) (sg:Int) (hs:17<base.tmps.size) (e1:base.eval (.tmp 1)=.pointer (some ⟨g1,0,none⟩))
  (hsg:¬ 0≤sg) (c1:P4o W0 g1 1 s1 x1 y1 p1)
  (SG:∀ w,But [] W0 w→Calls prog 38 #[.agg #[.bool s1,.int .u64 x1,.int .u64 y1,.pointer p1]] w fun e w'=>e=.returned (.int .i64 sg)∧But [] w w')
  (hQ:∀ w,But [] W0 w→Q .normal (qx base [(7,.pointer (some ⟨g1,1,none⟩)),(8,.agg #[.bool s1,.int .u64 x1,.int .u64 y1,.pointer p1]),(9,.int .i64 sg),(10,.bool false),(11,.bool false),(12,undef),(13,undef),(14,undef),(15,undef),(16,undef),(17,.bool false),(2,.bool false)]) w) :
  (Code.region id ai true).wp prog Q base W0:=by
 have hdr:∀ {w},But [] W0.drew w→But [] W0 w:=fun h=>(But.refl _ _).drew.trans' h
 have hT:∀ i,i<12→zia i<base.tmps.size:=fun i hi=>by
  have h:zia i≤17:=by revert i;decide
  omega
 have hCb:∀ i w w' v,i<12→zxd g1 s1 x1 y1 p1 sg i w v→zxd g1 s1 x1 y1 p1 sg i w' v:=fun i w w' v hi h=>by
  have:i=0∨i=1∨i=2∨i=3∨i=4∨i=5∨i=6∨i=7∨i=8∨i=9∨i=10∨i=11:=by omega
  rcases this with rfl|rfl|rfl|rfl|rfl|rfl|rfl|rfl|rfl|rfl|rfl|rfl
  ·exact (show v=.pointer (some ⟨g1,1,none⟩) from h)
  ·exact (show v=.agg #[.bool s1,.int .u64 x1,.int .u64 y1,.pointer p1] from h)
  ·exact (show v=.int .i64 sg from h)
  ·exact (show v=.bool false from h)
  ·exact (show v=.bool false from h)
  ·exact (show v=undef from h)
  ·exact (show v=undef from h)
  ·exact (show v=undef from h)
  ·exact (show v=undef from h)
  ·exact (show v=undef from h)
  ·exact (show v=.bool false from h)
  ·exact (show v=.bool false from h)
 refine zsh (by kernel_rfl) (wh (by kernel_rfl)) (zxd g1 s1 x1 y1 p1 sg) zia (by kernel_rfl) qjj ?_ ?_ ?_ zza hT (fun i w w' v hi h _=>hCb i w w' v hi h) ?_ ?_
 ·intro i o j want ho hg w v hv
  have hi:i<12:=(Array.getElem?_eq_some_iff.1 ho).1
  have:i=0∨i=1∨i=2∨i=3∨i=4∨i=5∨i=6∨i=7∨i=8∨i=9∨i=10∨i=11:=by omega
  rcases this with rfl|rfl|rfl|rfl|rfl|rfl|rfl|rfl|rfl|rfl|rfl|rfl
  ·obtain rfl:=so (show ai[0]? =some qcl from rfl) ho
   exact absurd (show (none:Option (Nat × Bool))=some (j,want) from hg) (by simp)
  ·obtain rfl:=so (show ai[1]? =some qck from rfl) ho
   exact absurd (show (none:Option (Nat × Bool))=some (j,want) from hg) (by simp)
  ·obtain rfl:=so (show ai[2]? =some qcj from rfl) ho
   exact absurd (show (none:Option (Nat × Bool))=some (j,want) from hg) (by simp)
  ·obtain rfl:=so (show ai[3]? =some qci from rfl) ho
   exact absurd (show (none:Option (Nat × Bool))=some (j,want) from hg) (by simp)
  ·obtain rfl:=so (show ai[4]? =some qch from rfl) ho
   exact absurd (show (none:Option (Nat × Bool))=some (j,want) from hg) (by simp)
  ·obtain rfl:=so (show ai[5]? =some qcg from rfl) ho
   obtain⟨rfl,rfl⟩:=Prod.mk.inj (Option.some.inj (show some (4,true)=some (j,want) from hg))
   exact hv
  ·obtain rfl:=so (show ai[6]? =some qcf from rfl) ho
   obtain⟨rfl,rfl⟩:=Prod.mk.inj (Option.some.inj (show some (4,true)=some (j,want) from hg))
   exact hv
  ·obtain rfl:=so (show ai[7]? =some qce from rfl) ho
   obtain⟨rfl,rfl⟩:=Prod.mk.inj (Option.some.inj (show some (4,true)=some (j,want) from hg))
   exact hv
  ·obtain rfl:=so (show ai[8]? =some qcd from rfl) ho
   obtain⟨rfl,rfl⟩:=Prod.mk.inj (Option.some.inj (show some (4,true)=some (j,want) from hg))
   exact hv
  ·obtain rfl:=so (show ai[9]? =some qcc from rfl) ho
   obtain⟨rfl,rfl⟩:=Prod.mk.inj (Option.some.inj (show some (4,true)=some (j,want) from hg))
   exact hv
  ·obtain rfl:=so (show ai[10]? =some zvi from rfl) ho
   exact absurd (show (none:Option (Nat × Bool))=some (j,want) from hg) (by simp)
  ·obtain rfl:=so (show ai[11]? =some zvh from rfl) ho
   exact absurd (show (none:Option (Nat × Bool))=some (j,want) from hg) (by simp)
 ·intro i o ho hk hg
  have hi:i<12:=(Array.getElem?_eq_some_iff.1 ho).1
  have:i=0∨i=1∨i=2∨i=3∨i=4∨i=5∨i=6∨i=7∨i=8∨i=9∨i=10∨i=11:=by omega
  rcases this with rfl|rfl|rfl|rfl|rfl|rfl|rfl|rfl|rfl|rfl|rfl|rfl
  ·exact absurd (show false=true from hk) (by simp)
  ·exact absurd (show false=true from hk) (by simp)
  ·exact absurd (show false=true from hk) (by simp)
  ·exact absurd (show false=true from hk) (by simp)
  ·exact absurd (show false=true from hk) (by simp)
  ·obtain rfl:=so (show ai[5]? =some qcg from rfl) ho
   exact absurd (show some (4,true)=(none:Option (Nat × Bool)) from hg) (by simp)
  ·obtain rfl:=so (show ai[6]? =some qcf from rfl) ho
   exact absurd (show some (4,true)=(none:Option (Nat × Bool)) from hg) (by simp)
  ·obtain rfl:=so (show ai[7]? =some qce from rfl) ho
   exact absurd (show some (4,true)=(none:Option (Nat × Bool)) from hg) (by simp)
  ·obtain rfl:=so (show ai[8]? =some qcd from rfl) ho
   exact absurd (show some (4,true)=(none:Option (Nat × Bool)) from hg) (by simp)
  ·obtain rfl:=so (show ai[9]? =some qcc from rfl) ho
   exact absurd (show some (4,true)=(none:Option (Nat × Bool)) from hg) (by simp)
  ·exact absurd (show false=true from hk) (by simp)
  ·exact absurd (show false=true from hk) (by simp)
 ·intro i w hk
  by_cases hi:i<12
  ·have:i=0∨i=1∨i=2∨i=3∨i=4∨i=5∨i=6∨i=7∨i=8∨i=9∨i=10∨i=11:=by omega
   rcases this with rfl|rfl|rfl|rfl|rfl|rfl|rfl|rfl|rfl|rfl|rfl|rfl
   ·exact absurd (show false=true from hk) (by simp)
   ·exact absurd (show false=true from hk) (by simp)
   ·exact absurd (show false=true from hk) (by simp)
   ·exact absurd (show false=true from hk) (by simp)
   ·exact absurd (show false=true from hk) (by simp)
   ·exact (show undef=undef from rfl)
   ·exact (show undef=undef from rfl)
   ·exact (show undef=undef from rfl)
   ·exact (show undef=undef from rfl)
   ·exact (show undef=undef from rfl)
   ·exact absurd (show false=true from hk) (by simp)
   ·exact absurd (show false=true from hk) (by simp)
  ·exfalso
   unfold qjj at hk
   split at hk
   ·omega
   ·omega
   ·omega
   ·omega
   ·omega
   ·simp at hk
 ·intro i o a w K hki ho hH he hdep hk
  have hi:i<12:=(Array.getElem?_eq_some_iff.1 ho).1
  have hD:=zdy (ps:=[(1,0),(2,1),(3,2),(4,2),(4,3),(5,4),(6,4),(6,5),(7,4),(8,4),(8,6),(8,7),(9,4),(9,8),(10,4),(10,9),(11,0),(11,1),(11,2),(11,3),(11,4),(11,5),(11,6),(11,7),(11,8),(11,9),(11,10)]) (by kernel_rfl) ho (fun j=>zxd g1 s1 x1 y1 p1 sg j w (a.eval (.tmp (zia j)))) hdep
  have e1':=(he 1 (fun j hj e=>absurd e.symm (by revert j;decide))).trans e1
  have:i=0∨i=1∨i=2∨i=3∨i=4∨i=5∨i=6∨i=7∨i=8∨i=9∨i=10∨i=11:=by omega
  rcases this with rfl|rfl|rfl|rfl|rfl|rfl|rfl|rfl|rfl|rfl|rfl|rfl
  ·obtain rfl:=so (show ai[0]? =some qcl from rfl) ho
   exact zh (zqd a w _ _ _ _ _ _ g1 e1') (hk _ _ (But.refl _ _) rfl)
  ·obtain rfl:=so (show ai[1]? =some qck from rfl) ho
   exact zh (zbq a w _ _ _ _ _ _ g1 1 _ _ _ _ (hD 0 (by simp)) (c1.but (hdr hH) (by simp))) (hk _ _ (But.refl _ _) rfl)
  ·obtain rfl:=so (show ai[2]? =some qcj from rfl) ho
   exact jd (zos a w _ _ _ _ _ _ _ (hD 1 (by simp))) (R:=fun w' v=>But [] w w'∧v=_) ((SG w (hdr hH)).mono fun e w' ⟨he,hb⟩=>⟨_,he,hb,rfl⟩) (fun v w' hv=>hk v w' hv.1 hv.2)
  ·obtain rfl:=so (show ai[3]? =some qci from rfl) ho
   exact zh (zse a w _ _ _ _ _ _ _ false (decide_eq_false hsg).symm (hD 2 (by simp))) (hk _ _ (But.refl _ _) rfl)
  ·obtain rfl:=so (show ai[4]? =some qch from rfl) ho
   exact zh (zz a w _ _ _ _ _ _ _ (hD 3 (by simp))) (hk _ _ (But.refl _ _) rfl)
  ·exact absurd (show true=false from hki) (by simp)
  ·exact absurd (show true=false from hki) (by simp)
  ·exact absurd (show true=false from hki) (by simp)
  ·exact absurd (show true=false from hki) (by simp)
  ·exact absurd (show true=false from hki) (by simp)
  ·obtain rfl:=so (show ai[10]? =some zvi from rfl) ho
   exact zh (zsf a w _ _ _ _ _ _ _ false _ _ rfl (hD 4 (by simp)) rfl) (hk _ _ (But.refl _ _) rfl)
  ·obtain rfl:=so (show ai[11]? =some zvh from rfl) ho
   exact zh (zae a w _ _ _ _ _ _ _ (hD 10 (by simp))) (hk _ _ (But.refl _ _) rfl)
 ·intro a w h
  have ea:=h.puts hT (fun i=>match i with
   | 0=>.pointer (some ⟨g1,1,none⟩)
   | 1=>.agg #[.bool s1,.int .u64 x1,.int .u64 y1,.pointer p1]
   | 2=>.int .i64 sg
   | 3=>.bool false
   | 4=>.bool false
   | 5=>undef
   | 6=>undef
   | 7=>undef
   | 8=>undef
   | 9=>undef
   | 10=>.bool false
   | _=>.bool false) (fun i hi=>by
   have hi':i<12:=hi
   have hc:=h.has i hi rfl
   have:i=0∨i=1∨i=2∨i=3∨i=4∨i=5∨i=6∨i=7∨i=8∨i=9∨i=10∨i=11:=by omega
   rcases this with rfl|rfl|rfl|rfl|rfl|rfl|rfl|rfl|rfl|rfl|rfl|rfl
   all_goals first | exact hc|rfl)
  rw[ea]
  exact hQ w (hdr h.but)
theorem zmq (s:Bool) (x y:Int) (p:Option Addr) (fr li ti pr:Int) (to:ByteArray) (f:Rat) (w:World) (hf:zi w (.agg #[.bool s,.int .u64 x,.int .u64 y,.pointer p]) f) (lf:Len f 1) :
  Calls prog 49 #[zq 1 s x y p fr li ti pr to] w fun e w'=>e=.returned (.bool (decide (0≤f∧f≤1)))∧But [] w w':=by
 obtain⟨ws,wx,FW,CW⟩:=zfp 1 (by omega) (by omega)
 have l1:Len (((1:Int):Rat)) 1:=zjq 1 (by decide)
 obtain⟨sg,hsg⟩:∃ sg,sg=f.num.sign:=⟨_,rfl⟩
 have h0n:0≤f↔0≤f.num:=Rat.num_nonneg.symm
 have hs0:0≤sg↔0≤f.num:=by
  rw[hsg]
  rcases Int.lt_trichotomy f.num 0 with h | h | h
  ·rw[Int.sign_eq_neg_one_of_neg h];omega
  ·rw[h];decide
  ·rw[Int.sign_eq_one_of_pos h];omega
 have SG:=hide (fun W (h:But [] w W)=>iw _ f W (hf.but h))
 rw[← hsg] at SG
 obtain⟨r,hr⟩:∃ r,r=zbn (f.num*((((1:Int):Rat)).den:Int)) ((((1:Int):Rat)).num*(f.den:Int)):=⟨_,rfl⟩
 have CM:=hide (fun W (h:But [] w W)=>zdw _ _ f ((1:Int):Rat) W (hf.but h) (FW W) (lf.mono (by omega)) (l1.mono (by omega)) r hr)
 have hr1:r≤0↔f≤1:=by
  rw[hr]
  obtain⟨e1,e2⟩:=ax 1
  rw[e1,e2]
  unfold zbn
  have h3:f≤1↔f.num≤(f.den:Int):=by
   rw[Rat.le_iff]
   simp
  rw[h3]
  split
  ·omega
  ·split <;> omega
 have x1:=hide (bf.new w 1 s x y p fr li ti pr to)
 have bA:=hide ((But.refl [] w).alloc (.cells #[.int .i64 1,.bool s,.int .u64 x,.int .u64 y,.pointer p,.int .i64 fr,.int .i64 li,.int .i64 ti,.int .i64 pr,.string to] 37))
 have HCW:=hide CW
 clear hf lf CW FW hsg hr
 obtain⟨bb,hbb⟩:∃ bb,bb=decide (0≤f∧f≤1):=⟨_,rfl⟩
 rw[← hbb]
 have HBB:=hide hbb
 clear hbb
 unfold zq
 go_enter func49,ntmps49
 go_wp2
 generalize w.heap.size=g1 at x1 ⊢
 generalize w.alloc (.cells #[.int .i64 1,.bool s,.int .u64 x,.int .u64 y,.pointer p,.int .i64 fr,.int .i64 li,.int .i64 ti,.int .i64 pr,.string to] 37)=V at *
 have c1:P4o V g1 1 s x y p:=⟨(za x1).cells 1 _ rfl,(za x1).cells 2 _ rfl,(za x1).cells 3 _ rfl,(za x1).cells 4 _ rfl⟩
 by_cases hp:0≤sg
 ·refine qgb 3 _ _ V g1 s x y p sg ws wx r bb (by simp) (by simp[Act.eval]) hp (by rw[za HBB];exact decide_eq_decide.2 ⟨fun h=>hr1.2 h.2,fun h=>⟨h0n.2 (hs0.1 hp),hr1.1 h⟩⟩) c1 (fun W hb=>za SG W ((za bA).trans' hb)) (za HCW) (fun W hb=>za CM W ((za bA).trans' hb)) ?_
  intro w1 hb1
  simp only[qx,List.foldl_cons,List.foldl_nil,Act.put,List.setIfInBounds_toArray,List.set_cons_zero,List.set_cons_succ]
  have B1:=hide ((za bA).trans' hb1)
  clear hb1 c1
  go_wp2
  exact bodyPost_ret (v:=.bool bb) (by simp[results,results49,go_sem]) rfl ⟨rfl,za B1⟩
 ·obtain rfl:bb=false:=by rw[za HBB];exact decide_eq_false (fun h=>hp (hs0.2 (h0n.1 h.1)))
  refine qgc 3 _ _ V g1 s x y p sg (by simp) (by simp[Act.eval]) hp c1 (fun W hb=>za SG W ((za bA).trans' hb)) ?_
  intro w1 hb1
  simp only[qx,List.foldl_cons,List.foldl_nil,Act.put,List.setIfInBounds_toArray,List.set_cons_zero,List.set_cons_succ]
  have B1:=hide ((za bA).trans' hb1)
  clear hb1 c1
  go_wp2
  exact bodyPost_ret (v:=.bool false) (by simp[results,results49,go_sem]) rfl ⟨rfl,za B1⟩
theorem zmp (s:Bool) (x y:Int) (p:Option Addr) (fr li ti pr:Int) (to:ByteArray) (w:World) :
  Calls prog 49 #[zq 2 s x y p fr li ti pr to] w fun e w'=>e=.returned (.bool (decide (1≤li)))∧But [] w w':=by
 unfold zq
 go_enter func49,ntmps49
 go_wp2
 exact bodyPost_ret (v:=.bool (decide (1≤li))) (by simp[results,results49,go_sem]) rfl ⟨rfl,(But.refl _ _).alloc _⟩
theorem zfl (s:Bool) (x y:Int) (p:Option Addr) (fr li ti pr:Int) (to:ByteArray) (w:World) :
  Calls prog 49 #[zq 3 s x y p fr li ti pr to] w fun e w'=>e=.returned (.bool (decide (1≤li)))∧But [] w w':=by
 unfold zq
 go_enter func49,ntmps49
 go_wp2
 exact bodyPost_ret (v:=.bool (decide (1≤li))) (by simp[results,results49,go_sem]) rfl ⟨rfl,(But.refl _ _).alloc _⟩
theorem zpd (s:Bool) (x y:Int) (p:Option Addr) (fr li ti pr:Int) (to:ByteArray) (w:World) :
  Calls prog 49 #[zq 4 s x y p fr li ti pr to] w fun e w'=>e=.returned (.bool true)∧But [] w w':=by
 unfold zq
 go_enter func49,ntmps49
 go_wp2
 exact bodyPost_ret (v:=.bool true) (by simp[results,results49,go_sem]) rfl ⟨rfl,(But.refl _ _).alloc _⟩
def af (fr li ti pr:Int):Prop:=(0≤fr∧fr≤1000000000000)∧(0≤li∧li≤1000000000000)∧(0≤pr∧pr≤1000000000000)∧0≤ti∧ti≤100
theorem znz (s:Bool) (x y:Int) (p:Option Addr) (fr li ti pr:Int) (to:ByteArray) (f:Rat) (w:World) (hf:zi w (.agg #[.bool s,.int .u64 x,.int .u64 y,.pointer p]) f) (lf:Len f 1) (hname:kr to) (hr:af fr li ti pr) (h1:0≤f∧f≤1) (h2:fr=0∧li=0∧ti=0∧pr=0) :
  Calls prog 23 #[zq 1 s x y p fr li ti pr to] w fun e w'=>e=.returned .nilIface∧But [] w w':=by
 obtain⟨r1,r2,r3,r4⟩:=hr
 have NM:=hide (fun W=>qw to W hname)
 have W1:=hide (fun W=>zo fr 1000000000000 W)
 rw[decide_eq_true r1] at W1
 have W2:=hide (fun W=>zo li 1000000000000 W)
 rw[decide_eq_true r2] at W2
 have W3:=hide (fun W=>zo pr 1000000000000 W)
 rw[decide_eq_true r3] at W3
 have W4:=hide (fun W=>zo ti 100 W)
 rw[decide_eq_true r4] at W4
 have FI:=hide (fun W (h:But [] w W)=>zmq s x y p fr li ti pr to f W (hf.but h) lf)
 rw[decide_eq_true h1] at FI
 have FO:=hide (fun W=>ziq s x y p fr li ti pr to W)
 have EM:=hide (fun W (h:But [] w W)=>oh 1 false 0 0 none fr li ti pr to 0 W (sw W) true (decide_eq_true ⟨rfl,h2.1,h2.2.1,h2.2.2.1,h2.2.2.2⟩).symm)
 have x1:=hide (bf.new w 1 s x y p fr li ti pr to)
 have bA:=hide ((But.refl [] w).alloc (.cells #[.int .i64 1,.bool s,.int .u64 x,.int .u64 y,.pointer p,.int .i64 fr,.int .i64 li,.int .i64 ti,.int .i64 pr,.string to] 37))
 unfold zq at FI FO EM
 clear hf lf hname r1 r2 r3 r4 h1 h2
 unfold zq
 go_enter func23,ntmps23
 go_wp2_with fail
 refine (za NM _).mono ?_
 rintro e w1 ⟨rfl,hb1⟩
 have B1:=hide ((za bA).trans' hb1)
 have X1:=(za x1).but hb1 (by simp)
 have c0:=X1.cells 0 _ rfl
 have c1:=X1.cells 1 _ rfl
 have c2:=X1.cells 2 _ rfl
 have c3:=X1.cells 3 _ rfl
 have c4:=X1.cells 4 _ rfl
 have c5:=X1.cells 5 _ rfl
 have c6:=X1.cells 6 _ rfl
 have c7:=X1.cells 7 _ rfl
 have c8:=X1.cells 8 _ rfl
 have c9:=X1.cells 9 _ rfl
 generalize w.heap.size=g1 at c0 c1 c2 c3 c4 c5 c6 c7 c8 c9 ⊢
 clear hb1 NM bA X1 x1
 go_wp2_with fail
 refine (za W1 _).mono ?_
 rintro e w1' ⟨rfl,rfl⟩
 go_wp2_with fail
 refine (za W2 _).mono ?_
 rintro e w1'' ⟨rfl,rfl⟩
 go_wp2_with fail
 refine (za W3 _).mono ?_
 rintro e w13 ⟨rfl,rfl⟩
 go_wp2_with fail
 refine (za W4 _).mono ?_
 rintro e w14 ⟨rfl,rfl⟩
 go_wp2_with fail
 refine (za FI _ (za B1)).mono ?_
 rintro e w2 ⟨rfl,hb2⟩
 have B2:=hide ((za B1).trans' hb2)
 have d0:=hb2.zb c0 (by simp)
 have d1:=hb2.zb c1 (by simp)
 have d2:=hb2.zb c2 (by simp)
 have d3:=hb2.zb c3 (by simp)
 have d4:=hb2.zb c4 (by simp)
 have d5:=hb2.zb c5 (by simp)
 have d6:=hb2.zb c6 (by simp)
 have d7:=hb2.zb c7 (by simp)
 have d8:=hb2.zb c8 (by simp)
 have d9:=hb2.zb c9 (by simp)
 clear hb2 c0 c1 c2 c3 c4 c5 c6 c7 c8 c9 W1 W2 W3 W4 FI B1
 go_wp2_with fail
 refine (za FO _).mono ?_
 rintro e w3 ⟨rfl,hb3⟩
 have B3:=hide ((za B2).trans' hb3)
 clear hb3 FO B2 d0 d1 d2 d3 d4 d5 d6 d7 d8 d9
 go_wp2_with fail
 refine (za EM _ (za B3)).mono ?_
 rintro e w4 ⟨rfl,hb4⟩
 have B4:=hide ((za B3).trans' hb4)
 clear hb4 EM B3
 go_wp2
 exact bodyPost_ret (v:=.nilIface) (by simp[results,results23,go_sem]) rfl ⟨rfl,za B4⟩
theorem zny (s:Bool) (x y:Int) (p:Option Addr) (fr li ti pr:Int) (to:ByteArray) (f:Rat) (w:World) (hf:zi w (.agg #[.bool s,.int .u64 x,.int .u64 y,.pointer p]) f) (_lf:Len f 1) (hname:kr to) (hr:af fr li ti pr) (h1:1≤li) (h2:f.num=0∧fr=0∧pr=0) :
  Calls prog 23 #[zq 2 s x y p fr li ti pr to] w fun e w'=>e=.returned .nilIface∧But [] w w':=by
 obtain⟨r1,r2,r3,r4⟩:=hr
 have NM:=hide (fun W=>qw to W hname)
 have W1:=hide (fun W=>zo fr 1000000000000 W)
 rw[decide_eq_true r1] at W1
 have W2:=hide (fun W=>zo li 1000000000000 W)
 rw[decide_eq_true r2] at W2
 have W3:=hide (fun W=>zo pr 1000000000000 W)
 rw[decide_eq_true r3] at W3
 have W4:=hide (fun W=>zo ti 100 W)
 rw[decide_eq_true r4] at W4
 have FI:=hide (fun W (h:But [] w W)=>zmp s x y p fr li ti pr to W)
 rw[decide_eq_true h1] at FI
 have FO:=hide (fun W=>zio s x y p fr li ti pr to W)
 have EM:=hide (fun W (h:But [] w W)=>oh 2 s x y p fr 0 0 pr to f W (hf.but h) true (decide_eq_true ⟨h2.1,h2.2.1,rfl,rfl,h2.2.2⟩).symm)
 have x1:=hide (bf.new w 2 s x y p fr li ti pr to)
 have bA:=hide ((But.refl [] w).alloc (.cells #[.int .i64 2,.bool s,.int .u64 x,.int .u64 y,.pointer p,.int .i64 fr,.int .i64 li,.int .i64 ti,.int .i64 pr,.string to] 37))
 unfold zq at FI FO EM
 clear hf _lf hname r1 r2 r3 r4 h1 h2
 unfold zq
 go_enter func23,ntmps23
 go_wp2_with fail
 refine (za NM _).mono ?_
 rintro e w1 ⟨rfl,hb1⟩
 have B1:=hide ((za bA).trans' hb1)
 have X1:=(za x1).but hb1 (by simp)
 have c0:=X1.cells 0 _ rfl
 have c1:=X1.cells 1 _ rfl
 have c2:=X1.cells 2 _ rfl
 have c3:=X1.cells 3 _ rfl
 have c4:=X1.cells 4 _ rfl
 have c5:=X1.cells 5 _ rfl
 have c6:=X1.cells 6 _ rfl
 have c7:=X1.cells 7 _ rfl
 have c8:=X1.cells 8 _ rfl
 have c9:=X1.cells 9 _ rfl
 generalize w.heap.size=g1 at c0 c1 c2 c3 c4 c5 c6 c7 c8 c9 ⊢
 clear hb1 NM bA X1 x1
 go_wp2_with fail
 refine (za W1 _).mono ?_
 rintro e w1' ⟨rfl,rfl⟩
 go_wp2_with fail
 refine (za W2 _).mono ?_
 rintro e w1'' ⟨rfl,rfl⟩
 go_wp2_with fail
 refine (za W3 _).mono ?_
 rintro e w13 ⟨rfl,rfl⟩
 go_wp2_with fail
 refine (za W4 _).mono ?_
 rintro e w14 ⟨rfl,rfl⟩
 go_wp2_with fail
 refine (za FI _ (za B1)).mono ?_
 rintro e w2 ⟨rfl,hb2⟩
 have B2:=hide ((za B1).trans' hb2)
 have d0:=hb2.zb c0 (by simp)
 have d1:=hb2.zb c1 (by simp)
 have d2:=hb2.zb c2 (by simp)
 have d3:=hb2.zb c3 (by simp)
 have d4:=hb2.zb c4 (by simp)
 have d5:=hb2.zb c5 (by simp)
 have d6:=hb2.zb c6 (by simp)
 have d7:=hb2.zb c7 (by simp)
 have d8:=hb2.zb c8 (by simp)
 have d9:=hb2.zb c9 (by simp)
 clear hb2 c0 c1 c2 c3 c4 c5 c6 c7 c8 c9 W1 W2 W3 W4 FI B1
 go_wp2_with fail
 refine (za FO _).mono ?_
 rintro e w3 ⟨rfl,hb3⟩
 have B3:=hide ((za B2).trans' hb3)
 clear hb3 FO B2 d0 d1 d2 d3 d4 d5 d6 d7 d8 d9
 go_wp2_with fail
 refine (za EM _ (za B3)).mono ?_
 rintro e w4 ⟨rfl,hb4⟩
 have B4:=hide ((za B3).trans' hb4)
 clear hb4 EM B3
 go_wp2
 exact bodyPost_ret (v:=.nilIface) (by simp[results,results23,go_sem]) rfl ⟨rfl,za B4⟩
theorem ziy (s:Bool) (x y:Int) (p:Option Addr) (fr li ti pr:Int) (to:ByteArray) (f:Rat) (w:World) (hf:zi w (.agg #[.bool s,.int .u64 x,.int .u64 y,.pointer p]) f) (_lf:Len f 1) (hname:kr to) (hr:af fr li ti pr) (h1:1≤li) (h2:f.num=0) :
  Calls prog 23 #[zq 3 s x y p fr li ti pr to] w fun e w'=>e=.returned .nilIface∧But [] w w':=by
 obtain⟨r1,r2,r3,r4⟩:=hr
 have NM:=hide (fun W=>qw to W hname)
 have W1:=hide (fun W=>zo fr 1000000000000 W)
 rw[decide_eq_true r1] at W1
 have W2:=hide (fun W=>zo li 1000000000000 W)
 rw[decide_eq_true r2] at W2
 have W3:=hide (fun W=>zo pr 1000000000000 W)
 rw[decide_eq_true r3] at W3
 have W4:=hide (fun W=>zo ti 100 W)
 rw[decide_eq_true r4] at W4
 have FI:=hide (fun W (h:But [] w W)=>zfl s x y p fr li ti pr to W)
 rw[decide_eq_true h1] at FI
 have FO:=hide (fun W=>zfb s x y p fr li ti pr to W)
 have EM:=hide (fun W (h:But [] w W)=>oh 3 s x y p 0 0 0 0 to f W (hf.but h) true (decide_eq_true ⟨h2,rfl,rfl,rfl,rfl⟩).symm)
 have x1:=hide (bf.new w 3 s x y p fr li ti pr to)
 have bA:=hide ((But.refl [] w).alloc (.cells #[.int .i64 3,.bool s,.int .u64 x,.int .u64 y,.pointer p,.int .i64 fr,.int .i64 li,.int .i64 ti,.int .i64 pr,.string to] 37))
 unfold zq at FI FO EM
 clear hf _lf hname r1 r2 r3 r4 h1 h2
 unfold zq
 go_enter func23,ntmps23
 go_wp2_with fail
 refine (za NM _).mono ?_
 rintro e w1 ⟨rfl,hb1⟩
 have B1:=hide ((za bA).trans' hb1)
 have X1:=(za x1).but hb1 (by simp)
 have c0:=X1.cells 0 _ rfl
 have c1:=X1.cells 1 _ rfl
 have c2:=X1.cells 2 _ rfl
 have c3:=X1.cells 3 _ rfl
 have c4:=X1.cells 4 _ rfl
 have c5:=X1.cells 5 _ rfl
 have c6:=X1.cells 6 _ rfl
 have c7:=X1.cells 7 _ rfl
 have c8:=X1.cells 8 _ rfl
 have c9:=X1.cells 9 _ rfl
 generalize w.heap.size=g1 at c0 c1 c2 c3 c4 c5 c6 c7 c8 c9 ⊢
 clear hb1 NM bA X1 x1
 go_wp2_with fail
 refine (za W1 _).mono ?_
 rintro e w1' ⟨rfl,rfl⟩
 go_wp2_with fail
 refine (za W2 _).mono ?_
 rintro e w1'' ⟨rfl,rfl⟩
 go_wp2_with fail
 refine (za W3 _).mono ?_
 rintro e w13 ⟨rfl,rfl⟩
 go_wp2_with fail
 refine (za W4 _).mono ?_
 rintro e w14 ⟨rfl,rfl⟩
 go_wp2_with fail
 refine (za FI _ (za B1)).mono ?_
 rintro e w2 ⟨rfl,hb2⟩
 have B2:=hide ((za B1).trans' hb2)
 have d0:=hb2.zb c0 (by simp)
 have d1:=hb2.zb c1 (by simp)
 have d2:=hb2.zb c2 (by simp)
 have d3:=hb2.zb c3 (by simp)
 have d4:=hb2.zb c4 (by simp)
 have d5:=hb2.zb c5 (by simp)
 have d6:=hb2.zb c6 (by simp)
 have d7:=hb2.zb c7 (by simp)
 have d8:=hb2.zb c8 (by simp)
 have d9:=hb2.zb c9 (by simp)
 clear hb2 c0 c1 c2 c3 c4 c5 c6 c7 c8 c9 W1 W2 W3 W4 FI B1
 go_wp2_with fail
 refine (za FO _).mono ?_
 rintro e w3 ⟨rfl,hb3⟩
 have B3:=hide ((za B2).trans' hb3)
 clear hb3 FO B2 d0 d1 d2 d3 d4 d5 d6 d7 d8 d9
 go_wp2_with fail
 refine (za EM _ (za B3)).mono ?_
 rintro e w4 ⟨rfl,hb4⟩
 have B4:=hide ((za B3).trans' hb4)
 clear hb4 EM B3
 go_wp2
 exact bodyPost_ret (v:=.nilIface) (by simp[results,results23,go_sem]) rfl ⟨rfl,za B4⟩
theorem zmf (s:Bool) (x y:Int) (p:Option Addr) (fr li ti pr:Int) (to:ByteArray) (f:Rat) (w:World) (hf:zi w (.agg #[.bool s,.int .u64 x,.int .u64 y,.pointer p]) f) (_lf:Len f 1) (hname:kr to) (hr:af fr li ti pr) (h2:f.num=0∧ti=0∧pr=0) :
  Calls prog 23 #[zq 4 s x y p fr li ti pr to] w fun e w'=>e=.returned .nilIface∧But [] w w':=by
 obtain⟨r1,r2,r3,r4⟩:=hr
 have NM:=hide (fun W=>qw to W hname)
 have W1:=hide (fun W=>zo fr 1000000000000 W)
 rw[decide_eq_true r1] at W1
 have W2:=hide (fun W=>zo li 1000000000000 W)
 rw[decide_eq_true r2] at W2
 have W3:=hide (fun W=>zo pr 1000000000000 W)
 rw[decide_eq_true r3] at W3
 have W4:=hide (fun W=>zo ti 100 W)
 rw[decide_eq_true r4] at W4
 have FI:=hide (fun W (h:But [] w W)=>zpd s x y p fr li ti pr to W)
 have FO:=hide (fun W=>zgh s x y p fr li ti pr to W)
 have EM:=hide (fun W (h:But [] w W)=>oh 4 s x y p 0 0 ti pr to f W (hf.but h) true (decide_eq_true ⟨h2.1,rfl,rfl,h2.2.1,h2.2.2⟩).symm)
 have x1:=hide (bf.new w 4 s x y p fr li ti pr to)
 have bA:=hide ((But.refl [] w).alloc (.cells #[.int .i64 4,.bool s,.int .u64 x,.int .u64 y,.pointer p,.int .i64 fr,.int .i64 li,.int .i64 ti,.int .i64 pr,.string to] 37))
 unfold zq at FI FO EM
 clear hf _lf hname r1 r2 r3 r4 h2
 unfold zq
 go_enter func23,ntmps23
 go_wp2_with fail
 refine (za NM _).mono ?_
 rintro e w1 ⟨rfl,hb1⟩
 have B1:=hide ((za bA).trans' hb1)
 have X1:=(za x1).but hb1 (by simp)
 have c0:=X1.cells 0 _ rfl
 have c1:=X1.cells 1 _ rfl
 have c2:=X1.cells 2 _ rfl
 have c3:=X1.cells 3 _ rfl
 have c4:=X1.cells 4 _ rfl
 have c5:=X1.cells 5 _ rfl
 have c6:=X1.cells 6 _ rfl
 have c7:=X1.cells 7 _ rfl
 have c8:=X1.cells 8 _ rfl
 have c9:=X1.cells 9 _ rfl
 generalize w.heap.size=g1 at c0 c1 c2 c3 c4 c5 c6 c7 c8 c9 ⊢
 clear hb1 NM bA X1 x1
 go_wp2_with fail
 refine (za W1 _).mono ?_
 rintro e w1' ⟨rfl,rfl⟩
 go_wp2_with fail
 refine (za W2 _).mono ?_
 rintro e w1'' ⟨rfl,rfl⟩
 go_wp2_with fail
 refine (za W3 _).mono ?_
 rintro e w13 ⟨rfl,rfl⟩
 go_wp2_with fail
 refine (za W4 _).mono ?_
 rintro e w14 ⟨rfl,rfl⟩
 go_wp2_with fail
 refine (za FI _ (za B1)).mono ?_
 rintro e w2 ⟨rfl,hb2⟩
 have B2:=hide ((za B1).trans' hb2)
 have d0:=hb2.zb c0 (by simp)
 have d1:=hb2.zb c1 (by simp)
 have d2:=hb2.zb c2 (by simp)
 have d3:=hb2.zb c3 (by simp)
 have d4:=hb2.zb c4 (by simp)
 have d5:=hb2.zb c5 (by simp)
 have d6:=hb2.zb c6 (by simp)
 have d7:=hb2.zb c7 (by simp)
 have d8:=hb2.zb c8 (by simp)
 have d9:=hb2.zb c9 (by simp)
 clear hb2 c0 c1 c2 c3 c4 c5 c6 c7 c8 c9 W1 W2 W3 W4 FI B1
 go_wp2_with fail
 refine (za FO _).mono ?_
 rintro e w3 ⟨rfl,hb3⟩
 have B3:=hide ((za B2).trans' hb3)
 clear hb3 FO B2 d0 d1 d2 d3 d4 d5 d6 d7 d8 d9
 go_wp2_with fail
 refine (za EM _ (za B3)).mono ?_
 rintro e w4 ⟨rfl,hb4⟩
 have B4:=hide ((za B3).trans' hb4)
 clear hb4 EM B3
 go_wp2
 exact bodyPost_ret (v:=.nilIface) (by simp[results,results23,go_sem]) rfl ⟨rfl,za B4⟩
theorem zme (kd:Int) (s:Bool) (x y:Int) (p:Option Addr) (fr li ti pr:Int) (to:ByteArray) (w:World) (hk:kd<1∨4<kd) :
  Calls prog 23 #[zq kd s x y p fr li ti pr to] w fun e w'=>e=.returned (.iface 50 (.int .i64 1))∧But [] w w':=by
 unfold zq
 rcases hk with h | h
 ·go_enter func23,ntmps23
  go_wp2
  exact bodyPost_ret (v:=.iface 50 (.int .i64 1)) (by simp[results,results23,go_sem]) rfl ⟨rfl,(But.refl _ _).alloc _⟩
 ·have h0:¬ kd<1:=by omega
  go_enter func23,ntmps23
  go_wp2
  exact bodyPost_ret (v:=.iface 50 (.int .i64 1)) (by simp[results,results23,go_sem]) rfl ⟨rfl,(But.refl _ _).alloc _⟩
theorem zmd (kd:Int) (s:Bool) (x y:Int) (p:Option Addr) (fr li ti pr:Int) (to:ByteArray) (w:World) (k1:¬ kd<1) (k2:¬ 4<kd) (hname:¬ kr to) (hbig:to.size<9223372036854775808) :
  Calls prog 23 #[zq kd s x y p fr li ti pr to] w fun e w'=>e=.returned (.iface 50 (.int .i64 5))∧But [] w w':=by
 have NM:=hide (fun W=>zpu to W hname hbig)
 have bA:=hide ((But.refl [] w).alloc (.cells #[.int .i64 kd,.bool s,.int .u64 x,.int .u64 y,.pointer p,.int .i64 fr,.int .i64 li,.int .i64 ti,.int .i64 pr,.string to] 37))
 clear hname hbig
 unfold zq
 go_enter func23,ntmps23
 go_wp2_with fail
 refine (za NM _).mono ?_
 rintro e w1 ⟨rfl,hb1⟩
 have B1:=hide ((za bA).trans' hb1)
 clear hb1 NM bA
 go_wp2
 exact bodyPost_ret (v:=.iface 50 (.int .i64 5)) (by simp[results,results23,go_sem]) rfl ⟨rfl,za B1⟩
theorem zhf (kd:Int) (s:Bool) (x y:Int) (p:Option Addr) (fr li ti pr:Int) (to:ByteArray) (w:World) (k1:¬ kd<1) (k2:¬ 4<kd) (hname:kr to)  (rb:¬ (0≤fr∧fr≤1000000000000)) :
  Calls prog 23 #[zq kd s x y p fr li ti pr to] w fun e w'=>e=.returned (.iface 50 (.int .i64 2))∧But [] w w':=by
 have NM:=hide (fun W=>qw to W hname)
 have W1:=hide (fun W=>zo fr 1000000000000 W)
 rw[decide_eq_false rb] at W1
 have x1:=hide (bf.new w kd s x y p fr li ti pr to)
 have bA:=hide ((But.refl [] w).alloc (.cells #[.int .i64 kd,.bool s,.int .u64 x,.int .u64 y,.pointer p,.int .i64 fr,.int .i64 li,.int .i64 ti,.int .i64 pr,.string to] 37))
 clear hname  rb
 unfold zq
 go_enter func23,ntmps23
 go_wp2_with fail
 refine (za NM _).mono ?_
 rintro e w1 ⟨rfl,hb1⟩
 have B1:=hide ((za bA).trans' hb1)
 have X1:=(za x1).but hb1 (by simp)
 have c5:=X1.cells 5 _ rfl
 have c6:=X1.cells 6 _ rfl
 have c7:=X1.cells 7 _ rfl
 have c8:=X1.cells 8 _ rfl
 generalize w.heap.size=g1 at c5 c6 c7 c8 ⊢
 clear hb1 NM bA X1 x1
 go_wp2_with fail
 refine (za W1 _).mono ?_
 rintro e v0 ⟨rfl,rfl⟩
 go_wp2
 exact bodyPost_ret (v:=.iface 50 (.int .i64 2)) (by simp[results,results23,go_sem]) rfl ⟨rfl,za B1⟩
theorem zhe (kd:Int) (s:Bool) (x y:Int) (p:Option Addr) (fr li ti pr:Int) (to:ByteArray) (w:World) (k1:¬ kd<1) (k2:¬ 4<kd) (hname:kr to) (r1:0≤fr∧fr≤1000000000000) (rb:¬ (0≤li∧li≤1000000000000)) :
  Calls prog 23 #[zq kd s x y p fr li ti pr to] w fun e w'=>e=.returned (.iface 50 (.int .i64 2))∧But [] w w':=by
 have NM:=hide (fun W=>qw to W hname)
 have W1:=hide (fun W=>zo fr 1000000000000 W)
 rw[decide_eq_true r1] at W1
 have W2:=hide (fun W=>zo li 1000000000000 W)
 rw[decide_eq_false rb] at W2
 have x1:=hide (bf.new w kd s x y p fr li ti pr to)
 have bA:=hide ((But.refl [] w).alloc (.cells #[.int .i64 kd,.bool s,.int .u64 x,.int .u64 y,.pointer p,.int .i64 fr,.int .i64 li,.int .i64 ti,.int .i64 pr,.string to] 37))
 clear hname r1 rb
 unfold zq
 go_enter func23,ntmps23
 go_wp2_with fail
 refine (za NM _).mono ?_
 rintro e w1 ⟨rfl,hb1⟩
 have B1:=hide ((za bA).trans' hb1)
 have X1:=(za x1).but hb1 (by simp)
 have c5:=X1.cells 5 _ rfl
 have c6:=X1.cells 6 _ rfl
 have c7:=X1.cells 7 _ rfl
 have c8:=X1.cells 8 _ rfl
 generalize w.heap.size=g1 at c5 c6 c7 c8 ⊢
 clear hb1 NM bA X1 x1
 go_wp2_with fail
 refine (za W1 _).mono ?_
 rintro e v0 ⟨rfl,rfl⟩
 go_wp2_with fail
 refine (za W2 _).mono ?_
 rintro e v1 ⟨rfl,rfl⟩
 go_wp2
 exact bodyPost_ret (v:=.iface 50 (.int .i64 2)) (by simp[results,results23,go_sem]) rfl ⟨rfl,za B1⟩
theorem zhd (kd:Int) (s:Bool) (x y:Int) (p:Option Addr) (fr li ti pr:Int) (to:ByteArray) (w:World) (k1:¬ kd<1) (k2:¬ 4<kd) (hname:kr to) (r1:0≤fr∧fr≤1000000000000) (r2:0≤li∧li≤1000000000000) (rb:¬ (0≤pr∧pr≤1000000000000)) :
  Calls prog 23 #[zq kd s x y p fr li ti pr to] w fun e w'=>e=.returned (.iface 50 (.int .i64 2))∧But [] w w':=by
 have NM:=hide (fun W=>qw to W hname)
 have W1:=hide (fun W=>zo fr 1000000000000 W)
 rw[decide_eq_true r1] at W1
 have W2:=hide (fun W=>zo li 1000000000000 W)
 rw[decide_eq_true r2] at W2
 have W3:=hide (fun W=>zo pr 1000000000000 W)
 rw[decide_eq_false rb] at W3
 have x1:=hide (bf.new w kd s x y p fr li ti pr to)
 have bA:=hide ((But.refl [] w).alloc (.cells #[.int .i64 kd,.bool s,.int .u64 x,.int .u64 y,.pointer p,.int .i64 fr,.int .i64 li,.int .i64 ti,.int .i64 pr,.string to] 37))
 clear hname r1 r2 rb
 unfold zq
 go_enter func23,ntmps23
 go_wp2_with fail
 refine (za NM _).mono ?_
 rintro e w1 ⟨rfl,hb1⟩
 have B1:=hide ((za bA).trans' hb1)
 have X1:=(za x1).but hb1 (by simp)
 have c5:=X1.cells 5 _ rfl
 have c6:=X1.cells 6 _ rfl
 have c7:=X1.cells 7 _ rfl
 have c8:=X1.cells 8 _ rfl
 generalize w.heap.size=g1 at c5 c6 c7 c8 ⊢
 clear hb1 NM bA X1 x1
 go_wp2_with fail
 refine (za W1 _).mono ?_
 rintro e v0 ⟨rfl,rfl⟩
 go_wp2_with fail
 refine (za W2 _).mono ?_
 rintro e v1 ⟨rfl,rfl⟩
 go_wp2_with fail
 refine (za W3 _).mono ?_
 rintro e v2 ⟨rfl,rfl⟩
 go_wp2
 exact bodyPost_ret (v:=.iface 50 (.int .i64 2)) (by simp[results,results23,go_sem]) rfl ⟨rfl,za B1⟩
theorem zhc (kd:Int) (s:Bool) (x y:Int) (p:Option Addr) (fr li ti pr:Int) (to:ByteArray) (w:World) (k1:¬ kd<1) (k2:¬ 4<kd) (hname:kr to) (r1:0≤fr∧fr≤1000000000000) (r2:0≤li∧li≤1000000000000) (r3:0≤pr∧pr≤1000000000000) (rb:¬ (0≤ti∧ti≤100)) :
  Calls prog 23 #[zq kd s x y p fr li ti pr to] w fun e w'=>e=.returned (.iface 50 (.int .i64 2))∧But [] w w':=by
 have NM:=hide (fun W=>qw to W hname)
 have W1:=hide (fun W=>zo fr 1000000000000 W)
 rw[decide_eq_true r1] at W1
 have W2:=hide (fun W=>zo li 1000000000000 W)
 rw[decide_eq_true r2] at W2
 have W3:=hide (fun W=>zo pr 1000000000000 W)
 rw[decide_eq_true r3] at W3
 have W4:=hide (fun W=>zo ti 100 W)
 rw[decide_eq_false rb] at W4
 have x1:=hide (bf.new w kd s x y p fr li ti pr to)
 have bA:=hide ((But.refl [] w).alloc (.cells #[.int .i64 kd,.bool s,.int .u64 x,.int .u64 y,.pointer p,.int .i64 fr,.int .i64 li,.int .i64 ti,.int .i64 pr,.string to] 37))
 clear hname r1 r2 r3 rb
 unfold zq
 go_enter func23,ntmps23
 go_wp2_with fail
 refine (za NM _).mono ?_
 rintro e w1 ⟨rfl,hb1⟩
 have B1:=hide ((za bA).trans' hb1)
 have X1:=(za x1).but hb1 (by simp)
 have c5:=X1.cells 5 _ rfl
 have c6:=X1.cells 6 _ rfl
 have c7:=X1.cells 7 _ rfl
 have c8:=X1.cells 8 _ rfl
 generalize w.heap.size=g1 at c5 c6 c7 c8 ⊢
 clear hb1 NM bA X1 x1
 go_wp2_with fail
 refine (za W1 _).mono ?_
 rintro e v0 ⟨rfl,rfl⟩
 go_wp2_with fail
 refine (za W2 _).mono ?_
 rintro e v1 ⟨rfl,rfl⟩
 go_wp2_with fail
 refine (za W3 _).mono ?_
 rintro e v2 ⟨rfl,rfl⟩
 go_wp2_with fail
 refine (za W4 _).mono ?_
 rintro e v3 ⟨rfl,rfl⟩
 go_wp2
 exact bodyPost_ret (v:=.iface 50 (.int .i64 2)) (by simp[results,results23,go_sem]) rfl ⟨rfl,za B1⟩
end Go.Proofs.YtcgecpoedojhjaaGreatDoor
