/- Whether a fraction is a chance, and not  -/
import Derived.Test.YtloojmaamaambaaGreatDoorKRF8
namespace Go.Proofs.YtloojmaamaambaaGreatDoor
open Go.RowKit
theorem run_lt0K (a:Act) (w:World) (d t:Nat) (u:TypeId) (ps:String) (ed:Array Edge) (gd:Option (Nat × Bool)) (x:Int) (h:a.eval (.tmp t)=.int .i64 x) :
  (execOp a.eval { dst:=some d,op:=Op.binOp BinOp.lss 3 (.tmp t) (.const (.int .i64 0)) 3,type:=u,pos:=ps,after:=ed,guard:=gd }).run Tryz.prog w=.ok (.value (.bool (decide (x<0)))) w:=by
 have e:a.eval (.const (.int .i64 0))=.int .i64 0:=rfl
 unfold execOp
 simp only [h,e]
 go_simp
theorem run_asK (a:Act) (w:World) (d t:Nat) (u:TypeId) (ps:String) (ed:Array Edge) (gd:Option (Nat × Bool)) (N:Value) (h:a.eval (.tmp t)=N) :
  (execOp a.eval { dst:=some d,op:=Op.assign (.tmp t),type:=u,pos:=ps,after:=ed,guard:=gd }).run Tryz.prog w=.ok (.value N) w:=by
 unfold execOp
 simp only [h]
 go_simp
end Go.Proofs.YtloojmaamaambaaGreatDoor

namespace Go.Proofs.YtloojmaamaambaaGreatDoor
open Go.RowKit
set_option maxHeartbeats 4000000
set_option maxRecDepth 100000
def FracOk (w:World) (v:Value) (r:Rat):Prop:=∃ s x y p,v=.tuple #[.agg #[.bool s,.int .u64 x,.int .u64 y,.pointer p],.nilIface]∧FracAt w (.agg #[.bool s,.int .u64 x,.int .u64 y,.pointer p]) r
theorem FracOk.but {w w':World} {v:Value} {r:Rat} (h:FracOk w v r) (hb:But [] w w'):FracOk w' v r:=by
 obtain ⟨s,x,y,p,h1,h2⟩:=h
 exact ⟨s,x,y,p,h1,h2.but hb⟩
theorem FracOk.over {w w':World} {v:Value} {r:Rat} {g:Nat} {c:Bool} (h:FracOk w v r) (hc:w.cell? ⟨g,0,none⟩=some (.bool c)) (hb:But [g] w w'):FracOk w' v r:=by
 obtain ⟨s,x,y,p,h1,h2⟩:=h
 exact ⟨s,x,y,p,h1,h2.over hc hb⟩
theorem run_divK (a:Act) (w:World) (d t1 t2:Nat) (u:TypeId) (ps:String) (ed:Array Edge) (gd:Option (Nat × Bool)) (x1 x2:Value) (h1:a.eval (.tmp t1)=x1) (h2:a.eval (.tmp t2)=x2) :
  (execOp a.eval { dst:=some d,op:=Op.call { callee:=Callee.value (Operand.func 46),args:=#[Operand.tmp t1,Operand.tmp t2],argTypes:=#[29,29] },type:=u,pos:=ps,after:=ed,guard:=gd }).run Tryz.prog w=.ok (.enter 46 #[x1,x2]) w:=by
 unfold execOp
 go_simp
 rw [← h1,← h2]
 simp [Act.eval]
theorem run_exK (a:Act) (w:World) (d t1 k:Nat) (u:TypeId) (ps:String) (ed:Array Edge) (gd:Option (Nat × Bool)) (xs:Array Value) (v:Value) (h1:a.eval (.tmp t1)=.tuple xs) (h2:xs[k]? = some v) :
  (execOp a.eval { dst:=some d,op:=Op.extract (.tmp t1) k,type:=u,pos:=ps,after:=ed,guard:=gd }).run Tryz.prog w=.ok (.value v) w:=by
 unfold execOp
 simp only [h1]
 go_simp
def opKp0:Oper:={ dst:=some 7,op:=Op.load 29 (Operand.tmp 1),type:=29,pos:= "keep.go:458",after:=#[],guard:=none }
def opKp1:Oper:={ dst:=some 8,op:=Op.call { callee:=Callee.value (Operand.func 27),args:=#[Operand.const (Value.int IntKind.i64 2)],argTypes:=#[3] },type:=29,pos:= "keep.go:458",after:=#[],guard:=none }
def opKp2:Oper:={ dst:=some 9,op:=Op.call { callee:=Callee.value (Operand.func 46),args:=#[Operand.tmp 7,Operand.tmp 8],argTypes:=#[29,29] },type:=46,pos:= "keep.go:458",after:=#[⟨0,.data⟩,⟨1,.data⟩,⟨1,.chain⟩],guard:=none }
def opKp3:Oper:={ dst:=some 6,op:=Op.move (Operand.tmp 9),type:=46,pos:= "keep.go:458",after:=#[⟨2,.data⟩],guard:=none }
def opKp4:Oper:={ dst:=some 10,op:=Op.extract (Operand.tmp 6) 0,type:=29,pos:= "keep.go:458",after:=#[⟨3,.data⟩],guard:=none }
def opKp5:Oper:={ dst:=some 11,op:=Op.extract (Operand.tmp 6) 1,type:=35,pos:= "keep.go:458",after:=#[⟨3,.data⟩,{ on:=6,ground:=Ground.gcOnly Departure.lateStores }],guard:=none }
def opKp6:Oper:={ dst:=none,op:=Op.store 29 (Operand.tmp 1) (Operand.tmp 10),type:=0,pos:= "keep.go:458",after:=#[⟨4,.data⟩,⟨2,.chain⟩,⟨0,.phase⟩,⟨1,.phase⟩,⟨2,.phase⟩,⟨3,.phase⟩,⟨4,.phase⟩,{ on:=5,ground:=Ground.textOnly Departure.lateStores }],guard:=none }
def opKp7:Oper:={ dst:=some 2,op:=Op.assign (Operand.tmp 11),type:=35,pos:= "keep.go:458",after:=#[⟨5,.data⟩,⟨6,.chain⟩,⟨0,.phase⟩,⟨1,.phase⟩,⟨2,.phase⟩,⟨3,.phase⟩,⟨4,.phase⟩,⟨5,.phase⟩,⟨6,.phase⟩],guard:=none }
def opKps:Array Oper:=#[opKp0,opKp1,opKp2,opKp3,opKp4,opKp5,opKp6,opKp7]
def opKpT (i:Nat):Nat:=match i with
 | 0=>7
 | 1=>8
 | 2=>9
 | 3=>6
 | 4=>10
 | 5=>11
 | _=>2
def opKpC (s1:Bool) (x1 y1:Int) (p1:Option Addr) (ws:Bool) (wx:Int) (r:Rat) (i:Nat) (w:World) (v:Value):Prop:=match i with
 | 0=>v=.agg #[.bool s1,.int .u64 x1,.int .u64 y1,.pointer p1]
 | 1=>v=.agg #[.bool ws,.int .u64 wx,.int .u64 0,.pointer none]
 | 2=>FracOk w v r
 | 3=>FracOk w v r
 | 4=>FracAt w v r
 | 5=>v=.nilIface
 | _=>True
theorem opKpC_but {s1:Bool} {x1 y1:Int} {p1:Option Addr} {ws:Bool} {wx:Int} {r:Rat} {i:Nat} {w w':World} {v:Value} (h:opKpC s1 x1 y1 p1 ws wx r i w v) (hi:i<7) (hb:But [] w w'):opKpC s1 x1 y1 p1 ws wx r i w' v:=by
 have:i=0∨i=1∨i=2∨i=3∨i=4∨i=5∨i=6:=by omega
 rcases this with rfl | rfl | rfl | rfl | rfl | rfl | rfl
 ·exact h
 ·exact h
 ·exact FracOk.but h hb
 ·exact FracOk.but h hb
 ·exact FracAt.but h hb
 ·exact h
 ·exact h
theorem opKpC_over {s1:Bool} {x1 y1:Int} {p1:Option Addr} {ws:Bool} {wx:Int} {r:Rat} {i:Nat} {w w':World} {v:Value} {g:Nat} {c:Bool} (h:opKpC s1 x1 y1 p1 ws wx r i w v) (hi:i<7) (hc:w.cell? ⟨g,0,none⟩=some (.bool c)) (hb:But [g] w w'):opKpC s1 x1 y1 p1 ws wx r i w' v:=by
 have:i=0∨i=1∨i=2∨i=3∨i=4∨i=5∨i=6:=by omega
 rcases this with rfl | rfl | rfl | rfl | rfl | rfl | rfl
 ·exact h
 ·exact h
 ·exact FracOk.over h hc hb
 ·exact FracOk.over h hc hb
 ·exact FracAt.over h hc hb
 ·exact h
 ·exact h
theorem opKpT_inj:∀ i j,i<7→j<7→opKpT i=opKpT j→i=j:=fun i j hi hj=>(by decide:∀ i,i<7→∀ j,j<7→opKpT i=opKpT j→i=j) i hi j hj
def opKpH (W0:World) (g:Nat) (r:Rat) (b:Bool) (w:World):Prop:=match b with
 | false=>But [] W0 w
 | true=>∃ w1 s x y p,But [] W0 w1∧FracAt w1 (.agg #[.bool s,.int .u64 x,.int .u64 y,.pointer p]) r∧But [] (put4 w1 g s x y p) w
theorem dice_region (id:Nat) (Q:Exit→Act→World→Prop) (base:Act) (W0:World) (s1:Bool) (x1 y1:Int) (p1:Option Addr) (ws:Bool) (wx:Int) (r:Rat) (gb:Nat) (hs:11<base.tmps.size) (e1:base.eval (.tmp 1)=.pointer (some ⟨gb,0,none⟩)) (c1:P4 W0 gb s1 x1 y1 p1) (fzb:∀ j,W0.frozen? ⟨gb,j,none⟩=false)
  (WH:∀ w,Calls Tryz.prog 27 #[.int .i64 2] w fun e w'=>e=.returned (.agg #[.bool ws,.int .u64 wx,.int .u64 0,.pointer none])∧But [] w w')
  (DV:∀ w,But [] W0 w→Calls Tryz.prog 46 #[.agg #[.bool s1,.int .u64 x1,.int .u64 y1,.pointer p1],.agg #[.bool ws,.int .u64 wx,.int .u64 0,.pointer none]] w fun e w'=>∃ v,e=.returned v∧FracOk w' v r∧But [] w w')
  (hQ:∀ w1 w2 v2 v3 v4 v6 s x y p,But [] W0 w1→FracAt w1 (.agg #[.bool s,.int .u64 x,.int .u64 y,.pointer p]) r→But [] (put4 w1 gb s x y p) w2→Q .normal (putted base [(7,.agg #[.bool s1,.int .u64 x1,.int .u64 y1,.pointer p1]),(8,.agg #[.bool ws,.int .u64 wx,.int .u64 0,.pointer none]),(9,v2),(6,v3),(10,v4),(11,.nilIface),(2,v6),(2,.nilIface)]) w2) :
  (Code.region id opKps true).wp Tryz.prog Q base W0:=by
 have hdr:∀ {w},But [] W0.drew w→But [] W0 w:=fun h=>(But.refl _ _).drew.trans' h
 have lgb:gb<W0.heap.size:=lt_of_cell c1.1
 have hT:∀ i,i<7→opKpT i<base.tmps.size:=fun i hi=>by
  have h:opKpT i≤11:=by revert i;decide
  omega
 refine region_flow6 (by kernel_rfl) (low_of (by kernel_rfl)) (fun i o ho=>(calm_of (ops:=opKps) (by kernel_rfl) i o ho).1) (opKpH W0 gb r) (hdr (But.refl _ _)) ?_ (opKpC s1 x1 y1 p1 ws wx r) opKpT 7 6 rfl opKpT_inj hT (fun i w w' v hi h hb=>opKpC_but h hi hb) (fun _ _=>trivial) (fun i hi=>?_) ?_ ?_
  (fun a w=>∃ w1 v2 v3 v4 v6 s x y p,a=putted base [(7,.agg #[.bool s1,.int .u64 x1,.int .u64 y1,.pointer p1]),(8,.agg #[.bool ws,.int .u64 wx,.int .u64 0,.pointer none]),(9,v2),(6,v3),(10,v4),(11,.nilIface),(2,v6),(2,.nilIface)]∧But [] W0 w1∧FracAt w1 (.agg #[.bool s,.int .u64 x,.int .u64 y,.pointer p]) r∧But [] (put4 w1 gb s x y p) w) ?_ ?_ (by omega)
 ·intro b w w' h hb
  cases b with
  | false=>exact But.trans' h hb
  | true =>
   obtain ⟨w1,s,x,y,p,h1,h2,h3⟩:=h
   exact ⟨w1,s,x,y,p,h1,h2,h3.trans' hb⟩
 ·exact dep_of (ops:=opKps) (ps:=[(7,0),(7,1),(7,2),(7,3),(7,4),(7,5),(7,6)]) (by kernel_rfl) 7 i (by
   have:i=0∨i=1∨i=2∨i=3∨i=4∨i=5∨i=6:=by omega
   rcases this with rfl | rfl | rfl | rfl | rfl | rfl | rfl <;> simp)
 ·intro b i o a w K hi hiq ho hH hbq he hdep hk
  have hD:=dep_have (ps:=[(2,0),(2,1),(3,2),(4,3),(5,3)]) (by kernel_rfl) ho (fun j=>opKpC s1 x1 y1 p1 ws wx r j w (a.eval (.tmp (opKpT j)))) hdep
  have hq:=fun (h:(6,i) ∈ [(6,0),(6,1),(6,2),(6,3),(6,4)])=>hbq (dep_of (ops:=opKps) (ps:=[(6,0),(6,1),(6,2),(6,3),(6,4)]) (by kernel_rfl) 6 i h)
  have e1':=(he 1 (fun j hj e=>absurd e.symm (by revert j;decide))).trans e1
  have:i=0∨i=1∨i=2∨i=3∨i=4∨i=5∨i=6:=by omega
  rcases this with rfl | rfl | rfl | rfl | rfl | rfl | rfl
  ·obtain rfl:=Option.some.inj ((show opKps[0]? = some opKp0 from rfl).symm.trans ho)
   obtain rfl:=hq (by simp)
   exact wp_value (run_loadK a w _ _ _ _ _ _ gb 0 _ _ _ _ e1' (c1.but hH (by simp))) (hk _ _ (But.refl _ _) rfl)
  ·obtain rfl:=Option.some.inj ((show opKps[1]? = some opKp1 from rfl).symm.trans ho)
   exact wp_enter (run_oneK a w _ _ _ _ _ 2) (R:=fun w' v=>But [] w w'∧v=_) ((WH w).mono fun e w' ⟨he,hb⟩=>⟨_,he,hb,rfl⟩) (fun v w' hv=>hk v w' hv.1 hv.2)
  ·obtain rfl:=Option.some.inj ((show opKps[2]? = some opKp2 from rfl).symm.trans ho)
   obtain rfl:=hq (by simp)
   exact wp_enter (run_divK a w _ _ _ _ _ _ _ _ _ (hD 0 (by simp)) (hD 1 (by simp))) (R:=fun w' v=>FracOk w' v r∧But [] w w') (DV w hH) (fun v w' hv=>hk v w' hv.2 hv.1)
  ·obtain rfl:=Option.some.inj ((show opKps[3]? = some opKp3 from rfl).symm.trans ho)
   exact wp_value (run_mvK a w _ _ _ _ _ _ _ rfl) (hk _ _ (But.refl _ _) (show FracOk w _ r from hD 2 (by simp)))
  ·obtain rfl:=Option.some.inj ((show opKps[4]? = some opKp4 from rfl).symm.trans ho)
   obtain ⟨s,x,y,p,ev,hf⟩:=(show FracOk w _ r from hD 3 (by simp))
   exact wp_value (run_exK a w _ _ _ _ _ _ _ _ _ ev rfl) (hk _ _ (But.refl _ _) hf)
  ·obtain rfl:=Option.some.inj ((show opKps[5]? = some opKp5 from rfl).symm.trans ho)
   obtain ⟨s,x,y,p,ev,hf⟩:=(show FracOk w _ r from hD 3 (by simp))
   exact wp_value (run_exK a w _ _ _ _ _ _ _ _ _ ev rfl) (hk _ _ (But.refl _ _) rfl)
  ·exact absurd rfl hiq
 ·intro o a w K ho hH he hdep hK
  have hD:=dep_have (ps:=[(6,4)]) (by kernel_rfl) ho (fun j=>opKpC s1 x1 y1 p1 ws wx r j w (a.eval (.tmp (opKpT j)))) hdep
  obtain rfl:=Option.some.inj ((show opKps[6]? = some opKp6 from rfl).symm.trans ho)
  have e1':=(he 1 (fun j hj e=>absurd e.symm (by revert j;decide))).trans e1
  have cl:FracAt w (a.eval (.tmp 10)) r:=hD 4 (by simp)
  have cl':=cl
  obtain ⟨x',y',p',ev,-⟩:=cl.agg
  rw [ev] at cl'
  have hB:But [] W0 w:=hH
  exact wp_skipped (run_store4 a w _ _ _ _ _ gb _ x' y' p' e1' ev (c1.but hB (by simp)) (fun j=>(hB.frozen (p:=⟨gb,j,none⟩) lgb (by simp)).trans (fzb j))) (hK _ ⟨w,_,x',y',p',hB,cl',But.refl _ _⟩ (fun j hj u hu=>opKpC_over hu hj (c1.but hB (by simp)).1 (put4_but w gb _ x' y' p')))
 ·intro dn o a w K ho hall h hst hK
  obtain rfl:=Option.some.inj ((show opKps[7]? = some opKp7 from rfl).symm.trans ho)
  obtain ⟨w1,s',x',y',p',h1,h2,h3⟩:=hst
  have ea:=h.puts hT (fun i=>match i with
   | 0=>.agg #[.bool s1,.int .u64 x1,.int .u64 y1,.pointer p1]
   | 1=>.agg #[.bool ws,.int .u64 wx,.int .u64 0,.pointer none]
   | 2=>a.eval (.tmp 9)
   | 3=>a.eval (.tmp 6)
   | 4=>a.eval (.tmp 10)
   | 5=>.nilIface
   | _=>a.eval (.tmp 2)) (fun i hi=>by
   have hc:=h.has i hi (hall i hi)
   have:i=0∨i=1∨i=2∨i=3∨i=4∨i=5∨i=6:=by omega
   rcases this with rfl | rfl | rfl | rfl | rfl | rfl | rfl
   ·exact hc
   ·exact hc
   ·rfl
   ·rfl
   ·rfl
   ·exact hc
   ·rfl)
  have hev:a.eval (.tmp 11)=.nilIface:=h.has 5 (by omega) (hall 5 (by omega))
  have ea3:a.put (some 2) .nilIface=putted base ([(7,.agg #[.bool s1,.int .u64 x1,.int .u64 y1,.pointer p1]),(8,.agg #[.bool ws,.int .u64 wx,.int .u64 0,.pointer none]),(9,a.eval (.tmp 9)),(6,a.eval (.tmp 6)),(10,a.eval (.tmp 10)),(11,.nilIface),(2,a.eval (.tmp 2))]++[(2,.nilIface)]):=(congrArg (fun z:Act=>z.put (some 2) .nilIface) ea).trans (putted_snoc _ _ _ _)
  exact wp_value (run_asK _ _ _ _ _ _ _ _ _ hev) (hK _ _ ⟨w1,_,_,_,_,s',x',y',p',ea3,h1,h2,h3⟩)
 ·rintro a w ⟨w1,v2,v3,v4,v6,s,x,y,p,rfl,h1,h2,h3⟩
  exact hQ w1 w v2 v3 v4 v6 s x y p h1 h2 h3
end Go.Proofs.YtloojmaamaambaaGreatDoor
