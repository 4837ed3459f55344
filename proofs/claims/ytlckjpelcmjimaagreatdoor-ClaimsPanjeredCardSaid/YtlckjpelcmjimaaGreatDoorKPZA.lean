/- Numbers of claims: the statements that d -/
import Derived.Test.YtlckjpelcmjimaaGreatDoorKPK4
import Derived.Test.YtlckjpelcmjimaaGreatDoorKPK7s
namespace Go.Proofs.YtlckjpelcmjimaaGreatDoor
open Go.RowKit
set_option maxHeartbeats 16000000
set_option maxRecDepth 100000
theorem run_fN1 (a:Act) (w:World) (d t:Nat) (u:TypeId) (ps:String) (ed:Array Edge) (gd:Option (Nat × Bool)) (b:Nat) (h1:a.eval (.tmp t)=.pointer (some ⟨b,0,none⟩)) :
  (execOp a.eval { dst:=some d,op:=Op.fieldAddr 32 (.tmp t) 1,type:=u,pos:=ps,after:=ed,guard:=gd }).run Tryz.prog w=.ok (.value (.pointer (some ⟨b,1,none⟩))) w:=by
 unfold execOp
 simp only [h1]
 go_simp
theorem run_fN2 (a:Act) (w:World) (d t:Nat) (u:TypeId) (ps:String) (ed:Array Edge) (gd:Option (Nat × Bool)) (b:Nat) (h1:a.eval (.tmp t)=.pointer (some ⟨b,0,none⟩)) :
  (execOp a.eval { dst:=some d,op:=Op.fieldAddr 32 (.tmp t) 2,type:=u,pos:=ps,after:=ed,guard:=gd }).run Tryz.prog w=.ok (.value (.pointer (some ⟨b,2,none⟩))) w:=by
 unfold execOp
 simp only [h1]
 go_simp
theorem run_quotZ (a:Act) (w:World) (d t0 t1:Nat) (u:TypeId) (ps:String) (ed:Array Edge) (gd:Option (Nat × Bool)) (z0 z1:Value) (h0:a.eval (.tmp t0)=z0) (h1:a.eval (.tmp t1)=z1) :
  (execOp a.eval { dst:=some d,op:=Op.call { callee:=Callee.value (Operand.func 76),args:=#[Operand.tmp t0,Operand.tmp t1],argTypes:=#[29,29] },type:=u,pos:=ps,after:=ed,guard:=gd }).run Tryz.prog w=.ok (.enter 76 #[z0,z1]) w:=by
 unfold execOp
 go_simp
 rw [← h0,← h1]
 simp [Act.eval]
theorem run_ldIZ (a:Act) (w:World) (d t:Nat) (u:TypeId) (ps:String) (ed:Array Edge) (gd:Option (Nat × Bool)) (b o:Nat) (z:Int) (h1:a.eval (.tmp t)=.pointer (some ⟨b,o,none⟩)) (c0:w.cell? ⟨b,o,none⟩=some (.int .i64 z)) :
  (execOp a.eval { dst:=some d,op:=Op.load 3 (.tmp t),type:=u,pos:=ps,after:=ed,guard:=gd }).run Tryz.prog w=.ok (.value (.int .i64 z)) w:=by
 unfold execOp
 simp only [h1]
 go_simp
theorem run_subIZ (a:Act) (w:World) (d t1 t2:Nat) (u:TypeId) (ps:String) (ed:Array Edge) (gd:Option (Nat × Bool)) (x y:Int) (hb:-9223372036854775808≤x-y∧x-y<9223372036854775808) (h1:a.eval (.tmp t1)=.int .i64 x) (h2:a.eval (.tmp t2)=.int .i64 y) :
  (execOp a.eval { dst:=some d,op:=Op.binOp BinOp.sub 3 (.tmp t1) (.tmp t2) 3,type:=u,pos:=ps,after:=ed,guard:=gd }).run Tryz.prog w=.ok (.value (.int .i64 (x-y))) w:=by
 unfold execOp
 simp only [h1,h2]
 go_simp
 rw [IntKind.wrap_i64]
 omega
theorem run_mulIZ (a:Act) (w:World) (d t1 t2:Nat) (u:TypeId) (ps:String) (ed:Array Edge) (gd:Option (Nat × Bool)) (x y z:Int) (hz:x*y=z) (hb:-9223372036854775808≤z∧z<9223372036854775808) (h1:a.eval (.tmp t1)=.int .i64 x) (h2:a.eval (.tmp t2)=.int .i64 y) :
  (execOp a.eval { dst:=some d,op:=Op.binOp BinOp.mul 3 (.tmp t1) (.tmp t2) 3,type:=u,pos:=ps,after:=ed,guard:=gd }).run Tryz.prog w=.ok (.value (.int .i64 z)) w:=by
 unfold execOp
 simp only [h1,h2]
 go_simp
 rw [IntKind.wrap_i64]
 omega
def opZa0:Oper:={ dst:=some 6,op:=Op.call { callee:=Callee.value (Operand.func 27),args:=#[Operand.const (Value.int IntKind.i64 1)],argTypes:=#[3] },type:=29,pos:= "number.go:80",after:=#[],guard:=none }
def opZa1:Oper:={ dst:=some 7,op:=Op.fieldAddr 32 (Operand.tmp 1) 2,type:=0,pos:= "number.go:80",after:=#[],guard:=none }
def opZa2:Oper:={ dst:=some 8,op:=Op.load 29 (Operand.tmp 7),type:=29,pos:= "number.go:80",after:=#[⟨1,.data⟩],guard:=none }
def opZa3:Oper:={ dst:=some 9,op:=Op.call { callee:=Callee.value (Operand.func 74),args:=#[Operand.tmp 6,Operand.tmp 8],argTypes:=#[29,29] },type:=29,pos:= "number.go:80",after:=#[⟨0,.data⟩,⟨2,.data⟩,⟨0,.chain⟩],guard:=none }
def opZa4:Oper:={ dst:=some 3,op:=Op.alloc 29,type:=0,pos:= "number.go:80",after:=#[],guard:=none }
def opZa5:Oper:={ dst:=none,op:=Op.store 29 (Operand.tmp 3) (Operand.tmp 9),type:=0,pos:= "number.go:80",after:=#[⟨4,.data⟩,⟨3,.data⟩,⟨3,.chain⟩,⟨0,.phase⟩,⟨1,.phase⟩,⟨2,.phase⟩,⟨3,.phase⟩,⟨4,.phase⟩],guard:=none }
def opZas:Array Oper:=#[opZa0,opZa1,opZa2,opZa3,opZa4,opZa5]
def opZaT (i:Nat):Nat:=match i with
 | 0=>6
 | 1=>7
 | 2=>8
 | 3=>9
 | _=>3
def opZaC (B:Nat) (g1:Nat) (s1:Bool) (x1:Int) (y1:Int) (p1:Option Addr) (ws:Bool) (wx:Int) (f1:Rat) (i:Nat) (w:World) (v:Value):Prop:=match i with
 | 0=>v=.agg #[.bool ws,.int .u64 wx,.int .u64 0,.pointer none]
 | 1=>v=.pointer (some ⟨g1,2,none⟩)
 | 2=>v=.agg #[.bool s1,.int .u64 x1,.int .u64 y1,.pointer p1]
 | 3=>am w v (((1:Int):Rat)-f1)
 | _=>LaidK B w v
theorem opZaC_but {B:Nat} {g1:Nat} {s1:Bool} {x1:Int} {y1:Int} {p1:Option Addr} {ws:Bool} {wx:Int} {f1:Rat} {i:Nat} {w w':World} {v:Value} (h:opZaC B g1 s1 x1 y1 p1 ws wx f1 i w v) (hi:i<5) (hb:But [] w w'):opZaC B g1 s1 x1 y1 p1 ws wx f1 i w' v:=by
 have:i=0∨i=1∨i=2∨i=3∨i=4:=by omega
 rcases this with rfl | rfl | rfl | rfl | rfl
 all_goals first | exact h | exact am.but h hb | exact an.but h hb | exact LaidK.but h hb
theorem opZaT_inj:∀ i j,i<5→j<5→opZaT i=opZaT j→i=j:=fun i j hi hj=>(by decide:∀ i,i<5→∀ j,j<5→opZaT i=opZaT j→i=j) i hi j hj
theorem form_region1 (id:Nat) (Q:Exit→Act→World→Prop) (base:Act) (W0:World) (B:Nat) (g1:Nat) (s1:Bool) (x1:Int) (y1:Int) (p1:Option Addr) (ws:Bool) (wx:Int) (f1:Rat) (hs:9<base.tmps.size) (hBW:B≤W0.heap.size) (e1:base.eval (.tmp 1)=.pointer (some ⟨g1,0,none⟩))
  (c1:P4o W0 g1 2 s1 x1 y1 p1)
  (WH:∀ w,Calls Tryz.prog 27 #[.int .i64 1] w fun e w'=>e=.returned (.agg #[.bool ws,.int .u64 wx,.int .u64 0,.pointer none])∧But [] w w')
  (SU:∀ w,But [] W0 w→Calls Tryz.prog 74 #[.agg #[.bool ws,.int .u64 wx,.int .u64 0,.pointer none],.agg #[.bool s1,.int .u64 x1,.int .u64 y1,.pointer p1]] w fun e w'=>∃ v,e=.returned v∧am w' v (((1:Int):Rat)-f1)∧But [] w w')
  (hQ:∀ w1 bn s' x' y' p',But [] W0 w1→B≤bn→P4 w1 bn false 0 0 none→(∀ j,w1.frozen? ⟨bn,j,none⟩=false)→am w1 (.agg #[.bool s',.int .u64 x',.int .u64 y',.pointer p']) (((1:Int):Rat)-f1)→Q .normal (bb base [(6,.agg #[.bool ws,.int .u64 wx,.int .u64 0,.pointer none]),(7,.pointer (some ⟨g1,2,none⟩)),(8,.agg #[.bool s1,.int .u64 x1,.int .u64 y1,.pointer p1]),(9,(.agg #[.bool s',.int .u64 x',.int .u64 y',.pointer p'])),(3,.pointer (some ⟨bn,0,none⟩))]) (put4 w1 bn s' x' y' p')) :
  (Code.region id opZas true).wp Tryz.prog Q base W0:=by
 have hdr:∀ {w},But [] W0.drew w→But [] W0 w:=fun h=>(But.refl _ _).drew.trans' h
 have hT:∀ i,i<5→opZaT i<base.tmps.size:=fun i hi=>by
  have h:opZaT i≤9:=by revert i;decide
  omega
 refine region_flow (by kernel_rfl) (low_of (by kernel_rfl)) (fun i o ho=>(calm_of (ops:=opZas) (by kernel_rfl) i o ho).1)
  (fun _ w=>But [] W0.drew w) (opZaC B g1 s1 x1 y1 p1 ws wx f1) opZaT 5 rfl opZaT_inj hT (But.refl _ _)
  (fun i hi=>?_) ?_ (fun a w=>∃ w1 bn s' x' y' p',a=bb base [(6,.agg #[.bool ws,.int .u64 wx,.int .u64 0,.pointer none]),(7,.pointer (some ⟨g1,2,none⟩)),(8,.agg #[.bool s1,.int .u64 x1,.int .u64 y1,.pointer p1]),(9,(.agg #[.bool s',.int .u64 x',.int .u64 y',.pointer p'])),(3,.pointer (some ⟨bn,0,none⟩))]∧w=put4 w1 bn s' x' y' p'∧But [] W0 w1∧B≤bn∧P4 w1 bn false 0 0 none∧(∀ j,w1.frozen? ⟨bn,j,none⟩=false)∧am w1 (.agg #[.bool s',.int .u64 x',.int .u64 y',.pointer p']) (((1:Int):Rat)-f1)) ?_ ?_
 ·exact dep_of (ops:=opZas) (ps:=[(5,0),(5,1),(5,2),(5,3),(5,4)]) (by kernel_rfl) 5 i (by
   have:i=0∨i=1∨i=2∨i=3∨i=4:=by omega
   rcases this with rfl | rfl | rfl | rfl | rfl <;> simp)
 ·intro dn i o a w K hi ho hdi hH he hdep hK
  have hD:=fun j hj=>(dep_have (ps:=[(2,1),(3,0),(3,2)]) (by kernel_rfl) ho (fun j=>dn j=true∧opZaC B g1 s1 x1 y1 p1 ws wx f1 j w (a.eval (.tmp (opZaT j)))) hdep j hj).2
  have hk:∀ v w',But [] w w'→opZaC B g1 s1 x1 y1 p1 ws wx f1 i w' v→K (a.put (some (opZaT i)) v) w':=fun v w' hb hv=>hK v w' (hH.trans' hb) (fun j hj _ u hu=>opZaC_but hu hj hb) hv
  have e1':=(he 1 (fun j hj e=>absurd e.symm (by revert j;decide))).trans e1
  have:i=0∨i=1∨i=2∨i=3∨i=4:=by omega
  rcases this with rfl | rfl | rfl | rfl | rfl
  ·obtain rfl:=Option.some.inj ((show opZas[0]? = some opZa0 from rfl).symm.trans ho)
   exact av (run_oneK a w _ _ _ _ _ 1) (R:=fun w' v=>But [] w w'∧v=_) ((WH w).mono fun e w' ⟨he,hb⟩=>⟨_,he,hb,rfl⟩) (fun v w' hv=>hk v w' hv.1 hv.2)
  ·obtain rfl:=Option.some.inj ((show opZas[1]? = some opZa1 from rfl).symm.trans ho)
   exact al (run_fN2 a w _ _ _ _ _ _ g1 e1') (hk _ _ (But.refl _ _) rfl)
  ·obtain rfl:=Option.some.inj ((show opZas[2]? = some opZa2 from rfl).symm.trans ho)
   exact al (aq a w _ _ _ _ _ _ g1 2 _ _ _ _ (hD 1 (by simp)) (c1.but (hdr hH) (by simp))) (hk _ _ (But.refl _ _) rfl)
  ·obtain rfl:=Option.some.inj ((show opZas[3]? = some opZa3 from rfl).symm.trans ho)
   exact av (run_subK a w _ _ _ _ _ _ _ _ _ (hD 0 (by simp)) (hD 2 (by simp))) (R:=fun w' v=>am w' v (((1:Int):Rat)-f1)∧But [] w w') (SU w (hdr hH)) (fun v w' hv=>hk v w' hv.2 hv.1)
  ·obtain rfl:=Option.some.inj ((show opZas[4]? = some opZa4 from rfl).symm.trans ho)
   exact al (run_allocK a w _ _ _ _) (hk _ _ ((But.refl _ _).alloc _) ⟨w.heap.size,rfl,Nat.le_trans hBW (hdr hH).size,⟨by simp,by simp,by simp,by simp⟩,fun j=>by simp⟩)
 ·intro dn o a w K ho hall h hK
  obtain rfl:=Option.some.inj ((show opZas[5]? = some opZa5 from rfl).symm.trans ho)
  have cl:am w (a.eval (.tmp 9)) (((1:Int):Rat)-f1):=h.has 3 (by omega) (hall 3 (by omega))
  obtain ⟨bn,eb,hb1,hb2,hb3⟩:LaidK B w (a.eval (.tmp 3)):=h.has 4 (by omega) (hall 4 (by omega))
  have cl':=cl
  obtain ⟨x',y',p',ev,-⟩:=cl.agg
  rw [ev] at cl'
  have ea:=h.puts hT (fun i=>match i with
   | 0=>.agg #[.bool ws,.int .u64 wx,.int .u64 0,.pointer none]
   | 1=>.pointer (some ⟨g1,2,none⟩)
   | 2=>.agg #[.bool s1,.int .u64 x1,.int .u64 y1,.pointer p1]
   | 3=>.agg #[.bool (decide ((((1:Int):Rat)-f1).num<0)),.int .u64 x',.int .u64 y',.pointer p']
   | _=>.pointer (some ⟨bn,0,none⟩)) (fun i hi=>by
   have hc:=h.has i hi (hall i hi)
   have:i=0∨i=1∨i=2∨i=3∨i=4:=by omega
   rcases this with rfl | rfl | rfl | rfl | rfl
   all_goals first | exact ev | exact eb | exact hc | rfl)
  exact wp_skipped (run_store4 a w _ _ _ _ _ bn _ x' y' p' eb ev hb2 hb3) (hK _ _ ⟨w,bn,_,x',y',p',ea,rfl,hdr h.mem,hb1,hb2,hb3,cl'⟩)
 ·rintro a w ⟨w1,bn,s',x',y',p',rfl,rfl,h1,h2,h3,h4,h5⟩
  exact hQ  w1 bn s' x' y' p' h1 h2 h3 h4 h5
def opZb0:Oper:={ dst:=some 20,op:=Op.load 29 (Operand.tmp 4),type:=29,pos:= "number.go:83",after:=#[],guard:=none }
def opZb1:Oper:={ dst:=some 21,op:=Op.fieldAddr 32 (Operand.tmp 1) 2,type:=0,pos:= "number.go:83",after:=#[],guard:=none }
def opZb2:Oper:={ dst:=some 22,op:=Op.load 29 (Operand.tmp 21),type:=29,pos:= "number.go:83",after:=#[⟨1,.data⟩],guard:=none }
def opZb3:Oper:={ dst:=some 23,op:=Op.load 29 (Operand.tmp 3),type:=29,pos:= "number.go:83",after:=#[],guard:=none }
def opZb4:Oper:={ dst:=some 24,op:=Op.call { callee:=Callee.value (Operand.func 76),args:=#[Operand.tmp 22,Operand.tmp 23],argTypes:=#[29,29] },type:=29,pos:= "number.go:83",after:=#[⟨2,.data⟩,⟨3,.data⟩],guard:=none }
def opZb5:Oper:={ dst:=some 25,op:=Op.fieldAddr 32 (Operand.tmp 1) 1,type:=0,pos:= "number.go:83",after:=#[],guard:=none }
def opZb6:Oper:={ dst:=some 26,op:=Op.load 3 (Operand.tmp 25),type:=3,pos:= "number.go:83",after:=#[⟨5,.data⟩],guard:=none }
def opZb7:Oper:={ dst:=some 27,op:=Op.build 98 #[(0,Operand.tmp 20),(1,Operand.tmp 24),(2,Operand.tmp 26)],type:=98,pos:= "number.go:83",after:=#[⟨0,.data⟩,⟨4,.data⟩,⟨6,.data⟩],guard:=none }
def opZb8:Oper:={ dst:=none,op:=Op.store 98 (Operand.tmp 2) (Operand.tmp 27),type:=0,pos:= "number.go:83",after:=#[⟨7,.data⟩,⟨4,.chain⟩,⟨0,.phase⟩,⟨1,.phase⟩,⟨2,.phase⟩,⟨3,.phase⟩,⟨4,.phase⟩,⟨5,.phase⟩,⟨6,.phase⟩,⟨7,.phase⟩],guard:=none }
def opZbs:Array Oper:=#[opZb0,opZb1,opZb2,opZb3,opZb4,opZb5,opZb6,opZb7,opZb8]
def opZbSt (_g1:Nat) (_s1:Bool) (_x1:Int) (_y1:Int) (_p1:Option Addr) (_s3:Bool) (_x3:Int) (_y3:Int) (_p3:Option Addr) (_s4:Bool) (_x4:Int) (_y4:Int) (_p4:Option Addr) (n:Int) (f1:Rat) (f3:Rat) (f4:Rat) (w:World) (v:Value):Prop:=∃ a0 b0 c0 d0 a1 b1 c1 d1,v=.agg #[.bool a0,.int .u64 b0,.int .u64 c0,.pointer d0,.bool a1,.int .u64 b1,.int .u64 c1,.pointer d1,.int .i64 n]∧am w (.agg #[.bool a0,.int .u64 b0,.int .u64 c0,.pointer d0]) (f4)∧am w (.agg #[.bool a1,.int .u64 b1,.int .u64 c1,.pointer d1]) (f1/f3)
theorem opZbSt.but {g1:Nat} {s1:Bool} {x1:Int} {y1:Int} {p1:Option Addr} {s3:Bool} {x3:Int} {y3:Int} {p3:Option Addr} {s4:Bool} {x4:Int} {y4:Int} {p4:Option Addr} {n:Int} {f1:Rat} {f3:Rat} {f4:Rat} {w w':World} {v:Value} (h:opZbSt g1 s1 x1 y1 p1 s3 x3 y3 p3 s4 x4 y4 p4 n f1 f3 f4 w v) (hb:But [] w w'):opZbSt g1 s1 x1 y1 p1 s3 x3 y3 p3 s4 x4 y4 p4 n f1 f3 f4 w' v:=by
 obtain ⟨a0,b0,c0,d0,a1,b1,c1,d1,e,z0,z1⟩:=h
 exact ⟨a0,b0,c0,d0,a1,b1,c1,d1,e,z0.but hb,z1.but hb⟩
theorem run_bdopZbSt (a:Act) (w:World) (d t0 t1 t2:Nat) (u:TypeId) (ps:String) (ed:Array Edge) (gd:Option (Nat × Bool)) (a0:Bool) (b0 c0:Int) (d0:Option Addr) (a1:Bool) (b1 c1:Int) (d1:Option Addr) (q2:Int) (h0:a.eval (.tmp t0)=.agg #[.bool a0,.int .u64 b0,.int .u64 c0,.pointer d0]) (h1:a.eval (.tmp t1)=.agg #[.bool a1,.int .u64 b1,.int .u64 c1,.pointer d1]) (h2:a.eval (.tmp t2)=.int .i64 q2) :
  (execOp a.eval { dst:=some d,op:=Op.build 98 #[(0,Operand.tmp t0),(1,Operand.tmp t1),(2,Operand.tmp t2)],type:=u,pos:=ps,after:=ed,guard:=gd }).run Tryz.prog w=.ok (.value (.agg #[.bool a0,.int .u64 b0,.int .u64 c0,.pointer d0,.bool a1,.int .u64 b1,.int .u64 c1,.pointer d1,.int .i64 q2])) w:=by
 unfold execOp
 simp only [List.map_toArray,List.map_cons,List.map_nil,h0,h1,h2]
 go_simp
theorem run_stopZbSt (a:Act) (w:World) (t1 t2:Nat) (u:TypeId) (ps:String) (ed:Array Edge) (gb:Nat) (a0:Bool) (b0 c0:Int) (d0:Option Addr) (a1:Bool) (b1 c1:Int) (d1:Option Addr) (q2:Int) {vb:List Value} (h1:a.eval (.tmp t1)=.pointer (some ⟨gb,0,none⟩)) (h2:a.eval (.tmp t2)=.agg #[.bool a0,.int .u64 b0,.int .u64 c0,.pointer d0,.bool a1,.int .u64 b1,.int .u64 c1,.pointer d1,.int .i64 q2]) (hc:SBox w gb vb) (hl:vb.length=9) :
  (execOp a.eval { dst:=none,op:=Op.store 98 (.tmp t1) (.tmp t2),type:=u,pos:=ps,after:=ed,guard:=none }).run Tryz.prog w=.ok .skip (w.setCells gb 0 [.bool a0,.int .u64 b0,.int .u64 c0,.pointer d0,.bool a1,.int .u64 b1,.int .u64 c1,.pointer d1,.int .i64 q2]):=by
 obtain ⟨u0,e0⟩:=hc.some 0 (by omega)
 obtain ⟨u1,e1⟩:=hc.some 1 (by omega)
 obtain ⟨u2,e2⟩:=hc.some 2 (by omega)
 obtain ⟨u3,e3⟩:=hc.some 3 (by omega)
 obtain ⟨u4,e4⟩:=hc.some 4 (by omega)
 obtain ⟨u5,e5⟩:=hc.some 5 (by omega)
 obtain ⟨u6,e6⟩:=hc.some 6 (by omega)
 obtain ⟨u7,e7⟩:=hc.some 7 (by omega)
 obtain ⟨u8,e8⟩:=hc.some 8 (by omega)
 have fz:=hc.loose
 unfold execOp
 simp only [h1,h2]
 go_simp
 rfl
def opZbT (i:Nat):Nat:=match i with
 | 0=>20
 | 1=>21
 | 2=>22
 | 3=>23
 | 4=>24
 | 5=>25
 | 6=>26
 | _=>27
def opZbC (g1:Nat) (s1:Bool) (x1:Int) (y1:Int) (p1:Option Addr) (s3:Bool) (x3:Int) (y3:Int) (p3:Option Addr) (s4:Bool) (x4:Int) (y4:Int) (p4:Option Addr) (n:Int) (f1:Rat) (f3:Rat) (f4:Rat) (i:Nat) (w:World) (v:Value):Prop:=match i with
 | 0=>am w v (f4)
 | 1=>v=.pointer (some ⟨g1,2,none⟩)
 | 2=>v=.agg #[.bool s1,.int .u64 x1,.int .u64 y1,.pointer p1]
 | 3=>v=.agg #[.bool s3,.int .u64 x3,.int .u64 y3,.pointer p3]
 | 4=>am w v (f1/f3)
 | 5=>v=.pointer (some ⟨g1,1,none⟩)
 | 6=>v=.int .i64 n
 | _=>opZbSt g1 s1 x1 y1 p1 s3 x3 y3 p3 s4 x4 y4 p4 n f1 f3 f4 w v
theorem opZbC_but {g1:Nat} {s1:Bool} {x1:Int} {y1:Int} {p1:Option Addr} {s3:Bool} {x3:Int} {y3:Int} {p3:Option Addr} {s4:Bool} {x4:Int} {y4:Int} {p4:Option Addr} {n:Int} {f1:Rat} {f3:Rat} {f4:Rat} {i:Nat} {w w':World} {v:Value} (h:opZbC g1 s1 x1 y1 p1 s3 x3 y3 p3 s4 x4 y4 p4 n f1 f3 f4 i w v) (hi:i<8) (hb:But [] w w'):opZbC g1 s1 x1 y1 p1 s3 x3 y3 p3 s4 x4 y4 p4 n f1 f3 f4 i w' v:=by
 have:i=0∨i=1∨i=2∨i=3∨i=4∨i=5∨i=6∨i=7:=by omega
 rcases this with rfl | rfl | rfl | rfl | rfl | rfl | rfl | rfl
 ·exact am.but (show am w v (f4) from h) hb
 ·exact (show v=.pointer (some ⟨g1,2,none⟩) from h)
 ·exact (show v=.agg #[.bool s1,.int .u64 x1,.int .u64 y1,.pointer p1] from h)
 ·exact (show v=.agg #[.bool s3,.int .u64 x3,.int .u64 y3,.pointer p3] from h)
 ·exact am.but (show am w v (f1/f3) from h) hb
 ·exact (show v=.pointer (some ⟨g1,1,none⟩) from h)
 ·exact (show v=.int .i64 n from h)
 ·exact opZbSt.but (show opZbSt g1 s1 x1 y1 p1 s3 x3 y3 p3 s4 x4 y4 p4 n f1 f3 f4 w v from h) hb
theorem opZbT_inj:∀ i j,i<8→j<8→opZbT i=opZbT j→i=j:=fun i j hi hj=>(by decide:∀ i,i<8→∀ j,j<8→opZbT i=opZbT j→i=j) i hi j hj
theorem form_region4 (id:Nat) (Q:Exit→Act→World→Prop) (base:Act) (W0:World) (g1:Nat) (s1:Bool) (x1:Int) (y1:Int) (p1:Option Addr) (s3:Bool) (x3:Int) (y3:Int) (p3:Option Addr) (s4:Bool) (x4:Int) (y4:Int) (p4:Option Addr) (n:Int) (f1:Rat) (f3:Rat) (f4:Rat) (gb g3 g4:Nat) {vb:List Value} (hs:27<base.tmps.size) (eb:base.eval (.tmp 2)=.pointer (some ⟨gb,0,none⟩)) (cb:SBox W0 gb vb) (hvb:vb.length=9) (e1:base.eval (.tmp 1)=.pointer (some ⟨g1,0,none⟩)) (e3:base.eval (.tmp 3)=.pointer (some ⟨g3,0,none⟩)) (e4:base.eval (.tmp 4)=.pointer (some ⟨g4,0,none⟩))
  (cn:W0.cell? ⟨g1,1,none⟩=some (.int .i64 n)) (c1:P4o W0 g1 2 s1 x1 y1 p1) (c3:P4 W0 g3 s3 x3 y3 p3) (c4:P4 W0 g4 s4 x4 y4 p4) (F4:am W0 (.agg #[.bool s4,.int .u64 x4,.int .u64 y4,.pointer p4]) f4)
  (QU:∀ w,But [] W0 w→Calls Tryz.prog 76 #[.agg #[.bool s1,.int .u64 x1,.int .u64 y1,.pointer p1],.agg #[.bool s3,.int .u64 x3,.int .u64 y3,.pointer p3]] w fun e w'=>∃ v,e=.returned v∧am w' v (f1/f3)∧But [] w w')
  (hQ:∀ w1 v0 v4 a0 b0 c0 d0 a1 b1 c1 d1,But [] W0 w1→am w1 (.agg #[.bool a0,.int .u64 b0,.int .u64 c0,.pointer d0]) (f4)→am w1 (.agg #[.bool a1,.int .u64 b1,.int .u64 c1,.pointer d1]) (f1/f3)→Q .normal (bb base [(20,v0),(21,.pointer (some ⟨g1,2,none⟩)),(22,.agg #[.bool s1,.int .u64 x1,.int .u64 y1,.pointer p1]),(23,.agg #[.bool s3,.int .u64 x3,.int .u64 y3,.pointer p3]),(24,v4),(25,.pointer (some ⟨g1,1,none⟩)),(26,.int .i64 n),(27,.agg #[.bool a0,.int .u64 b0,.int .u64 c0,.pointer d0,.bool a1,.int .u64 b1,.int .u64 c1,.pointer d1,.int .i64 n])]) (w1.setCells gb 0 [.bool a0,.int .u64 b0,.int .u64 c0,.pointer d0,.bool a1,.int .u64 b1,.int .u64 c1,.pointer d1,.int .i64 n])) :
  (Code.region id opZbs true).wp Tryz.prog Q base W0:=by
 have hdr:∀ {w},But [] W0.drew w→But [] W0 w:=fun h=>(But.refl _ _).drew.trans' h
 have hT:∀ i,i<8→opZbT i<base.tmps.size:=fun i hi=>by
  have h:opZbT i≤27:=by revert i;decide
  omega
 refine region_flow (by kernel_rfl) (low_of (by kernel_rfl)) (fun i o ho=>(calm_of (ops:=opZbs) (by kernel_rfl) i o ho).1)
  (fun _ w=>But [] W0.drew w) (opZbC g1 s1 x1 y1 p1 s3 x3 y3 p3 s4 x4 y4 p4 n f1 f3 f4) opZbT 8 rfl opZbT_inj hT (But.refl _ _)
  (fun i hi=>?_) ?_ (fun a w=>∃ w1 v0 v4 a0 b0 c0 d0 a1 b1 c1 d1,a=bb base [(20,v0),(21,.pointer (some ⟨g1,2,none⟩)),(22,.agg #[.bool s1,.int .u64 x1,.int .u64 y1,.pointer p1]),(23,.agg #[.bool s3,.int .u64 x3,.int .u64 y3,.pointer p3]),(24,v4),(25,.pointer (some ⟨g1,1,none⟩)),(26,.int .i64 n),(27,.agg #[.bool a0,.int .u64 b0,.int .u64 c0,.pointer d0,.bool a1,.int .u64 b1,.int .u64 c1,.pointer d1,.int .i64 n])]∧w=w1.setCells gb 0 [.bool a0,.int .u64 b0,.int .u64 c0,.pointer d0,.bool a1,.int .u64 b1,.int .u64 c1,.pointer d1,.int .i64 n]∧But [] W0 w1∧am w1 (.agg #[.bool a0,.int .u64 b0,.int .u64 c0,.pointer d0]) (f4)∧am w1 (.agg #[.bool a1,.int .u64 b1,.int .u64 c1,.pointer d1]) (f1/f3)) ?_ ?_
 ·exact dep_of (ops:=opZbs) (ps:=[(8,0),(8,1),(8,2),(8,3),(8,4),(8,5),(8,6),(8,7)]) (by kernel_rfl) 8 i (by
   have:i=0∨i=1∨i=2∨i=3∨i=4∨i=5∨i=6∨i=7:=by omega
   rcases this with rfl | rfl | rfl | rfl | rfl | rfl | rfl | rfl <;> simp)
 ·intro dn i o a w K hi ho hdi hH he hdep hK
  have hD:=fun j hj=>(dep_have (ps:=[(2,1),(4,2),(4,3),(6,5),(7,0),(7,4),(7,6)]) (by kernel_rfl) ho (fun j=>dn j=true∧opZbC g1 s1 x1 y1 p1 s3 x3 y3 p3 s4 x4 y4 p4 n f1 f3 f4 j w (a.eval (.tmp (opZbT j)))) hdep j hj).2
  have hk:∀ v w',But [] w w'→opZbC g1 s1 x1 y1 p1 s3 x3 y3 p3 s4 x4 y4 p4 n f1 f3 f4 i w' v→K (a.put (some (opZbT i)) v) w':=fun v w' hb hv=>hK v w' (hH.trans' hb) (fun j hj _ u hu=>opZbC_but hu hj hb) hv
  have e1':=(he 1 (fun j hj e=>absurd e.symm (by revert j;decide))).trans e1
  have e3':=(he 3 (fun j hj e=>absurd e.symm (by revert j;decide))).trans e3
  have e4':=(he 4 (fun j hj e=>absurd e.symm (by revert j;decide))).trans e4
  have:i=0∨i=1∨i=2∨i=3∨i=4∨i=5∨i=6∨i=7:=by omega
  rcases this with rfl | rfl | rfl | rfl | rfl | rfl | rfl | rfl
  ·obtain rfl:=Option.some.inj ((show opZbs[0]? = some opZb0 from rfl).symm.trans ho)
   exact al (aq a w _ _ _ _ _ _ g4 0 _ _ _ _ e4' (c4.but (hdr hH) (by simp))) (hk _ _ (But.refl _ _) (F4.but (hdr hH)))
  ·obtain rfl:=Option.some.inj ((show opZbs[1]? = some opZb1 from rfl).symm.trans ho)
   exact al (run_fN2 a w _ _ _ _ _ _ g1 e1') (hk _ _ (But.refl _ _) rfl)
  ·obtain rfl:=Option.some.inj ((show opZbs[2]? = some opZb2 from rfl).symm.trans ho)
   exact al (aq a w _ _ _ _ _ _ g1 2 _ _ _ _ (hD 1 (by simp)) (c1.but (hdr hH) (by simp))) (hk _ _ (But.refl _ _) rfl)
  ·obtain rfl:=Option.some.inj ((show opZbs[3]? = some opZb3 from rfl).symm.trans ho)
   exact al (aq a w _ _ _ _ _ _ g3 0 _ _ _ _ e3' (c3.but (hdr hH) (by simp))) (hk _ _ (But.refl _ _) rfl)
  ·obtain rfl:=Option.some.inj ((show opZbs[4]? = some opZb4 from rfl).symm.trans ho)
   exact av (run_quotZ a w _ _ _ _ _ _ _ _ _ (hD 2 (by simp)) (hD 3 (by simp))) (R:=fun w' v=>am w' v (f1/f3)∧But [] w w') (QU w (hdr hH)) (fun v w' hv=>hk v w' hv.2 hv.1)
  ·obtain rfl:=Option.some.inj ((show opZbs[5]? = some opZb5 from rfl).symm.trans ho)
   exact al (run_fN1 a w _ _ _ _ _ _ g1 e1') (hk _ _ (But.refl _ _) rfl)
  ·obtain rfl:=Option.some.inj ((show opZbs[6]? = some opZb6 from rfl).symm.trans ho)
   exact al (run_ldIZ a w _ _ _ _ _ _ g1 1 n (hD 5 (by simp)) ((hdr hH).ag cn (by simp))) (hk _ _ (But.refl _ _) rfl)
  ·obtain rfl:=Option.some.inj ((show opZbs[7]? = some opZb7 from rfl).symm.trans ho)
   have q0:am w (a.eval (.tmp 20)) (f4):=hD 0 (by simp)
   obtain ⟨b0,c0,d0,e0,-⟩:=q0.agg
   rw [e0] at q0
   have q1:am w (a.eval (.tmp 24)) (f1/f3):=hD 4 (by simp)
   obtain ⟨b1,c1,d1,e1,-⟩:=q1.agg
   rw [e1] at q1
   exact al (run_bdopZbSt a w _ _ _ _ _ _ _ _ _ b0 c0 d0 _ b1 c1 d1 _ e0 e1 (hD 6 (by simp))) (hk _ _ (But.refl _ _) ⟨_,b0,c0,d0,_,b1,c1,d1,rfl,q0,q1⟩)
 ·intro dn o a w K ho hall h hK
  obtain rfl:=Option.some.inj ((show opZbs[8]? = some opZb8 from rfl).symm.trans ho)
  have eb':=(h.eval 2 (fun j hj e=>absurd e.symm (by revert j;decide))).trans eb
  obtain ⟨a0,b0,c0,d0,a1,b1,c1,d1,ev,z0,z1⟩:opZbSt g1 s1 x1 y1 p1 s3 x3 y3 p3 s4 x4 y4 p4 n f1 f3 f4 w (a.eval (.tmp 27)):=h.has 7 (by omega) (hall 7 (by omega))
  have ea:=h.puts hT (fun i=>match i with
   | 0=>a.eval (.tmp 20)
   | 1=>.pointer (some ⟨g1,2,none⟩)
   | 2=>.agg #[.bool s1,.int .u64 x1,.int .u64 y1,.pointer p1]
   | 3=>.agg #[.bool s3,.int .u64 x3,.int .u64 y3,.pointer p3]
   | 4=>a.eval (.tmp 24)
   | 5=>.pointer (some ⟨g1,1,none⟩)
   | 6=>.int .i64 n
   | _=>.agg #[.bool a0,.int .u64 b0,.int .u64 c0,.pointer d0,.bool a1,.int .u64 b1,.int .u64 c1,.pointer d1,.int .i64 n]) (fun i hi=>by
   have hc:=h.has i hi (hall i hi)
   have:i=0∨i=1∨i=2∨i=3∨i=4∨i=5∨i=6∨i=7:=by omega
   rcases this with rfl | rfl | rfl | rfl | rfl | rfl | rfl | rfl
   ·rfl
   ·exact hc
   ·exact hc
   ·exact hc
   ·rfl
   ·exact hc
   ·exact hc
   ·exact ev)
  exact wp_skipped (run_stopZbSt a w _ _ _ _ _ gb a0 b0 c0 d0 a1 b1 c1 d1 _ eb' ev (cb.but (hdr h.mem) (by simp) (by omega)) hvb) (hK _ _ ⟨w,a.eval (.tmp 20),a.eval (.tmp 24),a0,b0,c0,d0,a1,b1,c1,d1,ea,rfl,hdr h.mem,z0,z1⟩)
 ·rintro a w ⟨w1,v0,v4,a0,b0,c0,d0,a1,b1,c1,d1,rfl,rfl,hb1,z0,z1⟩
  exact hQ w1 v0 v4 a0 b0 c0 d0 a1 b1 c1 d1 hb1 z0 z1
def opZc0:Oper:={ dst:=some 24,op:=Op.move (Operand.tmp 1),type:=33,pos:= "number.go:130",after:=#[],guard:=none }
def opZc1:Oper:={ dst:=some 25,op:=Op.move (Operand.tmp 8),type:=3,pos:= "number.go:130",after:=#[],guard:=none }
def opZc2:Oper:={ dst:=some 26,op:=Op.indexAddr 33 (Operand.tmp 24) (Operand.tmp 25),type:=0,pos:= "number.go:130",after:=#[⟨0,.data⟩,⟨1,.data⟩],guard:=none }
def opZc3:Oper:={ dst:=some 27,op:=Op.load 29 (Operand.tmp 26),type:=29,pos:= "number.go:130",after:=#[⟨2,.data⟩],guard:=none }
def opZc4:Oper:={ dst:=some 28,op:=Op.move (Operand.tmp 8),type:=3,pos:= "number.go:130",after:=#[],guard:=none }
def opZc5:Oper:={ dst:=some 29,op:=Op.move (Operand.tmp 2),type:=3,pos:= "number.go:130",after:=#[],guard:=none }
def opZc6:Oper:={ dst:=some 30,op:=Op.binOp BinOp.mul 3 (Operand.tmp 28) (Operand.tmp 29) 3,type:=3,pos:= "number.go:130",after:=#[⟨4,.data⟩,⟨5,.data⟩],guard:=none }
def opZc7:Oper:={ dst:=some 31,op:=Op.move (Operand.tmp 6),type:=3,pos:= "number.go:130",after:=#[],guard:=none }
def opZc8:Oper:={ dst:=some 32,op:=Op.binOp BinOp.sub 3 (Operand.tmp 30) (Operand.tmp 31) 3,type:=3,pos:= "number.go:130",after:=#[⟨6,.data⟩,⟨7,.data⟩],guard:=none }
def opZc9:Oper:={ dst:=some 33,op:=Op.call { callee:=Callee.value (Operand.func 27),args:=#[Operand.tmp 32],argTypes:=#[3] },type:=29,pos:= "number.go:130",after:=#[⟨8,.data⟩],guard:=none }
def opZc10:Oper:={ dst:=some 34,op:=Op.call { callee:=Callee.value (Operand.func 33),args:=#[Operand.tmp 27,Operand.tmp 33],argTypes:=#[29,29] },type:=29,pos:= "number.go:130",after:=#[⟨3,.data⟩,⟨9,.data⟩,⟨9,.chain⟩],guard:=none }
def opZc11:Oper:={ dst:=some 9,op:=Op.alloc 29,type:=0,pos:= "number.go:130",after:=#[],guard:=none }
def opZc12:Oper:={ dst:=none,op:=Op.store 29 (Operand.tmp 9) (Operand.tmp 34),type:=0,pos:= "number.go:130",after:=#[⟨11,.data⟩,⟨10,.data⟩,⟨10,.chain⟩,⟨0,.phase⟩,⟨1,.phase⟩,⟨2,.phase⟩,⟨3,.phase⟩,⟨4,.phase⟩,⟨5,.phase⟩,⟨6,.phase⟩,⟨7,.phase⟩,⟨8,.phase⟩,⟨9,.phase⟩,⟨10,.phase⟩,⟨11,.phase⟩],guard:=none }
def opZcs:Array Oper:=#[opZc0,opZc1,opZc2,opZc3,opZc4,opZc5,opZc6,opZc7,opZc8,opZc9,opZc10,opZc11,opZc12]
def opZcT (i:Nat):Nat:=match i with
 | 0=>24
 | 1=>25
 | 2=>26
 | 3=>27
 | 4=>28
 | 5=>29
 | 6=>30
 | 7=>31
 | 8=>32
 | 9=>33
 | 10=>34
 | _=>9
def opZcC (B:Nat) (s1:Bool) (x1:Int) (y1:Int) (p1:Option Addr) (b:Nat) (off:Nat) (n:Nat) (c:Nat) (k:Nat) (ab:Int) (ki:Int) (pr:Int) (ws:Bool) (wx:Int) (f1:Rat) (i:Nat) (w:World) (v:Value):Prop:=match i with
 | 0=>v=.slice (some ⟨b,off,none⟩) n c
 | 1=>v=.int .i64 (k:Int)
 | 2=>v=.pointer (some ⟨b,off+k*4,none⟩)
 | 3=>v=.agg #[.bool s1,.int .u64 x1,.int .u64 y1,.pointer p1]
 | 4=>v=.int .i64 (k:Int)
 | 5=>v=.int .i64 ab
 | 6=>v=.int .i64 pr
 | 7=>v=.int .i64 ki
 | 8=>v=.int .i64 (pr-ki)
 | 9=>v=.agg #[.bool ws,.int .u64 wx,.int .u64 0,.pointer none]
 | 10=>am w v (f1*(((pr-ki:Int)):Rat))
 | _=>LaidK B w v
theorem opZcC_but {B:Nat} {s1:Bool} {x1:Int} {y1:Int} {p1:Option Addr} {b:Nat} {off:Nat} {n:Nat} {c:Nat} {k:Nat} {ab:Int} {ki:Int} {pr:Int} {ws:Bool} {wx:Int} {f1:Rat} {i:Nat} {w w':World} {v:Value} (h:opZcC B s1 x1 y1 p1 b off n c k ab ki pr ws wx f1 i w v) (hi:i<12) (hb:But [] w w'):opZcC B s1 x1 y1 p1 b off n c k ab ki pr ws wx f1 i w' v:=by
 have:i=0∨i=1∨i=2∨i=3∨i=4∨i=5∨i=6∨i=7∨i=8∨i=9∨i=10∨i=11:=by omega
 rcases this with rfl | rfl | rfl | rfl | rfl | rfl | rfl | rfl | rfl | rfl | rfl | rfl
 all_goals first | exact h | exact am.but h hb | exact an.but h hb | exact LaidK.but h hb
theorem opZcT_inj:∀ i j,i<12→j<12→opZcT i=opZcT j→i=j:=fun i j hi hj=>(by decide:∀ i,i<12→∀ j,j<12→opZcT i=opZcT j→i=j) i hi j hj
theorem next_region5 (id:Nat) (Q:Exit→Act→World→Prop) (base:Act) (W0:World) (B:Nat) (s1:Bool) (x1:Int) (y1:Int) (p1:Option Addr) (b:Nat) (off:Nat) (n:Nat) (c:Nat) (k:Nat) (ab:Int) (ki:Int) (pr:Int) (ws:Bool) (wx:Int) (f1:Rat) (hs:34<base.tmps.size) (hBW:B≤W0.heap.size) (e1:base.eval (.tmp 1)=.slice (some ⟨b,off,none⟩) n c) (e8:base.eval (.tmp 8)=.int .i64 (k:Int)) (e2:base.eval (.tmp 2)=.int .i64 ab) (e6:base.eval (.tmp 6)=.int .i64 ki)
  (hkn:k<n) (hn:n<1000000) (hpr:(k:Int)*ab=pr) (hpb:-9223372036854775808≤pr∧pr<9223372036854775808) (hsb:-9223372036854775808≤pr-ki∧pr-ki<9223372036854775808) (c1:P4o W0 b (off+k*4) s1 x1 y1 p1)
  (WH:∀ w,Calls Tryz.prog 27 #[.int .i64 (pr-ki)] w fun e w'=>e=.returned (.agg #[.bool ws,.int .u64 wx,.int .u64 0,.pointer none])∧But [] w w')
  (MU:∀ w,But [] W0 w→Calls Tryz.prog 33 #[.agg #[.bool s1,.int .u64 x1,.int .u64 y1,.pointer p1],.agg #[.bool ws,.int .u64 wx,.int .u64 0,.pointer none]] w fun e w'=>∃ v,e=.returned v∧am w' v (f1*(((pr-ki:Int)):Rat))∧But [] w w')
  (hQ:∀ w1 bn s' x' y' p',But [] W0 w1→B≤bn→P4 w1 bn false 0 0 none→(∀ j,w1.frozen? ⟨bn,j,none⟩=false)→am w1 (.agg #[.bool s',.int .u64 x',.int .u64 y',.pointer p']) (f1*(((pr-ki:Int)):Rat))→Q .normal (bb base [(24,.slice (some ⟨b,off,none⟩) n c),(25,.int .i64 (k:Int)),(26,.pointer (some ⟨b,off+k*4,none⟩)),(27,.agg #[.bool s1,.int .u64 x1,.int .u64 y1,.pointer p1]),(28,.int .i64 (k:Int)),(29,.int .i64 ab),(30,.int .i64 pr),(31,.int .i64 ki),(32,.int .i64 (pr-ki)),(33,.agg #[.bool ws,.int .u64 wx,.int .u64 0,.pointer none]),(34,(.agg #[.bool s',.int .u64 x',.int .u64 y',.pointer p'])),(9,.pointer (some ⟨bn,0,none⟩))]) (put4 w1 bn s' x' y' p')) :
  (Code.region id opZcs true).wp Tryz.prog Q base W0:=by
 have hdr:∀ {w},But [] W0.drew w→But [] W0 w:=fun h=>(But.refl _ _).drew.trans' h
 have hT:∀ i,i<12→opZcT i<base.tmps.size:=fun i hi=>by
  have h:opZcT i≤34:=by revert i;decide
  omega
 refine region_flow (by kernel_rfl) (low_of (by kernel_rfl)) (fun i o ho=>(calm_of (ops:=opZcs) (by kernel_rfl) i o ho).1)
  (fun _ w=>But [] W0.drew w) (opZcC B s1 x1 y1 p1 b off n c k ab ki pr ws wx f1) opZcT 12 rfl opZcT_inj hT (But.refl _ _)
  (fun i hi=>?_) ?_ (fun a w=>∃ w1 bn s' x' y' p',a=bb base [(24,.slice (some ⟨b,off,none⟩) n c),(25,.int .i64 (k:Int)),(26,.pointer (some ⟨b,off+k*4,none⟩)),(27,.agg #[.bool s1,.int .u64 x1,.int .u64 y1,.pointer p1]),(28,.int .i64 (k:Int)),(29,.int .i64 ab),(30,.int .i64 pr),(31,.int .i64 ki),(32,.int .i64 (pr-ki)),(33,.agg #[.bool ws,.int .u64 wx,.int .u64 0,.pointer none]),(34,(.agg #[.bool s',.int .u64 x',.int .u64 y',.pointer p'])),(9,.pointer (some ⟨bn,0,none⟩))]∧w=put4 w1 bn s' x' y' p'∧But [] W0 w1∧B≤bn∧P4 w1 bn false 0 0 none∧(∀ j,w1.frozen? ⟨bn,j,none⟩=false)∧am w1 (.agg #[.bool s',.int .u64 x',.int .u64 y',.pointer p']) (f1*(((pr-ki:Int)):Rat))) ?_ ?_
 ·exact dep_of (ops:=opZcs) (ps:=[(12,0),(12,1),(12,2),(12,3),(12,4),(12,5),(12,6),(12,7),(12,8),(12,9),(12,10),(12,11)]) (by kernel_rfl) 12 i (by
   have:i=0∨i=1∨i=2∨i=3∨i=4∨i=5∨i=6∨i=7∨i=8∨i=9∨i=10∨i=11:=by omega
   rcases this with rfl | rfl | rfl | rfl | rfl | rfl | rfl | rfl | rfl | rfl | rfl | rfl <;> simp)
 ·intro dn i o a w K hi ho hdi hH he hdep hK
  have hD:=fun j hj=>(dep_have (ps:=[(2,0),(2,1),(3,2),(6,4),(6,5),(8,6),(8,7),(9,8),(10,3),(10,9)]) (by kernel_rfl) ho (fun j=>dn j=true∧opZcC B s1 x1 y1 p1 b off n c k ab ki pr ws wx f1 j w (a.eval (.tmp (opZcT j)))) hdep j hj).2
  have hk:∀ v w',But [] w w'→opZcC B s1 x1 y1 p1 b off n c k ab ki pr ws wx f1 i w' v→K (a.put (some (opZcT i)) v) w':=fun v w' hb hv=>hK v w' (hH.trans' hb) (fun j hj _ u hu=>opZcC_but hu hj hb) hv
  have e1':=(he 1 (fun j hj e=>absurd e.symm (by revert j;decide))).trans e1
  have e8':=(he 8 (fun j hj e=>absurd e.symm (by revert j;decide))).trans e8
  have e2':=(he 2 (fun j hj e=>absurd e.symm (by revert j;decide))).trans e2
  have e6':=(he 6 (fun j hj e=>absurd e.symm (by revert j;decide))).trans e6
  have:i=0∨i=1∨i=2∨i=3∨i=4∨i=5∨i=6∨i=7∨i=8∨i=9∨i=10∨i=11:=by omega
  rcases this with rfl | rfl | rfl | rfl | rfl | rfl | rfl | rfl | rfl | rfl | rfl | rfl
  ·obtain rfl:=Option.some.inj ((show opZcs[0]? = some opZc0 from rfl).symm.trans ho)
   exact al (bh a w _ _ _ _ _ _ _ e1') (hk _ _ (But.refl _ _) rfl)
  ·obtain rfl:=Option.some.inj ((show opZcs[1]? = some opZc1 from rfl).symm.trans ho)
   exact al (bh a w _ _ _ _ _ _ _ e8') (hk _ _ (But.refl _ _) rfl)
  ·obtain rfl:=Option.some.inj ((show opZcs[2]? = some opZc2 from rfl).symm.trans ho)
   exact al (run_indexK a w _ _ _ _ _ _ _ b off n c k hkn hn (hD 0 (by simp)) (hD 1 (by simp))) (hk _ _ (But.refl _ _) rfl)
  ·obtain rfl:=Option.some.inj ((show opZcs[3]? = some opZc3 from rfl).symm.trans ho)
   exact al (aq a w _ _ _ _ _ _ b (off+k*4) _ _ _ _ (hD 2 (by simp)) (c1.but (hdr hH) (by simp))) (hk _ _ (But.refl _ _) rfl)
  ·obtain rfl:=Option.some.inj ((show opZcs[4]? = some opZc4 from rfl).symm.trans ho)
   exact al (bh a w _ _ _ _ _ _ _ e8') (hk _ _ (But.refl _ _) rfl)
  ·obtain rfl:=Option.some.inj ((show opZcs[5]? = some opZc5 from rfl).symm.trans ho)
   exact al (bh a w _ _ _ _ _ _ _ e2') (hk _ _ (But.refl _ _) rfl)
  ·obtain rfl:=Option.some.inj ((show opZcs[6]? = some opZc6 from rfl).symm.trans ho)
   exact al (run_mulIZ a w _ _ _ _ _ _ _ _ _ _ hpr hpb (hD 4 (by simp)) (hD 5 (by simp))) (hk _ _ (But.refl _ _) rfl)
  ·obtain rfl:=Option.some.inj ((show opZcs[7]? = some opZc7 from rfl).symm.trans ho)
   exact al (bh a w _ _ _ _ _ _ _ e6') (hk _ _ (But.refl _ _) rfl)
  ·obtain rfl:=Option.some.inj ((show opZcs[8]? = some opZc8 from rfl).symm.trans ho)
   exact al (run_subIZ a w _ _ _ _ _ _ _ _ _ hsb (hD 6 (by simp)) (hD 7 (by simp))) (hk _ _ (But.refl _ _) rfl)
  ·obtain rfl:=Option.some.inj ((show opZcs[9]? = some opZc9 from rfl).symm.trans ho)
   exact av (run_wholeK a w _ _ _ _ _ _ _ (hD 8 (by simp))) (R:=fun w' v=>But [] w w'∧v=_) ((WH w).mono fun e w' ⟨he,hb⟩=>⟨_,he,hb,rfl⟩) (fun v w' hv=>hk v w' hv.1 hv.2)
  ·obtain rfl:=Option.some.inj ((show opZcs[10]? = some opZc10 from rfl).symm.trans ho)
   exact av (run_mulK a w _ _ _ _ _ _ _ _ _ (hD 3 (by simp)) (hD 9 (by simp))) (R:=fun w' v=>am w' v (f1*(((pr-ki:Int)):Rat))∧But [] w w') (MU w (hdr hH)) (fun v w' hv=>hk v w' hv.2 hv.1)
  ·obtain rfl:=Option.some.inj ((show opZcs[11]? = some opZc11 from rfl).symm.trans ho)
   exact al (run_allocK a w _ _ _ _) (hk _ _ ((But.refl _ _).alloc _) ⟨w.heap.size,rfl,Nat.le_trans hBW (hdr hH).size,⟨by simp,by simp,by simp,by simp⟩,fun j=>by simp⟩)
 ·intro dn o a w K ho hall h hK
  obtain rfl:=Option.some.inj ((show opZcs[12]? = some opZc12 from rfl).symm.trans ho)
  have cl:am w (a.eval (.tmp 34)) (f1*(((pr-ki:Int)):Rat)):=h.has 10 (by omega) (hall 10 (by omega))
  obtain ⟨bn,eb,hb1,hb2,hb3⟩:LaidK B w (a.eval (.tmp 9)):=h.has 11 (by omega) (hall 11 (by omega))
  have cl':=cl
  obtain ⟨x',y',p',ev,-⟩:=cl.agg
  rw [ev] at cl'
  have ea:=h.puts hT (fun i=>match i with
   | 0=>.slice (some ⟨b,off,none⟩) n c
   | 1=>.int .i64 (k:Int)
   | 2=>.pointer (some ⟨b,off+k*4,none⟩)
   | 3=>.agg #[.bool s1,.int .u64 x1,.int .u64 y1,.pointer p1]
   | 4=>.int .i64 (k:Int)
   | 5=>.int .i64 ab
   | 6=>.int .i64 pr
   | 7=>.int .i64 ki
   | 8=>.int .i64 (pr-ki)
   | 9=>.agg #[.bool ws,.int .u64 wx,.int .u64 0,.pointer none]
   | 10=>.agg #[.bool (decide ((f1*(((pr-ki:Int)):Rat)).num<0)),.int .u64 x',.int .u64 y',.pointer p']
   | _=>.pointer (some ⟨bn,0,none⟩)) (fun i hi=>by
   have hc:=h.has i hi (hall i hi)
   have:i=0∨i=1∨i=2∨i=3∨i=4∨i=5∨i=6∨i=7∨i=8∨i=9∨i=10∨i=11:=by omega
   rcases this with rfl | rfl | rfl | rfl | rfl | rfl | rfl | rfl | rfl | rfl | rfl | rfl
   all_goals first | exact ev | exact eb | exact hc | rfl)
  exact wp_skipped (run_store4 a w _ _ _ _ _ bn _ x' y' p' eb ev hb2 hb3) (hK _ _ ⟨w,bn,_,x',y',p',ea,rfl,hdr h.mem,hb1,hb2,hb3,cl'⟩)
 ·rintro a w ⟨w1,bn,s',x',y',p',rfl,rfl,h1,h2,h3,h4,h5⟩
  exact hQ  w1 bn s' x' y' p' h1 h2 h3 h4 h5
theorem run_nilcZ (a:Act) (w:World) (d t:Nat) (u:TypeId) (ps:String) (ed:Array Edge) (gd:Option (Nat × Bool)) (q:Addr) (h1:a.eval (.tmp t)=.pointer (some q)) :
  (execOp a.eval { dst:=some d,op:=Op.nilCheck (.tmp t),type:=u,pos:=ps,after:=ed,guard:=gd }).run Tryz.prog w=.ok (.value (.pointer (some q))) w:=by
 unfold execOp
 simp only [h1]
 go_simp
theorem run_fS0 (a:Act) (w:World) (d t:Nat) (u:TypeId) (ps:String) (ed:Array Edge) (gd:Option (Nat × Bool)) (b:Nat) (h1:a.eval (.tmp t)=.pointer (some ⟨b,0,none⟩)) :
  (execOp a.eval { dst:=some d,op:=Op.fieldAddr 169 (.tmp t) 0,type:=u,pos:=ps,after:=ed,guard:=gd }).run Tryz.prog w=.ok (.value (.pointer (some ⟨b,0,none⟩))) w:=by
 unfold execOp
 simp only [h1]
 go_simp
theorem run_fS2 (a:Act) (w:World) (d t:Nat) (u:TypeId) (ps:String) (ed:Array Edge) (gd:Option (Nat × Bool)) (b:Nat) (h1:a.eval (.tmp t)=.pointer (some ⟨b,0,none⟩)) :
  (execOp a.eval { dst:=some d,op:=Op.fieldAddr 169 (.tmp t) 2,type:=u,pos:=ps,after:=ed,guard:=gd }).run Tryz.prog w=.ok (.value (.pointer (some ⟨b,5,none⟩))) w:=by
 unfold execOp
 simp only [h1]
 go_simp
theorem run_fS3 (a:Act) (w:World) (d t:Nat) (u:TypeId) (ps:String) (ed:Array Edge) (gd:Option (Nat × Bool)) (b:Nat) (h1:a.eval (.tmp t)=.pointer (some ⟨b,0,none⟩)) :
  (execOp a.eval { dst:=some d,op:=Op.fieldAddr 169 (.tmp t) 3,type:=u,pos:=ps,after:=ed,guard:=gd }).run Tryz.prog w=.ok (.value (.pointer (some ⟨b,9,none⟩))) w:=by
 unfold execOp
 simp only [h1]
 go_simp
def opZd0:Oper:={ dst:=some 35,op:=Op.load 29 (Operand.tmp 7),type:=29,pos:= "number.go:131",after:=#[],guard:=none }
def opZd1:Oper:={ dst:=some 36,op:=Op.move (Operand.tmp 0),type:=214,pos:= "number.go:131",after:=#[],guard:=none }
def opZd2:Oper:={ dst:=some 37,op:=Op.nilCheck (Operand.tmp 36),type:=0,pos:= "number.go:131",after:=#[⟨1,.data⟩],guard:=none }
def opZd3:Oper:={ dst:=some 38,op:=Op.fieldAddr 169 (Operand.tmp 37) 2,type:=0,pos:= "number.go:131",after:=#[⟨2,.data⟩],guard:=none }
def opZd4:Oper:={ dst:=some 39,op:=Op.load 29 (Operand.tmp 38),type:=29,pos:= "number.go:131",after:=#[⟨3,.data⟩],guard:=none }
def opZd5:Oper:={ dst:=some 40,op:=Op.call { callee:=Callee.value (Operand.func 33),args:=#[Operand.tmp 35,Operand.tmp 39],argTypes:=#[29,29] },type:=29,pos:= "number.go:131",after:=#[⟨0,.data⟩,⟨4,.data⟩],guard:=none }
def opZd6:Oper:={ dst:=some 41,op:=Op.load 29 (Operand.tmp 9),type:=29,pos:= "number.go:131",after:=#[],guard:=none }
def opZd7:Oper:={ dst:=some 42,op:=Op.move (Operand.tmp 0),type:=214,pos:= "number.go:131",after:=#[],guard:=none }
def opZd8:Oper:={ dst:=some 43,op:=Op.nilCheck (Operand.tmp 42),type:=0,pos:= "number.go:131",after:=#[⟨7,.data⟩],guard:=none }
def opZd9:Oper:={ dst:=some 44,op:=Op.fieldAddr 169 (Operand.tmp 43) 0,type:=0,pos:= "number.go:131",after:=#[⟨8,.data⟩],guard:=none }
def opZd10:Oper:={ dst:=some 45,op:=Op.load 33 (Operand.tmp 44),type:=33,pos:= "number.go:131",after:=#[⟨9,.data⟩],guard:=none }
def opZd11:Oper:={ dst:=some 46,op:=Op.move (Operand.tmp 6),type:=3,pos:= "number.go:131",after:=#[],guard:=none }
def opZd12:Oper:={ dst:=some 47,op:=Op.move (Operand.tmp 8),type:=3,pos:= "number.go:131",after:=#[],guard:=none }
def opZd13:Oper:={ dst:=some 48,op:=Op.binOp BinOp.sub 3 (Operand.tmp 46) (Operand.tmp 47) 3,type:=3,pos:= "number.go:131",after:=#[⟨11,.data⟩,⟨12,.data⟩],guard:=none }
def opZd14:Oper:={ dst:=some 49,op:=Op.indexAddr 33 (Operand.tmp 45) (Operand.tmp 48),type:=0,pos:= "number.go:131",after:=#[⟨10,.data⟩,⟨13,.data⟩],guard:=none }
def opZd15:Oper:={ dst:=some 50,op:=Op.load 29 (Operand.tmp 49),type:=29,pos:= "number.go:131",after:=#[⟨14,.data⟩],guard:=none }
def opZd16:Oper:={ dst:=some 51,op:=Op.call { callee:=Callee.value (Operand.func 33),args:=#[Operand.tmp 41,Operand.tmp 50],argTypes:=#[29,29] },type:=29,pos:= "number.go:131",after:=#[⟨6,.data⟩,⟨15,.data⟩,⟨5,.chain⟩],guard:=none }
def opZd17:Oper:={ dst:=some 52,op:=Op.call { callee:=Callee.value (Operand.func 22),args:=#[Operand.tmp 40,Operand.tmp 51],argTypes:=#[29,29] },type:=29,pos:= "number.go:131",after:=#[⟨5,.data⟩,⟨16,.data⟩,⟨16,.chain⟩],guard:=none }
def opZd18:Oper:={ dst:=none,op:=Op.store 29 (Operand.tmp 7) (Operand.tmp 52),type:=0,pos:= "number.go:131",after:=#[⟨17,.data⟩,⟨17,.chain⟩,⟨0,.phase⟩,⟨1,.phase⟩,⟨2,.phase⟩,⟨3,.phase⟩,⟨4,.phase⟩,⟨5,.phase⟩,⟨6,.phase⟩,⟨7,.phase⟩,⟨8,.phase⟩,⟨9,.phase⟩,⟨10,.phase⟩,⟨11,.phase⟩,⟨12,.phase⟩,⟨13,.phase⟩,⟨14,.phase⟩,⟨15,.phase⟩,⟨16,.phase⟩,⟨17,.phase⟩],guard:=none }
def opZds:Array Oper:=#[opZd0,opZd1,opZd2,opZd3,opZd4,opZd5,opZd6,opZd7,opZd8,opZd9,opZd10,opZd11,opZd12,opZd13,opZd14,opZd15,opZd16,opZd17,opZd18]
def opZdT (i:Nat):Nat:=match i with
 | 0=>35
 | 1=>36
 | 2=>37
 | 3=>38
 | 4=>39
 | 5=>40
 | 6=>41
 | 7=>42
 | 8=>43
 | 9=>44
 | 10=>45
 | 11=>46
 | 12=>47
 | 13=>48
 | 14=>49
 | 15=>50
 | 16=>51
 | _=>52
def opZdC (g0:Nat) (s1:Bool) (x1:Int) (y1:Int) (p1:Option Addr) (s2:Bool) (x2:Int) (y2:Int) (p2:Option Addr) (s3:Bool) (x3:Int) (y3:Int) (p3:Option Addr) (s4:Bool) (x4:Int) (y4:Int) (p4:Option Addr) (b:Nat) (off:Nat) (n:Nat) (c:Nat) (ni:Int) (ki:Int) (jx:Nat) (f1:Rat) (f2:Rat) (f3:Rat) (f4:Rat) (i:Nat) (w:World) (v:Value):Prop:=match i with
 | 0=>v=.agg #[.bool s1,.int .u64 x1,.int .u64 y1,.pointer p1]
 | 1=>v=.pointer (some ⟨g0,0,none⟩)
 | 2=>v=.pointer (some ⟨g0,0,none⟩)
 | 3=>v=.pointer (some ⟨g0,5,none⟩)
 | 4=>v=.agg #[.bool s2,.int .u64 x2,.int .u64 y2,.pointer p2]
 | 5=>am w v (f1*f2)
 | 6=>v=.agg #[.bool s3,.int .u64 x3,.int .u64 y3,.pointer p3]
 | 7=>v=.pointer (some ⟨g0,0,none⟩)
 | 8=>v=.pointer (some ⟨g0,0,none⟩)
 | 9=>v=.pointer (some ⟨g0,0,none⟩)
 | 10=>v=.slice (some ⟨b,off,none⟩) n c
 | 11=>v=.int .i64 ni
 | 12=>v=.int .i64 ki
 | 13=>v=.int .i64 (jx:Int)
 | 14=>v=.pointer (some ⟨b,off+jx*4,none⟩)
 | 15=>v=.agg #[.bool s4,.int .u64 x4,.int .u64 y4,.pointer p4]
 | 16=>am w v (f3*f4)
 | _=>am w v (f1*f2+f3*f4)
theorem opZdC_but {g0:Nat} {s1:Bool} {x1:Int} {y1:Int} {p1:Option Addr} {s2:Bool} {x2:Int} {y2:Int} {p2:Option Addr} {s3:Bool} {x3:Int} {y3:Int} {p3:Option Addr} {s4:Bool} {x4:Int} {y4:Int} {p4:Option Addr} {b:Nat} {off:Nat} {n:Nat} {c:Nat} {ni:Int} {ki:Int} {jx:Nat} {f1:Rat} {f2:Rat} {f3:Rat} {f4:Rat} {i:Nat} {w w':World} {v:Value} (h:opZdC g0 s1 x1 y1 p1 s2 x2 y2 p2 s3 x3 y3 p3 s4 x4 y4 p4 b off n c ni ki jx f1 f2 f3 f4 i w v) (hi:i<18) (hb:But [] w w'):opZdC g0 s1 x1 y1 p1 s2 x2 y2 p2 s3 x3 y3 p3 s4 x4 y4 p4 b off n c ni ki jx f1 f2 f3 f4 i w' v:=by
 have:i=0∨i=1∨i=2∨i=3∨i=4∨i=5∨i=6∨i=7∨i=8∨i=9∨i=10∨i=11∨i=12∨i=13∨i=14∨i=15∨i=16∨i=17:=by omega
 rcases this with rfl | rfl | rfl | rfl | rfl | rfl | rfl | rfl | rfl | rfl | rfl | rfl | rfl | rfl | rfl | rfl | rfl | rfl
 all_goals first | exact h | exact am.but h hb | exact an.but h hb
theorem opZdT_inj:∀ i j,i<18→j<18→opZdT i=opZdT j→i=j:=fun i j hi hj=>(by decide:∀ i,i<18→∀ j,j<18→opZdT i=opZdT j→i=j) i hi j hj
theorem next_region6 (id:Nat) (Q:Exit→Act→World→Prop) (base:Act) (W0:World) (g0:Nat) (s1:Bool) (x1:Int) (y1:Int) (p1:Option Addr) (s2:Bool) (x2:Int) (y2:Int) (p2:Option Addr) (s3:Bool) (x3:Int) (y3:Int) (p3:Option Addr) (s4:Bool) (x4:Int) (y4:Int) (p4:Option Addr) (b:Nat) (off:Nat) (n:Nat) (c:Nat) (ni:Int) (ki:Int) (jx:Nat) (f1:Rat) (f2:Rat) (f3:Rat) (f4:Rat) (gb g9:Nat) {sb:Bool} {xb yb:Int} {pb:Option Addr} (hs:52<base.tmps.size) (eb:base.eval (.tmp 7)=.pointer (some ⟨gb,0,none⟩)) (cb:P4 W0 gb sb xb yb pb) (fzb:∀ j,W0.frozen? ⟨gb,j,none⟩=false) (e0:base.eval (.tmp 0)=.pointer (some ⟨g0,0,none⟩)) (e9:base.eval (.tmp 9)=.pointer (some ⟨g9,0,none⟩)) (e6:base.eval (.tmp 6)=.int .i64 ni) (e8:base.eval (.tmp 8)=.int .i64 ki)
  (hj:ni-ki=(jx:Int)) (hsb:-9223372036854775808≤ni-ki∧ni-ki<9223372036854775808) (hjn:jx<n) (hn:n<1000000) (c1:P4 W0 gb s1 x1 y1 p1) (c2:P4o W0 g0 5 s2 x2 y2 p2) (c3:P4 W0 g9 s3 x3 y3 p3) (cs:W0.cell? ⟨g0,0,none⟩=some (.slice (some ⟨b,off,none⟩) n c)) (c4:P4o W0 b (off+jx*4) s4 x4 y4 p4)
  (M1:∀ w,But [] W0 w→Calls Tryz.prog 33 #[.agg #[.bool s1,.int .u64 x1,.int .u64 y1,.pointer p1],.agg #[.bool s2,.int .u64 x2,.int .u64 y2,.pointer p2]] w fun e w'=>∃ v,e=.returned v∧am w' v (f1*f2)∧But [] w w')
  (M2:∀ w,But [] W0 w→Calls Tryz.prog 33 #[.agg #[.bool s3,.int .u64 x3,.int .u64 y3,.pointer p3],.agg #[.bool s4,.int .u64 x4,.int .u64 y4,.pointer p4]] w fun e w'=>∃ v,e=.returned v∧am w' v (f3*f4)∧But [] w w')
  (AD:∀ w,But [] W0 w→∀ u v,am w u (f1*f2)→am w v (f3*f4)→Calls Tryz.prog 22 #[u,v] w fun e w'=>∃ v,e=.returned v∧am w' v (f1*f2+f3*f4)∧But [] w w')
  (hQ:∀ w1 v5 v16 s' x' y' p',But [] W0 w1→am w1 (.agg #[.bool s',.int .u64 x',.int .u64 y',.pointer p']) (f1*f2+f3*f4)→Q .normal (bb base [(35,.agg #[.bool s1,.int .u64 x1,.int .u64 y1,.pointer p1]),(36,.pointer (some ⟨g0,0,none⟩)),(37,.pointer (some ⟨g0,0,none⟩)),(38,.pointer (some ⟨g0,5,none⟩)),(39,.agg #[.bool s2,.int .u64 x2,.int .u64 y2,.pointer p2]),(40,v5),(41,.agg #[.bool s3,.int .u64 x3,.int .u64 y3,.pointer p3]),(42,.pointer (some ⟨g0,0,none⟩)),(43,.pointer (some ⟨g0,0,none⟩)),(44,.pointer (some ⟨g0,0,none⟩)),(45,.slice (some ⟨b,off,none⟩) n c),(46,.int .i64 ni),(47,.int .i64 ki),(48,.int .i64 (jx:Int)),(49,.pointer (some ⟨b,off+jx*4,none⟩)),(50,.agg #[.bool s4,.int .u64 x4,.int .u64 y4,.pointer p4]),(51,v16),(52,(.agg #[.bool s',.int .u64 x',.int .u64 y',.pointer p']))]) (put4 w1 gb s' x' y' p')) :
  (Code.region id opZds true).wp Tryz.prog Q base W0:=by
 have hdr:∀ {w},But [] W0.drew w→But [] W0 w:=fun h=>(But.refl _ _).drew.trans' h
 have lgb:gb<W0.heap.size:=ai cb.1
 have hT:∀ i,i<18→opZdT i<base.tmps.size:=fun i hi=>by
  have h:opZdT i≤52:=by revert i;decide
  omega
 refine region_flow (by kernel_rfl) (low_of (by kernel_rfl)) (fun i o ho=>(calm_of (ops:=opZds) (by kernel_rfl) i o ho).1)
  (fun _ w=>But [] W0.drew w) (opZdC g0 s1 x1 y1 p1 s2 x2 y2 p2 s3 x3 y3 p3 s4 x4 y4 p4 b off n c ni ki jx f1 f2 f3 f4) opZdT 18 rfl opZdT_inj hT (But.refl _ _)
  (fun i hi=>?_) ?_ (fun a w=>∃ w1 v5 v16 s' x' y' p',a=bb base [(35,.agg #[.bool s1,.int .u64 x1,.int .u64 y1,.pointer p1]),(36,.pointer (some ⟨g0,0,none⟩)),(37,.pointer (some ⟨g0,0,none⟩)),(38,.pointer (some ⟨g0,5,none⟩)),(39,.agg #[.bool s2,.int .u64 x2,.int .u64 y2,.pointer p2]),(40,v5),(41,.agg #[.bool s3,.int .u64 x3,.int .u64 y3,.pointer p3]),(42,.pointer (some ⟨g0,0,none⟩)),(43,.pointer (some ⟨g0,0,none⟩)),(44,.pointer (some ⟨g0,0,none⟩)),(45,.slice (some ⟨b,off,none⟩) n c),(46,.int .i64 ni),(47,.int .i64 ki),(48,.int .i64 (jx:Int)),(49,.pointer (some ⟨b,off+jx*4,none⟩)),(50,.agg #[.bool s4,.int .u64 x4,.int .u64 y4,.pointer p4]),(51,v16),(52,(.agg #[.bool s',.int .u64 x',.int .u64 y',.pointer p']))]∧w=put4 w1 gb s' x' y' p'∧But [] W0 w1∧am w1 (.agg #[.bool s',.int .u64 x',.int .u64 y',.pointer p']) (f1*f2+f3*f4)) ?_ ?_
 ·exact dep_of (ops:=opZds) (ps:=[(18,0),(18,1),(18,2),(18,3),(18,4),(18,5),(18,6),(18,7),(18,8),(18,9),(18,10),(18,11),(18,12),(18,13),(18,14),(18,15),(18,16),(18,17)]) (by kernel_rfl) 18 i (by
   have:i=0∨i=1∨i=2∨i=3∨i=4∨i=5∨i=6∨i=7∨i=8∨i=9∨i=10∨i=11∨i=12∨i=13∨i=14∨i=15∨i=16∨i=17:=by omega
   rcases this with rfl | rfl | rfl | rfl | rfl | rfl | rfl | rfl | rfl | rfl | rfl | rfl | rfl | rfl | rfl | rfl | rfl | rfl <;> simp)
 ·intro dn i o a w K hi ho hdi hH he hdep hK
  have hD:=fun j hj=>(dep_have (ps:=[(2,1),(3,2),(4,3),(5,0),(5,4),(8,7),(9,8),(10,9),(13,11),(13,12),(14,10),(14,13),(15,14),(16,5),(16,6),(16,15),(17,5),(17,16)]) (by kernel_rfl) ho (fun j=>dn j=true∧opZdC g0 s1 x1 y1 p1 s2 x2 y2 p2 s3 x3 y3 p3 s4 x4 y4 p4 b off n c ni ki jx f1 f2 f3 f4 j w (a.eval (.tmp (opZdT j)))) hdep j hj).2
  have hk:∀ v w',But [] w w'→opZdC g0 s1 x1 y1 p1 s2 x2 y2 p2 s3 x3 y3 p3 s4 x4 y4 p4 b off n c ni ki jx f1 f2 f3 f4 i w' v→K (a.put (some (opZdT i)) v) w':=fun v w' hb hv=>hK v w' (hH.trans' hb) (fun j hj _ u hu=>opZdC_but hu hj hb) hv
  have eb':=(he 7 (fun j hj e=>absurd e.symm (by revert j;decide))).trans eb
  have e0':=(he 0 (fun j hj e=>absurd e.symm (by revert j;decide))).trans e0
  have e9':=(he 9 (fun j hj e=>absurd e.symm (by revert j;decide))).trans e9
  have e6':=(he 6 (fun j hj e=>absurd e.symm (by revert j;decide))).trans e6
  have e8':=(he 8 (fun j hj e=>absurd e.symm (by revert j;decide))).trans e8
  have:i=0∨i=1∨i=2∨i=3∨i=4∨i=5∨i=6∨i=7∨i=8∨i=9∨i=10∨i=11∨i=12∨i=13∨i=14∨i=15∨i=16∨i=17:=by omega
  rcases this with rfl | rfl | rfl | rfl | rfl | rfl | rfl | rfl | rfl | rfl | rfl | rfl | rfl | rfl | rfl | rfl | rfl | rfl
  ·obtain rfl:=Option.some.inj ((show opZds[0]? = some opZd0 from rfl).symm.trans ho)
   exact al (aq a w _ _ _ _ _ _ gb 0 _ _ _ _ eb' (c1.but (hdr hH) (by simp))) (hk _ _ (But.refl _ _) rfl)
  ·obtain rfl:=Option.some.inj ((show opZds[1]? = some opZd1 from rfl).symm.trans ho)
   exact al (bh a w _ _ _ _ _ _ _ e0') (hk _ _ (But.refl _ _) rfl)
  ·obtain rfl:=Option.some.inj ((show opZds[2]? = some opZd2 from rfl).symm.trans ho)
   exact al (run_nilcZ a w _ _ _ _ _ _ _ (hD 1 (by simp))) (hk _ _ (But.refl _ _) rfl)
  ·obtain rfl:=Option.some.inj ((show opZds[3]? = some opZd3 from rfl).symm.trans ho)
   exact al (run_fS2 a w _ _ _ _ _ _ g0 (hD 2 (by simp))) (hk _ _ (But.refl _ _) rfl)
  ·obtain rfl:=Option.some.inj ((show opZds[4]? = some opZd4 from rfl).symm.trans ho)
   exact al (aq a w _ _ _ _ _ _ g0 5 _ _ _ _ (hD 3 (by simp)) (c2.but (hdr hH) (by simp))) (hk _ _ (But.refl _ _) rfl)
  ·obtain rfl:=Option.some.inj ((show opZds[5]? = some opZd5 from rfl).symm.trans ho)
   exact av (run_mulK a w _ _ _ _ _ _ _ _ _ (hD 0 (by simp)) (hD 4 (by simp))) (R:=fun w' v=>am w' v (f1*f2)∧But [] w w') (M1 w (hdr hH)) (fun v w' hv=>hk v w' hv.2 hv.1)
  ·obtain rfl:=Option.some.inj ((show opZds[6]? = some opZd6 from rfl).symm.trans ho)
   exact al (aq a w _ _ _ _ _ _ g9 0 _ _ _ _ e9' (c3.but (hdr hH) (by simp))) (hk _ _ (But.refl _ _) rfl)
  ·obtain rfl:=Option.some.inj ((show opZds[7]? = some opZd7 from rfl).symm.trans ho)
   exact al (bh a w _ _ _ _ _ _ _ e0') (hk _ _ (But.refl _ _) rfl)
  ·obtain rfl:=Option.some.inj ((show opZds[8]? = some opZd8 from rfl).symm.trans ho)
   exact al (run_nilcZ a w _ _ _ _ _ _ _ (hD 7 (by simp))) (hk _ _ (But.refl _ _) rfl)
  ·obtain rfl:=Option.some.inj ((show opZds[9]? = some opZd9 from rfl).symm.trans ho)
   exact al (run_fS0 a w _ _ _ _ _ _ g0 (hD 8 (by simp))) (hk _ _ (But.refl _ _) rfl)
  ·obtain rfl:=Option.some.inj ((show opZds[10]? = some opZd10 from rfl).symm.trans ho)
   exact al (run_loadSK a w _ _ _ _ _ _ g0 _ _ _ (hD 9 (by simp)) ((hdr hH).ag cs (by simp))) (hk _ _ (But.refl _ _) rfl)
  ·obtain rfl:=Option.some.inj ((show opZds[11]? = some opZd11 from rfl).symm.trans ho)
   exact al (bh a w _ _ _ _ _ _ _ e6') (hk _ _ (But.refl _ _) rfl)
  ·obtain rfl:=Option.some.inj ((show opZds[12]? = some opZd12 from rfl).symm.trans ho)
   exact al (bh a w _ _ _ _ _ _ _ e8') (hk _ _ (But.refl _ _) rfl)
  ·obtain rfl:=Option.some.inj ((show opZds[13]? = some opZd13 from rfl).symm.trans ho)
   refine al (run_subIZ a w _ _ _ _ _ _ _ _ _ hsb (hD 11 (by simp)) (hD 12 (by simp))) (hk _ _ (But.refl _ _) ?_)
   show Value.int _ _=Value.int _ _
   rw [hj]
  ·obtain rfl:=Option.some.inj ((show opZds[14]? = some opZd14 from rfl).symm.trans ho)
   exact al (run_indexK a w _ _ _ _ _ _ _ b off n c jx hjn hn (hD 10 (by simp)) (hD 13 (by simp))) (hk _ _ (But.refl _ _) rfl)
  ·obtain rfl:=Option.some.inj ((show opZds[15]? = some opZd15 from rfl).symm.trans ho)
   exact al (aq a w _ _ _ _ _ _ b (off+jx*4) _ _ _ _ (hD 14 (by simp)) (c4.but (hdr hH) (by simp))) (hk _ _ (But.refl _ _) rfl)
  ·obtain rfl:=Option.some.inj ((show opZds[16]? = some opZd16 from rfl).symm.trans ho)
   exact av (run_mulK a w _ _ _ _ _ _ _ _ _ (hD 6 (by simp)) (hD 15 (by simp))) (R:=fun w' v=>am w' v (f3*f4)∧But [] w w') (M2 w (hdr hH)) (fun v w' hv=>hk v w' hv.2 hv.1)
  ·obtain rfl:=Option.some.inj ((show opZds[17]? = some opZd17 from rfl).symm.trans ho)
   exact av (run_addK a w _ _ _ _ _ _ _ _ _ rfl rfl) (R:=fun w' v=>am w' v (f1*f2+f3*f4)∧But [] w w') (AD w (hdr hH) _ _ (hD 5 (by simp)) (hD 16 (by simp))) (fun v w' hv=>hk v w' hv.2 hv.1)
 ·intro dn o a w K ho hall h hK
  obtain rfl:=Option.some.inj ((show opZds[18]? = some opZd18 from rfl).symm.trans ho)
  have eb':=(h.eval 7 (fun j hj e=>absurd e.symm (by revert j;decide))).trans eb
  have cl:am w (a.eval (.tmp 52)) (f1*f2+f3*f4):=h.has 17 (by omega) (hall 17 (by omega))
  have cl':=cl
  obtain ⟨x',y',p',ev,-⟩:=cl.agg
  rw [ev] at cl'
  have ea:=h.puts hT (fun i=>match i with
   | 0=>.agg #[.bool s1,.int .u64 x1,.int .u64 y1,.pointer p1]
   | 1=>.pointer (some ⟨g0,0,none⟩)
   | 2=>.pointer (some ⟨g0,0,none⟩)
   | 3=>.pointer (some ⟨g0,5,none⟩)
   | 4=>.agg #[.bool s2,.int .u64 x2,.int .u64 y2,.pointer p2]
   | 5=>a.eval (.tmp 40)
   | 6=>.agg #[.bool s3,.int .u64 x3,.int .u64 y3,.pointer p3]
   | 7=>.pointer (some ⟨g0,0,none⟩)
   | 8=>.pointer (some ⟨g0,0,none⟩)
   | 9=>.pointer (some ⟨g0,0,none⟩)
   | 10=>.slice (some ⟨b,off,none⟩) n c
   | 11=>.int .i64 ni
   | 12=>.int .i64 ki
   | 13=>.int .i64 (jx:Int)
   | 14=>.pointer (some ⟨b,off+jx*4,none⟩)
   | 15=>.agg #[.bool s4,.int .u64 x4,.int .u64 y4,.pointer p4]
   | 16=>a.eval (.tmp 51)
   | _=>.agg #[.bool (decide ((f1*f2+f3*f4).num<0)),.int .u64 x',.int .u64 y',.pointer p']) (fun i hi=>by
   have hc:=h.has i hi (hall i hi)
   have:i=0∨i=1∨i=2∨i=3∨i=4∨i=5∨i=6∨i=7∨i=8∨i=9∨i=10∨i=11∨i=12∨i=13∨i=14∨i=15∨i=16∨i=17:=by omega
   rcases this with rfl | rfl | rfl | rfl | rfl | rfl | rfl | rfl | rfl | rfl | rfl | rfl | rfl | rfl | rfl | rfl | rfl | rfl
   all_goals first | exact ev | exact hc | rfl)
  exact wp_skipped (run_store4 a w _ _ _ _ _ gb _ x' y' p' eb' ev (cb.but (hdr h.mem) (by simp)) (fun j=>((hdr h.mem).frozen (p:=⟨gb,j,none⟩) lgb (by simp)).trans (fzb j))) (hK _ _ ⟨w,a.eval (.tmp 40),a.eval (.tmp 51),_,x',y',p',ea,rfl,hdr h.mem,cl'⟩)
 ·rintro a w ⟨w1,v5,v16,s',x',y',p',rfl,rfl,h1,h2⟩
  exact hQ  w1 v5 v16 s' x' y' p' h1 h2
theorem run_fF1 (a:Act) (w:World) (d t:Nat) (u:TypeId) (ps:String) (ed:Array Edge) (gd:Option (Nat × Bool)) (b:Nat) (h1:a.eval (.tmp t)=.pointer (some ⟨b,0,none⟩)) :
  (execOp a.eval { dst:=some d,op:=Op.fieldAddr 98 (.tmp t) 1,type:=u,pos:=ps,after:=ed,guard:=gd }).run Tryz.prog w=.ok (.value (.pointer (some ⟨b,4,none⟩))) w:=by
 unfold execOp
 simp only [h1]
 go_simp
theorem run_fF2 (a:Act) (w:World) (d t:Nat) (u:TypeId) (ps:String) (ed:Array Edge) (gd:Option (Nat × Bool)) (b:Nat) (h1:a.eval (.tmp t)=.pointer (some ⟨b,0,none⟩)) :
  (execOp a.eval { dst:=some d,op:=Op.fieldAddr 98 (.tmp t) 2,type:=u,pos:=ps,after:=ed,guard:=gd }).run Tryz.prog w=.ok (.value (.pointer (some ⟨b,8,none⟩))) w:=by
 unfold execOp
 simp only [h1]
 go_simp
def opZe0:Oper:={ dst:=some 42,op:=Op.move (Operand.tmp 9),type:=33,pos:= "number.go:33",after:=#[],guard:=none }
def opZe1:Oper:={ dst:=some 43,op:=Op.move (Operand.tmp 9),type:=33,pos:= "number.go:33",after:=#[],guard:=none }
def opZe2:Oper:={ dst:=some 44,op:=Op.move (Operand.tmp 10),type:=3,pos:= "number.go:33",after:=#[],guard:=none }
def opZe3:Oper:={ dst:=some 45,op:=Op.indexAddr 33 (Operand.tmp 43) (Operand.tmp 44),type:=0,pos:= "number.go:33",after:=#[⟨1,.data⟩,⟨2,.data⟩],guard:=none }
def opZe4:Oper:={ dst:=some 46,op:=Op.load 29 (Operand.tmp 45),type:=29,pos:= "number.go:33",after:=#[⟨3,.data⟩],guard:=none }
def opZe5:Oper:={ dst:=some 47,op:=Op.fieldAddr 98 (Operand.tmp 8) 1,type:=0,pos:= "number.go:33",after:=#[],guard:=none }
def opZe6:Oper:={ dst:=some 48,op:=Op.load 29 (Operand.tmp 47),type:=29,pos:= "number.go:33",after:=#[⟨5,.data⟩],guard:=none }
def opZe7:Oper:={ dst:=some 49,op:=Op.load 29 (Operand.tmp 11),type:=29,pos:= "number.go:33",after:=#[],guard:=none }
def opZe8:Oper:={ dst:=some 50,op:=Op.call { callee:=Callee.value (Operand.func 33),args:=#[Operand.tmp 48,Operand.tmp 49],argTypes:=#[29,29] },type:=29,pos:= "number.go:33",after:=#[⟨6,.data⟩,⟨7,.data⟩],guard:=none }
def opZe9:Oper:={ dst:=some 51,op:=Op.call { callee:=Callee.value (Operand.func 33),args:=#[Operand.tmp 46,Operand.tmp 50],argTypes:=#[29,29] },type:=29,pos:= "number.go:33",after:=#[⟨4,.data⟩,⟨8,.data⟩,⟨8,.chain⟩],guard:=none }
def opZe10:Oper:={ dst:=some 52,op:=Op.buildSlice 33 1 #[(0,Operand.tmp 51)],type:=33,pos:= "number.go:33",after:=#[⟨9,.data⟩],guard:=none }
def opZe11:Oper:={ dst:=some 53,op:=Op.call { callee:=Callee.builtin Builtin.append,args:=#[Operand.tmp 42,Operand.tmp 52],argTypes:=#[33,33] },type:=33,pos:= "number.go:33",after:=#[⟨0,.data⟩,⟨10,.data⟩,⟨9,.chain⟩],guard:=none }
def opZe12:Oper:={ dst:=some 9,op:=Op.assign (Operand.tmp 53),type:=33,pos:= "number.go:33",after:=#[⟨11,.data⟩,⟨11,.chain⟩,⟨0,.phase⟩,⟨1,.phase⟩,⟨2,.phase⟩,⟨3,.phase⟩,⟨4,.phase⟩,⟨5,.phase⟩,⟨6,.phase⟩,⟨7,.phase⟩,⟨8,.phase⟩,⟨9,.phase⟩,⟨10,.phase⟩,⟨11,.phase⟩],guard:=none }
def opZes:Array Oper:=#[opZe0,opZe1,opZe2,opZe3,opZe4,opZe5,opZe6,opZe7,opZe8,opZe9,opZe10,opZe11,opZe12]
def opZeT (i:Nat):Nat:=match i with
 | 0=>42
 | 1=>43
 | 2=>44
 | 3=>45
 | 4=>46
 | 5=>47
 | 6=>48
 | 7=>49
 | 8=>50
 | 9=>51
 | 10=>52
 | _=>53
def opZeC (B:Nat) (Post:Value→World→Prop) (s1:Bool) (x1:Int) (y1:Int) (p1:Option Addr) (s2:Bool) (x2:Int) (y2:Int) (p2:Option Addr) (s3:Bool) (x3:Int) (y3:Int) (p3:Option Addr) (b:Nat) (n:Nat) (c:Nat) (k:Nat) (g8:Nat) (f1:Rat) (f2:Rat) (f3:Rat) (i:Nat) (w:World) (v:Value):Prop:=match i with
 | 0=>v=.slice (some ⟨b,0,none⟩) n c
 | 1=>v=.slice (some ⟨b,0,none⟩) n c
 | 2=>v=.int .i64 (k:Int)
 | 3=>v=.pointer (some ⟨b,0+k*4,none⟩)
 | 4=>v=.agg #[.bool s1,.int .u64 x1,.int .u64 y1,.pointer p1]
 | 5=>v=.pointer (some ⟨g8,4,none⟩)
 | 6=>v=.agg #[.bool s2,.int .u64 x2,.int .u64 y2,.pointer p2]
 | 7=>v=.agg #[.bool s3,.int .u64 x3,.int .u64 y3,.pointer p3]
 | 8=>am w v (f2*f3)
 | 9=>am w v (f1*(f2*f3))
 | 10=>OneAt B (f1*(f2*f3)) w v
 | _=>Post v w
theorem opZeC_but {B:Nat} {Post:Value→World→Prop} {s1:Bool} {x1:Int} {y1:Int} {p1:Option Addr} {s2:Bool} {x2:Int} {y2:Int} {p2:Option Addr} {s3:Bool} {x3:Int} {y3:Int} {p3:Option Addr} {b:Nat} {n:Nat} {c:Nat} {k:Nat} {g8:Nat} {f1:Rat} {f2:Rat} {f3:Rat} {i:Nat} {w w':World} {v:Value} (h:opZeC B Post s1 x1 y1 p1 s2 x2 y2 p2 s3 x3 y3 p3 b n c k g8 f1 f2 f3 i w v) (hi:i<12) (hn:i≠11) (hb:But [] w w'):opZeC B Post s1 x1 y1 p1 s2 x2 y2 p2 s3 x3 y3 p3 b n c k g8 f1 f2 f3 i w' v:=by
 have:i=0∨i=1∨i=2∨i=3∨i=4∨i=5∨i=6∨i=7∨i=8∨i=9∨i=10∨i=11:=by omega
 rcases this with rfl | rfl | rfl | rfl | rfl | rfl | rfl | rfl | rfl | rfl | rfl | rfl
 ·exact (show v=.slice (some ⟨b,0,none⟩) n c from h)
 ·exact (show v=.slice (some ⟨b,0,none⟩) n c from h)
 ·exact (show v=.int .i64 (k:Int) from h)
 ·exact (show v=.pointer (some ⟨b,0+k*4,none⟩) from h)
 ·exact (show v=.agg #[.bool s1,.int .u64 x1,.int .u64 y1,.pointer p1] from h)
 ·exact (show v=.pointer (some ⟨g8,4,none⟩) from h)
 ·exact (show v=.agg #[.bool s2,.int .u64 x2,.int .u64 y2,.pointer p2] from h)
 ·exact (show v=.agg #[.bool s3,.int .u64 x3,.int .u64 y3,.pointer p3] from h)
 ·exact am.but (show am w v (f2*f3) from h) hb
 ·exact am.but (show am w v (f1*(f2*f3)) from h) hb
 ·exact OneAt.but (show OneAt B (f1*(f2*f3)) w v from h) hb
 ·exact absurd rfl hn
theorem opZeC_over {B:Nat} {Post:Value→World→Prop} {s1:Bool} {x1:Int} {y1:Int} {p1:Option Addr} {s2:Bool} {x2:Int} {y2:Int} {p2:Option Addr} {s3:Bool} {x3:Int} {y3:Int} {p3:Option Addr} {b:Nat} {n:Nat} {c:Nat} {k:Nat} {g8:Nat} {f1:Rat} {f2:Rat} {f3:Rat} {i:Nat} {w w':World} {v:Value} {gq:Nat} {sq:Bool} (h:opZeC B Post s1 x1 y1 p1 s2 x2 y2 p2 s3 x3 y3 p3 b n c k g8 f1 f2 f3 i w v) (hi:i<12) (hn:i≠11) (c0:w.cell? ⟨gq,0,none⟩=some (.bool sq)) (hb:But [gq] w w') (hl:gq<B):opZeC B Post s1 x1 y1 p1 s2 x2 y2 p2 s3 x3 y3 p3 b n c k g8 f1 f2 f3 i w' v:=by
 have:i=0∨i=1∨i=2∨i=3∨i=4∨i=5∨i=6∨i=7∨i=8∨i=9∨i=10∨i=11:=by omega
 rcases this with rfl | rfl | rfl | rfl | rfl | rfl | rfl | rfl | rfl | rfl | rfl | rfl
 ·exact (show v=.slice (some ⟨b,0,none⟩) n c from h)
 ·exact (show v=.slice (some ⟨b,0,none⟩) n c from h)
 ·exact (show v=.int .i64 (k:Int) from h)
 ·exact (show v=.pointer (some ⟨b,0+k*4,none⟩) from h)
 ·exact (show v=.agg #[.bool s1,.int .u64 x1,.int .u64 y1,.pointer p1] from h)
 ·exact (show v=.pointer (some ⟨g8,4,none⟩) from h)
 ·exact (show v=.agg #[.bool s2,.int .u64 x2,.int .u64 y2,.pointer p2] from h)
 ·exact (show v=.agg #[.bool s3,.int .u64 x3,.int .u64 y3,.pointer p3] from h)
 ·exact am.over (show am w v (f2*f3) from h) c0 hb
 ·exact am.over (show am w v (f1*(f2*f3)) from h) c0 hb
 ·exact OneAt.over (show OneAt B (f1*(f2*f3)) w v from h) c0 hb hl
 ·exact absurd rfl hn
theorem opZeT_inj:∀ i j,i<12→j<12→opZeT i=opZeT j→i=j:=fun i j hi hj=>(by decide:∀ i,i<12→∀ j,j<12→opZeT i=opZeT j→i=j) i hi j hj
theorem chances_region (id:Nat) (Q:Exit→Act→World→Prop) (base:Act) (W0:World) (B:Nat) (Post:Value→World→Prop) (s1:Bool) (x1:Int) (y1:Int) (p1:Option Addr) (s2:Bool) (x2:Int) (y2:Int) (p2:Option Addr) (s3:Bool) (x3:Int) (y3:Int) (p3:Option Addr) (b:Nat) (n:Nat) (c:Nat) (k:Nat) (g8:Nat) (f1:Rat) (f2:Rat) (f3:Rat) (gq g11:Nat) (sq:Bool) (hs:53<base.tmps.size) (hB:B=W0.heap.size) (hgq:gq<B) (cq:W0.cell? ⟨gq,0,none⟩=some (.bool sq)) (e9:base.eval (.tmp 9)=.slice (some ⟨b,0,none⟩) n c) (e10:base.eval (.tmp 10)=.int .i64 (k:Int)) (e8:base.eval (.tmp 8)=.pointer (some ⟨g8,0,none⟩)) (e11:base.eval (.tmp 11)=.pointer (some ⟨g11,0,none⟩))
  (hkn:k<n) (hn:n<1000000) (c1:P4o W0 b (0+k*4) s1 x1 y1 p1) (c2:P4o W0 g8 4 s2 x2 y2 p2) (c3:P4 W0 g11 s3 x3 y3 p3)
  (M1:∀ w,But [] W0 w→Calls Tryz.prog 33 #[.agg #[.bool s2,.int .u64 x2,.int .u64 y2,.pointer p2],.agg #[.bool s3,.int .u64 x3,.int .u64 y3,.pointer p3]] w fun e w'=>∃ v,e=.returned v∧am w' v (f2*f3)∧But [] w w')
  (M2:∀ w,But [] W0 w→∀ v,am w v (f2*f3)→Calls Tryz.prog 33 #[.agg #[.bool s1,.int .u64 x1,.int .u64 y1,.pointer p1],v] w fun e w'=>∃ v,e=.returned v∧am w' v (f1*(f2*f3))∧But [] w w')
  (AP:∀ w g s x y p,But [] W0 w→B≤g→P4 w g s x y p→am w (.agg #[.bool s,.int .u64 x,.int .u64 y,.pointer p]) (f1*(f2*f3))→∃ v' w',(Builtin.append_ #[33,33] 33 #[.slice (some ⟨b,0,none⟩) n c,.slice (some ⟨g,0,none⟩) 1 1]).run Tryz.prog w=.ok v' w'∧But [gq] w w'∧Post v' w')
  (hQ:∀ w v8 v9 v10 v11,Post v11 w→Q .normal (bb base [(42,.slice (some ⟨b,0,none⟩) n c),(43,.slice (some ⟨b,0,none⟩) n c),(44,.int .i64 (k:Int)),(45,.pointer (some ⟨b,0+k*4,none⟩)),(46,.agg #[.bool s1,.int .u64 x1,.int .u64 y1,.pointer p1]),(47,.pointer (some ⟨g8,4,none⟩)),(48,.agg #[.bool s2,.int .u64 x2,.int .u64 y2,.pointer p2]),(49,.agg #[.bool s3,.int .u64 x3,.int .u64 y3,.pointer p3]),(50,v8),(51,v9),(52,v10),(53,v11),(9,v11)]) w) :
  (Code.region id opZes true).wp Tryz.prog Q base W0:=by
 have hdr:∀ {w},But [] W0.drew w→But [] W0 w:=fun h=>(But.refl _ _).drew.trans' h
 have hT:∀ i,i<12→opZeT i<base.tmps.size:=fun i hi=>by
  have h:opZeT i≤53:=by revert i;decide
  omega
 refine region_flowS (by kernel_rfl) (low_of (by kernel_rfl)) (bare_of (by kernel_rfl))
  (fun dn w=>dn 11=false→But [] W0.drew w) (opZeC B Post s1 x1 y1 p1 s2 x2 y2 p2 s3 x3 y3 p3 b n c k g8 f1 f2 f3) opZeT 12 rfl opZeT_inj hT (fun _=>But.refl _ _)
  ?_ ?_ (fun a w=>∃ w1 v8 v9 v10 v11,a=bb base [(42,.slice (some ⟨b,0,none⟩) n c),(43,.slice (some ⟨b,0,none⟩) n c),(44,.int .i64 (k:Int)),(45,.pointer (some ⟨b,0+k*4,none⟩)),(46,.agg #[.bool s1,.int .u64 x1,.int .u64 y1,.pointer p1]),(47,.pointer (some ⟨g8,4,none⟩)),(48,.agg #[.bool s2,.int .u64 x2,.int .u64 y2,.pointer p2]),(49,.agg #[.bool s3,.int .u64 x3,.int .u64 y3,.pointer p3]),(50,v8),(51,v9),(52,v10),(53,v11),(9,v11)]∧w=w1∧Post v11 w1) ?_ ?_
 ·intro dn hsh hl i hi
  have cd:∀ x y,(x,y) ∈ [(3,1),(3,2),(4,3),(6,5),(8,6),(8,7),(9,4),(9,8),(10,9),(11,0),(11,9),(11,10),(12,0),(12,1),(12,2),(12,3),(12,4),(12,5),(12,6),(12,7),(12,8),(12,9),(12,10),(12,11)]→dn x=true→dn y=true:=fun x y h hd=>shut_of (ops:=opZes) (ps:=[(3,1),(3,2),(4,3),(6,5),(8,6),(8,7),(9,4),(9,8),(10,9),(11,0),(11,9),(11,10),(12,0),(12,1),(12,2),(12,3),(12,4),(12,5),(12,6),(12,7),(12,8),(12,9),(12,10),(12,11)]) (by kernel_rfl) hsh x y h hd
  have dm:∀ j,(12,j) ∈ [(3,1),(3,2),(4,3),(6,5),(8,6),(8,7),(9,4),(9,8),(10,9),(11,0),(11,9),(11,10),(12,0),(12,1),(12,2),(12,3),(12,4),(12,5),(12,6),(12,7),(12,8),(12,9),(12,10),(12,11)]→dn j=true:=fun j hj=>by
   obtain ⟨o,ho,ed,hed,hbi,rfl⟩:=dep_of (ops:=opZes) (ps:=[(3,1),(3,2),(4,3),(6,5),(8,6),(8,7),(9,4),(9,8),(10,9),(11,0),(11,9),(11,10),(12,0),(12,1),(12,2),(12,3),(12,4),(12,5),(12,6),(12,7),(12,8),(12,9),(12,10),(12,11)]) (by kernel_rfl) 12 j hj
   exact hl o ho ed hed hbi
  have g0:dn 0=true:=dm 0 (by simp)
  have g1:dn 1=true:=dm 1 (by simp)
  have g2:dn 2=true:=dm 2 (by simp)
  have g3:dn 3=true:=dm 3 (by simp)
  have g4:dn 4=true:=dm 4 (by simp)
  have g5:dn 5=true:=dm 5 (by simp)
  have g6:dn 6=true:=dm 6 (by simp)
  have g7:dn 7=true:=dm 7 (by simp)
  have g8:dn 8=true:=dm 8 (by simp)
  have g9:dn 9=true:=dm 9 (by simp)
  have g10:dn 10=true:=dm 10 (by simp)
  have g11:dn 11=true:=dm 11 (by simp)
  have:i=0∨i=1∨i=2∨i=3∨i=4∨i=5∨i=6∨i=7∨i=8∨i=9∨i=10∨i=11:=by omega
  rcases this with rfl | rfl | rfl | rfl | rfl | rfl | rfl | rfl | rfl | rfl | rfl | rfl
  ·exact g0
  ·exact g1
  ·exact g2
  ·exact g3
  ·exact g4
  ·exact g5
  ·exact g6
  ·exact g7
  ·exact g8
  ·exact g9
  ·exact g10
  ·exact g11
 ·intro dn i o a w K hi ho hdi hsh hH0 he hdep hK
  have hD:=fun j hj=>(dep_have (ps:=[(3,1),(3,2),(4,3),(6,5),(8,6),(8,7),(9,4),(9,8),(10,9),(11,0),(11,9),(11,10)]) (by kernel_rfl) ho (fun j=>dn j=true∧opZeC B Post s1 x1 y1 p1 s2 x2 y2 p2 s3 x3 y3 p3 b n c k g8 f1 f2 f3 j w (a.eval (.tmp (opZeT j)))) hdep j hj).2
  have cd:∀ x y,(x,y) ∈ [(3,1),(3,2),(4,3),(6,5),(8,6),(8,7),(9,4),(9,8),(10,9),(11,0),(11,9),(11,10),(12,0),(12,1),(12,2),(12,3),(12,4),(12,5),(12,6),(12,7),(12,8),(12,9),(12,10),(12,11)]→dn x=true→dn y=true:=fun x y h hd=>shut_of (ops:=opZes) (ps:=[(3,1),(3,2),(4,3),(6,5),(8,6),(8,7),(9,4),(9,8),(10,9),(11,0),(11,9),(11,10),(12,0),(12,1),(12,2),(12,3),(12,4),(12,5),(12,6),(12,7),(12,8),(12,9),(12,10),(12,11)]) (by kernel_rfl) hsh x y h hd
  have hkc:i≠11→dn 11=false→∀ v w',But [] w w'→opZeC B Post s1 x1 y1 p1 s2 x2 y2 p2 s3 x3 y3 p3 b n c k g8 f1 f2 f3 i w' v→K (a.put (some (opZeT i)) v) w':=fun hne hf v w' hb hv=>hK v w' (fun _=>(hH0 hf).trans' hb) (fun j hj hdj u hu=>opZeC_but hu hj (fun e=>by rw [e,hf] at hdj;simp at hdj) hb) hv
  have hkp:i≠11→∀ v,opZeC B Post s1 x1 y1 p1 s2 x2 y2 p2 s3 x3 y3 p3 b n c k g8 f1 f2 f3 i w v→K (a.put (some (opZeT i)) v) w:=fun hne v hv=>hK v w (fun h=>hH0 (by rw [came_ne dn (Ne.symm hne)] at h;exact h)) (fun j hj hdj u hu=>hu) hv
  have e9':=(he 9 (fun j hj e=>absurd e.symm (by revert j;decide))).trans e9
  have e10':=(he 10 (fun j hj e=>absurd e.symm (by revert j;decide))).trans e10
  have e8':=(he 8 (fun j hj e=>absurd e.symm (by revert j;decide))).trans e8
  have e11':=(he 11 (fun j hj e=>absurd e.symm (by revert j;decide))).trans e11
  have:i=0∨i=1∨i=2∨i=3∨i=4∨i=5∨i=6∨i=7∨i=8∨i=9∨i=10∨i=11:=by omega
  rcases this with rfl | rfl | rfl | rfl | rfl | rfl | rfl | rfl | rfl | rfl | rfl | rfl
  ·obtain rfl:=Option.some.inj ((show opZes[0]? = some opZe0 from rfl).symm.trans ho)
   have hf:dn 11=false:=by
    cases h:dn 11 with
    | false=>rfl
    | true=>rw [cd 11 0 (by simp) (h)] at hdi;simp at hdi
   have hH:=hH0 hf
   have hk:=hkc (by decide) hf
   exact al (bh a w _ _ _ _ _ _ _ e9') (hk _ _ (But.refl _ _) rfl)
  ·obtain rfl:=Option.some.inj ((show opZes[1]? = some opZe1 from rfl).symm.trans ho)
   have hf:dn 11=false:=by
    cases h:dn 11 with
    | false=>rfl
    | true=>rw [cd 3 1 (by simp) (cd 4 3 (by simp) (cd 9 4 (by simp) (cd 11 9 (by simp) (h))))] at hdi;simp at hdi
   have hH:=hH0 hf
   have hk:=hkc (by decide) hf
   exact al (bh a w _ _ _ _ _ _ _ e9') (hk _ _ (But.refl _ _) rfl)
  ·obtain rfl:=Option.some.inj ((show opZes[2]? = some opZe2 from rfl).symm.trans ho)
   have hf:dn 11=false:=by
    cases h:dn 11 with
    | false=>rfl
    | true=>rw [cd 3 2 (by simp) (cd 4 3 (by simp) (cd 9 4 (by simp) (cd 11 9 (by simp) (h))))] at hdi;simp at hdi
   have hH:=hH0 hf
   have hk:=hkc (by decide) hf
   exact al (bh a w _ _ _ _ _ _ _ e10') (hk _ _ (But.refl _ _) rfl)
  ·obtain rfl:=Option.some.inj ((show opZes[3]? = some opZe3 from rfl).symm.trans ho)
   have hf:dn 11=false:=by
    cases h:dn 11 with
    | false=>rfl
    | true=>rw [cd 4 3 (by simp) (cd 9 4 (by simp) (cd 11 9 (by simp) (h)))] at hdi;simp at hdi
   have hH:=hH0 hf
   have hk:=hkc (by decide) hf
   exact al (run_indexK a w _ _ _ _ _ _ _ b 0 n c k hkn hn (hD 1 (by simp)) (hD 2 (by simp))) (hk _ _ (But.refl _ _) rfl)
  ·obtain rfl:=Option.some.inj ((show opZes[4]? = some opZe4 from rfl).symm.trans ho)
   have hf:dn 11=false:=by
    cases h:dn 11 with
    | false=>rfl
    | true=>rw [cd 9 4 (by simp) (cd 11 9 (by simp) (h))] at hdi;simp at hdi
   have hH:=hH0 hf
   have hk:=hkc (by decide) hf
   exact al (aq a w _ _ _ _ _ _ b (0+k*4) _ _ _ _ (hD 3 (by simp)) (c1.but (hdr hH) (by simp))) (hk _ _ (But.refl _ _) rfl)
  ·obtain rfl:=Option.some.inj ((show opZes[5]? = some opZe5 from rfl).symm.trans ho)
   have hf:dn 11=false:=by
    cases h:dn 11 with
    | false=>rfl
    | true=>rw [cd 6 5 (by simp) (cd 8 6 (by simp) (cd 9 8 (by simp) (cd 11 9 (by simp) (h))))] at hdi;simp at hdi
   have hH:=hH0 hf
   have hk:=hkc (by decide) hf
   exact al (run_fF1 a w _ _ _ _ _ _ g8 e8') (hk _ _ (But.refl _ _) rfl)
  ·obtain rfl:=Option.some.inj ((show opZes[6]? = some opZe6 from rfl).symm.trans ho)
   have hf:dn 11=false:=by
    cases h:dn 11 with
    | false=>rfl
    | true=>rw [cd 8 6 (by simp) (cd 9 8 (by simp) (cd 11 9 (by simp) (h)))] at hdi;simp at hdi
   have hH:=hH0 hf
   have hk:=hkc (by decide) hf
   exact al (aq a w _ _ _ _ _ _ g8 4 _ _ _ _ (hD 5 (by simp)) (c2.but (hdr hH) (by simp))) (hk _ _ (But.refl _ _) rfl)
  ·obtain rfl:=Option.some.inj ((show opZes[7]? = some opZe7 from rfl).symm.trans ho)
   have hf:dn 11=false:=by
    cases h:dn 11 with
    | false=>rfl
    | true=>rw [cd 8 7 (by simp) (cd 9 8 (by simp) (cd 11 9 (by simp) (h)))] at hdi;simp at hdi
   have hH:=hH0 hf
   have hk:=hkc (by decide) hf
   exact al (aq a w _ _ _ _ _ _ g11 0 _ _ _ _ e11' (c3.but (hdr hH) (by simp))) (hk _ _ (But.refl _ _) rfl)
  ·obtain rfl:=Option.some.inj ((show opZes[8]? = some opZe8 from rfl).symm.trans ho)
   have hf:dn 11=false:=by
    cases h:dn 11 with
    | false=>rfl
    | true=>rw [cd 9 8 (by simp) (cd 11 9 (by simp) (h))] at hdi;simp at hdi
   have hH:=hH0 hf
   have hk:=hkc (by decide) hf
   exact av (run_mulK a w _ _ _ _ _ _ _ _ _ (hD 6 (by simp)) (hD 7 (by simp))) (R:=fun w' v=>am w' v (f2*f3)∧But [] w w') (M1 w (hdr hH)) (fun v w' hv=>hk v w' hv.2 hv.1)
  ·obtain rfl:=Option.some.inj ((show opZes[9]? = some opZe9 from rfl).symm.trans ho)
   have hf:dn 11=false:=by
    cases h:dn 11 with
    | false=>rfl
    | true=>rw [cd 11 9 (by simp) (h)] at hdi;simp at hdi
   have hH:=hH0 hf
   have hk:=hkc (by decide) hf
   exact av (run_mulK a w _ _ _ _ _ _ _ _ _ (hD 4 (by simp)) rfl) (R:=fun w' v=>am w' v (f1*(f2*f3))∧But [] w w') (M2 w (hdr hH) _ (hD 8 (by simp))) (fun v w' hv=>hk v w' hv.2 hv.1)
  ·obtain rfl:=Option.some.inj ((show opZes[10]? = some opZe10 from rfl).symm.trans ho)
   have hf:dn 11=false:=by
    cases h:dn 11 with
    | false=>rfl
    | true=>rw [cd 11 10 (by simp) (h)] at hdi;simp at hdi
   have hH:=hH0 hf
   have hk:=hkc (by decide) hf
   have q1:am w (a.eval (.tmp 51)) (f1*(f2*f3)):=hD 9 (by simp)
   obtain ⟨b1,c1,d1,e1,-⟩:=q1.agg
   rw [e1] at q1
   exact al (run_bs1Z a w _ _ _ _ _ _ _ b1 c1 d1 e1) (hk _ _ ((But.refl _ _).alloc _) ⟨w.heap.size,_,b1,c1,d1,rfl,by rw [hB];exact (hdr hH).size,⟨by simp,by simp,by simp,by simp⟩,q1.but ((But.refl _ _).alloc _)⟩)
  ·obtain rfl:=Option.some.inj ((show opZes[11]? = some opZe11 from rfl).symm.trans ho)
   obtain ⟨g,s,x,y,p,e1,h1,h2,h3⟩:OneAt B (f1*(f2*f3)) w (a.eval (.tmp 52)):=hD 10 (by simp)
   have hH:=hH0 hdi
   obtain ⟨v',w',hr,hbq,hpost⟩:=AP w g s x y p (hdr hH) h1 h2 h3
   have c0:=(hdr hH).ag cq (by simp)
   exact al (run_ap1Z a w _ _ _ _ _ _ _ _ v' w' (hD 0 (by simp)) e1 hr) (hK v' w' (fun h=>by rw [came_self] at h;simp at h) (fun j hj hdj u hu=>opZeC_over hu hj (fun e=>by rw [e,hdi] at hdj;simp at hdj) c0 hbq hgq) hpost)
 ·intro dn o a w K ho hall h hK
  obtain rfl:=Option.some.inj ((show opZes[12]? = some opZe12 from rfl).symm.trans ho)
  have hp:Post (a.eval (.tmp 53)) w:=h.has 11 (by omega) (hall 11 (by omega))
  have ea:=h.puts hT (fun i=>match i with
   | 0=>.slice (some ⟨b,0,none⟩) n c
   | 1=>.slice (some ⟨b,0,none⟩) n c
   | 2=>.int .i64 (k:Int)
   | 3=>.pointer (some ⟨b,0+k*4,none⟩)
   | 4=>.agg #[.bool s1,.int .u64 x1,.int .u64 y1,.pointer p1]
   | 5=>.pointer (some ⟨g8,4,none⟩)
   | 6=>.agg #[.bool s2,.int .u64 x2,.int .u64 y2,.pointer p2]
   | 7=>.agg #[.bool s3,.int .u64 x3,.int .u64 y3,.pointer p3]
   | 8=>a.eval (.tmp 50)
   | 9=>a.eval (.tmp 51)
   | 10=>a.eval (.tmp 52)
   | _=>a.eval (.tmp 53)) (fun i hi=>by
   have hc:=h.has i hi (hall i hi)
   have:i=0∨i=1∨i=2∨i=3∨i=4∨i=5∨i=6∨i=7∨i=8∨i=9∨i=10∨i=11:=by omega
   rcases this with rfl | rfl | rfl | rfl | rfl | rfl | rfl | rfl | rfl | rfl | rfl | rfl
   ·exact hc
   ·exact hc
   ·exact hc
   ·exact hc
   ·exact hc
   ·exact hc
   ·exact hc
   ·exact hc
   ·rfl
   ·rfl
   ·rfl
   ·rfl)
  exact al (run_asK a w _ _ _ _ _ _ _ rfl) (hK _ _ ⟨w,a.eval (.tmp 50),a.eval (.tmp 51),a.eval (.tmp 52),a.eval (.tmp 53),(congrArg (fun z=>z.put (some 9) (a.eval (.tmp 53))) ea).trans (putted_snoc _ _ _ _),rfl,hp⟩)
 ·rintro a w ⟨w1,v8,v9,v10,v11,rfl,rfl,hp⟩
  exact hQ _ v8 v9 v10 v11 hp
def opZf0:Oper:={ dst:=some 53,op:=Op.move (Operand.tmp 0),type:=214,pos:= "number.go:133",after:=#[],guard:=none }
def opZf1:Oper:={ dst:=some 54,op:=Op.move (Operand.tmp 0),type:=214,pos:= "number.go:133",after:=#[],guard:=none }
def opZf2:Oper:={ dst:=some 55,op:=Op.nilCheck (Operand.tmp 54),type:=0,pos:= "number.go:133",after:=#[⟨1,.data⟩],guard:=none }
def opZf3:Oper:={ dst:=some 56,op:=Op.fieldAddr 169 (Operand.tmp 55) 0,type:=0,pos:= "number.go:133",after:=#[⟨2,.data⟩],guard:=none }
def opZf4:Oper:={ dst:=some 57,op:=Op.load 33 (Operand.tmp 56),type:=33,pos:= "number.go:133",after:=#[⟨3,.data⟩],guard:=none }
def opZf5:Oper:={ dst:=some 58,op:=Op.load 29 (Operand.tmp 7),type:=29,pos:= "number.go:133",after:=#[],guard:=none }
def opZf6:Oper:={ dst:=some 59,op:=Op.move (Operand.tmp 0),type:=214,pos:= "number.go:133",after:=#[],guard:=none }
def opZf7:Oper:={ dst:=some 60,op:=Op.nilCheck (Operand.tmp 59),type:=0,pos:= "number.go:133",after:=#[⟨6,.data⟩],guard:=none }
def opZf8:Oper:={ dst:=some 61,op:=Op.fieldAddr 169 (Operand.tmp 60) 3,type:=0,pos:= "number.go:133",after:=#[⟨7,.data⟩],guard:=none }
def opZf9:Oper:={ dst:=some 62,op:=Op.load 29 (Operand.tmp 61),type:=29,pos:= "number.go:133",after:=#[⟨8,.data⟩],guard:=none }
def opZf10:Oper:={ dst:=some 63,op:=Op.move (Operand.tmp 6),type:=3,pos:= "number.go:133",after:=#[],guard:=none }
def opZf11:Oper:={ dst:=some 64,op:=Op.call { callee:=Callee.value (Operand.func 27),args:=#[Operand.tmp 63],argTypes:=#[3] },type:=29,pos:= "number.go:133",after:=#[⟨10,.data⟩],guard:=none }
def opZf12:Oper:={ dst:=some 65,op:=Op.call { callee:=Callee.value (Operand.func 33),args:=#[Operand.tmp 62,Operand.tmp 64],argTypes:=#[29,29] },type:=29,pos:= "number.go:133",after:=#[⟨9,.data⟩,⟨11,.data⟩,⟨11,.chain⟩],guard:=none }
def opZf13:Oper:={ dst:=some 66,op:=Op.call { callee:=Callee.value (Operand.func 76),args:=#[Operand.tmp 58,Operand.tmp 65],argTypes:=#[29,29] },type:=29,pos:= "number.go:133",after:=#[⟨5,.data⟩,⟨12,.data⟩,⟨12,.chain⟩],guard:=none }
def opZf14:Oper:={ dst:=some 67,op:=Op.buildSlice 33 1 #[(0,Operand.tmp 66)],type:=33,pos:= "number.go:133",after:=#[⟨13,.data⟩],guard:=none }
def opZf15:Oper:={ dst:=some 68,op:=Op.call { callee:=Callee.builtin Builtin.append,args:=#[Operand.tmp 57,Operand.tmp 67],argTypes:=#[33,33] },type:=33,pos:= "number.go:133",after:=#[⟨4,.data⟩,⟨14,.data⟩,⟨13,.chain⟩],guard:=none }
def opZf16:Oper:={ dst:=some 69,op:=Op.nilCheck (Operand.tmp 53),type:=0,pos:= "number.go:133",after:=#[⟨0,.data⟩,⟨0,.phase⟩,⟨1,.phase⟩,⟨2,.phase⟩,⟨3,.phase⟩,⟨4,.phase⟩,⟨5,.phase⟩,⟨6,.phase⟩,⟨7,.phase⟩,⟨8,.phase⟩,⟨9,.phase⟩,⟨10,.phase⟩,⟨11,.phase⟩,⟨12,.phase⟩,⟨13,.phase⟩,⟨14,.phase⟩,⟨15,.phase⟩],guard:=none }
def opZf17:Oper:={ dst:=some 70,op:=Op.fieldAddr 169 (Operand.tmp 69) 0,type:=0,pos:= "number.go:133",after:=#[⟨16,.data⟩,⟨0,.phase⟩,⟨1,.phase⟩,⟨2,.phase⟩,⟨3,.phase⟩,⟨4,.phase⟩,⟨5,.phase⟩,⟨6,.phase⟩,⟨7,.phase⟩,⟨8,.phase⟩,⟨9,.phase⟩,⟨10,.phase⟩,⟨11,.phase⟩,⟨12,.phase⟩,⟨13,.phase⟩,⟨14,.phase⟩,⟨15,.phase⟩],guard:=none }
def opZf18:Oper:={ dst:=none,op:=Op.store 33 (Operand.tmp 70) (Operand.tmp 68),type:=0,pos:= "number.go:133",after:=#[⟨17,.data⟩,⟨15,.data⟩,⟨15,.chain⟩,⟨0,.phase⟩,⟨1,.phase⟩,⟨2,.phase⟩,⟨3,.phase⟩,⟨4,.phase⟩,⟨5,.phase⟩,⟨6,.phase⟩,⟨7,.phase⟩,⟨8,.phase⟩,⟨9,.phase⟩,⟨10,.phase⟩,⟨11,.phase⟩,⟨12,.phase⟩,⟨13,.phase⟩,⟨14,.phase⟩,⟨15,.phase⟩],guard:=none }
def opZfs:Array Oper:=#[opZf0,opZf1,opZf2,opZf3,opZf4,opZf5,opZf6,opZf7,opZf8,opZf9,opZf10,opZf11,opZf12,opZf13,opZf14,opZf15,opZf16,opZf17,opZf18]
def opZfT (i:Nat):Nat:=match i with
 | 0=>53
 | 1=>54
 | 2=>55
 | 3=>56
 | 4=>57
 | 5=>58
 | 6=>59
 | 7=>60
 | 8=>61
 | 9=>62
 | 10=>63
 | 11=>64
 | 12=>65
 | 13=>66
 | 14=>67
 | 15=>68
 | 16=>69
 | _=>70
def opZfC (B:Nat) (Post:Value→World→Prop) (g0:Nat) (s1:Bool) (x1:Int) (y1:Int) (p1:Option Addr) (s2:Bool) (x2:Int) (y2:Int) (p2:Option Addr) (b:Nat) (n:Nat) (c:Nat) (ni:Int) (ws:Bool) (wx:Int) (f1:Rat) (f2:Rat) (i:Nat) (w:World) (v:Value):Prop:=match i with
 | 0=>v=.pointer (some ⟨g0,0,none⟩)
 | 1=>v=.pointer (some ⟨g0,0,none⟩)
 | 2=>v=.pointer (some ⟨g0,0,none⟩)
 | 3=>v=.pointer (some ⟨g0,0,none⟩)
 | 4=>v=.slice (some ⟨b,0,none⟩) n c
 | 5=>v=.agg #[.bool s1,.int .u64 x1,.int .u64 y1,.pointer p1]
 | 6=>v=.pointer (some ⟨g0,0,none⟩)
 | 7=>v=.pointer (some ⟨g0,0,none⟩)
 | 8=>v=.pointer (some ⟨g0,9,none⟩)
 | 9=>v=.agg #[.bool s2,.int .u64 x2,.int .u64 y2,.pointer p2]
 | 10=>v=.int .i64 ni
 | 11=>v=.agg #[.bool ws,.int .u64 wx,.int .u64 0,.pointer none]
 | 12=>am w v (f2*((ni:Int):Rat))
 | 13=>am w v (f1/(f2*((ni:Int):Rat)))
 | 14=>OneAt B (f1/(f2*((ni:Int):Rat))) w v
 | 15=>Post v w
 | 16=>v=.pointer (some ⟨g0,0,none⟩)
 | _=>v=.pointer (some ⟨g0,0,none⟩)
theorem opZfC_but {B:Nat} {Post:Value→World→Prop} {g0:Nat} {s1:Bool} {x1:Int} {y1:Int} {p1:Option Addr} {s2:Bool} {x2:Int} {y2:Int} {p2:Option Addr} {b:Nat} {n:Nat} {c:Nat} {ni:Int} {ws:Bool} {wx:Int} {f1:Rat} {f2:Rat} {i:Nat} {w w':World} {v:Value} (h:opZfC B Post g0 s1 x1 y1 p1 s2 x2 y2 p2 b n c ni ws wx f1 f2 i w v) (hi:i<18) (hn:i≠15) (hb:But [] w w'):opZfC B Post g0 s1 x1 y1 p1 s2 x2 y2 p2 b n c ni ws wx f1 f2 i w' v:=by
 have:i=0∨i=1∨i=2∨i=3∨i=4∨i=5∨i=6∨i=7∨i=8∨i=9∨i=10∨i=11∨i=12∨i=13∨i=14∨i=15∨i=16∨i=17:=by omega
 rcases this with rfl | rfl | rfl | rfl | rfl | rfl | rfl | rfl | rfl | rfl | rfl | rfl | rfl | rfl | rfl | rfl | rfl | rfl
 ·exact (show v=.pointer (some ⟨g0,0,none⟩) from h)
 ·exact (show v=.pointer (some ⟨g0,0,none⟩) from h)
 ·exact (show v=.pointer (some ⟨g0,0,none⟩) from h)
 ·exact (show v=.pointer (some ⟨g0,0,none⟩) from h)
 ·exact (show v=.slice (some ⟨b,0,none⟩) n c from h)
 ·exact (show v=.agg #[.bool s1,.int .u64 x1,.int .u64 y1,.pointer p1] from h)
 ·exact (show v=.pointer (some ⟨g0,0,none⟩) from h)
 ·exact (show v=.pointer (some ⟨g0,0,none⟩) from h)
 ·exact (show v=.pointer (some ⟨g0,9,none⟩) from h)
 ·exact (show v=.agg #[.bool s2,.int .u64 x2,.int .u64 y2,.pointer p2] from h)
 ·exact (show v=.int .i64 ni from h)
 ·exact (show v=.agg #[.bool ws,.int .u64 wx,.int .u64 0,.pointer none] from h)
 ·exact am.but (show am w v (f2*((ni:Int):Rat)) from h) hb
 ·exact am.but (show am w v (f1/(f2*((ni:Int):Rat))) from h) hb
 ·exact OneAt.but (show OneAt B (f1/(f2*((ni:Int):Rat))) w v from h) hb
 ·exact absurd rfl hn
 ·exact (show v=.pointer (some ⟨g0,0,none⟩) from h)
 ·exact (show v=.pointer (some ⟨g0,0,none⟩) from h)
theorem opZfC_over {B:Nat} {Post:Value→World→Prop} {g0:Nat} {s1:Bool} {x1:Int} {y1:Int} {p1:Option Addr} {s2:Bool} {x2:Int} {y2:Int} {p2:Option Addr} {b:Nat} {n:Nat} {c:Nat} {ni:Int} {ws:Bool} {wx:Int} {f1:Rat} {f2:Rat} {i:Nat} {w w':World} {v:Value} {gq:Nat} {sq:Bool} (h:opZfC B Post g0 s1 x1 y1 p1 s2 x2 y2 p2 b n c ni ws wx f1 f2 i w v) (hi:i<18) (hn:i≠15) (c0:w.cell? ⟨gq,0,none⟩=some (.bool sq)) (hb:But [gq] w w') (hl:gq<B):opZfC B Post g0 s1 x1 y1 p1 s2 x2 y2 p2 b n c ni ws wx f1 f2 i w' v:=by
 have:i=0∨i=1∨i=2∨i=3∨i=4∨i=5∨i=6∨i=7∨i=8∨i=9∨i=10∨i=11∨i=12∨i=13∨i=14∨i=15∨i=16∨i=17:=by omega
 rcases this with rfl | rfl | rfl | rfl | rfl | rfl | rfl | rfl | rfl | rfl | rfl | rfl | rfl | rfl | rfl | rfl | rfl | rfl
 ·exact (show v=.pointer (some ⟨g0,0,none⟩) from h)
 ·exact (show v=.pointer (some ⟨g0,0,none⟩) from h)
 ·exact (show v=.pointer (some ⟨g0,0,none⟩) from h)
 ·exact (show v=.pointer (some ⟨g0,0,none⟩) from h)
 ·exact (show v=.slice (some ⟨b,0,none⟩) n c from h)
 ·exact (show v=.agg #[.bool s1,.int .u64 x1,.int .u64 y1,.pointer p1] from h)
 ·exact (show v=.pointer (some ⟨g0,0,none⟩) from h)
 ·exact (show v=.pointer (some ⟨g0,0,none⟩) from h)
 ·exact (show v=.pointer (some ⟨g0,9,none⟩) from h)
 ·exact (show v=.agg #[.bool s2,.int .u64 x2,.int .u64 y2,.pointer p2] from h)
 ·exact (show v=.int .i64 ni from h)
 ·exact (show v=.agg #[.bool ws,.int .u64 wx,.int .u64 0,.pointer none] from h)
 ·exact am.over (show am w v (f2*((ni:Int):Rat)) from h) c0 hb
 ·exact am.over (show am w v (f1/(f2*((ni:Int):Rat))) from h) c0 hb
 ·exact OneAt.over (show OneAt B (f1/(f2*((ni:Int):Rat))) w v from h) c0 hb hl
 ·exact absurd rfl hn
 ·exact (show v=.pointer (some ⟨g0,0,none⟩) from h)
 ·exact (show v=.pointer (some ⟨g0,0,none⟩) from h)
theorem opZfT_inj:∀ i j,i<18→j<18→opZfT i=opZfT j→i=j:=fun i j hi hj=>(by decide:∀ i,i<18→∀ j,j<18→opZfT i=opZfT j→i=j) i hi j hj
theorem next_region7 (id:Nat) (Q:Exit→Act→World→Prop) (base:Act) (W0:World) (B:Nat) (Post:Value→World→Prop) (g0:Nat) (s1:Bool) (x1:Int) (y1:Int) (p1:Option Addr) (s2:Bool) (x2:Int) (y2:Int) (p2:Option Addr) (b:Nat) (n:Nat) (c:Nat) (ni:Int) (ws:Bool) (wx:Int) (f1:Rat) (f2:Rat) (gq g7:Nat) (sq:Bool) (hs:70<base.tmps.size) (hB:B=W0.heap.size) (hgq:gq<B) (cq:W0.cell? ⟨gq,0,none⟩=some (.bool sq)) (e0:base.eval (.tmp 0)=.pointer (some ⟨g0,0,none⟩)) (e7:base.eval (.tmp 7)=.pointer (some ⟨g7,0,none⟩)) (e6:base.eval (.tmp 6)=.int .i64 ni)
  (cs:W0.cell? ⟨g0,0,none⟩=some (.slice (some ⟨b,0,none⟩) n c)) (c1:P4 W0 g7 s1 x1 y1 p1) (c2:P4o W0 g0 9 s2 x2 y2 p2)
  (WH:∀ w,Calls Tryz.prog 27 #[.int .i64 ni] w fun e w'=>e=.returned (.agg #[.bool ws,.int .u64 wx,.int .u64 0,.pointer none])∧But [] w w')
  (MU:∀ w,But [] W0 w→Calls Tryz.prog 33 #[.agg #[.bool s2,.int .u64 x2,.int .u64 y2,.pointer p2],.agg #[.bool ws,.int .u64 wx,.int .u64 0,.pointer none]] w fun e w'=>∃ v,e=.returned v∧am w' v (f2*((ni:Int):Rat))∧But [] w w')
  (QU:∀ w,But [] W0 w→∀ v,am w v (f2*((ni:Int):Rat))→Calls Tryz.prog 76 #[.agg #[.bool s1,.int .u64 x1,.int .u64 y1,.pointer p1],v] w fun e w'=>∃ v,e=.returned v∧am w' v (f1/(f2*((ni:Int):Rat)))∧But [] w w')
  (AP:∀ w g s x y p,But [] W0 w→B≤g→P4 w g s x y p→am w (.agg #[.bool s,.int .u64 x,.int .u64 y,.pointer p]) (f1/(f2*((ni:Int):Rat)))→∃ v' w',(Builtin.append_ #[33,33] 33 #[.slice (some ⟨b,0,none⟩) n c,.slice (some ⟨g,0,none⟩) 1 1]).run Tryz.prog w=.ok v' w'∧But [gq] w w'∧Post v' w')
  (ST:∀ v w,Post v w→(∃ q n c,v=.slice q n c)∧(∃ u,w.cell? ⟨g0,0,none⟩=some u)∧w.frozen? ⟨g0,0,none⟩=false)
  (hQ:∀ w v12 v13 v14 v15,Post v15 w→Q .normal (bb base [(53,.pointer (some ⟨g0,0,none⟩)),(54,.pointer (some ⟨g0,0,none⟩)),(55,.pointer (some ⟨g0,0,none⟩)),(56,.pointer (some ⟨g0,0,none⟩)),(57,.slice (some ⟨b,0,none⟩) n c),(58,.agg #[.bool s1,.int .u64 x1,.int .u64 y1,.pointer p1]),(59,.pointer (some ⟨g0,0,none⟩)),(60,.pointer (some ⟨g0,0,none⟩)),(61,.pointer (some ⟨g0,9,none⟩)),(62,.agg #[.bool s2,.int .u64 x2,.int .u64 y2,.pointer p2]),(63,.int .i64 ni),(64,.agg #[.bool ws,.int .u64 wx,.int .u64 0,.pointer none]),(65,v12),(66,v13),(67,v14),(68,v15),(69,.pointer (some ⟨g0,0,none⟩)),(70,.pointer (some ⟨g0,0,none⟩))]) (w.setCell ⟨g0,0,none⟩ v15)) :
  (Code.region id opZfs true).wp Tryz.prog Q base W0:=by
 have hdr:∀ {w},But [] W0.drew w→But [] W0 w:=fun h=>(But.refl _ _).drew.trans' h
 have hT:∀ i,i<18→opZfT i<base.tmps.size:=fun i hi=>by
  have h:opZfT i≤70:=by revert i;decide
  omega
 refine region_flowS (by kernel_rfl) (low_of (by kernel_rfl)) (bare_of (by kernel_rfl))
  (fun dn w=>dn 15=false→But [] W0.drew w) (opZfC B Post g0 s1 x1 y1 p1 s2 x2 y2 p2 b n c ni ws wx f1 f2) opZfT 18 rfl opZfT_inj hT (fun _=>But.refl _ _)
  ?_ ?_ (fun a w=>∃ w1 v12 v13 v14 v15,a=bb base [(53,.pointer (some ⟨g0,0,none⟩)),(54,.pointer (some ⟨g0,0,none⟩)),(55,.pointer (some ⟨g0,0,none⟩)),(56,.pointer (some ⟨g0,0,none⟩)),(57,.slice (some ⟨b,0,none⟩) n c),(58,.agg #[.bool s1,.int .u64 x1,.int .u64 y1,.pointer p1]),(59,.pointer (some ⟨g0,0,none⟩)),(60,.pointer (some ⟨g0,0,none⟩)),(61,.pointer (some ⟨g0,9,none⟩)),(62,.agg #[.bool s2,.int .u64 x2,.int .u64 y2,.pointer p2]),(63,.int .i64 ni),(64,.agg #[.bool ws,.int .u64 wx,.int .u64 0,.pointer none]),(65,v12),(66,v13),(67,v14),(68,v15),(69,.pointer (some ⟨g0,0,none⟩)),(70,.pointer (some ⟨g0,0,none⟩))]∧w=(w1.setCell ⟨g0,0,none⟩ v15)∧Post v15 w1) ?_ ?_
 ·intro dn hsh hl i hi
  have cd:∀ x y,(x,y) ∈ [(2,1),(3,2),(4,3),(7,6),(8,7),(9,8),(11,10),(12,9),(12,11),(13,5),(13,12),(14,13),(15,4),(15,13),(15,14),(16,0),(16,1),(16,2),(16,3),(16,4),(16,5),(16,6),(16,7),(16,8),(16,9),(16,10),(16,11),(16,12),(16,13),(16,14),(16,15),(17,0),(17,1),(17,2),(17,3),(17,4),(17,5),(17,6),(17,7),(17,8),(17,9),(17,10),(17,11),(17,12),(17,13),(17,14),(17,15),(17,16),(18,0),(18,1),(18,2),(18,3),(18,4),(18,5),(18,6),(18,7),(18,8),(18,9),(18,10),(18,11),(18,12),(18,13),(18,14),(18,15),(18,17)]→dn x=true→dn y=true:=fun x y h hd=>shut_of (ops:=opZfs) (ps:=[(2,1),(3,2),(4,3),(7,6),(8,7),(9,8),(11,10),(12,9),(12,11),(13,5),(13,12),(14,13),(15,4),(15,13),(15,14),(16,0),(16,1),(16,2),(16,3),(16,4),(16,5),(16,6),(16,7),(16,8),(16,9),(16,10),(16,11),(16,12),(16,13),(16,14),(16,15),(17,0),(17,1),(17,2),(17,3),(17,4),(17,5),(17,6),(17,7),(17,8),(17,9),(17,10),(17,11),(17,12),(17,13),(17,14),(17,15),(17,16),(18,0),(18,1),(18,2),(18,3),(18,4),(18,5),(18,6),(18,7),(18,8),(18,9),(18,10),(18,11),(18,12),(18,13),(18,14),(18,15),(18,17)]) (by kernel_rfl) hsh x y h hd
  have dm:∀ j,(18,j) ∈ [(2,1),(3,2),(4,3),(7,6),(8,7),(9,8),(11,10),(12,9),(12,11),(13,5),(13,12),(14,13),(15,4),(15,13),(15,14),(16,0),(16,1),(16,2),(16,3),(16,4),(16,5),(16,6),(16,7),(16,8),(16,9),(16,10),(16,11),(16,12),(16,13),(16,14),(16,15),(17,0),(17,1),(17,2),(17,3),(17,4),(17,5),(17,6),(17,7),(17,8),(17,9),(17,10),(17,11),(17,12),(17,13),(17,14),(17,15),(17,16),(18,0),(18,1),(18,2),(18,3),(18,4),(18,5),(18,6),(18,7),(18,8),(18,9),(18,10),(18,11),(18,12),(18,13),(18,14),(18,15),(18,17)]→dn j=true:=fun j hj=>by
   obtain ⟨o,ho,ed,hed,hbi,rfl⟩:=dep_of (ops:=opZfs) (ps:=[(2,1),(3,2),(4,3),(7,6),(8,7),(9,8),(11,10),(12,9),(12,11),(13,5),(13,12),(14,13),(15,4),(15,13),(15,14),(16,0),(16,1),(16,2),(16,3),(16,4),(16,5),(16,6),(16,7),(16,8),(16,9),(16,10),(16,11),(16,12),(16,13),(16,14),(16,15),(17,0),(17,1),(17,2),(17,3),(17,4),(17,5),(17,6),(17,7),(17,8),(17,9),(17,10),(17,11),(17,12),(17,13),(17,14),(17,15),(17,16),(18,0),(18,1),(18,2),(18,3),(18,4),(18,5),(18,6),(18,7),(18,8),(18,9),(18,10),(18,11),(18,12),(18,13),(18,14),(18,15),(18,17)]) (by kernel_rfl) 18 j hj
   exact hl o ho ed hed hbi
  have g0:dn 0=true:=dm 0 (by simp)
  have g1:dn 1=true:=dm 1 (by simp)
  have g2:dn 2=true:=dm 2 (by simp)
  have g3:dn 3=true:=dm 3 (by simp)
  have g4:dn 4=true:=dm 4 (by simp)
  have g5:dn 5=true:=dm 5 (by simp)
  have g6:dn 6=true:=dm 6 (by simp)
  have g7:dn 7=true:=dm 7 (by simp)
  have g8:dn 8=true:=dm 8 (by simp)
  have g9:dn 9=true:=dm 9 (by simp)
  have g10:dn 10=true:=dm 10 (by simp)
  have g11:dn 11=true:=dm 11 (by simp)
  have g12:dn 12=true:=dm 12 (by simp)
  have g13:dn 13=true:=dm 13 (by simp)
  have g14:dn 14=true:=dm 14 (by simp)
  have g15:dn 15=true:=dm 15 (by simp)
  have g17:dn 17=true:=dm 17 (by simp)
  have g16:dn 16=true:=cd 17 16 (by simp) g17
  have:i=0∨i=1∨i=2∨i=3∨i=4∨i=5∨i=6∨i=7∨i=8∨i=9∨i=10∨i=11∨i=12∨i=13∨i=14∨i=15∨i=16∨i=17:=by omega
  rcases this with rfl | rfl | rfl | rfl | rfl | rfl | rfl | rfl | rfl | rfl | rfl | rfl | rfl | rfl | rfl | rfl | rfl | rfl
  ·exact g0
  ·exact g1
  ·exact g2
  ·exact g3
  ·exact g4
  ·exact g5
  ·exact g6
  ·exact g7
  ·exact g8
  ·exact g9
  ·exact g10
  ·exact g11
  ·exact g12
  ·exact g13
  ·exact g14
  ·exact g15
  ·exact g16
  ·exact g17
 ·intro dn i o a w K hi ho hdi hsh hH0 he hdep hK
  have hD:=fun j hj=>(dep_have (ps:=[(2,1),(3,2),(4,3),(7,6),(8,7),(9,8),(11,10),(12,9),(12,11),(13,5),(13,12),(14,13),(15,4),(15,13),(15,14),(16,0),(16,1),(16,2),(16,3),(16,4),(16,5),(16,6),(16,7),(16,8),(16,9),(16,10),(16,11),(16,12),(16,13),(16,14),(16,15),(17,0),(17,1),(17,2),(17,3),(17,4),(17,5),(17,6),(17,7),(17,8),(17,9),(17,10),(17,11),(17,12),(17,13),(17,14),(17,15),(17,16)]) (by kernel_rfl) ho (fun j=>dn j=true∧opZfC B Post g0 s1 x1 y1 p1 s2 x2 y2 p2 b n c ni ws wx f1 f2 j w (a.eval (.tmp (opZfT j)))) hdep j hj).2
  have cd:∀ x y,(x,y) ∈ [(2,1),(3,2),(4,3),(7,6),(8,7),(9,8),(11,10),(12,9),(12,11),(13,5),(13,12),(14,13),(15,4),(15,13),(15,14),(16,0),(16,1),(16,2),(16,3),(16,4),(16,5),(16,6),(16,7),(16,8),(16,9),(16,10),(16,11),(16,12),(16,13),(16,14),(16,15),(17,0),(17,1),(17,2),(17,3),(17,4),(17,5),(17,6),(17,7),(17,8),(17,9),(17,10),(17,11),(17,12),(17,13),(17,14),(17,15),(17,16),(18,0),(18,1),(18,2),(18,3),(18,4),(18,5),(18,6),(18,7),(18,8),(18,9),(18,10),(18,11),(18,12),(18,13),(18,14),(18,15),(18,17)]→dn x=true→dn y=true:=fun x y h hd=>shut_of (ops:=opZfs) (ps:=[(2,1),(3,2),(4,3),(7,6),(8,7),(9,8),(11,10),(12,9),(12,11),(13,5),(13,12),(14,13),(15,4),(15,13),(15,14),(16,0),(16,1),(16,2),(16,3),(16,4),(16,5),(16,6),(16,7),(16,8),(16,9),(16,10),(16,11),(16,12),(16,13),(16,14),(16,15),(17,0),(17,1),(17,2),(17,3),(17,4),(17,5),(17,6),(17,7),(17,8),(17,9),(17,10),(17,11),(17,12),(17,13),(17,14),(17,15),(17,16),(18,0),(18,1),(18,2),(18,3),(18,4),(18,5),(18,6),(18,7),(18,8),(18,9),(18,10),(18,11),(18,12),(18,13),(18,14),(18,15),(18,17)]) (by kernel_rfl) hsh x y h hd
  have hkc:i≠15→dn 15=false→∀ v w',But [] w w'→opZfC B Post g0 s1 x1 y1 p1 s2 x2 y2 p2 b n c ni ws wx f1 f2 i w' v→K (a.put (some (opZfT i)) v) w':=fun hne hf v w' hb hv=>hK v w' (fun _=>(hH0 hf).trans' hb) (fun j hj hdj u hu=>opZfC_but hu hj (fun e=>by rw [e,hf] at hdj;simp at hdj) hb) hv
  have hkp:i≠15→∀ v,opZfC B Post g0 s1 x1 y1 p1 s2 x2 y2 p2 b n c ni ws wx f1 f2 i w v→K (a.put (some (opZfT i)) v) w:=fun hne v hv=>hK v w (fun h=>hH0 (by rw [came_ne dn (Ne.symm hne)] at h;exact h)) (fun j hj hdj u hu=>hu) hv
  have e0':=(he 0 (fun j hj e=>absurd e.symm (by revert j;decide))).trans e0
  have e7':=(he 7 (fun j hj e=>absurd e.symm (by revert j;decide))).trans e7
  have e6':=(he 6 (fun j hj e=>absurd e.symm (by revert j;decide))).trans e6
  have:i=0∨i=1∨i=2∨i=3∨i=4∨i=5∨i=6∨i=7∨i=8∨i=9∨i=10∨i=11∨i=12∨i=13∨i=14∨i=15∨i=16∨i=17:=by omega
  rcases this with rfl | rfl | rfl | rfl | rfl | rfl | rfl | rfl | rfl | rfl | rfl | rfl | rfl | rfl | rfl | rfl | rfl | rfl
  ·obtain rfl:=Option.some.inj ((show opZfs[0]? = some opZf0 from rfl).symm.trans ho)
   have hk:=hkp (by decide)
   exact al (bh a w _ _ _ _ _ _ _ e0') (hk _ rfl)
  ·obtain rfl:=Option.some.inj ((show opZfs[1]? = some opZf1 from rfl).symm.trans ho)
   have hf:dn 15=false:=by
    cases h:dn 15 with
    | false=>rfl
    | true=>rw [cd 2 1 (by simp) (cd 3 2 (by simp) (cd 4 3 (by simp) (cd 15 4 (by simp) (h))))] at hdi;simp at hdi
   have hH:=hH0 hf
   have hk:=hkc (by decide) hf
   exact al (bh a w _ _ _ _ _ _ _ e0') (hk _ _ (But.refl _ _) rfl)
  ·obtain rfl:=Option.some.inj ((show opZfs[2]? = some opZf2 from rfl).symm.trans ho)
   have hf:dn 15=false:=by
    cases h:dn 15 with
    | false=>rfl
    | true=>rw [cd 3 2 (by simp) (cd 4 3 (by simp) (cd 15 4 (by simp) (h)))] at hdi;simp at hdi
   have hH:=hH0 hf
   have hk:=hkc (by decide) hf
   exact al (run_nilcZ a w _ _ _ _ _ _ _ (hD 1 (by simp))) (hk _ _ (But.refl _ _) rfl)
  ·obtain rfl:=Option.some.inj ((show opZfs[3]? = some opZf3 from rfl).symm.trans ho)
   have hf:dn 15=false:=by
    cases h:dn 15 with
    | false=>rfl
    | true=>rw [cd 4 3 (by simp) (cd 15 4 (by simp) (h))] at hdi;simp at hdi
   have hH:=hH0 hf
   have hk:=hkc (by decide) hf
   exact al (run_fS0 a w _ _ _ _ _ _ g0 (hD 2 (by simp))) (hk _ _ (But.refl _ _) rfl)
  ·obtain rfl:=Option.some.inj ((show opZfs[4]? = some opZf4 from rfl).symm.trans ho)
   have hf:dn 15=false:=by
    cases h:dn 15 with
    | false=>rfl
    | true=>rw [cd 15 4 (by simp) (h)] at hdi;simp at hdi
   have hH:=hH0 hf
   have hk:=hkc (by decide) hf
   exact al (run_loadSK a w _ _ _ _ _ _ g0 _ _ _ (hD 3 (by simp)) ((hdr hH).ag cs (by simp))) (hk _ _ (But.refl _ _) rfl)
  ·obtain rfl:=Option.some.inj ((show opZfs[5]? = some opZf5 from rfl).symm.trans ho)
   have hf:dn 15=false:=by
    cases h:dn 15 with
    | false=>rfl
    | true=>rw [cd 13 5 (by simp) (cd 15 13 (by simp) (h))] at hdi;simp at hdi
   have hH:=hH0 hf
   have hk:=hkc (by decide) hf
   exact al (aq a w _ _ _ _ _ _ g7 0 _ _ _ _ e7' (c1.but (hdr hH) (by simp))) (hk _ _ (But.refl _ _) rfl)
  ·obtain rfl:=Option.some.inj ((show opZfs[6]? = some opZf6 from rfl).symm.trans ho)
   have hf:dn 15=false:=by
    cases h:dn 15 with
    | false=>rfl
    | true=>rw [cd 7 6 (by simp) (cd 8 7 (by simp) (cd 9 8 (by simp) (cd 12 9 (by simp) (cd 13 12 (by simp) (cd 15 13 (by simp) (h))))))] at hdi;simp at hdi
   have hH:=hH0 hf
   have hk:=hkc (by decide) hf
   exact al (bh a w _ _ _ _ _ _ _ e0') (hk _ _ (But.refl _ _) rfl)
  ·obtain rfl:=Option.some.inj ((show opZfs[7]? = some opZf7 from rfl).symm.trans ho)
   have hf:dn 15=false:=by
    cases h:dn 15 with
    | false=>rfl
    | true=>rw [cd 8 7 (by simp) (cd 9 8 (by simp) (cd 12 9 (by simp) (cd 13 12 (by simp) (cd 15 13 (by simp) (h)))))] at hdi;simp at hdi
   have hH:=hH0 hf
   have hk:=hkc (by decide) hf
   exact al (run_nilcZ a w _ _ _ _ _ _ _ (hD 6 (by simp))) (hk _ _ (But.refl _ _) rfl)
  ·obtain rfl:=Option.some.inj ((show opZfs[8]? = some opZf8 from rfl).symm.trans ho)
   have hf:dn 15=false:=by
    cases h:dn 15 with
    | false=>rfl
    | true=>rw [cd 9 8 (by simp) (cd 12 9 (by simp) (cd 13 12 (by simp) (cd 15 13 (by simp) (h))))] at hdi;simp at hdi
   have hH:=hH0 hf
   have hk:=hkc (by decide) hf
   exact al (run_fS3 a w _ _ _ _ _ _ g0 (hD 7 (by simp))) (hk _ _ (But.refl _ _) rfl)
  ·obtain rfl:=Option.some.inj ((show opZfs[9]? = some opZf9 from rfl).symm.trans ho)
   have hf:dn 15=false:=by
    cases h:dn 15 with
    | false=>rfl
    | true=>rw [cd 12 9 (by simp) (cd 13 12 (by simp) (cd 15 13 (by simp) (h)))] at hdi;simp at hdi
   have hH:=hH0 hf
   have hk:=hkc (by decide) hf
   exact al (aq a w _ _ _ _ _ _ g0 9 _ _ _ _ (hD 8 (by simp)) (c2.but (hdr hH) (by simp))) (hk _ _ (But.refl _ _) rfl)
  ·obtain rfl:=Option.some.inj ((show opZfs[10]? = some opZf10 from rfl).symm.trans ho)
   have hf:dn 15=false:=by
    cases h:dn 15 with
    | false=>rfl
    | true=>rw [cd 11 10 (by simp) (cd 12 11 (by simp) (cd 13 12 (by simp) (cd 15 13 (by simp) (h))))] at hdi;simp at hdi
   have hH:=hH0 hf
   have hk:=hkc (by decide) hf
   exact al (bh a w _ _ _ _ _ _ _ e6') (hk _ _ (But.refl _ _) rfl)
  ·obtain rfl:=Option.some.inj ((show opZfs[11]? = some opZf11 from rfl).symm.trans ho)
   have hf:dn 15=false:=by
    cases h:dn 15 with
    | false=>rfl
    | true=>rw [cd 12 11 (by simp) (cd 13 12 (by simp) (cd 15 13 (by simp) (h)))] at hdi;simp at hdi
   have hH:=hH0 hf
   have hk:=hkc (by decide) hf
   exact av (run_wholeK a w _ _ _ _ _ _ _ (hD 10 (by simp))) (R:=fun w' v=>But [] w w'∧v=_) ((WH w).mono fun e w' ⟨he,hb⟩=>⟨_,he,hb,rfl⟩) (fun v w' hv=>hk v w' hv.1 hv.2)
  ·obtain rfl:=Option.some.inj ((show opZfs[12]? = some opZf12 from rfl).symm.trans ho)
   have hf:dn 15=false:=by
    cases h:dn 15 with
    | false=>rfl
    | true=>rw [cd 13 12 (by simp) (cd 15 13 (by simp) (h))] at hdi;simp at hdi
   have hH:=hH0 hf
   have hk:=hkc (by decide) hf
   exact av (run_mulK a w _ _ _ _ _ _ _ _ _ (hD 9 (by simp)) (hD 11 (by simp))) (R:=fun w' v=>am w' v (f2*((ni:Int):Rat))∧But [] w w') (MU w (hdr hH)) (fun v w' hv=>hk v w' hv.2 hv.1)
  ·obtain rfl:=Option.some.inj ((show opZfs[13]? = some opZf13 from rfl).symm.trans ho)
   have hf:dn 15=false:=by
    cases h:dn 15 with
    | false=>rfl
    | true=>rw [cd 15 13 (by simp) (h)] at hdi;simp at hdi
   have hH:=hH0 hf
   have hk:=hkc (by decide) hf
   exact av (run_quotZ a w _ _ _ _ _ _ _ _ _ (hD 5 (by simp)) rfl) (R:=fun w' v=>am w' v (f1/(f2*((ni:Int):Rat)))∧But [] w w') (QU w (hdr hH) _ (hD 12 (by simp))) (fun v w' hv=>hk v w' hv.2 hv.1)
  ·obtain rfl:=Option.some.inj ((show opZfs[14]? = some opZf14 from rfl).symm.trans ho)
   have hf:dn 15=false:=by
    cases h:dn 15 with
    | false=>rfl
    | true=>rw [cd 15 14 (by simp) (h)] at hdi;simp at hdi
   have hH:=hH0 hf
   have hk:=hkc (by decide) hf
   have q1:am w (a.eval (.tmp 66)) (f1/(f2*((ni:Int):Rat))):=hD 13 (by simp)
   obtain ⟨b1,c1,d1,e1,-⟩:=q1.agg
   rw [e1] at q1
   exact al (run_bs1Z a w _ _ _ _ _ _ _ b1 c1 d1 e1) (hk _ _ ((But.refl _ _).alloc _) ⟨w.heap.size,_,b1,c1,d1,rfl,by rw [hB];exact (hdr hH).size,⟨by simp,by simp,by simp,by simp⟩,q1.but ((But.refl _ _).alloc _)⟩)
  ·obtain rfl:=Option.some.inj ((show opZfs[15]? = some opZf15 from rfl).symm.trans ho)
   obtain ⟨g,s,x,y,p,e1,h1,h2,h3⟩:OneAt B (f1/(f2*((ni:Int):Rat))) w (a.eval (.tmp 67)):=hD 14 (by simp)
   have hH:=hH0 hdi
   obtain ⟨v',w',hr,hbq,hpost⟩:=AP w g s x y p (hdr hH) h1 h2 h3
   have c0:=(hdr hH).ag cq (by simp)
   exact al (run_ap1Z a w _ _ _ _ _ _ _ _ v' w' (hD 4 (by simp)) e1 hr) (hK v' w' (fun h=>by rw [came_self] at h;simp at h) (fun j hj hdj u hu=>opZfC_over hu hj (fun e=>by rw [e,hdi] at hdj;simp at hdj) c0 hbq hgq) hpost)
  ·obtain rfl:=Option.some.inj ((show opZfs[16]? = some opZf16 from rfl).symm.trans ho)
   have hk:=hkp (by decide)
   exact al (run_nilcZ a w _ _ _ _ _ _ _ (hD 0 (by simp))) (hk _ rfl)
  ·obtain rfl:=Option.some.inj ((show opZfs[17]? = some opZf17 from rfl).symm.trans ho)
   have hk:=hkp (by decide)
   exact al (run_fS0 a w _ _ _ _ _ _ g0 (hD 16 (by simp))) (hk _ rfl)
 ·intro dn o a w K ho hall h hK
  obtain rfl:=Option.some.inj ((show opZfs[18]? = some opZf18 from rfl).symm.trans ho)
  have hp:Post (a.eval (.tmp 68)) w:=h.has 15 (by omega) (hall 15 (by omega))
  have ea:=h.puts hT (fun i=>match i with
   | 0=>.pointer (some ⟨g0,0,none⟩)
   | 1=>.pointer (some ⟨g0,0,none⟩)
   | 2=>.pointer (some ⟨g0,0,none⟩)
   | 3=>.pointer (some ⟨g0,0,none⟩)
   | 4=>.slice (some ⟨b,0,none⟩) n c
   | 5=>.agg #[.bool s1,.int .u64 x1,.int .u64 y1,.pointer p1]
   | 6=>.pointer (some ⟨g0,0,none⟩)
   | 7=>.pointer (some ⟨g0,0,none⟩)
   | 8=>.pointer (some ⟨g0,9,none⟩)
   | 9=>.agg #[.bool s2,.int .u64 x2,.int .u64 y2,.pointer p2]
   | 10=>.int .i64 ni
   | 11=>.agg #[.bool ws,.int .u64 wx,.int .u64 0,.pointer none]
   | 12=>a.eval (.tmp 65)
   | 13=>a.eval (.tmp 66)
   | 14=>a.eval (.tmp 67)
   | 15=>a.eval (.tmp 68)
   | 16=>.pointer (some ⟨g0,0,none⟩)
   | _=>.pointer (some ⟨g0,0,none⟩)) (fun i hi=>by
   have hc:=h.has i hi (hall i hi)
   have:i=0∨i=1∨i=2∨i=3∨i=4∨i=5∨i=6∨i=7∨i=8∨i=9∨i=10∨i=11∨i=12∨i=13∨i=14∨i=15∨i=16∨i=17:=by omega
   rcases this with rfl | rfl | rfl | rfl | rfl | rfl | rfl | rfl | rfl | rfl | rfl | rfl | rfl | rfl | rfl | rfl | rfl | rfl
   ·exact hc
   ·exact hc
   ·exact hc
   ·exact hc
   ·exact hc
   ·exact hc
   ·exact hc
   ·exact hc
   ·exact hc
   ·exact hc
   ·exact hc
   ·exact hc
   ·rfl
   ·rfl
   ·rfl
   ·rfl
   ·exact hc
   ·exact hc)
  obtain ⟨hsl,⟨u0,hu0⟩,hfz⟩:=ST _ _ hp
  exact wp_skipped (run_stSZ a w _ _ _ _ _ g0 _ hsl u0 (h.has 17 (by omega) (hall 17 (by omega))) rfl hu0 hfz) (hK _ _ ⟨w,a.eval (.tmp 65),a.eval (.tmp 66),a.eval (.tmp 67),a.eval (.tmp 68),ea,rfl,hp⟩)
 ·rintro a w ⟨w1,v12,v13,v14,v15,rfl,rfl,hp⟩
  exact hQ w1 v12 v13 v14 v15 hp
end Go.Proofs.YtlckjpelcmjimaaGreatDoor
