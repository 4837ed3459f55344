/- Fractions of package credit, one by one: the statements that draw their order. -/
import Derived.Test.YtloojmaamaambaaGreatDoorKBJL
import Derived.Test.YtloojmaamaambaaGreatDoorKBKO
namespace Go.Proofs.YtloojmaamaambaaGreatDoor
open Go.RowKit

theorem run_subJ (a : Act) (w : World) (d t0 t1 : Nat) (u : TypeId) (ps : String) (ed : Array Edge) (gd : Option (Nat × Bool)) (z0 z1 : Value) (h0 : a.eval (.tmp t0) = z0) (h1 : a.eval (.tmp t1) = z1) :
  (execOp a.eval { dst:=some d,op:=Op.call { callee:=Callee.value (Operand.func 74),args:=#[Operand.tmp t0,Operand.tmp t1],argTypes:=#[29,29] },type:=u,pos:=ps,after:=ed,guard:=gd }).run Tryz.prog w = .ok (.enter 74 #[z0,z1]) w:=by
 unfold execOp
 go_simp
 rw [← h0,← h1]
 simp [Act.eval]
theorem run_squareJ (a : Act) (w : World) (d t0 : Nat) (u : TypeId) (ps : String) (ed : Array Edge) (gd : Option (Nat × Bool)) (z0 : Value) (h0 : a.eval (.tmp t0) = z0) :
  (execOp a.eval { dst:=some d,op:=Op.call { callee:=Callee.value (Operand.func 162),args:=#[Operand.tmp t0],argTypes:=#[29] },type:=u,pos:=ps,after:=ed,guard:=gd }).run Tryz.prog w = .ok (.enter 162 #[z0]) w:=by
 unfold execOp
 go_simp
 rw [← h0]
 simp [Act.eval]
theorem run_quotJ (a : Act) (w : World) (d t0 t1 : Nat) (u : TypeId) (ps : String) (ed : Array Edge) (gd : Option (Nat × Bool)) (z0 z1 : Value) (h0 : a.eval (.tmp t0) = z0) (h1 : a.eval (.tmp t1) = z1) :
  (execOp a.eval { dst:=some d,op:=Op.call { callee:=Callee.value (Operand.func 113),args:=#[Operand.tmp t0,Operand.tmp t1],argTypes:=#[29,3] },type:=u,pos:=ps,after:=ed,guard:=gd }).run Tryz.prog w = .ok (.enter 113 #[z0,z1]) w:=by
 unfold execOp
 go_simp
 rw [← h0,← h1]
 simp [Act.eval]
theorem run_restJ (a : Act) (w : World) (d t0 : Nat) (u : TypeId) (ps : String) (ed : Array Edge) (gd : Option (Nat × Bool)) (z0 : Value) (h0 : a.eval (.tmp t0) = z0) :
  (execOp a.eval { dst:=some d,op:=Op.call { callee:=Callee.value (Operand.func 108),args:=#[Operand.tmp t0],argTypes:=#[29] },type:=u,pos:=ps,after:=ed,guard:=gd }).run Tryz.prog w = .ok (.enter 108 #[z0]) w:=by
 unfold execOp
 go_simp
 rw [← h0]
 simp [Act.eval]
theorem run_nilJ (a : Act) (w : World) (d : Nat) (u : TypeId) (ps : String) (ed : Array Edge) (gd : Option (Nat × Bool)) :
  (execOp a.eval { dst:=some d,op:=Op.assign (Operand.const Value.nilIface),type:=u,pos:=ps,after:=ed,guard:=gd }).run Tryz.prog w = .ok (.value .nilIface) w:=by
 unfold execOp
 go_simp
theorem run_indexJ (a : Act) (w : World) (d t1 t2 : Nat) (u : TypeId) (ps : String) (ed : Array Edge) (gd : Option (Nat × Bool)) (b off n c k : Nat) (hk : k < n) (_hn : n < 1000000) (h1 : a.eval (.tmp t1) = .slice (some ⟨b,off,none⟩) n c) (h2 : a.eval (.tmp t2) = .int .i64 (k : Int)) :
  (execOp a.eval { dst:=some d,op:=Op.indexAddr 33 (.tmp t1) (.tmp t2),type:=u,pos:=ps,after:=ed,guard:=gd }).run Tryz.prog w = .ok (.value (.pointer (some ⟨b,off + k * 4,none⟩))) w:=by
 unfold execOp
 simp only [h1,h2]
 go_simp
def opJa0 : Oper:={ dst:=some 8,op:=Op.load 29 (Operand.tmp 2),type:=29,pos:= "credit.go:99",after:=#[],guard:=none }
def opJa1 : Oper:={ dst:=some 9,op:=Op.move (Operand.tmp 1),type:=3,pos:= "credit.go:99",after:=#[],guard:=none }
def opJa2 : Oper:={ dst:=some 10,op:=Op.call { callee:=Callee.value (Operand.func 27),args:=#[Operand.tmp 9],argTypes:=#[3] },type:=29,pos:= "credit.go:99",after:=#[{ on:=1,ground:=Ground.data }],guard:=none }
def opJa3 : Oper:={ dst:=some 11,op:=Op.call { callee:=Callee.value (Operand.func 46),args:=#[Operand.tmp 8,Operand.tmp 10],argTypes:=#[29,29] },type:=46,pos:= "credit.go:99",after:=#[{ on:=0,ground:=Ground.data },{ on:=2,ground:=Ground.data },{ on:=2,ground:=Ground.chain }],guard:=none }
def opJa4 : Oper:={ dst:=some 7,op:=Op.move (Operand.tmp 11),type:=46,pos:= "credit.go:99",after:=#[{ on:=3,ground:=Ground.data }],guard:=none }
def opJa5 : Oper:={ dst:=some 12,op:=Op.extract (Operand.tmp 7) 0,type:=29,pos:= "credit.go:99",after:=#[{ on:=4,ground:=Ground.data }],guard:=none }
def opJa6 : Oper:={ dst:=some 13,op:=Op.extract (Operand.tmp 7) 1,type:=35,pos:= "credit.go:99",after:=#[{ on:=4,ground:=Ground.data },{ on:=8,ground:=Ground.gcOnly Departure.lateStores }],guard:=none }
def opJa7 : Oper:={ dst:=some 5,op:=Op.alloc 29,type:=0,pos:= "credit.go:99",after:=#[],guard:=none }
def opJa8 : Oper:={ dst:=none,op:=Op.store 29 (Operand.tmp 5) (Operand.tmp 12),type:=0,pos:= "credit.go:99",after:=#[{ on:=7,ground:=Ground.data },{ on:=5,ground:=Ground.data },{ on:=3,ground:=Ground.chain },{ on:=0,ground:=Ground.phase },{ on:=1,ground:=Ground.phase },{ on:=2,ground:=Ground.phase },{ on:=3,ground:=Ground.phase },{ on:=4,ground:=Ground.phase },{ on:=5,ground:=Ground.phase },{ on:=6,ground:=Ground.textOnly Departure.lateStores },{ on:=7,ground:=Ground.phase }],guard:=none }
def opJa9 : Oper:={ dst:=some 6,op:=Op.assign (Operand.tmp 13),type:=35,pos:= "credit.go:99",after:=#[{ on:=6,ground:=Ground.data },{ on:=8,ground:=Ground.chain },{ on:=0,ground:=Ground.phase },{ on:=1,ground:=Ground.phase },{ on:=2,ground:=Ground.phase },{ on:=3,ground:=Ground.phase },{ on:=4,ground:=Ground.phase },{ on:=5,ground:=Ground.phase },{ on:=6,ground:=Ground.phase },{ on:=7,ground:=Ground.phase },{ on:=8,ground:=Ground.phase }],guard:=none }
def opJas : Array Oper:=#[opJa0,opJa1,opJa2,opJa3,opJa4,opJa5,opJa6,opJa7,opJa8,opJa9]
def opJaT (i : Nat) : Nat:=match i with
 | 0 => 8
 | 1 => 9
 | 2 => 10
 | 3 => 11
 | 4 => 7
 | 5 => 12
 | 6 => 13
 | 7 => 5
 | _ => 6
/-- what each operation's value is -/
def opJaC (B : Nat) (n : Int) (s1 : Bool) (x1 : Int) (y1 : Int) (p1 : Option Addr) (ws : Bool) (wx : Int) (f : Rat) (i : Nat) (w : World) (v : Value) : Prop:=match i with
 | 0 => v = .agg #[.bool s1,.int .u64 x1,.int .u64 y1,.pointer p1]
 | 1 => v = .int .i64 n
 | 2 => v = .agg #[.bool ws,.int .u64 wx,.int .u64 0,.pointer none]
 | 3 => FracErr (f) w v
 | 4 => FracErr (f) w v
 | 5 => FracAt w v f
 | 6 => v = .nilIface
 | 7 => LaidAny B w v
 | _ => True
theorem opJaC_but {B : Nat} {n : Int} {s1 : Bool} {x1 : Int} {y1 : Int} {p1 : Option Addr} {ws : Bool} {wx : Int} {f : Rat} {i : Nat} {w w' : World} {v : Value} (h : opJaC B n s1 x1 y1 p1 ws wx f i w v) (hi : i < 9) (hb : But [] w w') : opJaC B n s1 x1 y1 p1 ws wx f i w' v:=by
 have : i = 0 ∨ i = 1 ∨ i = 2 ∨ i = 3 ∨ i = 4 ∨ i = 5 ∨ i = 6 ∨ i = 7 ∨ i = 8:=by omega
 rcases this with rfl | rfl | rfl | rfl | rfl | rfl | rfl | rfl | rfl
 ·exact (show v = .agg #[.bool s1,.int .u64 x1,.int .u64 y1,.pointer p1] from h)
 ·exact (show v = .int .i64 n from h)
 ·exact (show v = .agg #[.bool ws,.int .u64 wx,.int .u64 0,.pointer none] from h)
 ·exact FracErr.but (show FracErr (f) w v from h) hb
 ·exact FracErr.but (show FracErr (f) w v from h) hb
 ·exact FracAt.but (show FracAt w v f from h) hb
 ·exact (show v = .nilIface from h)
 ·exact LaidAny.but (show LaidAny B w v from h) hb
 ·exact trivial
theorem opJaC_put {B : Nat} {n : Int} {s1 : Bool} {x1 : Int} {y1 : Int} {p1 : Option Addr} {ws : Bool} {wx : Int} {f : Rat} {i : Nat} {w : World} {v : Value} {g0 : Nat} {s0 : Bool} {x0 y0 : Int} {p0 : Option Addr} (hg : P4 w g0 s0 x0 y0 p0) (s' : Bool) (x' y' : Int) (p' : Option Addr) (h : opJaC B n s1 x1 y1 p1 ws wx f i w v) (hi : i < 9) : opJaC B n s1 x1 y1 p1 ws wx f i (put4 w g0 s' x' y' p') v:=by
 have : i = 0 ∨ i = 1 ∨ i = 2 ∨ i = 3 ∨ i = 4 ∨ i = 5 ∨ i = 6 ∨ i = 7 ∨ i = 8:=by omega
 rcases this with rfl | rfl | rfl | rfl | rfl | rfl | rfl | rfl | rfl
 ·exact (show v = .agg #[.bool s1,.int .u64 x1,.int .u64 y1,.pointer p1] from h)
 ·exact (show v = .int .i64 n from h)
 ·exact (show v = .agg #[.bool ws,.int .u64 wx,.int .u64 0,.pointer none] from h)
 ·exact FracErr.put (show FracErr (f) w v from h) hg _ _ _ _
 ·exact FracErr.put (show FracErr (f) w v from h) hg _ _ _ _
 ·exact FracAt.over (show FracAt w v f from h) hg.1 (put4_but _ _ _ _ _ _)
 ·exact (show v = .nilIface from h)
 ·exact LaidAny.put (show LaidAny B w v from h) hg _ _ _ _
 ·exact trivial
theorem opJaT_inj : ∀ i j,i < 9→j < 9→opJaT i = opJaT j→i = j:=fun i j hi hj => (by decide : ∀ i,i < 9→∀ j,j < 9→opJaT i = opJaT j→i = j) i hi j hj
set_option maxHeartbeats 8000000 in
set_option maxHeartbeats 8000000 in
set_option maxRecDepth 100000 in
theorem quot_region (id : Nat) (Q : Exit→Act→World→Prop) (base : Act) (W0 : World) (B : Nat) (n : Int) (s1 : Bool) (x1 : Int) (y1 : Int) (p1 : Option Addr) (ws : Bool) (wx : Int) (f : Rat) (hs : 13 < base.tmps.size) (g2 : Nat) (hBW : B = W0.heap.size) (e2 : base.eval (.tmp 2) = .pointer (some ⟨g2,0,none⟩)) (e1 : base.eval (.tmp 1) = .int .i64 n)
  (c1 : P4 W0 g2 s1 x1 y1 p1)
  (WH : ∀ w,Calls Tryz.prog 27 #[.int .i64 n] w fun e w' => e = .returned (.agg #[.bool ws,.int .u64 wx,.int .u64 0,.pointer none])∧But [] w w')
  (DI : ∀ w,But [] W0 w→Calls Tryz.prog 46 #[.agg #[.bool s1,.int .u64 x1,.int .u64 y1,.pointer p1],.agg #[.bool ws,.int .u64 wx,.int .u64 0,.pointer none]] w fun e w' => ∃ v,e = .returned (.tuple #[v,.nilIface])∧FracAt w' v f∧But [] w w')
  (hQ : ∀ w1 bn v3 v4 v5 v8 s' x' y' p',But [] W0 w1→B ≤ bn→P4 w1 bn s' x' y' p'→FracAt w1 (.agg #[.bool s',.int .u64 x',.int .u64 y',.pointer p']) (f)→Q .normal (putted base [(8,.agg #[.bool s1,.int .u64 x1,.int .u64 y1,.pointer p1]),(9,.int .i64 n),(10,.agg #[.bool ws,.int .u64 wx,.int .u64 0,.pointer none]),(11,v3),(7,v4),(12,v5),(13,.nilIface),(5,.pointer (some ⟨bn,0,none⟩)),(6,v8),(6,.nilIface)]) w1) :
  (Code.region id opJas true).wp Tryz.prog Q base W0:=by
 have hdr : ∀ {w},But [] W0.drew w→But [] W0 w:=fun h => (But.refl _ _).drew.trans' h
 have hT : ∀ i,i < 9→opJaT i < base.tmps.size:=fun i hi => by
  have h : opJaT i ≤ 13:=by revert i; decide
  omega
 refine region_flow3 (by kernel_rfl) (low_of (by kernel_rfl)) (fun i o ho => (calm_of (ops:=opJas) (by kernel_rfl) i o ho).1)
  (opJaC B n s1 x1 y1 p1 ws wx f) opJaT 9 8 7 (by omega) (Stored B (f)) rfl opJaT_inj hT (fun i w w' v hi h hb => opJaC_but h hi hb) (fun _ _ => trivial) (fun w w' v h hb => h.but hb)
  (fun i hi => ?_) (dep_of (ops:=opJas) (ps:=[(8,7)]) (by kernel_rfl) 8 7 (by simp)) ?_ ?_ (fun a w => ∃ w1 bn v3 v4 v5 v8 s' x' y' p',a = putted base [(8,.agg #[.bool s1,.int .u64 x1,.int .u64 y1,.pointer p1]),(9,.int .i64 n),(10,.agg #[.bool ws,.int .u64 wx,.int .u64 0,.pointer none]),(11,v3),(7,v4),(12,v5),(13,.nilIface),(5,.pointer (some ⟨bn,0,none⟩)),(6,v8),(6,.nilIface)]∧w = w1∧But [] W0 w1∧B ≤ bn∧P4 w1 bn s' x' y' p'∧FracAt w1 (.agg #[.bool s',.int .u64 x',.int .u64 y',.pointer p']) (f)) ?_ ?_ (by omega)
 ·exact dep_of (ops:=opJas) (ps:=[(9,0),(9,1),(9,2),(9,3),(9,4),(9,5),(9,6),(9,7),(9,8)]) (by kernel_rfl) 9 i (by
   have : i = 0 ∨ i = 1 ∨ i = 2 ∨ i = 3 ∨ i = 4 ∨ i = 5 ∨ i = 6 ∨ i = 7 ∨ i = 8:=by omega
   rcases this with rfl | rfl | rfl | rfl | rfl | rfl | rfl | rfl | rfl <;> simp)
 ·intro i o a w K hi hiq ho hH he hdep hK
  have hD:=dep_have (ps:=[(2,1),(3,0),(3,2),(4,3),(5,4),(6,4),(8,0),(8,1),(8,2),(8,3),(8,4),(8,5),(8,7)]) (by kernel_rfl) ho (fun j => opJaC B n s1 x1 y1 p1 ws wx f j w (a.eval (.tmp (opJaT j)))) hdep
  have hk : ∀ v w',But [] w w'→opJaC B n s1 x1 y1 p1 ws wx f i w' v→K (a.put (some (opJaT i)) v) w':=hK
  have e2':=(he 2 (fun j hj e => absurd e.symm (by revert j; decide))).trans e2
  have e1':=(he 1 (fun j hj e => absurd e.symm (by revert j; decide))).trans e1
  have : i = 0 ∨ i = 1 ∨ i = 2 ∨ i = 3 ∨ i = 4 ∨ i = 5 ∨ i = 6 ∨ i = 7 ∨ i = 8:=by omega
  rcases this with rfl | rfl | rfl | rfl | rfl | rfl | rfl | rfl | rfl
  ·obtain rfl:=Option.some.inj ((show opJas[0]? = some opJa0 from rfl).symm.trans ho)
   exact wp_value (run_loadK a w _ _ _ _ _ _ g2 0 _ _ _ _ e2' (c1.but (hdr hH) (by simp))) (hk _ _ (But.refl _ _) rfl)
  ·obtain rfl:=Option.some.inj ((show opJas[1]? = some opJa1 from rfl).symm.trans ho)
   exact wp_value (run_mvK a w _ _ _ _ _ _ _ e1') (hk _ _ (But.refl _ _) rfl)
  ·obtain rfl:=Option.some.inj ((show opJas[2]? = some opJa2 from rfl).symm.trans ho)
   exact wp_enter (run_wholeK a w _ _ _ _ _ _ _ (hD 1 (by simp))) (R:=fun w' v => But [] w w'∧v = _) ((WH w).mono fun e w' ⟨he,hb⟩ => ⟨_,he,hb,rfl⟩) (fun v w' hv => hk v w' hv.1 hv.2)
  ·obtain rfl:=Option.some.inj ((show opJas[3]? = some opJa3 from rfl).symm.trans ho)
   exact wp_enter (run_divK a w _ _ _ _ _ _ _ _ _ (hD 0 (by simp)) (hD 2 (by simp))) (R:=fun w' v => FracErr (f) w' v∧But [] w w') ((DI w (hdr hH)).mono fun e w' ⟨v,he,hf,hb⟩ => ⟨_,he,⟨v,rfl,hf⟩,hb⟩) (fun v w' hv => hk v w' hv.2 hv.1)
  ·obtain rfl:=Option.some.inj ((show opJas[4]? = some opJa4 from rfl).symm.trans ho)
   exact wp_value (run_mvK a w _ _ _ _ _ _ _ rfl) (hk _ _ (But.refl _ _) (hD 3 (by simp)))
  ·obtain rfl:=Option.some.inj ((show opJas[5]? = some opJa5 from rfl).symm.trans ho)
   obtain ⟨u,eu,hu⟩ : FracErr (f) w _:=(hD 4 (by simp))
   exact wp_value (run_exK a w _ _ _ _ _ _ _ _ u eu rfl) (hk _ _ (But.refl _ _) hu)
  ·obtain rfl:=Option.some.inj ((show opJas[6]? = some opJa6 from rfl).symm.trans ho)
   obtain ⟨u,eu,hu⟩ : FracErr (f) w _:=(hD 4 (by simp))
   exact wp_value (run_exK a w _ _ _ _ _ _ _ _ .nilIface eu rfl) (hk _ _ (But.refl _ _) rfl)
  ·obtain rfl:=Option.some.inj ((show opJas[7]? = some opJa7 from rfl).symm.trans ho)
   exact wp_value (run_alloc4 a w _ _ _ _ _) (hk _ _ ((But.refl _ _).alloc _) ⟨w.heap.size,rfl,by rw [hBW]; exact (hdr hH).size,⟨false,0,0,none,by simp,by simp,by simp,by simp⟩,fun j => by simp⟩)
  ·exact absurd rfl hiq
 ·intro o a w K ho hH he hdep hK
  have hD:=dep_have (ps:=[(8,7),(8,5)]) (by kernel_rfl) ho (fun j => opJaC B n s1 x1 y1 p1 ws wx f j w (a.eval (.tmp (opJaT j)))) hdep
  obtain rfl:=Option.some.inj ((show opJas[8]? = some opJa8 from rfl).symm.trans ho)
  have cl : FracAt w (a.eval (.tmp 12)) (f):=hD 5 (by simp)
  obtain ⟨bn,eb,hb1,⟨s0,x0,y0,p0,hb2⟩,hb3⟩ : LaidAny B w (a.eval (.tmp 5)):=hD 7 (by simp)
  have cl':=cl
  obtain ⟨x',y',p',ev,-⟩:=cl.agg
  rw [ev] at cl'
  exact wp_skipped (run_store4 a w _ _ _ _ _ bn _ x' y' p' eb ev hb2 hb3) (hK _ (hH.trans (put4_but w bn _ x' y' p') (fun x hx => by simp at hx; subst hx; exact .inr (by rw [hBW] at hb1; exact hb1))) (fun j hj u hu => opJaC_put hb2 _ x' y' p' hu hj) ⟨bn,_,x',y',p',eb,hb1,put4_p4 w bn _ x' y' p' hb2,cl'.over hb2.1 (put4_but w bn _ x' y' p')⟩)
 ·intro dn o a w K ho hall h hst hK
  obtain rfl:=Option.some.inj ((show opJas[9]? = some opJa9 from rfl).symm.trans ho)
  obtain ⟨bn,s',x',y',p',eb,hb1,hb2,hb3⟩:=hst
  have eb : a.eval (.tmp 5) = .pointer (some ⟨bn,0,none⟩):=eb
  have ea:=h.puts hT (fun i => match i with
   | 0 => .agg #[.bool s1,.int .u64 x1,.int .u64 y1,.pointer p1]
   | 1 => .int .i64 n
   | 2 => .agg #[.bool ws,.int .u64 wx,.int .u64 0,.pointer none]
   | 3 => a.eval (.tmp 11)
   | 4 => a.eval (.tmp 7)
   | 5 => a.eval (.tmp 12)
   | 6 => .nilIface
   | 7 => .pointer (some ⟨bn,0,none⟩)
   | _ => a.eval (.tmp 6)) (fun i hi => by
   have hc:=h.has i hi (hall i hi)
   have : i = 0 ∨ i = 1 ∨ i = 2 ∨ i = 3 ∨ i = 4 ∨ i = 5 ∨ i = 6 ∨ i = 7 ∨ i = 8:=by omega
   rcases this with rfl | rfl | rfl | rfl | rfl | rfl | rfl | rfl | rfl
   ·exact hc
   ·exact hc
   ·exact hc
   ·rfl
   ·rfl
   ·rfl
   ·exact hc
   ·exact eb
   ·rfl)
  have ea2 : a = putted base [(8,.agg #[.bool s1,.int .u64 x1,.int .u64 y1,.pointer p1]),(9,.int .i64 n),(10,.agg #[.bool ws,.int .u64 wx,.int .u64 0,.pointer none]),(11,a.eval (.tmp 11)),(7,a.eval (.tmp 7)),(12,a.eval (.tmp 12)),(13,.nilIface),(5,.pointer (some ⟨bn,0,none⟩)),(6,a.eval (.tmp 6))]:=ea
  have ea3 : a.put (some 6) (.nilIface) = putted base ([(8,.agg #[.bool s1,.int .u64 x1,.int .u64 y1,.pointer p1]),(9,.int .i64 n),(10,.agg #[.bool ws,.int .u64 wx,.int .u64 0,.pointer none]),(11,a.eval (.tmp 11)),(7,a.eval (.tmp 7)),(12,a.eval (.tmp 12)),(13,.nilIface),(5,.pointer (some ⟨bn,0,none⟩)),(6,a.eval (.tmp 6))] ++ [(6,.nilIface)]):=(congrArg (fun z : Act => z.put (some 6) (.nilIface)) ea2).trans (putted_snoc _ _ _ _)
  have hev : a.eval (.tmp 13) = .nilIface:=h.has 6 (by omega) (hall 6 (by omega))
  exact wp_value (run_as _ _ _ _ _ _ _ _ _ hev) (hK _ _ ⟨w,bn,a.eval (.tmp 11),a.eval (.tmp 7),a.eval (.tmp 12),a.eval (.tmp 6),s',x',y',p',ea3,rfl,hdr h.mem,hb1,hb2,hb3⟩)
 ·rintro a w ⟨w1,bn,v3,v4,v5,v8,s',x',y',p',rfl,rfl,h1,h2,h3,h4⟩
  exact hQ _ bn v3 v4 v5 v8 s' x' y' p' h1 h2 h3 h4
def opJb0 : Oper:={ dst:=some 12,op:=Op.load 29 (Operand.tmp 2),type:=29,pos:= "credit.go:73",after:=#[],guard:=none }
def opJb1 : Oper:={ dst:=some 13,op:=Op.load 29 (Operand.tmp 2),type:=29,pos:= "credit.go:73",after:=#[],guard:=none }
def opJb2 : Oper:={ dst:=some 14,op:=Op.load 29 (Operand.tmp 3),type:=29,pos:= "credit.go:73",after:=#[],guard:=none }
def opJb3 : Oper:={ dst:=some 15,op:=Op.call { callee:=Callee.value (Operand.func 22),args:=#[Operand.tmp 13,Operand.tmp 14],argTypes:=#[29,29] },type:=29,pos:= "credit.go:73",after:=#[{ on:=1,ground:=Ground.data },{ on:=2,ground:=Ground.data }],guard:=none }
def opJb4 : Oper:={ dst:=some 16,op:=Op.call { callee:=Callee.value (Operand.func 46),args:=#[Operand.tmp 12,Operand.tmp 15],argTypes:=#[29,29] },type:=46,pos:= "credit.go:73",after:=#[{ on:=0,ground:=Ground.data },{ on:=3,ground:=Ground.data },{ on:=3,ground:=Ground.chain }],guard:=none }
def opJb5 : Oper:={ dst:=some 11,op:=Op.move (Operand.tmp 16),type:=46,pos:= "credit.go:73",after:=#[{ on:=4,ground:=Ground.data }],guard:=none }
def opJb6 : Oper:={ dst:=some 17,op:=Op.extract (Operand.tmp 11) 0,type:=29,pos:= "credit.go:73",after:=#[{ on:=5,ground:=Ground.data }],guard:=none }
def opJb7 : Oper:={ dst:=some 18,op:=Op.extract (Operand.tmp 11) 1,type:=35,pos:= "credit.go:73",after:=#[{ on:=5,ground:=Ground.data },{ on:=9,ground:=Ground.gcOnly Departure.lateStores }],guard:=none }
def opJb8 : Oper:={ dst:=some 5,op:=Op.alloc 29,type:=0,pos:= "credit.go:73",after:=#[],guard:=none }
def opJb9 : Oper:={ dst:=none,op:=Op.store 29 (Operand.tmp 5) (Operand.tmp 17),type:=0,pos:= "credit.go:73",after:=#[{ on:=8,ground:=Ground.data },{ on:=6,ground:=Ground.data },{ on:=4,ground:=Ground.chain },{ on:=0,ground:=Ground.phase },{ on:=1,ground:=Ground.phase },{ on:=2,ground:=Ground.phase },{ on:=3,ground:=Ground.phase },{ on:=4,ground:=Ground.phase },{ on:=5,ground:=Ground.phase },{ on:=6,ground:=Ground.phase },{ on:=7,ground:=Ground.textOnly Departure.lateStores },{ on:=8,ground:=Ground.phase }],guard:=none }
def opJb10 : Oper:={ dst:=some 6,op:=Op.assign (Operand.tmp 18),type:=35,pos:= "credit.go:73",after:=#[{ on:=7,ground:=Ground.data },{ on:=9,ground:=Ground.chain },{ on:=0,ground:=Ground.phase },{ on:=1,ground:=Ground.phase },{ on:=2,ground:=Ground.phase },{ on:=3,ground:=Ground.phase },{ on:=4,ground:=Ground.phase },{ on:=5,ground:=Ground.phase },{ on:=6,ground:=Ground.phase },{ on:=7,ground:=Ground.phase },{ on:=8,ground:=Ground.phase },{ on:=9,ground:=Ground.phase }],guard:=none }
def opJbs : Array Oper:=#[opJb0,opJb1,opJb2,opJb3,opJb4,opJb5,opJb6,opJb7,opJb8,opJb9,opJb10]
def opJbT (i : Nat) : Nat:=match i with
 | 0 => 12
 | 1 => 13
 | 2 => 14
 | 3 => 15
 | 4 => 16
 | 5 => 11
 | 6 => 17
 | 7 => 18
 | 8 => 5
 | _ => 6
/-- what each operation's value is -/
def opJbC (B : Nat) (s1 : Bool) (x1 : Int) (y1 : Int) (p1 : Option Addr) (s2 : Bool) (x2 : Int) (y2 : Int) (p2 : Option Addr) (f1 : Rat) (f2 : Rat) (i : Nat) (w : World) (v : Value) : Prop:=match i with
 | 0 => v = .agg #[.bool s1,.int .u64 x1,.int .u64 y1,.pointer p1]
 | 1 => v = .agg #[.bool s1,.int .u64 x1,.int .u64 y1,.pointer p1]
 | 2 => v = .agg #[.bool s2,.int .u64 x2,.int .u64 y2,.pointer p2]
 | 3 => FracAt w v (f1 + f2)
 | 4 => FracErr (f1 / (f1 + f2)) w v
 | 5 => FracErr (f1 / (f1 + f2)) w v
 | 6 => FracAt w v (f1 / (f1 + f2))
 | 7 => v = .nilIface
 | 8 => LaidAny B w v
 | _ => True
theorem opJbC_but {B : Nat} {s1 : Bool} {x1 : Int} {y1 : Int} {p1 : Option Addr} {s2 : Bool} {x2 : Int} {y2 : Int} {p2 : Option Addr} {f1 : Rat} {f2 : Rat} {i : Nat} {w w' : World} {v : Value} (h : opJbC B s1 x1 y1 p1 s2 x2 y2 p2 f1 f2 i w v) (hi : i < 10) (hb : But [] w w') : opJbC B s1 x1 y1 p1 s2 x2 y2 p2 f1 f2 i w' v:=by
 have : i = 0 ∨ i = 1 ∨ i = 2 ∨ i = 3 ∨ i = 4 ∨ i = 5 ∨ i = 6 ∨ i = 7 ∨ i = 8 ∨ i = 9:=by omega
 rcases this with rfl | rfl | rfl | rfl | rfl | rfl | rfl | rfl | rfl | rfl
 ·exact (show v = .agg #[.bool s1,.int .u64 x1,.int .u64 y1,.pointer p1] from h)
 ·exact (show v = .agg #[.bool s1,.int .u64 x1,.int .u64 y1,.pointer p1] from h)
 ·exact (show v = .agg #[.bool s2,.int .u64 x2,.int .u64 y2,.pointer p2] from h)
 ·exact FracAt.but (show FracAt w v (f1 + f2) from h) hb
 ·exact FracErr.but (show FracErr (f1 / (f1 + f2)) w v from h) hb
 ·exact FracErr.but (show FracErr (f1 / (f1 + f2)) w v from h) hb
 ·exact FracAt.but (show FracAt w v (f1 / (f1 + f2)) from h) hb
 ·exact (show v = .nilIface from h)
 ·exact LaidAny.but (show LaidAny B w v from h) hb
 ·exact trivial
theorem opJbC_put {B : Nat} {s1 : Bool} {x1 : Int} {y1 : Int} {p1 : Option Addr} {s2 : Bool} {x2 : Int} {y2 : Int} {p2 : Option Addr} {f1 : Rat} {f2 : Rat} {i : Nat} {w : World} {v : Value} {g0 : Nat} {s0 : Bool} {x0 y0 : Int} {p0 : Option Addr} (hg : P4 w g0 s0 x0 y0 p0) (s' : Bool) (x' y' : Int) (p' : Option Addr) (h : opJbC B s1 x1 y1 p1 s2 x2 y2 p2 f1 f2 i w v) (hi : i < 10) : opJbC B s1 x1 y1 p1 s2 x2 y2 p2 f1 f2 i (put4 w g0 s' x' y' p') v:=by
 have : i = 0 ∨ i = 1 ∨ i = 2 ∨ i = 3 ∨ i = 4 ∨ i = 5 ∨ i = 6 ∨ i = 7 ∨ i = 8 ∨ i = 9:=by omega
 rcases this with rfl | rfl | rfl | rfl | rfl | rfl | rfl | rfl | rfl | rfl
 ·exact (show v = .agg #[.bool s1,.int .u64 x1,.int .u64 y1,.pointer p1] from h)
 ·exact (show v = .agg #[.bool s1,.int .u64 x1,.int .u64 y1,.pointer p1] from h)
 ·exact (show v = .agg #[.bool s2,.int .u64 x2,.int .u64 y2,.pointer p2] from h)
 ·exact FracAt.over (show FracAt w v (f1 + f2) from h) hg.1 (put4_but _ _ _ _ _ _)
 ·exact FracErr.put (show FracErr (f1 / (f1 + f2)) w v from h) hg _ _ _ _
 ·exact FracErr.put (show FracErr (f1 / (f1 + f2)) w v from h) hg _ _ _ _
 ·exact FracAt.over (show FracAt w v (f1 / (f1 + f2)) from h) hg.1 (put4_but _ _ _ _ _ _)
 ·exact (show v = .nilIface from h)
 ·exact LaidAny.put (show LaidAny B w v from h) hg _ _ _ _
 ·exact trivial
theorem opJbT_inj : ∀ i j,i < 10→j < 10→opJbT i = opJbT j→i = j:=fun i j hi hj => (by decide : ∀ i,i < 10→∀ j,j < 10→opJbT i = opJbT j→i = j) i hi j hj
set_option maxHeartbeats 8000000 in
set_option maxHeartbeats 8000000 in
set_option maxRecDepth 100000 in
theorem own_region (id : Nat) (Q : Exit→Act→World→Prop) (base : Act) (W0 : World) (B : Nat) (s1 : Bool) (x1 : Int) (y1 : Int) (p1 : Option Addr) (s2 : Bool) (x2 : Int) (y2 : Int) (p2 : Option Addr) (f1 : Rat) (f2 : Rat) (hs : 18 < base.tmps.size) (g2 g3 : Nat) (hBW : B = W0.heap.size) (e2 : base.eval (.tmp 2) = .pointer (some ⟨g2,0,none⟩)) (e3 : base.eval (.tmp 3) = .pointer (some ⟨g3,0,none⟩))
  (c1 : P4 W0 g2 s1 x1 y1 p1) (c2 : P4 W0 g3 s2 x2 y2 p2)
  (AD : ∀ w,But [] W0 w→Calls Tryz.prog 22 #[.agg #[.bool s1,.int .u64 x1,.int .u64 y1,.pointer p1],.agg #[.bool s2,.int .u64 x2,.int .u64 y2,.pointer p2]] w fun e w' => ∃ v,e = .returned v∧FracAt w' v (f1 + f2)∧But [] w w')
  (DI : ∀ w,But [] W0 w→∀ v,FracAt w v (f1 + f2)→Calls Tryz.prog 46 #[.agg #[.bool s1,.int .u64 x1,.int .u64 y1,.pointer p1],v] w fun e w' => ∃ v,e = .returned (.tuple #[v,.nilIface])∧FracAt w' v (f1 / (f1 + f2))∧But [] w w')
  (hQ : ∀ w1 bn v3 v4 v5 v6 v9 s' x' y' p',But [] W0 w1→B ≤ bn→P4 w1 bn s' x' y' p'→FracAt w1 (.agg #[.bool s',.int .u64 x',.int .u64 y',.pointer p']) (f1 / (f1 + f2))→Q .normal (putted base [(12,.agg #[.bool s1,.int .u64 x1,.int .u64 y1,.pointer p1]),(13,.agg #[.bool s1,.int .u64 x1,.int .u64 y1,.pointer p1]),(14,.agg #[.bool s2,.int .u64 x2,.int .u64 y2,.pointer p2]),(15,v3),(16,v4),(11,v5),(17,v6),(18,.nilIface),(5,.pointer (some ⟨bn,0,none⟩)),(6,v9),(6,.nilIface)]) w1) :
  (Code.region id opJbs true).wp Tryz.prog Q base W0:=by
 have hdr : ∀ {w},But [] W0.drew w→But [] W0 w:=fun h => (But.refl _ _).drew.trans' h
 have hT : ∀ i,i < 10→opJbT i < base.tmps.size:=fun i hi => by
  have h : opJbT i ≤ 18:=by revert i; decide
  omega
 refine region_flow3 (by kernel_rfl) (low_of (by kernel_rfl)) (fun i o ho => (calm_of (ops:=opJbs) (by kernel_rfl) i o ho).1)
  (opJbC B s1 x1 y1 p1 s2 x2 y2 p2 f1 f2) opJbT 10 9 8 (by omega) (Stored B (f1 / (f1 + f2))) rfl opJbT_inj hT (fun i w w' v hi h hb => opJbC_but h hi hb) (fun _ _ => trivial) (fun w w' v h hb => h.but hb)
  (fun i hi => ?_) (dep_of (ops:=opJbs) (ps:=[(9,8)]) (by kernel_rfl) 9 8 (by simp)) ?_ ?_ (fun a w => ∃ w1 bn v3 v4 v5 v6 v9 s' x' y' p',a = putted base [(12,.agg #[.bool s1,.int .u64 x1,.int .u64 y1,.pointer p1]),(13,.agg #[.bool s1,.int .u64 x1,.int .u64 y1,.pointer p1]),(14,.agg #[.bool s2,.int .u64 x2,.int .u64 y2,.pointer p2]),(15,v3),(16,v4),(11,v5),(17,v6),(18,.nilIface),(5,.pointer (some ⟨bn,0,none⟩)),(6,v9),(6,.nilIface)]∧w = w1∧But [] W0 w1∧B ≤ bn∧P4 w1 bn s' x' y' p'∧FracAt w1 (.agg #[.bool s',.int .u64 x',.int .u64 y',.pointer p']) (f1 / (f1 + f2))) ?_ ?_ (by omega)
 ·exact dep_of (ops:=opJbs) (ps:=[(10,0),(10,1),(10,2),(10,3),(10,4),(10,5),(10,6),(10,7),(10,8),(10,9)]) (by kernel_rfl) 10 i (by
   have : i = 0 ∨ i = 1 ∨ i = 2 ∨ i = 3 ∨ i = 4 ∨ i = 5 ∨ i = 6 ∨ i = 7 ∨ i = 8 ∨ i = 9:=by omega
   rcases this with rfl | rfl | rfl | rfl | rfl | rfl | rfl | rfl | rfl | rfl <;> simp)
 ·intro i o a w K hi hiq ho hH he hdep hK
  have hD:=dep_have (ps:=[(3,1),(3,2),(4,0),(4,3),(5,4),(6,5),(7,5),(9,0),(9,1),(9,2),(9,3),(9,4),(9,5),(9,6),(9,8)]) (by kernel_rfl) ho (fun j => opJbC B s1 x1 y1 p1 s2 x2 y2 p2 f1 f2 j w (a.eval (.tmp (opJbT j)))) hdep
  have hk : ∀ v w',But [] w w'→opJbC B s1 x1 y1 p1 s2 x2 y2 p2 f1 f2 i w' v→K (a.put (some (opJbT i)) v) w':=hK
  have e2':=(he 2 (fun j hj e => absurd e.symm (by revert j; decide))).trans e2
  have e3':=(he 3 (fun j hj e => absurd e.symm (by revert j; decide))).trans e3
  have : i = 0 ∨ i = 1 ∨ i = 2 ∨ i = 3 ∨ i = 4 ∨ i = 5 ∨ i = 6 ∨ i = 7 ∨ i = 8 ∨ i = 9:=by omega
  rcases this with rfl | rfl | rfl | rfl | rfl | rfl | rfl | rfl | rfl | rfl
  ·obtain rfl:=Option.some.inj ((show opJbs[0]? = some opJb0 from rfl).symm.trans ho)
   exact wp_value (run_loadK a w _ _ _ _ _ _ g2 0 _ _ _ _ e2' (c1.but (hdr hH) (by simp))) (hk _ _ (But.refl _ _) rfl)
  ·obtain rfl:=Option.some.inj ((show opJbs[1]? = some opJb1 from rfl).symm.trans ho)
   exact wp_value (run_loadK a w _ _ _ _ _ _ g2 0 _ _ _ _ e2' (c1.but (hdr hH) (by simp))) (hk _ _ (But.refl _ _) rfl)
  ·obtain rfl:=Option.some.inj ((show opJbs[2]? = some opJb2 from rfl).symm.trans ho)
   exact wp_value (run_loadK a w _ _ _ _ _ _ g3 0 _ _ _ _ e3' (c2.but (hdr hH) (by simp))) (hk _ _ (But.refl _ _) rfl)
  ·obtain rfl:=Option.some.inj ((show opJbs[3]? = some opJb3 from rfl).symm.trans ho)
   exact wp_enter (run_addK a w _ _ _ _ _ _ _ _ _ (hD 1 (by simp)) (hD 2 (by simp))) (R:=fun w' v => FracAt w' v (f1 + f2)∧But [] w w') (AD w (hdr hH)) (fun v w' hv => hk v w' hv.2 hv.1)
  ·obtain rfl:=Option.some.inj ((show opJbs[4]? = some opJb4 from rfl).symm.trans ho)
   exact wp_enter (run_divK a w _ _ _ _ _ _ _ _ _ (hD 0 (by simp)) rfl) (R:=fun w' v => FracErr (f1 / (f1 + f2)) w' v∧But [] w w') ((DI w (hdr hH) _ (hD 3 (by simp))).mono fun e w' ⟨v,he,hf,hb⟩ => ⟨_,he,⟨v,rfl,hf⟩,hb⟩) (fun v w' hv => hk v w' hv.2 hv.1)
  ·obtain rfl:=Option.some.inj ((show opJbs[5]? = some opJb5 from rfl).symm.trans ho)
   exact wp_value (run_mvK a w _ _ _ _ _ _ _ rfl) (hk _ _ (But.refl _ _) (hD 4 (by simp)))
  ·obtain rfl:=Option.some.inj ((show opJbs[6]? = some opJb6 from rfl).symm.trans ho)
   obtain ⟨u,eu,hu⟩ : FracErr (f1 / (f1 + f2)) w _:=(hD 5 (by simp))
   exact wp_value (run_exK a w _ _ _ _ _ _ _ _ u eu rfl) (hk _ _ (But.refl _ _) hu)
  ·obtain rfl:=Option.some.inj ((show opJbs[7]? = some opJb7 from rfl).symm.trans ho)
   obtain ⟨u,eu,hu⟩ : FracErr (f1 / (f1 + f2)) w _:=(hD 5 (by simp))
   exact wp_value (run_exK a w _ _ _ _ _ _ _ _ .nilIface eu rfl) (hk _ _ (But.refl _ _) rfl)
  ·obtain rfl:=Option.some.inj ((show opJbs[8]? = some opJb8 from rfl).symm.trans ho)
   exact wp_value (run_alloc4 a w _ _ _ _ _) (hk _ _ ((But.refl _ _).alloc _) ⟨w.heap.size,rfl,by rw [hBW]; exact (hdr hH).size,⟨false,0,0,none,by simp,by simp,by simp,by simp⟩,fun j => by simp⟩)
  ·exact absurd rfl hiq
 ·intro o a w K ho hH he hdep hK
  have hD:=dep_have (ps:=[(9,8),(9,6)]) (by kernel_rfl) ho (fun j => opJbC B s1 x1 y1 p1 s2 x2 y2 p2 f1 f2 j w (a.eval (.tmp (opJbT j)))) hdep
  obtain rfl:=Option.some.inj ((show opJbs[9]? = some opJb9 from rfl).symm.trans ho)
  have cl : FracAt w (a.eval (.tmp 17)) (f1 / (f1 + f2)):=hD 6 (by simp)
  obtain ⟨bn,eb,hb1,⟨s0,x0,y0,p0,hb2⟩,hb3⟩ : LaidAny B w (a.eval (.tmp 5)):=hD 8 (by simp)
  have cl':=cl
  obtain ⟨x',y',p',ev,-⟩:=cl.agg
  rw [ev] at cl'
  exact wp_skipped (run_store4 a w _ _ _ _ _ bn _ x' y' p' eb ev hb2 hb3) (hK _ (hH.trans (put4_but w bn _ x' y' p') (fun x hx => by simp at hx; subst hx; exact .inr (by rw [hBW] at hb1; exact hb1))) (fun j hj u hu => opJbC_put hb2 _ x' y' p' hu hj) ⟨bn,_,x',y',p',eb,hb1,put4_p4 w bn _ x' y' p' hb2,cl'.over hb2.1 (put4_but w bn _ x' y' p')⟩)
 ·intro dn o a w K ho hall h hst hK
  obtain rfl:=Option.some.inj ((show opJbs[10]? = some opJb10 from rfl).symm.trans ho)
  obtain ⟨bn,s',x',y',p',eb,hb1,hb2,hb3⟩:=hst
  have eb : a.eval (.tmp 5) = .pointer (some ⟨bn,0,none⟩):=eb
  have ea:=h.puts hT (fun i => match i with
   | 0 => .agg #[.bool s1,.int .u64 x1,.int .u64 y1,.pointer p1]
   | 1 => .agg #[.bool s1,.int .u64 x1,.int .u64 y1,.pointer p1]
   | 2 => .agg #[.bool s2,.int .u64 x2,.int .u64 y2,.pointer p2]
   | 3 => a.eval (.tmp 15)
   | 4 => a.eval (.tmp 16)
   | 5 => a.eval (.tmp 11)
   | 6 => a.eval (.tmp 17)
   | 7 => .nilIface
   | 8 => .pointer (some ⟨bn,0,none⟩)
   | _ => a.eval (.tmp 6)) (fun i hi => by
   have hc:=h.has i hi (hall i hi)
   have : i = 0 ∨ i = 1 ∨ i = 2 ∨ i = 3 ∨ i = 4 ∨ i = 5 ∨ i = 6 ∨ i = 7 ∨ i = 8 ∨ i = 9:=by omega
   rcases this with rfl | rfl | rfl | rfl | rfl | rfl | rfl | rfl | rfl | rfl
   ·exact hc
   ·exact hc
   ·exact hc
   ·rfl
   ·rfl
   ·rfl
   ·rfl
   ·exact hc
   ·exact eb
   ·rfl)
  have ea2 : a = putted base [(12,.agg #[.bool s1,.int .u64 x1,.int .u64 y1,.pointer p1]),(13,.agg #[.bool s1,.int .u64 x1,.int .u64 y1,.pointer p1]),(14,.agg #[.bool s2,.int .u64 x2,.int .u64 y2,.pointer p2]),(15,a.eval (.tmp 15)),(16,a.eval (.tmp 16)),(11,a.eval (.tmp 11)),(17,a.eval (.tmp 17)),(18,.nilIface),(5,.pointer (some ⟨bn,0,none⟩)),(6,a.eval (.tmp 6))]:=ea
  have ea3 : a.put (some 6) (.nilIface) = putted base ([(12,.agg #[.bool s1,.int .u64 x1,.int .u64 y1,.pointer p1]),(13,.agg #[.bool s1,.int .u64 x1,.int .u64 y1,.pointer p1]),(14,.agg #[.bool s2,.int .u64 x2,.int .u64 y2,.pointer p2]),(15,a.eval (.tmp 15)),(16,a.eval (.tmp 16)),(11,a.eval (.tmp 11)),(17,a.eval (.tmp 17)),(18,.nilIface),(5,.pointer (some ⟨bn,0,none⟩)),(6,a.eval (.tmp 6))] ++ [(6,.nilIface)]):=(congrArg (fun z : Act => z.put (some 6) (.nilIface)) ea2).trans (putted_snoc _ _ _ _)
  have hev : a.eval (.tmp 18) = .nilIface:=h.has 7 (by omega) (hall 7 (by omega))
  exact wp_value (run_as _ _ _ _ _ _ _ _ _ hev) (hK _ _ ⟨w,bn,a.eval (.tmp 15),a.eval (.tmp 16),a.eval (.tmp 11),a.eval (.tmp 17),a.eval (.tmp 6),s',x',y',p',ea3,rfl,hdr h.mem,hb1,hb2,hb3⟩)
 ·rintro a w ⟨w1,bn,v3,v4,v5,v6,v9,s',x',y',p',rfl,rfl,h1,h2,h3,h4⟩
  exact hQ _ bn v3 v4 v5 v6 v9 s' x' y' p' h1 h2 h3 h4
def opJc0 : Oper:={ dst:=some 3,op:=Op.call { callee:=Callee.value (Operand.func 27),args:=#[Operand.const (Value.int IntKind.i64 1)],argTypes:=#[3] },type:=29,pos:= "line.go:79",after:=#[],guard:=none }
def opJc1 : Oper:={ dst:=some 4,op:=Op.load 29 (Operand.tmp 1),type:=29,pos:= "line.go:79",after:=#[],guard:=none }
def opJc2 : Oper:={ dst:=some 5,op:=Op.call { callee:=Callee.value (Operand.func 74),args:=#[Operand.tmp 3,Operand.tmp 4],argTypes:=#[29,29] },type:=29,pos:= "line.go:79",after:=#[{ on:=0,ground:=Ground.data },{ on:=1,ground:=Ground.data },{ on:=0,ground:=Ground.chain }],guard:=none }
def opJc3 : Oper:={ dst:=none,op:=Op.store 29 (Operand.tmp 2) (Operand.tmp 5),type:=0,pos:= "line.go:79",after:=#[{ on:=2,ground:=Ground.data },{ on:=2,ground:=Ground.chain },{ on:=0,ground:=Ground.phase },{ on:=1,ground:=Ground.phase },{ on:=2,ground:=Ground.phase }],guard:=none }
def opJcs : Array Oper:=#[opJc0,opJc1,opJc2,opJc3]
def opJcT (i : Nat) : Nat:=match i with
 | 0 => 3
 | 1 => 4
 | _ => 5
/-- what each operation's value is -/
def opJcC (ws : Bool) (wx : Int) (s1 : Bool) (x1 : Int) (y1 : Int) (p1 : Option Addr) (f1 : Rat) (i : Nat) (w : World) (v : Value) : Prop:=match i with
 | 0 => v = .agg #[.bool ws,.int .u64 wx,.int .u64 0,.pointer none]
 | 1 => v = .agg #[.bool s1,.int .u64 x1,.int .u64 y1,.pointer p1]
 | _ => FracAt w v (((1 : Int) : Rat) - f1)
theorem opJcC_but {ws : Bool} {wx : Int} {s1 : Bool} {x1 : Int} {y1 : Int} {p1 : Option Addr} {f1 : Rat} {i : Nat} {w w' : World} {v : Value} (h : opJcC ws wx s1 x1 y1 p1 f1 i w v) (hi : i < 3) (hb : But [] w w') : opJcC ws wx s1 x1 y1 p1 f1 i w' v:=by
 have : i = 0 ∨ i = 1 ∨ i = 2:=by omega
 rcases this with rfl | rfl | rfl
 all_goals first | exact h | exact FracAt.but h hb | exact FracsAt.but h hb
theorem opJcT_inj : ∀ i j,i < 3→j < 3→opJcT i = opJcT j→i = j:=fun i j hi hj => (by decide : ∀ i,i < 3→∀ j,j < 3→opJcT i = opJcT j→i = j) i hi j hj
set_option maxHeartbeats 8000000 in
set_option maxRecDepth 100000 in
theorem rest_region (id : Nat) (Q : Exit→Act→World→Prop) (base : Act) (W0 : World) (ws : Bool) (wx : Int) (s1 : Bool) (x1 : Int) (y1 : Int) (p1 : Option Addr) (f1 : Rat) (gb g1 : Nat) {sb : Bool} {xb yb : Int} {pb : Option Addr} (hs : 5 < base.tmps.size) (eb : base.eval (.tmp 2) = .pointer (some ⟨gb,0,none⟩)) (cb : P4 W0 gb sb xb yb pb) (fzb : ∀ j,W0.frozen? ⟨gb,j,none⟩ = false) (e1 : base.eval (.tmp 1) = .pointer (some ⟨g1,0,none⟩))
  (c1 : P4 W0 g1 s1 x1 y1 p1)
  (WH : ∀ w,Calls Tryz.prog 27 #[.int .i64 1] w fun e w' => e = .returned (.agg #[.bool ws,.int .u64 wx,.int .u64 0,.pointer none])∧But [] w w')
  (SU : ∀ w,But [] W0 w→Calls Tryz.prog 74 #[.agg #[.bool ws,.int .u64 wx,.int .u64 0,.pointer none],.agg #[.bool s1,.int .u64 x1,.int .u64 y1,.pointer p1]] w fun e w' => ∃ v,e = .returned v∧FracAt w' v (((1 : Int) : Rat) - f1)∧But [] w w')
  (hQ : ∀ w1 s' x' y' p',But [] W0 w1→FracAt w1 (.agg #[.bool s',.int .u64 x',.int .u64 y',.pointer p']) (((1 : Int) : Rat) - f1)→Q .normal (putted base [(3,.agg #[.bool ws,.int .u64 wx,.int .u64 0,.pointer none]),(4,.agg #[.bool s1,.int .u64 x1,.int .u64 y1,.pointer p1]),(5,(.agg #[.bool s',.int .u64 x',.int .u64 y',.pointer p']))]) (put4 w1 gb s' x' y' p')) :
  (Code.region id opJcs true).wp Tryz.prog Q base W0:=by
 have hdr : ∀ {w},But [] W0.drew w→But [] W0 w:=fun h => (But.refl _ _).drew.trans' h
 have lgb : gb < W0.heap.size:=lt_of_cell cb.1
 have hT : ∀ i,i < 3→opJcT i < base.tmps.size:=fun i hi => by
  have h : opJcT i ≤ 5:=by revert i; decide
  omega
 refine region_flow (by kernel_rfl) (low_of (by kernel_rfl)) (fun i o ho => (calm_of (ops:=opJcs) (by kernel_rfl) i o ho).1)
  (fun _ w => But [] W0.drew w) (opJcC ws wx s1 x1 y1 p1 f1) opJcT 3 rfl opJcT_inj hT (But.refl _ _)
  (fun i hi => ?_) ?_ (fun a w => ∃ w1 s' x' y' p',a = putted base [(3,.agg #[.bool ws,.int .u64 wx,.int .u64 0,.pointer none]),(4,.agg #[.bool s1,.int .u64 x1,.int .u64 y1,.pointer p1]),(5,(.agg #[.bool s',.int .u64 x',.int .u64 y',.pointer p']))]∧w = put4 w1 gb s' x' y' p'∧But [] W0 w1∧FracAt w1 (.agg #[.bool s',.int .u64 x',.int .u64 y',.pointer p']) (((1 : Int) : Rat) - f1)) ?_ ?_
 ·exact dep_of (ops:=opJcs) (ps:=[(3,0),(3,1),(3,2)]) (by kernel_rfl) 3 i (by
   have : i = 0 ∨ i = 1 ∨ i = 2:=by omega
   rcases this with rfl | rfl | rfl <;> simp)
 ·intro dn i o a w K hi ho hdi hH he hdep hK
  have hD:=fun j hj => (dep_have (ps:=[(2,0),(2,1)]) (by kernel_rfl) ho (fun j => dn j = true∧opJcC ws wx s1 x1 y1 p1 f1 j w (a.eval (.tmp (opJcT j)))) hdep j hj).2
  have hk : ∀ v w',But [] w w'→opJcC ws wx s1 x1 y1 p1 f1 i w' v→K (a.put (some (opJcT i)) v) w':=fun v w' hb hv => hK v w' (hH.trans' hb) (fun j hj _ u hu => opJcC_but hu hj hb) hv
  have eb':=(he 2 (fun j hj e => absurd e.symm (by revert j; decide))).trans eb
  have e1':=(he 1 (fun j hj e => absurd e.symm (by revert j; decide))).trans e1
  have : i = 0 ∨ i = 1 ∨ i = 2:=by omega
  rcases this with rfl | rfl | rfl
  ·obtain rfl:=Option.some.inj ((show opJcs[0]? = some opJc0 from rfl).symm.trans ho)
   exact wp_enter (run_oneK a w _ _ _ _ _ 1) (R:=fun w' v => But [] w w'∧v = _) ((WH w).mono fun e w' ⟨he,hb⟩ => ⟨_,he,hb,rfl⟩) (fun v w' hv => hk v w' hv.1 hv.2)
  ·obtain rfl:=Option.some.inj ((show opJcs[1]? = some opJc1 from rfl).symm.trans ho)
   exact wp_value (run_loadK a w _ _ _ _ _ _ g1 0 _ _ _ _ e1' (c1.but (hdr hH) (by simp))) (hk _ _ (But.refl _ _) rfl)
  ·obtain rfl:=Option.some.inj ((show opJcs[2]? = some opJc2 from rfl).symm.trans ho)
   exact wp_enter (run_subJ a w _ _ _ _ _ _ _ _ _ (hD 0 (by simp)) (hD 1 (by simp))) (R:=fun w' v => FracAt w' v (((1 : Int) : Rat) - f1)∧But [] w w') (SU w (hdr hH)) (fun v w' hv => hk v w' hv.2 hv.1)
 ·intro dn o a w K ho hall h hK
  obtain rfl:=Option.some.inj ((show opJcs[3]? = some opJc3 from rfl).symm.trans ho)
  have eb':=(h.eval 2 (fun j hj e => absurd e.symm (by revert j; decide))).trans eb
  have cl : FracAt w (a.eval (.tmp 5)) (((1 : Int) : Rat) - f1):=h.has 2 (by omega) (hall 2 (by omega))
  have cl':=cl
  obtain ⟨x',y',p',ev,-⟩:=cl.agg
  rw [ev] at cl'
  have ea:=h.puts hT (fun i => match i with
   | 0 => .agg #[.bool ws,.int .u64 wx,.int .u64 0,.pointer none]
   | 1 => .agg #[.bool s1,.int .u64 x1,.int .u64 y1,.pointer p1]
   | _ => .agg #[.bool (decide ((((1 : Int) : Rat) - f1).num < 0)),.int .u64 x',.int .u64 y',.pointer p']) (fun i hi => by
   have hc:=h.has i hi (hall i hi)
   have : i = 0 ∨ i = 1 ∨ i = 2:=by omega
   rcases this with rfl | rfl | rfl
   all_goals first | exact ev | exact hc | rfl)
  exact wp_skipped (run_store4 a w _ _ _ _ _ gb _ x' y' p' eb' ev (cb.but (hdr h.mem) (by simp)) (fun j => ((hdr h.mem).frozen (p:=⟨gb,j,none⟩) lgb (by simp)).trans (fzb j))) (hK _ _ ⟨w,_,x',y',p',ea,rfl,hdr h.mem,cl'⟩)
 ·rintro a w ⟨w1,s',x',y',p',rfl,rfl,h1,h2⟩
  exact hQ  w1 s' x' y' p' h1 h2
def opJd0 : Oper:={ dst:=some 10,op:=Op.load 29 (Operand.tmp 3),type:=29,pos:= "credit.go:63",after:=#[],guard:=none }
def opJd1 : Oper:={ dst:=some 11,op:=Op.move (Operand.tmp 0),type:=33,pos:= "credit.go:63",after:=#[],guard:=none }
def opJd2 : Oper:={ dst:=some 12,op:=Op.move (Operand.tmp 4),type:=3,pos:= "credit.go:63",after:=#[],guard:=none }
def opJd3 : Oper:={ dst:=some 13,op:=Op.indexAddr 33 (Operand.tmp 11) (Operand.tmp 12),type:=0,pos:= "credit.go:63",after:=#[{ on:=1,ground:=Ground.data },{ on:=2,ground:=Ground.data }],guard:=none }
def opJd4 : Oper:={ dst:=some 14,op:=Op.load 29 (Operand.tmp 13),type:=29,pos:= "credit.go:63",after:=#[{ on:=3,ground:=Ground.data }],guard:=none }
def opJd5 : Oper:={ dst:=some 15,op:=Op.call { callee:=Callee.value (Operand.func 22),args:=#[Operand.tmp 10,Operand.tmp 14],argTypes:=#[29,29] },type:=29,pos:= "credit.go:63",after:=#[{ on:=0,ground:=Ground.data },{ on:=4,ground:=Ground.data }],guard:=none }
def opJd6 : Oper:={ dst:=none,op:=Op.store 29 (Operand.tmp 3) (Operand.tmp 15),type:=0,pos:= "credit.go:63",after:=#[{ on:=5,ground:=Ground.data },{ on:=5,ground:=Ground.chain },{ on:=0,ground:=Ground.phase },{ on:=1,ground:=Ground.phase },{ on:=2,ground:=Ground.phase },{ on:=3,ground:=Ground.phase },{ on:=4,ground:=Ground.phase },{ on:=5,ground:=Ground.phase }],guard:=none }
def opJds : Array Oper:=#[opJd0,opJd1,opJd2,opJd3,opJd4,opJd5,opJd6]
def opJdT (i : Nat) : Nat:=match i with
 | 0 => 10
 | 1 => 11
 | 2 => 12
 | 3 => 13
 | 4 => 14
 | _ => 15
/-- what each operation's value is -/
def opJdC (s1 : Bool) (x1 : Int) (y1 : Int) (p1 : Option Addr) (s2 : Bool) (x2 : Int) (y2 : Int) (p2 : Option Addr) (b : Nat) (off : Nat) (n : Nat) (c : Nat) (k : Nat) (f1 : Rat) (f2 : Rat) (i : Nat) (w : World) (v : Value) : Prop:=match i with
 | 0 => v = .agg #[.bool s1,.int .u64 x1,.int .u64 y1,.pointer p1]
 | 1 => v = .slice (some ⟨b,off,none⟩) n c
 | 2 => v = .int .i64 (k : Int)
 | 3 => v = .pointer (some ⟨b,off + k * 4,none⟩)
 | 4 => v = .agg #[.bool s2,.int .u64 x2,.int .u64 y2,.pointer p2]
 | _ => FracAt w v (f1 + f2)
theorem opJdC_but {s1 : Bool} {x1 : Int} {y1 : Int} {p1 : Option Addr} {s2 : Bool} {x2 : Int} {y2 : Int} {p2 : Option Addr} {b : Nat} {off : Nat} {n : Nat} {c : Nat} {k : Nat} {f1 : Rat} {f2 : Rat} {i : Nat} {w w' : World} {v : Value} (h : opJdC s1 x1 y1 p1 s2 x2 y2 p2 b off n c k f1 f2 i w v) (hi : i < 6) (hb : But [] w w') : opJdC s1 x1 y1 p1 s2 x2 y2 p2 b off n c k f1 f2 i w' v:=by
 have : i = 0 ∨ i = 1 ∨ i = 2 ∨ i = 3 ∨ i = 4 ∨ i = 5:=by omega
 rcases this with rfl | rfl | rfl | rfl | rfl | rfl
 all_goals first | exact h | exact FracAt.but h hb | exact FracsAt.but h hb
theorem opJdT_inj : ∀ i j,i < 6→j < 6→opJdT i = opJdT j→i = j:=fun i j hi hj => (by decide : ∀ i,i < 6→∀ j,j < 6→opJdT i = opJdT j→i = j) i hi j hj
set_option maxHeartbeats 8000000 in
set_option maxRecDepth 100000 in
theorem total_region (id : Nat) (Q : Exit→Act→World→Prop) (base : Act) (W0 : World) (s1 : Bool) (x1 : Int) (y1 : Int) (p1 : Option Addr) (s2 : Bool) (x2 : Int) (y2 : Int) (p2 : Option Addr) (b : Nat) (off : Nat) (n : Nat) (c : Nat) (k : Nat) (f1 : Rat) (f2 : Rat) (gb : Nat) {sb : Bool} {xb yb : Int} {pb : Option Addr} (hs : 15 < base.tmps.size) (eb : base.eval (.tmp 3) = .pointer (some ⟨gb,0,none⟩)) (cb : P4 W0 gb sb xb yb pb) (fzb : ∀ j,W0.frozen? ⟨gb,j,none⟩ = false) (e0 : base.eval (.tmp 0) = .slice (some ⟨b,off,none⟩) n c) (e4 : base.eval (.tmp 4) = .int .i64 (k : Int))
  (hkn : k < n) (hn : n < 1000000) (c1 : P4 W0 gb s1 x1 y1 p1) (c2 : P4o W0 b (off + k * 4) s2 x2 y2 p2)
  (AD : ∀ w,But [] W0 w→Calls Tryz.prog 22 #[.agg #[.bool s1,.int .u64 x1,.int .u64 y1,.pointer p1],.agg #[.bool s2,.int .u64 x2,.int .u64 y2,.pointer p2]] w fun e w' => ∃ v,e = .returned v∧FracAt w' v (f1 + f2)∧But [] w w')
  (hQ : ∀ w1 s' x' y' p',But [] W0 w1→FracAt w1 (.agg #[.bool s',.int .u64 x',.int .u64 y',.pointer p']) (f1 + f2)→Q .normal (putted base [(10,.agg #[.bool s1,.int .u64 x1,.int .u64 y1,.pointer p1]),(11,.slice (some ⟨b,off,none⟩) n c),(12,.int .i64 (k : Int)),(13,.pointer (some ⟨b,off + k * 4,none⟩)),(14,.agg #[.bool s2,.int .u64 x2,.int .u64 y2,.pointer p2]),(15,(.agg #[.bool s',.int .u64 x',.int .u64 y',.pointer p']))]) (put4 w1 gb s' x' y' p')) :
  (Code.region id opJds true).wp Tryz.prog Q base W0:=by
 have hdr : ∀ {w},But [] W0.drew w→But [] W0 w:=fun h => (But.refl _ _).drew.trans' h
 have lgb : gb < W0.heap.size:=lt_of_cell cb.1
 have hT : ∀ i,i < 6→opJdT i < base.tmps.size:=fun i hi => by
  have h : opJdT i ≤ 15:=by revert i; decide
  omega
 refine region_flow (by kernel_rfl) (low_of (by kernel_rfl)) (fun i o ho => (calm_of (ops:=opJds) (by kernel_rfl) i o ho).1)
  (fun _ w => But [] W0.drew w) (opJdC s1 x1 y1 p1 s2 x2 y2 p2 b off n c k f1 f2) opJdT 6 rfl opJdT_inj hT (But.refl _ _)
  (fun i hi => ?_) ?_ (fun a w => ∃ w1 s' x' y' p',a = putted base [(10,.agg #[.bool s1,.int .u64 x1,.int .u64 y1,.pointer p1]),(11,.slice (some ⟨b,off,none⟩) n c),(12,.int .i64 (k : Int)),(13,.pointer (some ⟨b,off + k * 4,none⟩)),(14,.agg #[.bool s2,.int .u64 x2,.int .u64 y2,.pointer p2]),(15,(.agg #[.bool s',.int .u64 x',.int .u64 y',.pointer p']))]∧w = put4 w1 gb s' x' y' p'∧But [] W0 w1∧FracAt w1 (.agg #[.bool s',.int .u64 x',.int .u64 y',.pointer p']) (f1 + f2)) ?_ ?_
 ·exact dep_of (ops:=opJds) (ps:=[(6,0),(6,1),(6,2),(6,3),(6,4),(6,5)]) (by kernel_rfl) 6 i (by
   have : i = 0 ∨ i = 1 ∨ i = 2 ∨ i = 3 ∨ i = 4 ∨ i = 5:=by omega
   rcases this with rfl | rfl | rfl | rfl | rfl | rfl <;> simp)
 ·intro dn i o a w K hi ho hdi hH he hdep hK
  have hD:=fun j hj => (dep_have (ps:=[(3,1),(3,2),(4,3),(5,0),(5,4)]) (by kernel_rfl) ho (fun j => dn j = true∧opJdC s1 x1 y1 p1 s2 x2 y2 p2 b off n c k f1 f2 j w (a.eval (.tmp (opJdT j)))) hdep j hj).2
  have hk : ∀ v w',But [] w w'→opJdC s1 x1 y1 p1 s2 x2 y2 p2 b off n c k f1 f2 i w' v→K (a.put (some (opJdT i)) v) w':=fun v w' hb hv => hK v w' (hH.trans' hb) (fun j hj _ u hu => opJdC_but hu hj hb) hv
  have eb':=(he 3 (fun j hj e => absurd e.symm (by revert j; decide))).trans eb
  have e0':=(he 0 (fun j hj e => absurd e.symm (by revert j; decide))).trans e0
  have e4':=(he 4 (fun j hj e => absurd e.symm (by revert j; decide))).trans e4
  have : i = 0 ∨ i = 1 ∨ i = 2 ∨ i = 3 ∨ i = 4 ∨ i = 5:=by omega
  rcases this with rfl | rfl | rfl | rfl | rfl | rfl
  ·obtain rfl:=Option.some.inj ((show opJds[0]? = some opJd0 from rfl).symm.trans ho)
   exact wp_value (run_loadK a w _ _ _ _ _ _ gb 0 _ _ _ _ eb' (c1.but (hdr hH) (by simp))) (hk _ _ (But.refl _ _) rfl)
  ·obtain rfl:=Option.some.inj ((show opJds[1]? = some opJd1 from rfl).symm.trans ho)
   exact wp_value (run_mvK a w _ _ _ _ _ _ _ e0') (hk _ _ (But.refl _ _) rfl)
  ·obtain rfl:=Option.some.inj ((show opJds[2]? = some opJd2 from rfl).symm.trans ho)
   exact wp_value (run_mvK a w _ _ _ _ _ _ _ e4') (hk _ _ (But.refl _ _) rfl)
  ·obtain rfl:=Option.some.inj ((show opJds[3]? = some opJd3 from rfl).symm.trans ho)
   exact wp_value (run_indexJ a w _ _ _ _ _ _ _ b off n c k hkn hn (hD 1 (by simp)) (hD 2 (by simp))) (hk _ _ (But.refl _ _) rfl)
  ·obtain rfl:=Option.some.inj ((show opJds[4]? = some opJd4 from rfl).symm.trans ho)
   exact wp_value (run_loadK a w _ _ _ _ _ _ b (off + k * 4) _ _ _ _ (hD 3 (by simp)) (c2.but (hdr hH) (by simp))) (hk _ _ (But.refl _ _) rfl)
  ·obtain rfl:=Option.some.inj ((show opJds[5]? = some opJd5 from rfl).symm.trans ho)
   exact wp_enter (run_addK a w _ _ _ _ _ _ _ _ _ (hD 0 (by simp)) (hD 4 (by simp))) (R:=fun w' v => FracAt w' v (f1 + f2)∧But [] w w') (AD w (hdr hH)) (fun v w' hv => hk v w' hv.2 hv.1)
 ·intro dn o a w K ho hall h hK
  obtain rfl:=Option.some.inj ((show opJds[6]? = some opJd6 from rfl).symm.trans ho)
  have eb':=(h.eval 3 (fun j hj e => absurd e.symm (by revert j; decide))).trans eb
  have cl : FracAt w (a.eval (.tmp 15)) (f1 + f2):=h.has 5 (by omega) (hall 5 (by omega))
  have cl':=cl
  obtain ⟨x',y',p',ev,-⟩:=cl.agg
  rw [ev] at cl'
  have ea:=h.puts hT (fun i => match i with
   | 0 => .agg #[.bool s1,.int .u64 x1,.int .u64 y1,.pointer p1]
   | 1 => .slice (some ⟨b,off,none⟩) n c
   | 2 => .int .i64 (k : Int)
   | 3 => .pointer (some ⟨b,off + k * 4,none⟩)
   | 4 => .agg #[.bool s2,.int .u64 x2,.int .u64 y2,.pointer p2]
   | _ => .agg #[.bool (decide ((f1 + f2).num < 0)),.int .u64 x',.int .u64 y',.pointer p']) (fun i hi => by
   have hc:=h.has i hi (hall i hi)
   have : i = 0 ∨ i = 1 ∨ i = 2 ∨ i = 3 ∨ i = 4 ∨ i = 5:=by omega
   rcases this with rfl | rfl | rfl | rfl | rfl | rfl
   all_goals first | exact ev | exact hc | rfl)
  exact wp_skipped (run_store4 a w _ _ _ _ _ gb _ x' y' p' eb' ev (cb.but (hdr h.mem) (by simp)) (fun j => ((hdr h.mem).frozen (p:=⟨gb,j,none⟩) lgb (by simp)).trans (fzb j))) (hK _ _ ⟨w,_,x',y',p',ea,rfl,hdr h.mem,cl'⟩)
 ·rintro a w ⟨w1,s',x',y',p',rfl,rfl,h1,h2⟩
  exact hQ  w1 s' x' y' p' h1 h2
def opJe0 : Oper:={ dst:=some 20,op:=Op.move (Operand.tmp 7),type:=33,pos:= "credit.go:81",after:=#[],guard:=none }
def opJe1 : Oper:={ dst:=some 21,op:=Op.move (Operand.tmp 8),type:=3,pos:= "credit.go:81",after:=#[],guard:=none }
def opJe2 : Oper:={ dst:=some 22,op:=Op.load 29 (Operand.tmp 4),type:=29,pos:= "credit.go:81",after:=#[],guard:=none }
def opJe3 : Oper:={ dst:=some 23,op:=Op.load 29 (Operand.tmp 5),type:=29,pos:= "credit.go:81",after:=#[],guard:=none }
def opJe4 : Oper:={ dst:=some 24,op:=Op.load 29 (Operand.tmp 9),type:=29,pos:= "credit.go:81",after:=#[],guard:=none }
def opJe5 : Oper:={ dst:=some 25,op:=Op.load 29 (Operand.tmp 4),type:=29,pos:= "credit.go:81",after:=#[],guard:=none }
def opJe6 : Oper:={ dst:=some 26,op:=Op.call { callee:=Callee.value (Operand.func 74),args:=#[Operand.tmp 24,Operand.tmp 25],argTypes:=#[29,29] },type:=29,pos:= "credit.go:81",after:=#[{ on:=4,ground:=Ground.data },{ on:=5,ground:=Ground.data }],guard:=none }
def opJe7 : Oper:={ dst:=some 27,op:=Op.call { callee:=Callee.value (Operand.func 33),args:=#[Operand.tmp 23,Operand.tmp 26],argTypes:=#[29,29] },type:=29,pos:= "credit.go:81",after:=#[{ on:=3,ground:=Ground.data },{ on:=6,ground:=Ground.data },{ on:=6,ground:=Ground.chain }],guard:=none }
def opJe8 : Oper:={ dst:=some 28,op:=Op.call { callee:=Callee.value (Operand.func 22),args:=#[Operand.tmp 22,Operand.tmp 27],argTypes:=#[29,29] },type:=29,pos:= "credit.go:81",after:=#[{ on:=2,ground:=Ground.data },{ on:=7,ground:=Ground.data },{ on:=7,ground:=Ground.chain }],guard:=none }
def opJe9 : Oper:={ dst:=some 29,op:=Op.indexAddr 33 (Operand.tmp 20) (Operand.tmp 21),type:=0,pos:= "credit.go:81",after:=#[{ on:=0,ground:=Ground.data },{ on:=1,ground:=Ground.data },{ on:=0,ground:=Ground.phase },{ on:=1,ground:=Ground.phase },{ on:=2,ground:=Ground.phase },{ on:=3,ground:=Ground.phase },{ on:=4,ground:=Ground.phase },{ on:=5,ground:=Ground.phase },{ on:=6,ground:=Ground.phase },{ on:=7,ground:=Ground.phase },{ on:=8,ground:=Ground.phase }],guard:=none }
def opJe10 : Oper:={ dst:=none,op:=Op.store 29 (Operand.tmp 29) (Operand.tmp 28),type:=0,pos:= "credit.go:81",after:=#[{ on:=9,ground:=Ground.data },{ on:=8,ground:=Ground.data },{ on:=8,ground:=Ground.chain },{ on:=0,ground:=Ground.phase },{ on:=1,ground:=Ground.phase },{ on:=2,ground:=Ground.phase },{ on:=3,ground:=Ground.phase },{ on:=4,ground:=Ground.phase },{ on:=5,ground:=Ground.phase },{ on:=6,ground:=Ground.phase },{ on:=7,ground:=Ground.phase },{ on:=8,ground:=Ground.phase }],guard:=none }
def opJes : Array Oper:=#[opJe0,opJe1,opJe2,opJe3,opJe4,opJe5,opJe6,opJe7,opJe8,opJe9,opJe10]
def opJeT (i : Nat) : Nat:=match i with
 | 0 => 20
 | 1 => 21
 | 2 => 22
 | 3 => 23
 | 4 => 24
 | 5 => 25
 | 6 => 26
 | 7 => 27
 | 8 => 28
 | _ => 29
/-- what each operation's value is -/
def opJeC (gb : Nat) (go : Nat) (N : Nat) (ka : Nat) (s1 : Bool) (x1 : Int) (y1 : Int) (p1 : Option Addr) (s2 : Bool) (x2 : Int) (y2 : Int) (p2 : Option Addr) (s3 : Bool) (x3 : Int) (y3 : Int) (p3 : Option Addr) (f1 : Rat) (f2 : Rat) (f3 : Rat) (i : Nat) (w : World) (v : Value) : Prop:=match i with
 | 0 => v = .slice (some ⟨gb,0,none⟩) N N
 | 1 => v = .int .i64 (ka : Int)
 | 2 => v = .agg #[.bool s1,.int .u64 x1,.int .u64 y1,.pointer p1]
 | 3 => v = .agg #[.bool s2,.int .u64 x2,.int .u64 y2,.pointer p2]
 | 4 => v = .agg #[.bool s3,.int .u64 x3,.int .u64 y3,.pointer p3]
 | 5 => v = .agg #[.bool s1,.int .u64 x1,.int .u64 y1,.pointer p1]
 | 6 => FracAt w v (f3 - f1)
 | 7 => FracAt w v (f2 * (f3 - f1))
 | 8 => FracAt w v (f1 + f2 * (f3 - f1))
 | _ => v = .pointer (some ⟨gb,go,none⟩)
theorem opJeC_but {gb : Nat} {go : Nat} {N : Nat} {ka : Nat} {s1 : Bool} {x1 : Int} {y1 : Int} {p1 : Option Addr} {s2 : Bool} {x2 : Int} {y2 : Int} {p2 : Option Addr} {s3 : Bool} {x3 : Int} {y3 : Int} {p3 : Option Addr} {f1 : Rat} {f2 : Rat} {f3 : Rat} {i : Nat} {w w' : World} {v : Value} (h : opJeC gb go N ka s1 x1 y1 p1 s2 x2 y2 p2 s3 x3 y3 p3 f1 f2 f3 i w v) (hi : i < 10) (hb : But [] w w') : opJeC gb go N ka s1 x1 y1 p1 s2 x2 y2 p2 s3 x3 y3 p3 f1 f2 f3 i w' v:=by
 have : i = 0 ∨ i = 1 ∨ i = 2 ∨ i = 3 ∨ i = 4 ∨ i = 5 ∨ i = 6 ∨ i = 7 ∨ i = 8 ∨ i = 9:=by omega
 rcases this with rfl | rfl | rfl | rfl | rfl | rfl | rfl | rfl | rfl | rfl
 all_goals first | exact h | exact FracAt.but h hb | exact FracsAt.but h hb
theorem opJeT_inj : ∀ i j,i < 10→j < 10→opJeT i = opJeT j→i = j:=fun i j hi hj => (by decide : ∀ i,i < 10→∀ j,j < 10→opJeT i = opJeT j→i = j) i hi j hj
set_option maxHeartbeats 8000000 in
set_option maxRecDepth 100000 in
theorem premiums_region (id : Nat) (Q : Exit→Act→World→Prop) (base : Act) (W0 : World) (gb : Nat) (go : Nat) (N : Nat) (ka : Nat) (s1 : Bool) (x1 : Int) (y1 : Int) (p1 : Option Addr) (s2 : Bool) (x2 : Int) (y2 : Int) (p2 : Option Addr) (s3 : Bool) (x3 : Int) (y3 : Int) (p3 : Option Addr) (f1 : Rat) (f2 : Rat) (f3 : Rat) (g4 g5 g9 : Nat) {sb : Bool} {xb yb : Int} {pb : Option Addr} (hs : 29 < base.tmps.size) (cb : P4o W0 gb go sb xb yb pb) (fzb : ∀ j,W0.frozen? ⟨gb,j,none⟩ = false) (e7 : base.eval (.tmp 7) = .slice (some ⟨gb,0,none⟩) N N) (e8 : base.eval (.tmp 8) = .int .i64 (ka : Int)) (e4 : base.eval (.tmp 4) = .pointer (some ⟨g4,0,none⟩)) (e5 : base.eval (.tmp 5) = .pointer (some ⟨g5,0,none⟩)) (e9 : base.eval (.tmp 9) = .pointer (some ⟨g9,0,none⟩))
  (hgo : go = 0 + ka * 4) (hka : ka < N) (hN2 : N < 1000000) (c1 : P4 W0 g4 s1 x1 y1 p1) (c2 : P4 W0 g5 s2 x2 y2 p2) (c3 : P4 W0 g9 s3 x3 y3 p3)
  (SU : ∀ w,But [] W0 w→Calls Tryz.prog 74 #[.agg #[.bool s3,.int .u64 x3,.int .u64 y3,.pointer p3],.agg #[.bool s1,.int .u64 x1,.int .u64 y1,.pointer p1]] w fun e w' => ∃ v,e = .returned v∧FracAt w' v (f3 - f1)∧But [] w w')
  (MU : ∀ w,But [] W0 w→∀ v,FracAt w v (f3 - f1)→Calls Tryz.prog 33 #[.agg #[.bool s2,.int .u64 x2,.int .u64 y2,.pointer p2],v] w fun e w' => ∃ v,e = .returned v∧FracAt w' v (f2 * (f3 - f1))∧But [] w w')
  (AD : ∀ w,But [] W0 w→∀ v,FracAt w v (f2 * (f3 - f1))→Calls Tryz.prog 22 #[.agg #[.bool s1,.int .u64 x1,.int .u64 y1,.pointer p1],v] w fun e w' => ∃ v,e = .returned v∧FracAt w' v (f1 + f2 * (f3 - f1))∧But [] w w')
  (hQ : ∀ w1 v6 v7 s' x' y' p',But [] W0 w1→FracAt w1 (.agg #[.bool s',.int .u64 x',.int .u64 y',.pointer p']) (f1 + f2 * (f3 - f1))→Q .normal (putted base [(20,.slice (some ⟨gb,0,none⟩) N N),(21,.int .i64 (ka : Int)),(22,.agg #[.bool s1,.int .u64 x1,.int .u64 y1,.pointer p1]),(23,.agg #[.bool s2,.int .u64 x2,.int .u64 y2,.pointer p2]),(24,.agg #[.bool s3,.int .u64 x3,.int .u64 y3,.pointer p3]),(25,.agg #[.bool s1,.int .u64 x1,.int .u64 y1,.pointer p1]),(26,v6),(27,v7),(28,(.agg #[.bool s',.int .u64 x',.int .u64 y',.pointer p'])),(29,.pointer (some ⟨gb,go,none⟩))]) (w1.setCells gb go [.bool s',.int .u64 x',.int .u64 y',.pointer p'])) :
  (Code.region id opJes true).wp Tryz.prog Q base W0:=by
 have hdr : ∀ {w},But [] W0.drew w→But [] W0 w:=fun h => (But.refl _ _).drew.trans' h
 have lgb : gb < W0.heap.size:=lt_of_cell cb.1
 have hT : ∀ i,i < 10→opJeT i < base.tmps.size:=fun i hi => by
  have h : opJeT i ≤ 29:=by revert i; decide
  omega
 refine region_flow (by kernel_rfl) (low_of (by kernel_rfl)) (fun i o ho => (calm_of (ops:=opJes) (by kernel_rfl) i o ho).1)
  (fun _ w => But [] W0.drew w) (opJeC gb go N ka s1 x1 y1 p1 s2 x2 y2 p2 s3 x3 y3 p3 f1 f2 f3) opJeT 10 rfl opJeT_inj hT (But.refl _ _)
  (fun i hi => ?_) ?_ (fun a w => ∃ w1 v6 v7 s' x' y' p',a = putted base [(20,.slice (some ⟨gb,0,none⟩) N N),(21,.int .i64 (ka : Int)),(22,.agg #[.bool s1,.int .u64 x1,.int .u64 y1,.pointer p1]),(23,.agg #[.bool s2,.int .u64 x2,.int .u64 y2,.pointer p2]),(24,.agg #[.bool s3,.int .u64 x3,.int .u64 y3,.pointer p3]),(25,.agg #[.bool s1,.int .u64 x1,.int .u64 y1,.pointer p1]),(26,v6),(27,v7),(28,(.agg #[.bool s',.int .u64 x',.int .u64 y',.pointer p'])),(29,.pointer (some ⟨gb,go,none⟩))]∧w = w1.setCells gb go [.bool s',.int .u64 x',.int .u64 y',.pointer p']∧But [] W0 w1∧FracAt w1 (.agg #[.bool s',.int .u64 x',.int .u64 y',.pointer p']) (f1 + f2 * (f3 - f1))) ?_ ?_
 ·exact dep_of (ops:=opJes) (ps:=[(10,0),(10,1),(10,2),(10,3),(10,4),(10,5),(10,6),(10,7),(10,8),(10,9)]) (by kernel_rfl) 10 i (by
   have : i = 0 ∨ i = 1 ∨ i = 2 ∨ i = 3 ∨ i = 4 ∨ i = 5 ∨ i = 6 ∨ i = 7 ∨ i = 8 ∨ i = 9:=by omega
   rcases this with rfl | rfl | rfl | rfl | rfl | rfl | rfl | rfl | rfl | rfl <;> simp)
 ·intro dn i o a w K hi ho hdi hH he hdep hK
  have hD:=fun j hj => (dep_have (ps:=[(6,4),(6,5),(7,3),(7,6),(8,2),(8,7),(9,0),(9,1),(9,2),(9,3),(9,4),(9,5),(9,6),(9,7),(9,8)]) (by kernel_rfl) ho (fun j => dn j = true∧opJeC gb go N ka s1 x1 y1 p1 s2 x2 y2 p2 s3 x3 y3 p3 f1 f2 f3 j w (a.eval (.tmp (opJeT j)))) hdep j hj).2
  have hk : ∀ v w',But [] w w'→opJeC gb go N ka s1 x1 y1 p1 s2 x2 y2 p2 s3 x3 y3 p3 f1 f2 f3 i w' v→K (a.put (some (opJeT i)) v) w':=fun v w' hb hv => hK v w' (hH.trans' hb) (fun j hj _ u hu => opJeC_but hu hj hb) hv
  have e7':=(he 7 (fun j hj e => absurd e.symm (by revert j; decide))).trans e7
  have e8':=(he 8 (fun j hj e => absurd e.symm (by revert j; decide))).trans e8
  have e4':=(he 4 (fun j hj e => absurd e.symm (by revert j; decide))).trans e4
  have e5':=(he 5 (fun j hj e => absurd e.symm (by revert j; decide))).trans e5
  have e9':=(he 9 (fun j hj e => absurd e.symm (by revert j; decide))).trans e9
  have : i = 0 ∨ i = 1 ∨ i = 2 ∨ i = 3 ∨ i = 4 ∨ i = 5 ∨ i = 6 ∨ i = 7 ∨ i = 8 ∨ i = 9:=by omega
  rcases this with rfl | rfl | rfl | rfl | rfl | rfl | rfl | rfl | rfl | rfl
  ·obtain rfl:=Option.some.inj ((show opJes[0]? = some opJe0 from rfl).symm.trans ho)
   exact wp_value (run_mvK a w _ _ _ _ _ _ _ e7') (hk _ _ (But.refl _ _) rfl)
  ·obtain rfl:=Option.some.inj ((show opJes[1]? = some opJe1 from rfl).symm.trans ho)
   exact wp_value (run_mvK a w _ _ _ _ _ _ _ e8') (hk _ _ (But.refl _ _) rfl)
  ·obtain rfl:=Option.some.inj ((show opJes[2]? = some opJe2 from rfl).symm.trans ho)
   exact wp_value (run_loadK a w _ _ _ _ _ _ g4 0 _ _ _ _ e4' (c1.but (hdr hH) (by simp))) (hk _ _ (But.refl _ _) rfl)
  ·obtain rfl:=Option.some.inj ((show opJes[3]? = some opJe3 from rfl).symm.trans ho)
   exact wp_value (run_loadK a w _ _ _ _ _ _ g5 0 _ _ _ _ e5' (c2.but (hdr hH) (by simp))) (hk _ _ (But.refl _ _) rfl)
  ·obtain rfl:=Option.some.inj ((show opJes[4]? = some opJe4 from rfl).symm.trans ho)
   exact wp_value (run_loadK a w _ _ _ _ _ _ g9 0 _ _ _ _ e9' (c3.but (hdr hH) (by simp))) (hk _ _ (But.refl _ _) rfl)
  ·obtain rfl:=Option.some.inj ((show opJes[5]? = some opJe5 from rfl).symm.trans ho)
   exact wp_value (run_loadK a w _ _ _ _ _ _ g4 0 _ _ _ _ e4' (c1.but (hdr hH) (by simp))) (hk _ _ (But.refl _ _) rfl)
  ·obtain rfl:=Option.some.inj ((show opJes[6]? = some opJe6 from rfl).symm.trans ho)
   exact wp_enter (run_subJ a w _ _ _ _ _ _ _ _ _ (hD 4 (by simp)) (hD 5 (by simp))) (R:=fun w' v => FracAt w' v (f3 - f1)∧But [] w w') (SU w (hdr hH)) (fun v w' hv => hk v w' hv.2 hv.1)
  ·obtain rfl:=Option.some.inj ((show opJes[7]? = some opJe7 from rfl).symm.trans ho)
   exact wp_enter (run_mulK a w _ _ _ _ _ _ _ _ _ (hD 3 (by simp)) rfl) (R:=fun w' v => FracAt w' v (f2 * (f3 - f1))∧But [] w w') (MU w (hdr hH) _ (hD 6 (by simp))) (fun v w' hv => hk v w' hv.2 hv.1)
  ·obtain rfl:=Option.some.inj ((show opJes[8]? = some opJe8 from rfl).symm.trans ho)
   exact wp_enter (run_addK a w _ _ _ _ _ _ _ _ _ (hD 2 (by simp)) rfl) (R:=fun w' v => FracAt w' v (f1 + f2 * (f3 - f1))∧But [] w w') (AD w (hdr hH) _ (hD 7 (by simp))) (fun v w' hv => hk v w' hv.2 hv.1)
  ·obtain rfl:=Option.some.inj ((show opJes[9]? = some opJe9 from rfl).symm.trans ho)
   refine wp_value (run_indexJ a w _ _ _ _ _ _ _ gb 0 N N ka hka hN2 (hD 0 (by simp)) (hD 1 (by simp))) (hk _ _ (But.refl _ _) ?_)
   show Value.pointer _ = Value.pointer _
   rw [hgo]
 ·intro dn o a w K ho hall h hK
  obtain rfl:=Option.some.inj ((show opJes[10]? = some opJe10 from rfl).symm.trans ho)
  have eb' : a.eval (.tmp 29) = .pointer (some ⟨gb,go,none⟩):=h.has 9 (by omega) (hall 9 (by omega))
  have cl : FracAt w (a.eval (.tmp 28)) (f1 + f2 * (f3 - f1)):=h.has 8 (by omega) (hall 8 (by omega))
  have cl':=cl
  obtain ⟨x',y',p',ev,-⟩:=cl.agg
  rw [ev] at cl'
  have ea:=h.puts hT (fun i => match i with
   | 0 => .slice (some ⟨gb,0,none⟩) N N
   | 1 => .int .i64 (ka : Int)
   | 2 => .agg #[.bool s1,.int .u64 x1,.int .u64 y1,.pointer p1]
   | 3 => .agg #[.bool s2,.int .u64 x2,.int .u64 y2,.pointer p2]
   | 4 => .agg #[.bool s3,.int .u64 x3,.int .u64 y3,.pointer p3]
   | 5 => .agg #[.bool s1,.int .u64 x1,.int .u64 y1,.pointer p1]
   | 6 => a.eval (.tmp 26)
   | 7 => a.eval (.tmp 27)
   | 8 => .agg #[.bool (decide ((f1 + f2 * (f3 - f1)).num < 0)),.int .u64 x',.int .u64 y',.pointer p']
   | _ => .pointer (some ⟨gb,go,none⟩)) (fun i hi => by
   have hc:=h.has i hi (hall i hi)
   have : i = 0 ∨ i = 1 ∨ i = 2 ∨ i = 3 ∨ i = 4 ∨ i = 5 ∨ i = 6 ∨ i = 7 ∨ i = 8 ∨ i = 9:=by omega
   rcases this with rfl | rfl | rfl | rfl | rfl | rfl | rfl | rfl | rfl | rfl
   all_goals first | exact ev | exact hc | rfl)
  exact wp_skipped (run_store4o a w _ _ _ _ _ gb go _ x' y' p' eb' ev (cb.but (hdr h.mem) (by simp)) (fun j => ((hdr h.mem).frozen (p:=⟨gb,j,none⟩) lgb (by simp)).trans (fzb j))) (hK _ _ ⟨w,a.eval (.tmp 26),a.eval (.tmp 27),_,x',y',p',ea,rfl,hdr h.mem,cl'⟩)
 ·rintro a w ⟨w1,v6,v7,s',x',y',p',rfl,rfl,h1,h2⟩
  exact hQ  w1 v6 v7 s' x' y' p' h1 h2
end Go.Proofs.YtloojmaamaambaaGreatDoor
