/- The statements of package whole that draw their order. -/
import Derived.Test.YtikgmhpbdcdogaaGreatDoorZRK
namespace Go.Proofs.YtikgmhpbdcdogaaGreatDoor
open Go.RowKit

theorem run_loadK (a : Act) (w : World) (d t : Nat) (u : TypeId) (ps : String) (ed : Array Edge) (gd : Option (Nat × Bool)) (b o : Nat) (s : Bool) (x y : Int) (p : Option Addr) (h1 : a.eval (.tmp t) = .pointer (some ⟨b,o,none⟩)) (hc : P4o w b o s x y p) :
  (execOp a.eval { dst:=some d,op:=Op.load 29 (.tmp t),type:=u,pos:=ps,after:=ed,guard:=gd }).run Tryz.prog w = .ok (.value (.agg #[.bool s,.int .u64 x,.int .u64 y,.pointer p])) w:=by
 obtain ⟨c0,c1,c2,c3⟩:=hc
 unfold execOp
 simp only [h1]
 go_simp
theorem run_eq0K (a : Act) (w : World) (d t : Nat) (u : TypeId) (ps : String) (ed : Array Edge) (gd : Option (Nat × Bool)) (x : Int) (h : a.eval (.tmp t) = .int .i64 x) :
  (execOp a.eval { dst:=some d,op:=Op.binOp BinOp.eql 3 (.tmp t) (.const (.int .i64 0)) 3,type:=u,pos:=ps,after:=ed,guard:=gd }).run Tryz.prog w = .ok (.value (.bool (x == 0))) w:=by
 have e : a.eval (.const (.int .i64 0)) = .int .i64 0:=rfl
 unfold execOp
 simp only [h,e]
 go_simp
theorem run_addK (a : Act) (w : World) (d t1 t2 : Nat) (u : TypeId) (ps : String) (ed : Array Edge) (gd : Option (Nat × Bool)) (x1 x2 : Value) (h1 : a.eval (.tmp t1) = x1) (h2 : a.eval (.tmp t2) = x2) :
  (execOp a.eval { dst:=some d,op:=Op.call { callee:=Callee.value (Operand.func 19),args:=#[Operand.tmp t1,Operand.tmp t2],argTypes:=#[29,29] },type:=u,pos:=ps,after:=ed,guard:=gd }).run Tryz.prog w = .ok (.enter 19 #[x1,x2]) w:=by
 unfold execOp
 go_simp
 rw [← h1,← h2]
 simp [Act.eval]
theorem run_mulK (a : Act) (w : World) (d t1 t2 : Nat) (u : TypeId) (ps : String) (ed : Array Edge) (gd : Option (Nat × Bool)) (x1 x2 : Value) (h1 : a.eval (.tmp t1) = x1) (h2 : a.eval (.tmp t2) = x2) :
  (execOp a.eval { dst:=some d,op:=Op.call { callee:=Callee.value (Operand.func 32),args:=#[Operand.tmp t1,Operand.tmp t2],argTypes:=#[29,29] },type:=u,pos:=ps,after:=ed,guard:=gd }).run Tryz.prog w = .ok (.enter 32 #[x1,x2]) w:=by
 unfold execOp
 go_simp
 rw [← h1,← h2]
 simp [Act.eval]
theorem run_cmpK (a : Act) (w : World) (d t1 t2 : Nat) (u : TypeId) (ps : String) (ed : Array Edge) (gd : Option (Nat × Bool)) (x1 x2 : Value) (h1 : a.eval (.tmp t1) = x1) (h2 : a.eval (.tmp t2) = x2) :
  (execOp a.eval { dst:=some d,op:=Op.call { callee:=Callee.value (Operand.func 22),args:=#[Operand.tmp t1,Operand.tmp t2],argTypes:=#[29,29] },type:=u,pos:=ps,after:=ed,guard:=gd }).run Tryz.prog w = .ok (.enter 22 #[x1,x2]) w:=by
 unfold execOp
 go_simp
 rw [← h1,← h2]
 simp [Act.eval]
theorem run_floorK (a : Act) (w : World) (d t1 : Nat) (u : TypeId) (ps : String) (ed : Array Edge) (gd : Option (Nat × Bool)) (x1 : Value) (h1 : a.eval (.tmp t1) = x1) :
  (execOp a.eval { dst:=some d,op:=Op.call { callee:=Callee.value (Operand.func 135),args:=#[Operand.tmp t1],argTypes:=#[29] },type:=u,pos:=ps,after:=ed,guard:=gd }).run Tryz.prog w = .ok (.enter 135 #[x1]) w:=by
 unfold execOp
 go_simp
 rw [← h1]
 simp [Act.eval]
theorem run_lowerK (a : Act) (w : World) (d t1 : Nat) (u : TypeId) (ps : String) (ed : Array Edge) (gd : Option (Nat × Bool)) (x1 : Value) (h1 : a.eval (.tmp t1) = x1) :
  (execOp a.eval { dst:=some d,op:=Op.call { callee:=Callee.value (Operand.func 112),args:=#[Operand.tmp t1],argTypes:=#[29] },type:=u,pos:=ps,after:=ed,guard:=gd }).run Tryz.prog w = .ok (.enter 112 #[x1]) w:=by
 unfold execOp
 go_simp
 rw [← h1]
 simp [Act.eval]
def opKa0 : Oper:={ dst:=some 12,op:=Op.load 29 (Operand.tmp 1),type:=29,pos:= "whole.go:24",after:=#[],guard:=none }
def opKa1 : Oper:={ dst:=some 13,op:=Op.load 29 (Operand.tmp 1),type:=29,pos:= "whole.go:24",after:=#[],guard:=none }
def opKa2 : Oper:={ dst:=some 14,op:=Op.call { callee:=Callee.value (Operand.func 135),args:=#[Operand.tmp 13],argTypes:=#[29] },type:=29,pos:= "whole.go:24",after:=#[{ on:=1,ground:=Ground.data }],guard:=none }
def opKa3 : Oper:={ dst:=some 15,op:=Op.call { callee:=Callee.value (Operand.func 22),args:=#[Operand.tmp 12,Operand.tmp 14],argTypes:=#[29,29] },type:=3,pos:= "whole.go:24",after:=#[{ on:=0,ground:=Ground.data },{ on:=2,ground:=Ground.data },{ on:=2,ground:=Ground.chain }],guard:=none }
def opKa4 : Oper:={ dst:=some 16,op:=Op.binOp BinOp.eql 3 (Operand.tmp 15) (Operand.const (Value.int IntKind.i64 0)) 3,type:=4,pos:= "whole.go:24",after:=#[{ on:=3,ground:=Ground.data }],guard:=none }
def opKas : Array Oper:=#[opKa0,opKa1,opKa2,opKa3,opKa4]
def opKaT (i : Nat) : Nat:=match i with
 | 0 => 12
 | 1 => 13
 | 2 => 14
 | 3 => 15
 | _ => 16
/-- what each operation's value is -/
def opKaC (s1 : Bool) (x1 : Int) (y1 : Int) (p1 : Option Addr) (r : Int) (g : Rat) (i : Nat) (w : World) (v : Value) : Prop:=match i with
 | 0 => v = .agg #[.bool s1,.int .u64 x1,.int .u64 y1,.pointer p1]
 | 1 => v = .agg #[.bool s1,.int .u64 x1,.int .u64 y1,.pointer p1]
 | 2 => FracAt w v g
 | 3 => v = .int .i64 r
 | _ => v = .bool (r == 0)
theorem opKaC_but {s1 : Bool} {x1 : Int} {y1 : Int} {p1 : Option Addr} {r : Int} {g : Rat} {i : Nat} {w w' : World} {v : Value} (h : opKaC s1 x1 y1 p1 r g i w v) (hi : i < 5) (hb : But [] w w') : opKaC s1 x1 y1 p1 r g i w' v:=by
 have : i = 0 ∨ i = 1 ∨ i = 2 ∨ i = 3 ∨ i = 4:=by omega
 rcases this with rfl | rfl | rfl | rfl | rfl
 all_goals first | exact h | exact FracAt.but h hb | exact FracsAt.but h hb
theorem opKaT_inj : ∀ i j,i < 5→j < 5→opKaT i = opKaT j→i = j:=fun i j hi hj => (by decide : ∀ i,i < 5→∀ j,j < 5→opKaT i = opKaT j→i = j) i hi j hj
set_option maxRecDepth 100000 in
theorem lower_region1 (id : Nat) (Q : Exit→Act→World→Prop) (base : Act) (W0 : World) (s1 : Bool) (x1 : Int) (y1 : Int) (p1 : Option Addr) (r : Int) (g : Rat) (hs : 16 < base.tmps.size) (g1 : Nat) (e1 : base.eval (.tmp 1) = .pointer (some ⟨g1,0,none⟩))
  (c1 : P4 W0 g1 s1 x1 y1 p1)
  (FL : ∀ w,But [] W0 w→Calls Tryz.prog 135 #[.agg #[.bool s1,.int .u64 x1,.int .u64 y1,.pointer p1]] w fun e w' => ∃ v,e = .returned v∧FracAt w' v g∧But [] w w')
  (CM : ∀ w,But [] W0 w→∀ v,FracAt w v g→Calls Tryz.prog 22 #[.agg #[.bool s1,.int .u64 x1,.int .u64 y1,.pointer p1],v] w fun e w' => e = .returned (.int .i64 r)∧But [] w w')
  (hQ : ∀ w (v2 : Value),But [] W0 w→Q .normal (putted base [(12,.agg #[.bool s1,.int .u64 x1,.int .u64 y1,.pointer p1]),(13,.agg #[.bool s1,.int .u64 x1,.int .u64 y1,.pointer p1]),(14,v2),(15,.int .i64 r),(16,.bool (r == 0))]) w) :
  (Code.region id opKas true).wp Tryz.prog Q base W0:=by
 have hdr : ∀ {w},But [] W0.drew w→But [] W0 w:=fun h => (But.refl _ _).drew.trans' h
 have hT : ∀ i,i < 5→opKaT i < base.tmps.size:=fun i hi => by
  have h : opKaT i ≤ 16:=by revert i; decide
  omega
 refine region_go (by kernel_rfl) (low_of (by kernel_rfl)) (opKaC s1 x1 y1 p1 r g) opKaT (by kernel_rfl) ?_ opKaT_inj hT (fun i w w' v hi h hb => opKaC_but h hi hb) ?_ ?_
 ·intro i o j want ho hg w v hv
  have hi : i < 5:=(Array.getElem?_eq_some_iff.1 ho).1
  have : i = 0 ∨ i = 1 ∨ i = 2 ∨ i = 3 ∨ i = 4:=by omega
  rcases this with rfl | rfl | rfl | rfl | rfl
  ·obtain rfl:=Option.some.inj ((show opKas[0]? = some opKa0 from rfl).symm.trans ho)
   exact absurd (show (none : Option (Nat × Bool)) = some (j,want) from hg) (by simp)
  ·obtain rfl:=Option.some.inj ((show opKas[1]? = some opKa1 from rfl).symm.trans ho)
   exact absurd (show (none : Option (Nat × Bool)) = some (j,want) from hg) (by simp)
  ·obtain rfl:=Option.some.inj ((show opKas[2]? = some opKa2 from rfl).symm.trans ho)
   exact absurd (show (none : Option (Nat × Bool)) = some (j,want) from hg) (by simp)
  ·obtain rfl:=Option.some.inj ((show opKas[3]? = some opKa3 from rfl).symm.trans ho)
   exact absurd (show (none : Option (Nat × Bool)) = some (j,want) from hg) (by simp)
  ·obtain rfl:=Option.some.inj ((show opKas[4]? = some opKa4 from rfl).symm.trans ho)
   exact absurd (show (none : Option (Nat × Bool)) = some (j,want) from hg) (by simp)
 ·intro i o a w K ho hH he hdep hk
  have hi : i < 5:=(Array.getElem?_eq_some_iff.1 ho).1
  have hD:=dep_have (ps:=[(2,1),(3,0),(3,2),(4,3)]) (by kernel_rfl) ho (fun j => opKaC s1 x1 y1 p1 r g j w (a.eval (.tmp (opKaT j)))) hdep
  have e1':=(he 1 (fun j hj e => absurd e.symm (by revert j; decide))).trans e1
  have : i = 0 ∨ i = 1 ∨ i = 2 ∨ i = 3 ∨ i = 4:=by omega
  rcases this with rfl | rfl | rfl | rfl | rfl
  ·obtain rfl:=Option.some.inj ((show opKas[0]? = some opKa0 from rfl).symm.trans ho)
   exact wp_value (run_loadK a w _ _ _ _ _ _ g1 0 _ _ _ _ e1' (c1.but (hdr hH) (by simp))) (hk _ _ (But.refl _ _) rfl)
  ·obtain rfl:=Option.some.inj ((show opKas[1]? = some opKa1 from rfl).symm.trans ho)
   exact wp_value (run_loadK a w _ _ _ _ _ _ g1 0 _ _ _ _ e1' (c1.but (hdr hH) (by simp))) (hk _ _ (But.refl _ _) rfl)
  ·obtain rfl:=Option.some.inj ((show opKas[2]? = some opKa2 from rfl).symm.trans ho)
   exact wp_enter (run_floorK a w _ _ _ _ _ _ _ (hD 1 (by simp))) (R:=fun w' v => FracAt w' v (g)∧But [] w w') (FL w (hdr hH)) (fun v w' hv => hk v w' hv.2 hv.1)
  ·obtain rfl:=Option.some.inj ((show opKas[3]? = some opKa3 from rfl).symm.trans ho)
   exact wp_enter (run_cmpK a w _ _ _ _ _ _ _ _ _ (hD 0 (by simp)) rfl) (R:=fun w' v => But [] w w'∧v = _) ((CM w (hdr hH) _ (hD 2 (by simp))).mono fun e w' ⟨he,hb⟩ => ⟨_,he,hb,rfl⟩) (fun v w' hv => hk v w' hv.1 hv.2)
  ·obtain rfl:=Option.some.inj ((show opKas[4]? = some opKa4 from rfl).symm.trans ho)
   exact wp_value (run_eq0K a w _ _ _ _ _ _ _ (hD 3 (by simp))) (hk _ _ (But.refl _ _) rfl)
 ·intro a w h
  have ea:=h.puts hT (fun i => match i with
   | 0 => .agg #[.bool s1,.int .u64 x1,.int .u64 y1,.pointer p1]
   | 1 => .agg #[.bool s1,.int .u64 x1,.int .u64 y1,.pointer p1]
   | 2 => a.eval (.tmp 14)
   | 3 => .int .i64 r
   | _ => .bool (r == 0)) (fun i hi => by
   have hi' : i < 5:=hi
   have hc:=h.has i hi rfl
   have : i = 0 ∨ i = 1 ∨ i = 2 ∨ i = 3 ∨ i = 4:=by omega
   rcases this with rfl | rfl | rfl | rfl | rfl
   all_goals first | exact hc | rfl)
  rw [ea]
  exact hQ w (a.eval (.tmp 14)) (hdr h.but)
def opKb0 : Oper:={ dst:=some 44,op:=Op.load 29 (Operand.tmp 6),type:=29,pos:= "whole.go:33",after:=#[],guard:=none }
def opKb1 : Oper:={ dst:=some 45,op:=Op.load 29 (Operand.tmp 10),type:=29,pos:= "whole.go:33",after:=#[],guard:=none }
def opKb2 : Oper:={ dst:=some 46,op:=Op.call { callee:=Callee.value (Operand.func 32),args:=#[Operand.tmp 44,Operand.tmp 45],argTypes:=#[29,29] },type:=29,pos:= "whole.go:33",after:=#[{ on:=0,ground:=Ground.data },{ on:=1,ground:=Ground.data }],guard:=none }
def opKb3 : Oper:={ dst:=some 47,op:=Op.load 29 (Operand.tmp 8),type:=29,pos:= "whole.go:33",after:=#[],guard:=none }
def opKb4 : Oper:={ dst:=some 48,op:=Op.call { callee:=Callee.value (Operand.func 19),args:=#[Operand.tmp 46,Operand.tmp 47],argTypes:=#[29,29] },type:=29,pos:= "whole.go:33",after:=#[{ on:=2,ground:=Ground.data },{ on:=3,ground:=Ground.data },{ on:=2,ground:=Ground.chain }],guard:=none }
def opKb5 : Oper:={ dst:=none,op:=Op.store 29 (Operand.tmp 6) (Operand.tmp 48),type:=0,pos:= "whole.go:33",after:=#[{ on:=4,ground:=Ground.data },{ on:=4,ground:=Ground.chain },{ on:=0,ground:=Ground.phase },{ on:=1,ground:=Ground.phase },{ on:=2,ground:=Ground.phase },{ on:=3,ground:=Ground.phase },{ on:=4,ground:=Ground.phase }],guard:=none }
def opKbs : Array Oper:=#[opKb0,opKb1,opKb2,opKb3,opKb4,opKb5]
def opKbT (i : Nat) : Nat:=match i with
 | 0 => 44
 | 1 => 45
 | 2 => 46
 | 3 => 47
 | _ => 48
/-- what each operation's value is -/
def opKbC (s1 : Bool) (x1 : Int) (y1 : Int) (p1 : Option Addr) (s2 : Bool) (x2 : Int) (y2 : Int) (p2 : Option Addr) (s3 : Bool) (x3 : Int) (y3 : Int) (p3 : Option Addr) (f1 : Rat) (f2 : Rat) (f3 : Rat) (i : Nat) (w : World) (v : Value) : Prop:=match i with
 | 0 => v = .agg #[.bool s1,.int .u64 x1,.int .u64 y1,.pointer p1]
 | 1 => v = .agg #[.bool s2,.int .u64 x2,.int .u64 y2,.pointer p2]
 | 2 => FracAt w v (f1 * f2)
 | 3 => v = .agg #[.bool s3,.int .u64 x3,.int .u64 y3,.pointer p3]
 | _ => FracAt w v (f1 * f2 + f3)
theorem opKbC_but {s1 : Bool} {x1 : Int} {y1 : Int} {p1 : Option Addr} {s2 : Bool} {x2 : Int} {y2 : Int} {p2 : Option Addr} {s3 : Bool} {x3 : Int} {y3 : Int} {p3 : Option Addr} {f1 : Rat} {f2 : Rat} {f3 : Rat} {i : Nat} {w w' : World} {v : Value} (h : opKbC s1 x1 y1 p1 s2 x2 y2 p2 s3 x3 y3 p3 f1 f2 f3 i w v) (hi : i < 5) (hb : But [] w w') : opKbC s1 x1 y1 p1 s2 x2 y2 p2 s3 x3 y3 p3 f1 f2 f3 i w' v:=by
 have : i = 0 ∨ i = 1 ∨ i = 2 ∨ i = 3 ∨ i = 4:=by omega
 rcases this with rfl | rfl | rfl | rfl | rfl
 all_goals first | exact h | exact FracAt.but h hb | exact FracsAt.but h hb
theorem opKbT_inj : ∀ i j,i < 5→j < 5→opKbT i = opKbT j→i = j:=fun i j hi hj => (by decide : ∀ i,i < 5→∀ j,j < 5→opKbT i = opKbT j→i = j) i hi j hj
set_option maxRecDepth 100000 in
theorem lower_region9 (id : Nat) (Q : Exit→Act→World→Prop) (base : Act) (W0 : World) (s1 : Bool) (x1 : Int) (y1 : Int) (p1 : Option Addr) (s2 : Bool) (x2 : Int) (y2 : Int) (p2 : Option Addr) (s3 : Bool) (x3 : Int) (y3 : Int) (p3 : Option Addr) (f1 : Rat) (f2 : Rat) (f3 : Rat) (gb g8 g10 : Nat) {sb : Bool} {xb yb : Int} {pb : Option Addr} (hs : 48 < base.tmps.size) (eb : base.eval (.tmp 6) = .pointer (some ⟨gb,0,none⟩)) (cb : P4 W0 gb sb xb yb pb) (fzb : ∀ j,W0.frozen? ⟨gb,j,none⟩ = false) (e10 : base.eval (.tmp 10) = .pointer (some ⟨g10,0,none⟩)) (e8 : base.eval (.tmp 8) = .pointer (some ⟨g8,0,none⟩))
  (c1 : P4 W0 gb s1 x1 y1 p1) (c2 : P4 W0 g10 s2 x2 y2 p2) (c3 : P4 W0 g8 s3 x3 y3 p3)
  (MU : ∀ w,But [] W0 w→Calls Tryz.prog 32 #[.agg #[.bool s1,.int .u64 x1,.int .u64 y1,.pointer p1],.agg #[.bool s2,.int .u64 x2,.int .u64 y2,.pointer p2]] w fun e w' => ∃ v,e = .returned v∧FracAt w' v (f1 * f2)∧But [] w w')
  (AD : ∀ w,But [] W0 w→∀ v,FracAt w v (f1 * f2)→Calls Tryz.prog 19 #[v,.agg #[.bool s3,.int .u64 x3,.int .u64 y3,.pointer p3]] w fun e w' => ∃ v,e = .returned v∧FracAt w' v (f1 * f2 + f3)∧But [] w w')
  (hQ : ∀ w1 v2 s' x' y' p',But [] W0 w1→FracAt w1 (.agg #[.bool s',.int .u64 x',.int .u64 y',.pointer p']) (f1 * f2 + f3)→Q .normal (putted base [(44,.agg #[.bool s1,.int .u64 x1,.int .u64 y1,.pointer p1]),(45,.agg #[.bool s2,.int .u64 x2,.int .u64 y2,.pointer p2]),(46,v2),(47,.agg #[.bool s3,.int .u64 x3,.int .u64 y3,.pointer p3]),(48,(.agg #[.bool s',.int .u64 x',.int .u64 y',.pointer p']))]) (put4 w1 gb s' x' y' p')) :
  (Code.region id opKbs true).wp Tryz.prog Q base W0:=by
 have hdr : ∀ {w},But [] W0.drew w→But [] W0 w:=fun h => (But.refl _ _).drew.trans' h
 have lgb : gb < W0.heap.size:=lt_of_cell cb.1
 have hT : ∀ i,i < 5→opKbT i < base.tmps.size:=fun i hi => by
  have h : opKbT i ≤ 48:=by revert i; decide
  omega
 refine region_flow (by kernel_rfl) (low_of (by kernel_rfl)) (fun i o ho => (calm_of (ops:=opKbs) (by kernel_rfl) i o ho).1)
  (fun _ w => But [] W0.drew w) (opKbC s1 x1 y1 p1 s2 x2 y2 p2 s3 x3 y3 p3 f1 f2 f3) opKbT 5 rfl opKbT_inj hT (But.refl _ _)
  (fun i hi => ?_) ?_ (fun a w => ∃ w1 v2 s' x' y' p',a = putted base [(44,.agg #[.bool s1,.int .u64 x1,.int .u64 y1,.pointer p1]),(45,.agg #[.bool s2,.int .u64 x2,.int .u64 y2,.pointer p2]),(46,v2),(47,.agg #[.bool s3,.int .u64 x3,.int .u64 y3,.pointer p3]),(48,(.agg #[.bool s',.int .u64 x',.int .u64 y',.pointer p']))]∧w = put4 w1 gb s' x' y' p'∧But [] W0 w1∧FracAt w1 (.agg #[.bool s',.int .u64 x',.int .u64 y',.pointer p']) (f1 * f2 + f3)) ?_ ?_
 ·exact dep_of (ops:=opKbs) (ps:=[(5,0),(5,1),(5,2),(5,3),(5,4)]) (by kernel_rfl) 5 i (by
   have : i = 0 ∨ i = 1 ∨ i = 2 ∨ i = 3 ∨ i = 4:=by omega
   rcases this with rfl | rfl | rfl | rfl | rfl <;> simp)
 ·intro dn i o a w K hi ho hdi hH he hdep hK
  have hD:=fun j hj => (dep_have (ps:=[(2,0),(2,1),(4,2),(4,3)]) (by kernel_rfl) ho (fun j => dn j = true∧opKbC s1 x1 y1 p1 s2 x2 y2 p2 s3 x3 y3 p3 f1 f2 f3 j w (a.eval (.tmp (opKbT j)))) hdep j hj).2
  have hk : ∀ v w',But [] w w'→opKbC s1 x1 y1 p1 s2 x2 y2 p2 s3 x3 y3 p3 f1 f2 f3 i w' v→K (a.put (some (opKbT i)) v) w':=fun v w' hb hv => hK v w' (hH.trans' hb) (fun j hj _ u hu => opKbC_but hu hj hb) hv
  have eb':=(he 6 (fun j hj e => absurd e.symm (by revert j; decide))).trans eb
  have e10':=(he 10 (fun j hj e => absurd e.symm (by revert j; decide))).trans e10
  have e8':=(he 8 (fun j hj e => absurd e.symm (by revert j; decide))).trans e8
  have : i = 0 ∨ i = 1 ∨ i = 2 ∨ i = 3 ∨ i = 4:=by omega
  rcases this with rfl | rfl | rfl | rfl | rfl
  ·obtain rfl:=Option.some.inj ((show opKbs[0]? = some opKb0 from rfl).symm.trans ho)
   exact wp_value (run_loadK a w _ _ _ _ _ _ gb 0 _ _ _ _ eb' (c1.but (hdr hH) (by simp))) (hk _ _ (But.refl _ _) rfl)
  ·obtain rfl:=Option.some.inj ((show opKbs[1]? = some opKb1 from rfl).symm.trans ho)
   exact wp_value (run_loadK a w _ _ _ _ _ _ g10 0 _ _ _ _ e10' (c2.but (hdr hH) (by simp))) (hk _ _ (But.refl _ _) rfl)
  ·obtain rfl:=Option.some.inj ((show opKbs[2]? = some opKb2 from rfl).symm.trans ho)
   exact wp_enter (run_mulK a w _ _ _ _ _ _ _ _ _ (hD 0 (by simp)) (hD 1 (by simp))) (R:=fun w' v => FracAt w' v (f1 * f2)∧But [] w w') (MU w (hdr hH)) (fun v w' hv => hk v w' hv.2 hv.1)
  ·obtain rfl:=Option.some.inj ((show opKbs[3]? = some opKb3 from rfl).symm.trans ho)
   exact wp_value (run_loadK a w _ _ _ _ _ _ g8 0 _ _ _ _ e8' (c3.but (hdr hH) (by simp))) (hk _ _ (But.refl _ _) rfl)
  ·obtain rfl:=Option.some.inj ((show opKbs[4]? = some opKb4 from rfl).symm.trans ho)
   exact wp_enter (run_addK a w _ _ _ _ _ _ _ _ _ rfl (hD 3 (by simp))) (R:=fun w' v => FracAt w' v (f1 * f2 + f3)∧But [] w w') (AD w (hdr hH) _ (hD 2 (by simp))) (fun v w' hv => hk v w' hv.2 hv.1)
 ·intro dn o a w K ho hall h hK
  obtain rfl:=Option.some.inj ((show opKbs[5]? = some opKb5 from rfl).symm.trans ho)
  have eb':=(h.eval 6 (fun j hj e => absurd e.symm (by revert j; decide))).trans eb
  have cl : FracAt w (a.eval (.tmp 48)) (f1 * f2 + f3):=h.has 4 (by omega) (hall 4 (by omega))
  have cl':=cl
  obtain ⟨x',y',p',ev,-⟩:=cl.agg
  rw [ev] at cl'
  have ea:=h.puts hT (fun i => match i with
   | 0 => .agg #[.bool s1,.int .u64 x1,.int .u64 y1,.pointer p1]
   | 1 => .agg #[.bool s2,.int .u64 x2,.int .u64 y2,.pointer p2]
   | 2 => a.eval (.tmp 46)
   | 3 => .agg #[.bool s3,.int .u64 x3,.int .u64 y3,.pointer p3]
   | _ => .agg #[.bool (decide ((f1 * f2 + f3).num < 0)),.int .u64 x',.int .u64 y',.pointer p']) (fun i hi => by
   have hc:=h.has i hi (hall i hi)
   have : i = 0 ∨ i = 1 ∨ i = 2 ∨ i = 3 ∨ i = 4:=by omega
   rcases this with rfl | rfl | rfl | rfl | rfl
   all_goals first | exact ev | exact hc | rfl)
  exact wp_skipped (run_store4 a w _ _ _ _ _ gb _ x' y' p' eb' ev (cb.but (hdr h.mem) (by simp)) (fun j => ((hdr h.mem).frozen (p:=⟨gb,j,none⟩) lgb (by simp)).trans (fzb j))) (hK _ _ ⟨w,a.eval (.tmp 46),_,x',y',p',ea,rfl,hdr h.mem,cl'⟩)
 ·rintro a w ⟨w1,v2,s',x',y',p',rfl,rfl,h1,h2⟩
  exact hQ  w1 v2 s' x' y' p' h1 h2
def opKc0 : Oper:={ dst:=some 21,op:=Op.load 29 (Operand.tmp 3),type:=29,pos:= "whole.go:16",after:=#[],guard:=none }
def opKc1 : Oper:={ dst:=some 22,op:=Op.load 29 (Operand.tmp 7),type:=29,pos:= "whole.go:16",after:=#[],guard:=none }
def opKc2 : Oper:={ dst:=some 23,op:=Op.load 29 (Operand.tmp 3),type:=29,pos:= "whole.go:16",after:=#[],guard:=none }
def opKc3 : Oper:={ dst:=some 24,op:=Op.call { callee:=Callee.value (Operand.func 32),args:=#[Operand.tmp 22,Operand.tmp 23],argTypes:=#[29,29] },type:=29,pos:= "whole.go:16",after:=#[{ on:=1,ground:=Ground.data },{ on:=2,ground:=Ground.data }],guard:=none }
def opKc4 : Oper:={ dst:=some 25,op:=Op.call { callee:=Callee.value (Operand.func 112),args:=#[Operand.tmp 24],argTypes:=#[29] },type:=29,pos:= "whole.go:16",after:=#[{ on:=3,ground:=Ground.data },{ on:=3,ground:=Ground.chain }],guard:=none }
def opKc5 : Oper:={ dst:=some 26,op:=Op.call { callee:=Callee.value (Operand.func 32),args:=#[Operand.tmp 21,Operand.tmp 25],argTypes:=#[29,29] },type:=29,pos:= "whole.go:16",after:=#[{ on:=0,ground:=Ground.data },{ on:=4,ground:=Ground.data },{ on:=4,ground:=Ground.chain }],guard:=none }
def opKc6 : Oper:={ dst:=none,op:=Op.store 29 (Operand.tmp 3) (Operand.tmp 26),type:=0,pos:= "whole.go:16",after:=#[{ on:=5,ground:=Ground.data },{ on:=5,ground:=Ground.chain },{ on:=0,ground:=Ground.phase },{ on:=1,ground:=Ground.phase },{ on:=2,ground:=Ground.phase },{ on:=3,ground:=Ground.phase },{ on:=4,ground:=Ground.phase },{ on:=5,ground:=Ground.phase }],guard:=none }
def opKcs : Array Oper:=#[opKc0,opKc1,opKc2,opKc3,opKc4,opKc5,opKc6]
def opKcT (i : Nat) : Nat:=match i with
 | 0 => 21
 | 1 => 22
 | 2 => 23
 | 3 => 24
 | 4 => 25
 | _ => 26
/-- what each operation's value is -/
def opKcC (s1 : Bool) (x1 : Int) (y1 : Int) (p1 : Option Addr) (s2 : Bool) (x2 : Int) (y2 : Int) (p2 : Option Addr) (f1 : Rat) (f2 : Rat) (z : Rat) (i : Nat) (w : World) (v : Value) : Prop:=match i with
 | 0 => v = .agg #[.bool s1,.int .u64 x1,.int .u64 y1,.pointer p1]
 | 1 => v = .agg #[.bool s2,.int .u64 x2,.int .u64 y2,.pointer p2]
 | 2 => v = .agg #[.bool s1,.int .u64 x1,.int .u64 y1,.pointer p1]
 | 3 => FracAt w v (f2 * f1)
 | 4 => FracAt w v z
 | _ => FracAt w v (f1 * z)
theorem opKcC_but {s1 : Bool} {x1 : Int} {y1 : Int} {p1 : Option Addr} {s2 : Bool} {x2 : Int} {y2 : Int} {p2 : Option Addr} {f1 : Rat} {f2 : Rat} {z : Rat} {i : Nat} {w w' : World} {v : Value} (h : opKcC s1 x1 y1 p1 s2 x2 y2 p2 f1 f2 z i w v) (hi : i < 6) (hb : But [] w w') : opKcC s1 x1 y1 p1 s2 x2 y2 p2 f1 f2 z i w' v:=by
 have : i = 0 ∨ i = 1 ∨ i = 2 ∨ i = 3 ∨ i = 4 ∨ i = 5:=by omega
 rcases this with rfl | rfl | rfl | rfl | rfl | rfl
 all_goals first | exact h | exact FracAt.but h hb | exact FracsAt.but h hb
theorem opKcT_inj : ∀ i j,i < 6→j < 6→opKcT i = opKcT j→i = j:=fun i j hi hj => (by decide : ∀ i,i < 6→∀ j,j < 6→opKcT i = opKcT j→i = j) i hi j hj
set_option maxRecDepth 100000 in
theorem common_region (id : Nat) (Q : Exit→Act→World→Prop) (base : Act) (W0 : World) (s1 : Bool) (x1 : Int) (y1 : Int) (p1 : Option Addr) (s2 : Bool) (x2 : Int) (y2 : Int) (p2 : Option Addr) (f1 : Rat) (f2 : Rat) (z : Rat) (gb g7 : Nat) {sb : Bool} {xb yb : Int} {pb : Option Addr} (hs : 26 < base.tmps.size) (eb : base.eval (.tmp 3) = .pointer (some ⟨gb,0,none⟩)) (cb : P4 W0 gb sb xb yb pb) (fzb : ∀ j,W0.frozen? ⟨gb,j,none⟩ = false) (e7 : base.eval (.tmp 7) = .pointer (some ⟨g7,0,none⟩))
  (c1 : P4 W0 gb s1 x1 y1 p1) (c2 : P4 W0 g7 s2 x2 y2 p2)
  (MU : ∀ w,But [] W0 w→Calls Tryz.prog 32 #[.agg #[.bool s2,.int .u64 x2,.int .u64 y2,.pointer p2],.agg #[.bool s1,.int .u64 x1,.int .u64 y1,.pointer p1]] w fun e w' => ∃ v,e = .returned v∧FracAt w' v (f2 * f1)∧But [] w w')
  (LO : ∀ w,But [] W0 w→∀ v,FracAt w v (f2 * f1)→Calls Tryz.prog 112 #[v] w fun e w' => ∃ v,e = .returned v∧FracAt w' v z∧But [] w w')
  (MZ : ∀ w,But [] W0 w→∀ v,FracAt w v z→Calls Tryz.prog 32 #[.agg #[.bool s1,.int .u64 x1,.int .u64 y1,.pointer p1],v] w fun e w' => ∃ v,e = .returned v∧FracAt w' v (f1 * z)∧But [] w w')
  (hQ : ∀ w1 v3 v4 s' x' y' p',But [] W0 w1→FracAt w1 (.agg #[.bool s',.int .u64 x',.int .u64 y',.pointer p']) (f1 * z)→Q .normal (putted base [(21,.agg #[.bool s1,.int .u64 x1,.int .u64 y1,.pointer p1]),(22,.agg #[.bool s2,.int .u64 x2,.int .u64 y2,.pointer p2]),(23,.agg #[.bool s1,.int .u64 x1,.int .u64 y1,.pointer p1]),(24,v3),(25,v4),(26,(.agg #[.bool s',.int .u64 x',.int .u64 y',.pointer p']))]) (put4 w1 gb s' x' y' p')) :
  (Code.region id opKcs true).wp Tryz.prog Q base W0:=by
 have hdr : ∀ {w},But [] W0.drew w→But [] W0 w:=fun h => (But.refl _ _).drew.trans' h
 have lgb : gb < W0.heap.size:=lt_of_cell cb.1
 have hT : ∀ i,i < 6→opKcT i < base.tmps.size:=fun i hi => by
  have h : opKcT i ≤ 26:=by revert i; decide
  omega
 refine region_flow (by kernel_rfl) (low_of (by kernel_rfl)) (fun i o ho => (calm_of (ops:=opKcs) (by kernel_rfl) i o ho).1)
  (fun _ w => But [] W0.drew w) (opKcC s1 x1 y1 p1 s2 x2 y2 p2 f1 f2 z) opKcT 6 rfl opKcT_inj hT (But.refl _ _)
  (fun i hi => ?_) ?_ (fun a w => ∃ w1 v3 v4 s' x' y' p',a = putted base [(21,.agg #[.bool s1,.int .u64 x1,.int .u64 y1,.pointer p1]),(22,.agg #[.bool s2,.int .u64 x2,.int .u64 y2,.pointer p2]),(23,.agg #[.bool s1,.int .u64 x1,.int .u64 y1,.pointer p1]),(24,v3),(25,v4),(26,(.agg #[.bool s',.int .u64 x',.int .u64 y',.pointer p']))]∧w = put4 w1 gb s' x' y' p'∧But [] W0 w1∧FracAt w1 (.agg #[.bool s',.int .u64 x',.int .u64 y',.pointer p']) (f1 * z)) ?_ ?_
 ·exact dep_of (ops:=opKcs) (ps:=[(6,0),(6,1),(6,2),(6,3),(6,4),(6,5)]) (by kernel_rfl) 6 i (by
   have : i = 0 ∨ i = 1 ∨ i = 2 ∨ i = 3 ∨ i = 4 ∨ i = 5:=by omega
   rcases this with rfl | rfl | rfl | rfl | rfl | rfl <;> simp)
 ·intro dn i o a w K hi ho hdi hH he hdep hK
  have hD:=fun j hj => (dep_have (ps:=[(3,1),(3,2),(4,3),(5,0),(5,4)]) (by kernel_rfl) ho (fun j => dn j = true∧opKcC s1 x1 y1 p1 s2 x2 y2 p2 f1 f2 z j w (a.eval (.tmp (opKcT j)))) hdep j hj).2
  have hk : ∀ v w',But [] w w'→opKcC s1 x1 y1 p1 s2 x2 y2 p2 f1 f2 z i w' v→K (a.put (some (opKcT i)) v) w':=fun v w' hb hv => hK v w' (hH.trans' hb) (fun j hj _ u hu => opKcC_but hu hj hb) hv
  have eb':=(he 3 (fun j hj e => absurd e.symm (by revert j; decide))).trans eb
  have e7':=(he 7 (fun j hj e => absurd e.symm (by revert j; decide))).trans e7
  have : i = 0 ∨ i = 1 ∨ i = 2 ∨ i = 3 ∨ i = 4 ∨ i = 5:=by omega
  rcases this with rfl | rfl | rfl | rfl | rfl | rfl
  ·obtain rfl:=Option.some.inj ((show opKcs[0]? = some opKc0 from rfl).symm.trans ho)
   exact wp_value (run_loadK a w _ _ _ _ _ _ gb 0 _ _ _ _ eb' (c1.but (hdr hH) (by simp))) (hk _ _ (But.refl _ _) rfl)
  ·obtain rfl:=Option.some.inj ((show opKcs[1]? = some opKc1 from rfl).symm.trans ho)
   exact wp_value (run_loadK a w _ _ _ _ _ _ g7 0 _ _ _ _ e7' (c2.but (hdr hH) (by simp))) (hk _ _ (But.refl _ _) rfl)
  ·obtain rfl:=Option.some.inj ((show opKcs[2]? = some opKc2 from rfl).symm.trans ho)
   exact wp_value (run_loadK a w _ _ _ _ _ _ gb 0 _ _ _ _ eb' (c1.but (hdr hH) (by simp))) (hk _ _ (But.refl _ _) rfl)
  ·obtain rfl:=Option.some.inj ((show opKcs[3]? = some opKc3 from rfl).symm.trans ho)
   exact wp_enter (run_mulK a w _ _ _ _ _ _ _ _ _ (hD 1 (by simp)) (hD 2 (by simp))) (R:=fun w' v => FracAt w' v (f2 * f1)∧But [] w w') (MU w (hdr hH)) (fun v w' hv => hk v w' hv.2 hv.1)
  ·obtain rfl:=Option.some.inj ((show opKcs[4]? = some opKc4 from rfl).symm.trans ho)
   exact wp_enter (run_lowerK a w _ _ _ _ _ _ _ rfl) (R:=fun w' v => FracAt w' v (z)∧But [] w w') (LO w (hdr hH) _ (hD 3 (by simp))) (fun v w' hv => hk v w' hv.2 hv.1)
  ·obtain rfl:=Option.some.inj ((show opKcs[5]? = some opKc5 from rfl).symm.trans ho)
   exact wp_enter (run_mulK a w _ _ _ _ _ _ _ _ _ (hD 0 (by simp)) rfl) (R:=fun w' v => FracAt w' v (f1 * z)∧But [] w w') (MZ w (hdr hH) _ (hD 4 (by simp))) (fun v w' hv => hk v w' hv.2 hv.1)
 ·intro dn o a w K ho hall h hK
  obtain rfl:=Option.some.inj ((show opKcs[6]? = some opKc6 from rfl).symm.trans ho)
  have eb':=(h.eval 3 (fun j hj e => absurd e.symm (by revert j; decide))).trans eb
  have cl : FracAt w (a.eval (.tmp 26)) (f1 * z):=h.has 5 (by omega) (hall 5 (by omega))
  have cl':=cl
  obtain ⟨x',y',p',ev,-⟩:=cl.agg
  rw [ev] at cl'
  have ea:=h.puts hT (fun i => match i with
   | 0 => .agg #[.bool s1,.int .u64 x1,.int .u64 y1,.pointer p1]
   | 1 => .agg #[.bool s2,.int .u64 x2,.int .u64 y2,.pointer p2]
   | 2 => .agg #[.bool s1,.int .u64 x1,.int .u64 y1,.pointer p1]
   | 3 => a.eval (.tmp 24)
   | 4 => a.eval (.tmp 25)
   | _ => .agg #[.bool (decide ((f1 * z).num < 0)),.int .u64 x',.int .u64 y',.pointer p']) (fun i hi => by
   have hc:=h.has i hi (hall i hi)
   have : i = 0 ∨ i = 1 ∨ i = 2 ∨ i = 3 ∨ i = 4 ∨ i = 5:=by omega
   rcases this with rfl | rfl | rfl | rfl | rfl | rfl
   all_goals first | exact ev | exact hc | rfl)
  exact wp_skipped (run_store4 a w _ _ _ _ _ gb _ x' y' p' eb' ev (cb.but (hdr h.mem) (by simp)) (fun j => ((hdr h.mem).frozen (p:=⟨gb,j,none⟩) lgb (by simp)).trans (fzb j))) (hK _ _ ⟨w,a.eval (.tmp 24),a.eval (.tmp 25),_,x',y',p',ea,rfl,hdr h.mem,cl'⟩)
 ·rintro a w ⟨w1,v3,v4,s',x',y',p',rfl,rfl,h1,h2⟩
  exact hQ  w1 v3 v4 s' x' y' p' h1 h2
end Go.Proofs.YtikgmhpbdcdogaaGreatDoor

namespace Go.Proofs.YtikgmhpbdcdogaaGreatDoor
open Go.RowKit

theorem run_oneK (a : Act) (w : World) (d : Nat) (u : TypeId) (ps : String) (ed : Array Edge) (gd : Option (Nat × Bool)) (n : Int) :
  (execOp a.eval { dst:=some d,op:=Op.call { callee:=Callee.value (Operand.func 24),args:=#[Operand.const (Value.int IntKind.i64 n)],argTypes:=#[3] },type:=u,pos:=ps,after:=ed,guard:=gd }).run Tryz.prog w = .ok (.enter 24 #[.int .i64 n]) w:=by
 unfold execOp
 go_simp
theorem run_wholeK (a : Act) (w : World) (d t1 : Nat) (u : TypeId) (ps : String) (ed : Array Edge) (gd : Option (Nat × Bool)) (x1 : Value) (h1 : a.eval (.tmp t1) = x1) :
  (execOp a.eval { dst:=some d,op:=Op.call { callee:=Callee.value (Operand.func 24),args:=#[Operand.tmp t1],argTypes:=#[3] },type:=u,pos:=ps,after:=ed,guard:=gd }).run Tryz.prog w = .ok (.enter 24 #[x1]) w:=by
 unfold execOp
 go_simp
 rw [← h1]
 simp [Act.eval]
theorem run_ne0K (a : Act) (w : World) (d t : Nat) (u : TypeId) (ps : String) (ed : Array Edge) (gd : Option (Nat × Bool)) (x : Int) (h : a.eval (.tmp t) = .int .i64 x) :
  (execOp a.eval { dst:=some d,op:=Op.binOp BinOp.neq 3 (.tmp t) (.const (.int .i64 0)) 3,type:=u,pos:=ps,after:=ed,guard:=gd }).run Tryz.prog w = .ok (.value (.bool (x != 0))) w:=by
 have e : a.eval (.const (.int .i64 0)) = .int .i64 0:=rfl
 unfold execOp
 simp only [h,e]
 go_simp
theorem run_mvK (a : Act) (w : World) (d t : Nat) (u : TypeId) (ps : String) (ed : Array Edge) (gd : Option (Nat × Bool)) (N : Value) (h : a.eval (.tmp t) = N) :
  (execOp a.eval { dst:=some d,op:=Op.move (.tmp t),type:=u,pos:=ps,after:=ed,guard:=gd }).run Tryz.prog w = .ok (.value N) w:=by
 unfold execOp
 simp only [h]
 go_simp
theorem run_ofK (a : Act) (w : World) (d t1 t2 : Nat) (u : TypeId) (ps : String) (ed : Array Edge) (gd : Option (Nat × Bool)) (f : FuncId) (fr : Array Value) (x2 : Value) (h1 : a.eval (.tmp t1) = .func (.func f) #[] fr) (h2 : a.eval (.tmp t2) = x2) (he : ∀ args W,(callFunc f args).run Tryz.prog W = .ok (.enter f args) W) :
  (execOp a.eval { dst:=some d,op:=Op.call { callee:=Callee.value (Operand.tmp t1),args:=#[Operand.tmp t2],argTypes:=#[3] },type:=u,pos:=ps,after:=ed,guard:=gd }).run Tryz.prog w = .ok (.enter f (#[x2] ++ fr)) w:=by
 have h1' : a.tmps[t1]?.getD undef = .func (.func f) #[] fr:=by rw [← Array.getD_eq_getD_getElem?]; exact h1
 have h2' : a.tmps[t2]?.getD undef = x2:=by rw [← Array.getD_eq_getD_getElem?]; exact h2
 simp [execOp,resolve,Deferred.ofValue,invoke,Act.eval,h1',h2',he,go_sem]
def opKd0 : Oper:={ dst:=some 29,op:=Op.load 29 (Operand.tmp 3),type:=29,pos:= "claims.go:26",after:=#[],guard:=none }
def opKd1 : Oper:={ dst:=some 30,op:=Op.call { callee:=Callee.value (Operand.func 24),args:=#[Operand.const (Value.int IntKind.i64 1)],argTypes:=#[3] },type:=29,pos:= "claims.go:26",after:=#[],guard:=none }
def opKd2 : Oper:={ dst:=some 31,op:=Op.call { callee:=Callee.value (Operand.func 22),args:=#[Operand.tmp 29,Operand.tmp 30],argTypes:=#[29,29] },type:=3,pos:= "claims.go:26",after:=#[{ on:=0,ground:=Ground.data },{ on:=1,ground:=Ground.data },{ on:=1,ground:=Ground.chain }],guard:=none }
def opKd3 : Oper:={ dst:=some 32,op:=Op.binOp BinOp.neq 3 (Operand.tmp 31) (Operand.const (Value.int IntKind.i64 0)) 3,type:=4,pos:= "claims.go:26",after:=#[{ on:=2,ground:=Ground.data }],guard:=none }
def opKds : Array Oper:=#[opKd0,opKd1,opKd2,opKd3]
def opKdT (i : Nat) : Nat:=match i with
 | 0 => 29
 | 1 => 30
 | 2 => 31
 | _ => 32
/-- what each operation's value is -/
def opKdC (s1 : Bool) (x1 : Int) (y1 : Int) (p1 : Option Addr) (ws : Bool) (wx : Int) (r : Int) (i : Nat) (_w : World) (v : Value) : Prop:=match i with
 | 0 => v = .agg #[.bool s1,.int .u64 x1,.int .u64 y1,.pointer p1]
 | 1 => v = .agg #[.bool ws,.int .u64 wx,.int .u64 0,.pointer none]
 | 2 => v = .int .i64 r
 | _ => v = .bool (r != 0)
theorem opKdC_but {s1 : Bool} {x1 : Int} {y1 : Int} {p1 : Option Addr} {ws : Bool} {wx : Int} {r : Int} {i : Nat} {w w' : World} {v : Value} (h : opKdC s1 x1 y1 p1 ws wx r i w v) (hi : i < 4) (_hb : But [] w w') : opKdC s1 x1 y1 p1 ws wx r i w' v:=by
 have : i = 0 ∨ i = 1 ∨ i = 2 ∨ i = 3:=by omega
 rcases this with rfl | rfl | rfl | rfl
 all_goals first | exact h | exact FracAt.but h hb | exact FracsAt.but h hb
theorem opKdT_inj : ∀ i j,i < 4→j < 4→opKdT i = opKdT j→i = j:=fun i j hi hj => (by decide : ∀ i,i < 4→∀ j,j < 4→opKdT i = opKdT j→i = j) i hi j hj
set_option maxRecDepth 100000 in
theorem check_region (id : Nat) (Q : Exit→Act→World→Prop) (base : Act) (W0 : World) (s1 : Bool) (x1 : Int) (y1 : Int) (p1 : Option Addr) (ws : Bool) (wx : Int) (r : Int) (hs : 32 < base.tmps.size) (g3 : Nat) (e3 : base.eval (.tmp 3) = .pointer (some ⟨g3,0,none⟩))
  (c1 : P4 W0 g3 s1 x1 y1 p1)
  (WH : ∀ w,Calls Tryz.prog 24 #[.int .i64 1] w fun e w' => e = .returned (.agg #[.bool ws,.int .u64 wx,.int .u64 0,.pointer none])∧But [] w w')
  (CM : ∀ w,But [] W0 w→Calls Tryz.prog 22 #[.agg #[.bool s1,.int .u64 x1,.int .u64 y1,.pointer p1],.agg #[.bool ws,.int .u64 wx,.int .u64 0,.pointer none]] w fun e w' => e = .returned (.int .i64 r)∧But [] w w')
  (hQ : ∀ w,But [] W0 w→Q .normal (putted base [(29,.agg #[.bool s1,.int .u64 x1,.int .u64 y1,.pointer p1]),(30,.agg #[.bool ws,.int .u64 wx,.int .u64 0,.pointer none]),(31,.int .i64 r),(32,.bool (r != 0))]) w) :
  (Code.region id opKds true).wp Tryz.prog Q base W0:=by
 have hdr : ∀ {w},But [] W0.drew w→But [] W0 w:=fun h => (But.refl _ _).drew.trans' h
 have hT : ∀ i,i < 4→opKdT i < base.tmps.size:=fun i hi => by
  have h : opKdT i ≤ 32:=by revert i; decide
  omega
 refine region_go (by kernel_rfl) (low_of (by kernel_rfl)) (opKdC s1 x1 y1 p1 ws wx r) opKdT (by kernel_rfl) ?_ opKdT_inj hT (fun i w w' v hi h hb => opKdC_but h hi hb) ?_ ?_
 ·intro i o j want ho hg w v hv
  have hi : i < 4:=(Array.getElem?_eq_some_iff.1 ho).1
  have : i = 0 ∨ i = 1 ∨ i = 2 ∨ i = 3:=by omega
  rcases this with rfl | rfl | rfl | rfl
  ·obtain rfl:=Option.some.inj ((show opKds[0]? = some opKd0 from rfl).symm.trans ho)
   exact absurd (show (none : Option (Nat × Bool)) = some (j,want) from hg) (by simp)
  ·obtain rfl:=Option.some.inj ((show opKds[1]? = some opKd1 from rfl).symm.trans ho)
   exact absurd (show (none : Option (Nat × Bool)) = some (j,want) from hg) (by simp)
  ·obtain rfl:=Option.some.inj ((show opKds[2]? = some opKd2 from rfl).symm.trans ho)
   exact absurd (show (none : Option (Nat × Bool)) = some (j,want) from hg) (by simp)
  ·obtain rfl:=Option.some.inj ((show opKds[3]? = some opKd3 from rfl).symm.trans ho)
   exact absurd (show (none : Option (Nat × Bool)) = some (j,want) from hg) (by simp)
 ·intro i o a w K ho hH he hdep hk
  have hi : i < 4:=(Array.getElem?_eq_some_iff.1 ho).1
  have hD:=dep_have (ps:=[(2,0),(2,1),(3,2)]) (by kernel_rfl) ho (fun j => opKdC s1 x1 y1 p1 ws wx r j w (a.eval (.tmp (opKdT j)))) hdep
  have e3':=(he 3 (fun j hj e => absurd e.symm (by revert j; decide))).trans e3
  have : i = 0 ∨ i = 1 ∨ i = 2 ∨ i = 3:=by omega
  rcases this with rfl | rfl | rfl | rfl
  ·obtain rfl:=Option.some.inj ((show opKds[0]? = some opKd0 from rfl).symm.trans ho)
   exact wp_value (run_loadK a w _ _ _ _ _ _ g3 0 _ _ _ _ e3' (c1.but (hdr hH) (by simp))) (hk _ _ (But.refl _ _) rfl)
  ·obtain rfl:=Option.some.inj ((show opKds[1]? = some opKd1 from rfl).symm.trans ho)
   exact wp_enter (run_oneK a w _ _ _ _ _ 1) (R:=fun w' v => But [] w w'∧v = _) ((WH w).mono fun e w' ⟨he,hb⟩ => ⟨_,he,hb,rfl⟩) (fun v w' hv => hk v w' hv.1 hv.2)
  ·obtain rfl:=Option.some.inj ((show opKds[2]? = some opKd2 from rfl).symm.trans ho)
   exact wp_enter (run_cmpK a w _ _ _ _ _ _ _ _ _ (hD 0 (by simp)) (hD 1 (by simp))) (R:=fun w' v => But [] w w'∧v = _) ((CM w (hdr hH)).mono fun e w' ⟨he,hb⟩ => ⟨_,he,hb,rfl⟩) (fun v w' hv => hk v w' hv.1 hv.2)
  ·obtain rfl:=Option.some.inj ((show opKds[3]? = some opKd3 from rfl).symm.trans ho)
   exact wp_value (run_ne0K a w _ _ _ _ _ _ _ (hD 2 (by simp))) (hk _ _ (But.refl _ _) rfl)
 ·intro a w h
  have ea:=h.puts hT (fun i => match i with
   | 0 => .agg #[.bool s1,.int .u64 x1,.int .u64 y1,.pointer p1]
   | 1 => .agg #[.bool ws,.int .u64 wx,.int .u64 0,.pointer none]
   | 2 => .int .i64 r
   | _ => .bool (r != 0)) (fun i hi => by
   have hi' : i < 4:=hi
   have hc:=h.has i hi rfl
   have : i = 0 ∨ i = 1 ∨ i = 2 ∨ i = 3:=by omega
   rcases this with rfl | rfl | rfl | rfl
   all_goals first | exact hc | rfl)
  rw [ea]
  exact hQ w (hdr h.but)
def opKe0 : Oper:={ dst:=some 15,op:=Op.load 29 (Operand.tmp 5),type:=29,pos:= "claims.go:70",after:=#[],guard:=none }
def opKe1 : Oper:={ dst:=some 16,op:=Op.load 29 (Operand.tmp 7),type:=29,pos:= "claims.go:70",after:=#[],guard:=none }
def opKe2 : Oper:={ dst:=some 17,op:=Op.move (Operand.tmp 1),type:=90,pos:= "claims.go:70",after:=#[],guard:=none }
def opKe3 : Oper:={ dst:=some 18,op:=Op.move (Operand.tmp 6),type:=3,pos:= "claims.go:70",after:=#[],guard:=none }
def opKe4 : Oper:={ dst:=some 19,op:=Op.call { callee:=Callee.value (Operand.tmp 17),args:=#[Operand.tmp 18],argTypes:=#[3] },type:=3,pos:= "claims.go:70",after:=#[{ on:=2,ground:=Ground.data },{ on:=3,ground:=Ground.data }],guard:=none }
def opKe5 : Oper:={ dst:=some 20,op:=Op.call { callee:=Callee.value (Operand.func 24),args:=#[Operand.tmp 19],argTypes:=#[3] },type:=29,pos:= "claims.go:70",after:=#[{ on:=4,ground:=Ground.data },{ on:=4,ground:=Ground.chain }],guard:=none }
def opKe6 : Oper:={ dst:=some 21,op:=Op.call { callee:=Callee.value (Operand.func 32),args:=#[Operand.tmp 16,Operand.tmp 20],argTypes:=#[29,29] },type:=29,pos:= "claims.go:70",after:=#[{ on:=1,ground:=Ground.data },{ on:=5,ground:=Ground.data },{ on:=5,ground:=Ground.chain }],guard:=none }
def opKe7 : Oper:={ dst:=some 22,op:=Op.call { callee:=Callee.value (Operand.func 19),args:=#[Operand.tmp 15,Operand.tmp 21],argTypes:=#[29,29] },type:=29,pos:= "claims.go:70",after:=#[{ on:=0,ground:=Ground.data },{ on:=6,ground:=Ground.data },{ on:=6,ground:=Ground.chain }],guard:=none }
def opKe8 : Oper:={ dst:=none,op:=Op.store 29 (Operand.tmp 5) (Operand.tmp 22),type:=0,pos:= "claims.go:70",after:=#[{ on:=7,ground:=Ground.data },{ on:=7,ground:=Ground.chain },{ on:=0,ground:=Ground.phase },{ on:=1,ground:=Ground.phase },{ on:=2,ground:=Ground.phase },{ on:=3,ground:=Ground.phase },{ on:=4,ground:=Ground.phase },{ on:=5,ground:=Ground.phase },{ on:=6,ground:=Ground.phase },{ on:=7,ground:=Ground.phase }],guard:=none }
def opKes : Array Oper:=#[opKe0,opKe1,opKe2,opKe3,opKe4,opKe5,opKe6,opKe7,opKe8]
def opKeT (i : Nat) : Nat:=match i with
 | 0 => 15
 | 1 => 16
 | 2 => 17
 | 3 => 18
 | 4 => 19
 | 5 => 20
 | 6 => 21
 | _ => 22
/-- what each operation's value is -/
def opKeC (s1 : Bool) (x1 : Int) (y1 : Int) (p1 : Option Addr) (s2 : Bool) (x2 : Int) (y2 : Int) (p2 : Option Addr) (fo : FuncId) (fe : Array Value) (k : Int) (n : Int) (ws : Bool) (wx : Int) (f1 : Rat) (f2 : Rat) (i : Nat) (w : World) (v : Value) : Prop:=match i with
 | 0 => v = .agg #[.bool s1,.int .u64 x1,.int .u64 y1,.pointer p1]
 | 1 => v = .agg #[.bool s2,.int .u64 x2,.int .u64 y2,.pointer p2]
 | 2 => v = .func (.func fo) #[] fe
 | 3 => v = .int .i64 k
 | 4 => v = .int .i64 n
 | 5 => v = .agg #[.bool ws,.int .u64 wx,.int .u64 0,.pointer none]
 | 6 => FracAt w v (f2 * ((n : Int) : Rat))
 | _ => FracAt w v (f1 + f2 * ((n : Int) : Rat))
theorem opKeC_but {s1 : Bool} {x1 : Int} {y1 : Int} {p1 : Option Addr} {s2 : Bool} {x2 : Int} {y2 : Int} {p2 : Option Addr} {fo : FuncId} {fe : Array Value} {k : Int} {n : Int} {ws : Bool} {wx : Int} {f1 : Rat} {f2 : Rat} {i : Nat} {w w' : World} {v : Value} (h : opKeC s1 x1 y1 p1 s2 x2 y2 p2 fo fe k n ws wx f1 f2 i w v) (hi : i < 8) (hb : But [] w w') : opKeC s1 x1 y1 p1 s2 x2 y2 p2 fo fe k n ws wx f1 f2 i w' v:=by
 have : i = 0 ∨ i = 1 ∨ i = 2 ∨ i = 3 ∨ i = 4 ∨ i = 5 ∨ i = 6 ∨ i = 7:=by omega
 rcases this with rfl | rfl | rfl | rfl | rfl | rfl | rfl | rfl
 all_goals first | exact h | exact FracAt.but h hb | exact FracsAt.but h hb
theorem opKeT_inj : ∀ i j,i < 8→j < 8→opKeT i = opKeT j→i = j:=fun i j hi hj => (by decide : ∀ i,i < 8→∀ j,j < 8→opKeT i = opKeT j→i = j) i hi j hj
set_option maxRecDepth 100000 in
theorem mean_region (id : Nat) (Q : Exit→Act→World→Prop) (base : Act) (W0 : World) (s1 : Bool) (x1 : Int) (y1 : Int) (p1 : Option Addr) (s2 : Bool) (x2 : Int) (y2 : Int) (p2 : Option Addr) (fo : FuncId) (fe : Array Value) (k : Int) (n : Int) (ws : Bool) (wx : Int) (f1 : Rat) (f2 : Rat) (gb g7 : Nat) {sb : Bool} {xb yb : Int} {pb : Option Addr} (hs : 22 < base.tmps.size) (eb : base.eval (.tmp 5) = .pointer (some ⟨gb,0,none⟩)) (cb : P4 W0 gb sb xb yb pb) (fzb : ∀ j,W0.frozen? ⟨gb,j,none⟩ = false) (e7 : base.eval (.tmp 7) = .pointer (some ⟨g7,0,none⟩)) (e1 : base.eval (.tmp 1) = .func (.func fo) #[] fe) (e6 : base.eval (.tmp 6) = .int .i64 k)
  (c1 : P4 W0 gb s1 x1 y1 p1) (c2 : P4 W0 g7 s2 x2 y2 p2) (EN : ∀ args W,(callFunc fo args).run Tryz.prog W = .ok (.enter fo args) W)
  (OF : ∀ w,But [] W0 w→Calls Tryz.prog fo (#[.int .i64 k] ++ fe) w fun e w' => e = .returned (.int .i64 n)∧But [] w w')
  (WH : ∀ w,Calls Tryz.prog 24 #[.int .i64 n] w fun e w' => e = .returned (.agg #[.bool ws,.int .u64 wx,.int .u64 0,.pointer none])∧But [] w w')
  (MU : ∀ w,But [] W0 w→Calls Tryz.prog 32 #[.agg #[.bool s2,.int .u64 x2,.int .u64 y2,.pointer p2],.agg #[.bool ws,.int .u64 wx,.int .u64 0,.pointer none]] w fun e w' => ∃ v,e = .returned v∧FracAt w' v (f2 * ((n : Int) : Rat))∧But [] w w')
  (AD : ∀ w,But [] W0 w→∀ v,FracAt w v (f2 * ((n : Int) : Rat))→Calls Tryz.prog 19 #[.agg #[.bool s1,.int .u64 x1,.int .u64 y1,.pointer p1],v] w fun e w' => ∃ v,e = .returned v∧FracAt w' v (f1 + f2 * ((n : Int) : Rat))∧But [] w w')
  (hQ : ∀ w1 v6 s' x' y' p',But [] W0 w1→FracAt w1 (.agg #[.bool s',.int .u64 x',.int .u64 y',.pointer p']) (f1 + f2 * ((n : Int) : Rat))→Q .normal (putted base [(15,.agg #[.bool s1,.int .u64 x1,.int .u64 y1,.pointer p1]),(16,.agg #[.bool s2,.int .u64 x2,.int .u64 y2,.pointer p2]),(17,.func (.func fo) #[] fe),(18,.int .i64 k),(19,.int .i64 n),(20,.agg #[.bool ws,.int .u64 wx,.int .u64 0,.pointer none]),(21,v6),(22,(.agg #[.bool s',.int .u64 x',.int .u64 y',.pointer p']))]) (put4 w1 gb s' x' y' p')) :
  (Code.region id opKes true).wp Tryz.prog Q base W0:=by
 have hdr : ∀ {w},But [] W0.drew w→But [] W0 w:=fun h => (But.refl _ _).drew.trans' h
 have lgb : gb < W0.heap.size:=lt_of_cell cb.1
 have hT : ∀ i,i < 8→opKeT i < base.tmps.size:=fun i hi => by
  have h : opKeT i ≤ 22:=by revert i; decide
  omega
 refine region_flow (by kernel_rfl) (low_of (by kernel_rfl)) (fun i o ho => (calm_of (ops:=opKes) (by kernel_rfl) i o ho).1)
  (fun _ w => But [] W0.drew w) (opKeC s1 x1 y1 p1 s2 x2 y2 p2 fo fe k n ws wx f1 f2) opKeT 8 rfl opKeT_inj hT (But.refl _ _)
  (fun i hi => ?_) ?_ (fun a w => ∃ w1 v6 s' x' y' p',a = putted base [(15,.agg #[.bool s1,.int .u64 x1,.int .u64 y1,.pointer p1]),(16,.agg #[.bool s2,.int .u64 x2,.int .u64 y2,.pointer p2]),(17,.func (.func fo) #[] fe),(18,.int .i64 k),(19,.int .i64 n),(20,.agg #[.bool ws,.int .u64 wx,.int .u64 0,.pointer none]),(21,v6),(22,(.agg #[.bool s',.int .u64 x',.int .u64 y',.pointer p']))]∧w = put4 w1 gb s' x' y' p'∧But [] W0 w1∧FracAt w1 (.agg #[.bool s',.int .u64 x',.int .u64 y',.pointer p']) (f1 + f2 * ((n : Int) : Rat))) ?_ ?_
 ·exact dep_of (ops:=opKes) (ps:=[(8,0),(8,1),(8,2),(8,3),(8,4),(8,5),(8,6),(8,7)]) (by kernel_rfl) 8 i (by
   have : i = 0 ∨ i = 1 ∨ i = 2 ∨ i = 3 ∨ i = 4 ∨ i = 5 ∨ i = 6 ∨ i = 7:=by omega
   rcases this with rfl | rfl | rfl | rfl | rfl | rfl | rfl | rfl <;> simp)
 ·intro dn i o a w K hi ho hdi hH he hdep hK
  have hD:=fun j hj => (dep_have (ps:=[(4,2),(4,3),(5,4),(6,1),(6,5),(7,0),(7,6)]) (by kernel_rfl) ho (fun j => dn j = true∧opKeC s1 x1 y1 p1 s2 x2 y2 p2 fo fe k n ws wx f1 f2 j w (a.eval (.tmp (opKeT j)))) hdep j hj).2
  have hk : ∀ v w',But [] w w'→opKeC s1 x1 y1 p1 s2 x2 y2 p2 fo fe k n ws wx f1 f2 i w' v→K (a.put (some (opKeT i)) v) w':=fun v w' hb hv => hK v w' (hH.trans' hb) (fun j hj _ u hu => opKeC_but hu hj hb) hv
  have eb':=(he 5 (fun j hj e => absurd e.symm (by revert j; decide))).trans eb
  have e7':=(he 7 (fun j hj e => absurd e.symm (by revert j; decide))).trans e7
  have e1':=(he 1 (fun j hj e => absurd e.symm (by revert j; decide))).trans e1
  have e6':=(he 6 (fun j hj e => absurd e.symm (by revert j; decide))).trans e6
  have : i = 0 ∨ i = 1 ∨ i = 2 ∨ i = 3 ∨ i = 4 ∨ i = 5 ∨ i = 6 ∨ i = 7:=by omega
  rcases this with rfl | rfl | rfl | rfl | rfl | rfl | rfl | rfl
  ·obtain rfl:=Option.some.inj ((show opKes[0]? = some opKe0 from rfl).symm.trans ho)
   exact wp_value (run_loadK a w _ _ _ _ _ _ gb 0 _ _ _ _ eb' (c1.but (hdr hH) (by simp))) (hk _ _ (But.refl _ _) rfl)
  ·obtain rfl:=Option.some.inj ((show opKes[1]? = some opKe1 from rfl).symm.trans ho)
   exact wp_value (run_loadK a w _ _ _ _ _ _ g7 0 _ _ _ _ e7' (c2.but (hdr hH) (by simp))) (hk _ _ (But.refl _ _) rfl)
  ·obtain rfl:=Option.some.inj ((show opKes[2]? = some opKe2 from rfl).symm.trans ho)
   exact wp_value (run_mvK a w _ _ _ _ _ _ _ e1') (hk _ _ (But.refl _ _) rfl)
  ·obtain rfl:=Option.some.inj ((show opKes[3]? = some opKe3 from rfl).symm.trans ho)
   exact wp_value (run_mvK a w _ _ _ _ _ _ _ e6') (hk _ _ (But.refl _ _) rfl)
  ·obtain rfl:=Option.some.inj ((show opKes[4]? = some opKe4 from rfl).symm.trans ho)
   exact wp_enter (run_ofK a w _ _ _ _ _ _ _ fo fe _ (hD 2 (by simp)) (hD 3 (by simp)) EN) (R:=fun w' v => But [] w w'∧v = _) ((OF w (hdr hH)).mono fun e w' ⟨he,hb⟩ => ⟨_,he,hb,rfl⟩) (fun v w' hv => hk v w' hv.1 hv.2)
  ·obtain rfl:=Option.some.inj ((show opKes[5]? = some opKe5 from rfl).symm.trans ho)
   exact wp_enter (run_wholeK a w _ _ _ _ _ _ _ (hD 4 (by simp))) (R:=fun w' v => But [] w w'∧v = _) ((WH w).mono fun e w' ⟨he,hb⟩ => ⟨_,he,hb,rfl⟩) (fun v w' hv => hk v w' hv.1 hv.2)
  ·obtain rfl:=Option.some.inj ((show opKes[6]? = some opKe6 from rfl).symm.trans ho)
   exact wp_enter (run_mulK a w _ _ _ _ _ _ _ _ _ (hD 1 (by simp)) (hD 5 (by simp))) (R:=fun w' v => FracAt w' v (f2 * ((n : Int) : Rat))∧But [] w w') (MU w (hdr hH)) (fun v w' hv => hk v w' hv.2 hv.1)
  ·obtain rfl:=Option.some.inj ((show opKes[7]? = some opKe7 from rfl).symm.trans ho)
   exact wp_enter (run_addK a w _ _ _ _ _ _ _ _ _ (hD 0 (by simp)) rfl) (R:=fun w' v => FracAt w' v (f1 + f2 * ((n : Int) : Rat))∧But [] w w') (AD w (hdr hH) _ (hD 6 (by simp))) (fun v w' hv => hk v w' hv.2 hv.1)
 ·intro dn o a w K ho hall h hK
  obtain rfl:=Option.some.inj ((show opKes[8]? = some opKe8 from rfl).symm.trans ho)
  have eb':=(h.eval 5 (fun j hj e => absurd e.symm (by revert j; decide))).trans eb
  have cl : FracAt w (a.eval (.tmp 22)) (f1 + f2 * ((n : Int) : Rat)):=h.has 7 (by omega) (hall 7 (by omega))
  have cl':=cl
  obtain ⟨x',y',p',ev,-⟩:=cl.agg
  rw [ev] at cl'
  have ea:=h.puts hT (fun i => match i with
   | 0 => .agg #[.bool s1,.int .u64 x1,.int .u64 y1,.pointer p1]
   | 1 => .agg #[.bool s2,.int .u64 x2,.int .u64 y2,.pointer p2]
   | 2 => .func (.func fo) #[] fe
   | 3 => .int .i64 k
   | 4 => .int .i64 n
   | 5 => .agg #[.bool ws,.int .u64 wx,.int .u64 0,.pointer none]
   | 6 => a.eval (.tmp 21)
   | _ => .agg #[.bool (decide ((f1 + f2 * ((n : Int) : Rat)).num < 0)),.int .u64 x',.int .u64 y',.pointer p']) (fun i hi => by
   have hc:=h.has i hi (hall i hi)
   have : i = 0 ∨ i = 1 ∨ i = 2 ∨ i = 3 ∨ i = 4 ∨ i = 5 ∨ i = 6 ∨ i = 7:=by omega
   rcases this with rfl | rfl | rfl | rfl | rfl | rfl | rfl | rfl
   all_goals first | exact ev | exact hc | rfl)
  exact wp_skipped (run_store4 a w _ _ _ _ _ gb _ x' y' p' eb' ev (cb.but (hdr h.mem) (by simp)) (fun j => ((hdr h.mem).frozen (p:=⟨gb,j,none⟩) lgb (by simp)).trans (fzb j))) (hK _ _ ⟨w,a.eval (.tmp 21),_,x',y',p',ea,rfl,hdr h.mem,cl'⟩)
 ·rintro a w ⟨w1,v6,s',x',y',p',rfl,rfl,h1,h2⟩
  exact hQ  w1 v6 s' x' y' p' h1 h2
end Go.Proofs.YtikgmhpbdcdogaaGreatDoor
