/- Whether a fraction is a chance, and not a certain one, as the Go text of package claims tells. -/
import Derived.Test.YtikgmhpbdcdogaaGreatDoorZF8
namespace Go.Proofs.YtikgmhpbdcdogaaGreatDoor
open Go.RowKit

theorem run_signK (a : Act) (w : World) (d t1 : Nat) (u : TypeId) (ps : String) (ed : Array Edge) (gd : Option (Nat × Bool)) (x1 : Value) (h1 : a.eval (.tmp t1) = x1) :
  (execOp a.eval { dst:=some d,op:=Op.call { callee:=Callee.value (Operand.func 15),args:=#[Operand.tmp t1],argTypes:=#[29] },type:=u,pos:=ps,after:=ed,guard:=gd }).run Tryz.prog w = .ok (.enter 15 #[x1]) w:=by
 unfold execOp
 go_simp
 rw [← h1]
 simp [Act.eval]
theorem run_ge0K (a : Act) (w : World) (d t : Nat) (u : TypeId) (ps : String) (ed : Array Edge) (gd : Option (Nat × Bool)) (x : Int) (h : a.eval (.tmp t) = .int .i64 x) :
  (execOp a.eval { dst:=some d,op:=Op.binOp BinOp.geq 3 (.tmp t) (.const (.int .i64 0)) 3,type:=u,pos:=ps,after:=ed,guard:=gd }).run Tryz.prog w = .ok (.value (.bool (decide (0 ≤ x)))) w:=by
 have e : a.eval (.const (.int .i64 0)) = .int .i64 0:=rfl
 unfold execOp
 simp only [h,e]
 go_simp
theorem run_lt0K (a : Act) (w : World) (d t : Nat) (u : TypeId) (ps : String) (ed : Array Edge) (gd : Option (Nat × Bool)) (x : Int) (h : a.eval (.tmp t) = .int .i64 x) :
  (execOp a.eval { dst:=some d,op:=Op.binOp BinOp.lss 3 (.tmp t) (.const (.int .i64 0)) 3,type:=u,pos:=ps,after:=ed,guard:=gd }).run Tryz.prog w = .ok (.value (.bool (decide (x < 0)))) w:=by
 have e : a.eval (.const (.int .i64 0)) = .int .i64 0:=rfl
 unfold execOp
 simp only [h,e]
 go_simp
theorem run_andK (a : Act) (w : World) (d t1 t2 : Nat) (u : TypeId) (ps : String) (ed : Array Edge) (gd : Option (Nat × Bool)) (b : Bool) (h1 : a.eval (.tmp t1) = .bool true) (h2 : a.eval (.tmp t2) = .bool b) :
  (execOp a.eval { dst:=some d,op:=Op.pick (.tmp t1) (.tmp t2) (.const (.bool false)),type:=u,pos:=ps,after:=ed,guard:=gd }).run Tryz.prog w = .ok (.value (.bool b)) w:=by
 unfold execOp
 simp only [h1,h2]
 go_simp
theorem run_asK (a : Act) (w : World) (d t : Nat) (u : TypeId) (ps : String) (ed : Array Edge) (gd : Option (Nat × Bool)) (N : Value) (h : a.eval (.tmp t) = N) :
  (execOp a.eval { dst:=some d,op:=Op.assign (.tmp t),type:=u,pos:=ps,after:=ed,guard:=gd }).run Tryz.prog w = .ok (.value N) w:=by
 unfold execOp
 simp only [h]
 go_simp
def opKj0 : Oper:={ dst:=some 3,op:=Op.load 29 (Operand.tmp 1),type:=29,pos:= "claims.go:114",after:=#[],guard:=none }
def opKj1 : Oper:={ dst:=some 4,op:=Op.call { callee:=Callee.value (Operand.func 15),args:=#[Operand.tmp 3],argTypes:=#[29] },type:=3,pos:= "claims.go:114",after:=#[{ on:=0,ground:=Ground.data }],guard:=none }
def opKj2 : Oper:={ dst:=some 5,op:=Op.binOp BinOp.geq 3 (Operand.tmp 4) (Operand.const (Value.int IntKind.i64 0)) 3,type:=4,pos:= "claims.go:114",after:=#[{ on:=1,ground:=Ground.data }],guard:=none }
def opKj3 : Oper:={ dst:=some 6,op:=Op.move (Operand.tmp 5),type:=4,pos:= "claims.go:114",after:=#[{ on:=2,ground:=Ground.data },{ on:=1,ground:=Ground.chain }],guard:=none }
def opKj4 : Oper:={ dst:=some 7,op:=Op.load 29 (Operand.tmp 1),type:=29,pos:= "claims.go:114",after:=#[{ on:=3,ground:=Ground.guard }],guard:=some (3,true) }
def opKj5 : Oper:={ dst:=some 8,op:=Op.call { callee:=Callee.value (Operand.func 24),args:=#[Operand.const (Value.int IntKind.i64 1)],argTypes:=#[3] },type:=29,pos:= "claims.go:114",after:=#[{ on:=3,ground:=Ground.chain },{ on:=3,ground:=Ground.guard }],guard:=some (3,true) }
def opKj6 : Oper:={ dst:=some 9,op:=Op.call { callee:=Callee.value (Operand.func 22),args:=#[Operand.tmp 7,Operand.tmp 8],argTypes:=#[29,29] },type:=3,pos:= "claims.go:114",after:=#[{ on:=4,ground:=Ground.data },{ on:=5,ground:=Ground.data },{ on:=5,ground:=Ground.chain },{ on:=3,ground:=Ground.guard }],guard:=some (3,true) }
def opKj7 : Oper:={ dst:=some 10,op:=Op.binOp BinOp.lss 3 (Operand.tmp 9) (Operand.const (Value.int IntKind.i64 0)) 3,type:=4,pos:= "claims.go:114",after:=#[{ on:=6,ground:=Ground.data },{ on:=3,ground:=Ground.guard }],guard:=some (3,true) }
def opKj8 : Oper:={ dst:=some 11,op:=Op.pick (Operand.tmp 6) (Operand.tmp 10) (Operand.const (Value.bool false)),type:=4,pos:= "claims.go:114",after:=#[{ on:=3,ground:=Ground.data },{ on:=7,ground:=Ground.data }],guard:=none }
def opKj9 : Oper:={ dst:=some 2,op:=Op.assign (Operand.tmp 11),type:=4,pos:= "claims.go:114",after:=#[{ on:=8,ground:=Ground.data },{ on:=6,ground:=Ground.chain },{ on:=0,ground:=Ground.phase },{ on:=1,ground:=Ground.phase },{ on:=2,ground:=Ground.phase },{ on:=3,ground:=Ground.phase },{ on:=4,ground:=Ground.phase },{ on:=5,ground:=Ground.phase },{ on:=6,ground:=Ground.phase },{ on:=7,ground:=Ground.phase },{ on:=8,ground:=Ground.phase }],guard:=none }
def opKjs : Array Oper:=#[opKj0,opKj1,opKj2,opKj3,opKj4,opKj5,opKj6,opKj7,opKj8,opKj9]
def opKjT (i : Nat) : Nat:=match i with
 | 0 => 3
 | 1 => 4
 | 2 => 5
 | 3 => 6
 | 4 => 7
 | 5 => 8
 | 6 => 9
 | 7 => 10
 | 8 => 11
 | _ => 2
/-- what each operation's value is -/
def opKjC (s1 : Bool) (x1 : Int) (y1 : Int) (p1 : Option Addr) (sg : Int) (ws : Bool) (wx : Int) (r : Int) (i : Nat) (_w : World) (v : Value) : Prop:=match i with
 | 0 => v = .agg #[.bool s1,.int .u64 x1,.int .u64 y1,.pointer p1]
 | 1 => v = .int .i64 sg
 | 2 => v = .bool true
 | 3 => v = .bool true
 | 4 => v = .agg #[.bool s1,.int .u64 x1,.int .u64 y1,.pointer p1]
 | 5 => v = .agg #[.bool ws,.int .u64 wx,.int .u64 0,.pointer none]
 | 6 => v = .int .i64 r
 | 7 => v = .bool (decide (r < 0))
 | 8 => v = .bool (decide (r < 0))
 | _ => v = .bool (decide (r < 0))
theorem opKjC_but {s1 : Bool} {x1 : Int} {y1 : Int} {p1 : Option Addr} {sg : Int} {ws : Bool} {wx : Int} {r : Int} {i : Nat} {w w' : World} {v : Value} (h : opKjC s1 x1 y1 p1 sg ws wx r i w v) (hi : i < 10) (_hb : But [] w w') : opKjC s1 x1 y1 p1 sg ws wx r i w' v:=by
 have : i = 0 ∨ i = 1 ∨ i = 2 ∨ i = 3 ∨ i = 4 ∨ i = 5 ∨ i = 6 ∨ i = 7 ∨ i = 8 ∨ i = 9:=by omega
 rcases this with rfl | rfl | rfl | rfl | rfl | rfl | rfl | rfl | rfl | rfl
 all_goals first | exact h | exact FracAt.but h hb | exact FracsAt.but h hb
theorem opKjT_inj : ∀ i j,i < 10→j < 10→opKjT i = opKjT j→i = j:=fun i j hi hj => (by decide : ∀ i,i < 10→∀ j,j < 10→opKjT i = opKjT j→i = j) i hi j hj
set_option maxHeartbeats 4000000 in
set_option maxRecDepth 100000 in
theorem below_region (id : Nat) (Q : Exit→Act→World→Prop) (base : Act) (W0 : World) (s1 : Bool) (x1 : Int) (y1 : Int) (p1 : Option Addr) (sg : Int) (ws : Bool) (wx : Int) (r : Int) (hs : 11 < base.tmps.size) (g1 : Nat) (e1 : base.eval (.tmp 1) = .pointer (some ⟨g1,0,none⟩))
  (hsg : 0 ≤ sg) (c1 : P4 W0 g1 s1 x1 y1 p1)
  (SG : ∀ w,But [] W0 w→Calls Tryz.prog 15 #[.agg #[.bool s1,.int .u64 x1,.int .u64 y1,.pointer p1]] w fun e w' => e = .returned (.int .i64 sg)∧But [] w w')
  (WH : ∀ w,Calls Tryz.prog 24 #[.int .i64 1] w fun e w' => e = .returned (.agg #[.bool ws,.int .u64 wx,.int .u64 0,.pointer none])∧But [] w w')
  (CM : ∀ w,But [] W0 w→Calls Tryz.prog 22 #[.agg #[.bool s1,.int .u64 x1,.int .u64 y1,.pointer p1],.agg #[.bool ws,.int .u64 wx,.int .u64 0,.pointer none]] w fun e w' => e = .returned (.int .i64 r)∧But [] w w')
  (hQ : ∀ w,But [] W0 w→Q .normal (putted base [(3,.agg #[.bool s1,.int .u64 x1,.int .u64 y1,.pointer p1]),(4,.int .i64 sg),(5,.bool true),(6,.bool true),(7,.agg #[.bool s1,.int .u64 x1,.int .u64 y1,.pointer p1]),(8,.agg #[.bool ws,.int .u64 wx,.int .u64 0,.pointer none]),(9,.int .i64 r),(10,.bool (decide (r < 0))),(11,.bool (decide (r < 0))),(2,.bool (decide (r < 0)))]) w) :
  (Code.region id opKjs true).wp Tryz.prog Q base W0:=by
 have hdr : ∀ {w},But [] W0.drew w→But [] W0 w:=fun h => (But.refl _ _).drew.trans' h
 have hT : ∀ i,i < 10→opKjT i < base.tmps.size:=fun i hi => by
  have h : opKjT i ≤ 11:=by revert i; decide
  omega
 refine region_go (by kernel_rfl) (low_of (by kernel_rfl)) (opKjC s1 x1 y1 p1 sg ws wx r) opKjT (by kernel_rfl) ?_ opKjT_inj hT (fun i w w' v hi h hb => opKjC_but h hi hb) ?_ ?_
 ·intro i o j want ho hg w v hv
  have hi : i < 10:=(Array.getElem?_eq_some_iff.1 ho).1
  have : i = 0 ∨ i = 1 ∨ i = 2 ∨ i = 3 ∨ i = 4 ∨ i = 5 ∨ i = 6 ∨ i = 7 ∨ i = 8 ∨ i = 9:=by omega
  rcases this with rfl | rfl | rfl | rfl | rfl | rfl | rfl | rfl | rfl | rfl
  ·obtain rfl:=Option.some.inj ((show opKjs[0]? = some opKj0 from rfl).symm.trans ho)
   exact absurd (show (none : Option (Nat × Bool)) = some (j,want) from hg) (by simp)
  ·obtain rfl:=Option.some.inj ((show opKjs[1]? = some opKj1 from rfl).symm.trans ho)
   exact absurd (show (none : Option (Nat × Bool)) = some (j,want) from hg) (by simp)
  ·obtain rfl:=Option.some.inj ((show opKjs[2]? = some opKj2 from rfl).symm.trans ho)
   exact absurd (show (none : Option (Nat × Bool)) = some (j,want) from hg) (by simp)
  ·obtain rfl:=Option.some.inj ((show opKjs[3]? = some opKj3 from rfl).symm.trans ho)
   exact absurd (show (none : Option (Nat × Bool)) = some (j,want) from hg) (by simp)
  ·obtain rfl:=Option.some.inj ((show opKjs[4]? = some opKj4 from rfl).symm.trans ho)
   obtain ⟨rfl,rfl⟩:=Prod.mk.inj (Option.some.inj (show some (3,true) = some (j,want) from hg))
   exact hv
  ·obtain rfl:=Option.some.inj ((show opKjs[5]? = some opKj5 from rfl).symm.trans ho)
   obtain ⟨rfl,rfl⟩:=Prod.mk.inj (Option.some.inj (show some (3,true) = some (j,want) from hg))
   exact hv
  ·obtain rfl:=Option.some.inj ((show opKjs[6]? = some opKj6 from rfl).symm.trans ho)
   obtain ⟨rfl,rfl⟩:=Prod.mk.inj (Option.some.inj (show some (3,true) = some (j,want) from hg))
   exact hv
  ·obtain rfl:=Option.some.inj ((show opKjs[7]? = some opKj7 from rfl).symm.trans ho)
   obtain ⟨rfl,rfl⟩:=Prod.mk.inj (Option.some.inj (show some (3,true) = some (j,want) from hg))
   exact hv
  ·obtain rfl:=Option.some.inj ((show opKjs[8]? = some opKj8 from rfl).symm.trans ho)
   exact absurd (show (none : Option (Nat × Bool)) = some (j,want) from hg) (by simp)
  ·obtain rfl:=Option.some.inj ((show opKjs[9]? = some opKj9 from rfl).symm.trans ho)
   exact absurd (show (none : Option (Nat × Bool)) = some (j,want) from hg) (by simp)
 ·intro i o a w K ho hH he hdep hk
  have hi : i < 10:=(Array.getElem?_eq_some_iff.1 ho).1
  have hD:=dep_have (ps:=[(1,0),(2,1),(3,1),(3,2),(4,3),(5,3),(6,3),(6,4),(6,5),(7,3),(7,6),(8,3),(8,7),(9,0),(9,1),(9,2),(9,3),(9,4),(9,5),(9,6),(9,7),(9,8)]) (by kernel_rfl) ho (fun j => opKjC s1 x1 y1 p1 sg ws wx r j w (a.eval (.tmp (opKjT j)))) hdep
  have e1':=(he 1 (fun j hj e => absurd e.symm (by revert j; decide))).trans e1
  have : i = 0 ∨ i = 1 ∨ i = 2 ∨ i = 3 ∨ i = 4 ∨ i = 5 ∨ i = 6 ∨ i = 7 ∨ i = 8 ∨ i = 9:=by omega
  rcases this with rfl | rfl | rfl | rfl | rfl | rfl | rfl | rfl | rfl | rfl
  ·obtain rfl:=Option.some.inj ((show opKjs[0]? = some opKj0 from rfl).symm.trans ho)
   exact wp_value (run_loadK a w _ _ _ _ _ _ g1 0 _ _ _ _ e1' (c1.but (hdr hH) (by simp))) (hk _ _ (But.refl _ _) rfl)
  ·obtain rfl:=Option.some.inj ((show opKjs[1]? = some opKj1 from rfl).symm.trans ho)
   exact wp_enter (run_signK a w _ _ _ _ _ _ _ (hD 0 (by simp))) (R:=fun w' v => But [] w w'∧v = _) ((SG w (hdr hH)).mono fun e w' ⟨he,hb⟩ => ⟨_,he,hb,rfl⟩) (fun v w' hv => hk v w' hv.1 hv.2)
  ·obtain rfl:=Option.some.inj ((show opKjs[2]? = some opKj2 from rfl).symm.trans ho)
   refine wp_value (run_ge0K a w _ _ _ _ _ _ _ (hD 1 (by simp))) (hk _ _ (But.refl _ _) ?_)
   show Value.bool _ = Value.bool _
   rw [decide_eq_true hsg]
  ·obtain rfl:=Option.some.inj ((show opKjs[3]? = some opKj3 from rfl).symm.trans ho)
   exact wp_value (run_mvK a w _ _ _ _ _ _ _ (hD 2 (by simp))) (hk _ _ (But.refl _ _) rfl)
  ·obtain rfl:=Option.some.inj ((show opKjs[4]? = some opKj4 from rfl).symm.trans ho)
   exact wp_value (run_loadK a w _ _ _ _ _ _ g1 0 _ _ _ _ e1' (c1.but (hdr hH) (by simp))) (hk _ _ (But.refl _ _) rfl)
  ·obtain rfl:=Option.some.inj ((show opKjs[5]? = some opKj5 from rfl).symm.trans ho)
   exact wp_enter (run_oneK a w _ _ _ _ _ 1) (R:=fun w' v => But [] w w'∧v = _) ((WH w).mono fun e w' ⟨he,hb⟩ => ⟨_,he,hb,rfl⟩) (fun v w' hv => hk v w' hv.1 hv.2)
  ·obtain rfl:=Option.some.inj ((show opKjs[6]? = some opKj6 from rfl).symm.trans ho)
   exact wp_enter (run_cmpK a w _ _ _ _ _ _ _ _ _ (hD 4 (by simp)) (hD 5 (by simp))) (R:=fun w' v => But [] w w'∧v = _) ((CM w (hdr hH)).mono fun e w' ⟨he,hb⟩ => ⟨_,he,hb,rfl⟩) (fun v w' hv => hk v w' hv.1 hv.2)
  ·obtain rfl:=Option.some.inj ((show opKjs[7]? = some opKj7 from rfl).symm.trans ho)
   exact wp_value (run_lt0K a w _ _ _ _ _ _ _ (hD 6 (by simp))) (hk _ _ (But.refl _ _) rfl)
  ·obtain rfl:=Option.some.inj ((show opKjs[8]? = some opKj8 from rfl).symm.trans ho)
   exact wp_value (run_andK a w _ _ _ _ _ _ _ _ (hD 3 (by simp)) (hD 7 (by simp))) (hk _ _ (But.refl _ _) rfl)
  ·obtain rfl:=Option.some.inj ((show opKjs[9]? = some opKj9 from rfl).symm.trans ho)
   exact wp_value (run_asK a w _ _ _ _ _ _ _ (hD 8 (by simp))) (hk _ _ (But.refl _ _) rfl)
 ·intro a w h
  have ea:=h.puts hT (fun i => match i with
   | 0 => .agg #[.bool s1,.int .u64 x1,.int .u64 y1,.pointer p1]
   | 1 => .int .i64 sg
   | 2 => .bool true
   | 3 => .bool true
   | 4 => .agg #[.bool s1,.int .u64 x1,.int .u64 y1,.pointer p1]
   | 5 => .agg #[.bool ws,.int .u64 wx,.int .u64 0,.pointer none]
   | 6 => .int .i64 r
   | 7 => .bool (decide (r < 0))
   | 8 => .bool (decide (r < 0))
   | _ => .bool (decide (r < 0))) (fun i hi => by
   have hi' : i < 10:=hi
   have hc:=h.has i hi rfl
   have : i = 0 ∨ i = 1 ∨ i = 2 ∨ i = 3 ∨ i = 4 ∨ i = 5 ∨ i = 6 ∨ i = 7 ∨ i = 8 ∨ i = 9:=by omega
   rcases this with rfl | rfl | rfl | rfl | rfl | rfl | rfl | rfl | rfl | rfl
   all_goals first | exact hc | rfl)
  rw [ea]
  exact hQ w (hdr h.but)
end Go.Proofs.YtikgmhpbdcdogaaGreatDoor

namespace Go.Proofs.YtikgmhpbdcdogaaGreatDoor
open Go.RowKit

/-- a fraction and no error -/
def FracOk (w : World) (v : Value) (r : Rat) : Prop:=∃ s x y p,v = .tuple #[.agg #[.bool s,.int .u64 x,.int .u64 y,.pointer p],.nilIface]∧FracAt w (.agg #[.bool s,.int .u64 x,.int .u64 y,.pointer p]) r
theorem FracOk.but {w w' : World} {v : Value} {r : Rat} (h : FracOk w v r) (hb : But [] w w') : FracOk w' v r:=by
 obtain ⟨s,x,y,p,h1,h2⟩:=h
 exact ⟨s,x,y,p,h1,h2.but hb⟩
theorem FracOk.over {w w' : World} {v : Value} {r : Rat} {g : Nat} {c : Bool} (h : FracOk w v r) (hc : w.cell? ⟨g,0,none⟩ = some (.bool c)) (hb : But [g] w w') : FracOk w' v r:=by
 obtain ⟨s,x,y,p,h1,h2⟩:=h
 exact ⟨s,x,y,p,h1,h2.over hc hb⟩
theorem run_divK (a : Act) (w : World) (d t1 t2 : Nat) (u : TypeId) (ps : String) (ed : Array Edge) (gd : Option (Nat × Bool)) (x1 x2 : Value) (h1 : a.eval (.tmp t1) = x1) (h2 : a.eval (.tmp t2) = x2) :
  (execOp a.eval { dst:=some d,op:=Op.call { callee:=Callee.value (Operand.func 40),args:=#[Operand.tmp t1,Operand.tmp t2],argTypes:=#[29,29] },type:=u,pos:=ps,after:=ed,guard:=gd }).run Tryz.prog w = .ok (.enter 40 #[x1,x2]) w:=by
 unfold execOp
 go_simp
 rw [← h1,← h2]
 simp [Act.eval]
theorem run_exK (a : Act) (w : World) (d t1 k : Nat) (u : TypeId) (ps : String) (ed : Array Edge) (gd : Option (Nat × Bool)) (xs : Array Value) (v : Value) (h1 : a.eval (.tmp t1) = .tuple xs) (h2 : xs[k]? = some v) :
  (execOp a.eval { dst:=some d,op:=Op.extract (.tmp t1) k,type:=u,pos:=ps,after:=ed,guard:=gd }).run Tryz.prog w = .ok (.value v) w:=by
 unfold execOp
 simp only [h1]
 go_simp
def opKp0 : Oper:={ dst:=some 7,op:=Op.load 29 (Operand.tmp 1),type:=29,pos:= "keep.go:458",after:=#[],guard:=none }
def opKp1 : Oper:={ dst:=some 8,op:=Op.call { callee:=Callee.value (Operand.func 24),args:=#[Operand.const (Value.int IntKind.i64 2)],argTypes:=#[3] },type:=29,pos:= "keep.go:458",after:=#[],guard:=none }
def opKp2 : Oper:={ dst:=some 9,op:=Op.call { callee:=Callee.value (Operand.func 40),args:=#[Operand.tmp 7,Operand.tmp 8],argTypes:=#[29,29] },type:=46,pos:= "keep.go:458",after:=#[{ on:=0,ground:=Ground.data },{ on:=1,ground:=Ground.data },{ on:=1,ground:=Ground.chain }],guard:=none }
def opKp3 : Oper:={ dst:=some 6,op:=Op.move (Operand.tmp 9),type:=46,pos:= "keep.go:458",after:=#[{ on:=2,ground:=Ground.data }],guard:=none }
def opKp4 : Oper:={ dst:=some 10,op:=Op.extract (Operand.tmp 6) 0,type:=29,pos:= "keep.go:458",after:=#[{ on:=3,ground:=Ground.data }],guard:=none }
def opKp5 : Oper:={ dst:=some 11,op:=Op.extract (Operand.tmp 6) 1,type:=35,pos:= "keep.go:458",after:=#[{ on:=3,ground:=Ground.data },{ on:=6,ground:=Ground.gcOnly Departure.lateStores }],guard:=none }
def opKp6 : Oper:={ dst:=none,op:=Op.store 29 (Operand.tmp 1) (Operand.tmp 10),type:=0,pos:= "keep.go:458",after:=#[{ on:=4,ground:=Ground.data },{ on:=2,ground:=Ground.chain },{ on:=0,ground:=Ground.phase },{ on:=1,ground:=Ground.phase },{ on:=2,ground:=Ground.phase },{ on:=3,ground:=Ground.phase },{ on:=4,ground:=Ground.phase },{ on:=5,ground:=Ground.textOnly Departure.lateStores }],guard:=none }
def opKp7 : Oper:={ dst:=some 2,op:=Op.assign (Operand.tmp 11),type:=35,pos:= "keep.go:458",after:=#[{ on:=5,ground:=Ground.data },{ on:=6,ground:=Ground.chain },{ on:=0,ground:=Ground.phase },{ on:=1,ground:=Ground.phase },{ on:=2,ground:=Ground.phase },{ on:=3,ground:=Ground.phase },{ on:=4,ground:=Ground.phase },{ on:=5,ground:=Ground.phase },{ on:=6,ground:=Ground.phase }],guard:=none }
def opKps : Array Oper:=#[opKp0,opKp1,opKp2,opKp3,opKp4,opKp5,opKp6,opKp7]
def opKpT (i : Nat) : Nat:=match i with
 | 0 => 7
 | 1 => 8
 | 2 => 9
 | 3 => 6
 | 4 => 10
 | 5 => 11
 | _ => 2
/-- what each operation's value is -/
def opKpC (s1 : Bool) (x1 y1 : Int) (p1 : Option Addr) (ws : Bool) (wx : Int) (r : Rat) (i : Nat) (w : World) (v : Value) : Prop:=match i with
 | 0 => v = .agg #[.bool s1,.int .u64 x1,.int .u64 y1,.pointer p1]
 | 1 => v = .agg #[.bool ws,.int .u64 wx,.int .u64 0,.pointer none]
 | 2 => FracOk w v r
 | 3 => FracOk w v r
 | 4 => FracAt w v r
 | 5 => v = .nilIface
 | _ => True
theorem opKpC_but {s1 : Bool} {x1 y1 : Int} {p1 : Option Addr} {ws : Bool} {wx : Int} {r : Rat} {i : Nat} {w w' : World} {v : Value} (h : opKpC s1 x1 y1 p1 ws wx r i w v) (hi : i < 7) (hb : But [] w w') : opKpC s1 x1 y1 p1 ws wx r i w' v:=by
 have : i = 0 ∨ i = 1 ∨ i = 2 ∨ i = 3 ∨ i = 4 ∨ i = 5 ∨ i = 6:=by omega
 rcases this with rfl | rfl | rfl | rfl | rfl | rfl | rfl
 ·exact h
 ·exact h
 ·exact FracOk.but h hb
 ·exact FracOk.but h hb
 ·exact FracAt.but h hb
 ·exact h
 ·exact h
theorem opKpC_over {s1 : Bool} {x1 y1 : Int} {p1 : Option Addr} {ws : Bool} {wx : Int} {r : Rat} {i : Nat} {w w' : World} {v : Value} {g : Nat} {c : Bool} (h : opKpC s1 x1 y1 p1 ws wx r i w v) (hi : i < 7) (hc : w.cell? ⟨g,0,none⟩ = some (.bool c)) (hb : But [g] w w') : opKpC s1 x1 y1 p1 ws wx r i w' v:=by
 have : i = 0 ∨ i = 1 ∨ i = 2 ∨ i = 3 ∨ i = 4 ∨ i = 5 ∨ i = 6:=by omega
 rcases this with rfl | rfl | rfl | rfl | rfl | rfl | rfl
 ·exact h
 ·exact h
 ·exact FracOk.over h hc hb
 ·exact FracOk.over h hc hb
 ·exact FracAt.over h hc hb
 ·exact h
 ·exact h
theorem opKpT_inj : ∀ i j,i < 7→j < 7→opKpT i = opKpT j→i = j:=fun i j hi hj => (by decide : ∀ i,i < 7→∀ j,j < 7→opKpT i = opKpT j→i = j) i hi j hj
/-- ahead of the store, and behind it -/
def opKpH (W0 : World) (g : Nat) (r : Rat) (b : Bool) (w : World) : Prop:=match b with
 | false => But [] W0 w
 | true => ∃ w1 s x y p,But [] W0 w1∧FracAt w1 (.agg #[.bool s,.int .u64 x,.int .u64 y,.pointer p]) r∧But [] (put4 w1 g s x y p) w
set_option maxHeartbeats 4000000 in
set_option maxRecDepth 100000 in
theorem dice_region (id : Nat) (Q : Exit→Act→World→Prop) (base : Act) (W0 : World) (s1 : Bool) (x1 y1 : Int) (p1 : Option Addr) (ws : Bool) (wx : Int) (r : Rat) (gb : Nat) (hs : 11 < base.tmps.size) (e1 : base.eval (.tmp 1) = .pointer (some ⟨gb,0,none⟩)) (c1 : P4 W0 gb s1 x1 y1 p1) (fzb : ∀ j,W0.frozen? ⟨gb,j,none⟩ = false)
  (WH : ∀ w,Calls Tryz.prog 24 #[.int .i64 2] w fun e w' => e = .returned (.agg #[.bool ws,.int .u64 wx,.int .u64 0,.pointer none])∧But [] w w')
  (DV : ∀ w,But [] W0 w→Calls Tryz.prog 40 #[.agg #[.bool s1,.int .u64 x1,.int .u64 y1,.pointer p1],.agg #[.bool ws,.int .u64 wx,.int .u64 0,.pointer none]] w fun e w' => ∃ v,e = .returned v∧FracOk w' v r∧But [] w w')
  (hQ : ∀ w1 w2 v2 v3 v4 v6 s x y p,But [] W0 w1→FracAt w1 (.agg #[.bool s,.int .u64 x,.int .u64 y,.pointer p]) r→But [] (put4 w1 gb s x y p) w2→Q .normal (putted base [(7,.agg #[.bool s1,.int .u64 x1,.int .u64 y1,.pointer p1]),(8,.agg #[.bool ws,.int .u64 wx,.int .u64 0,.pointer none]),(9,v2),(6,v3),(10,v4),(11,.nilIface),(2,v6),(2,.nilIface)]) w2) :
  (Code.region id opKps true).wp Tryz.prog Q base W0:=by
 have hdr : ∀ {w},But [] W0.drew w→But [] W0 w:=fun h => (But.refl _ _).drew.trans' h
 have lgb : gb < W0.heap.size:=lt_of_cell c1.1
 have hT : ∀ i,i < 7→opKpT i < base.tmps.size:=fun i hi => by
  have h : opKpT i ≤ 11:=by revert i; decide
  omega
 refine region_flow6 (by kernel_rfl) (low_of (by kernel_rfl)) (fun i o ho => (calm_of (ops:=opKps) (by kernel_rfl) i o ho).1) (opKpH W0 gb r) (hdr (But.refl _ _)) ?_ (opKpC s1 x1 y1 p1 ws wx r) opKpT 7 6 rfl opKpT_inj hT (fun i w w' v hi h hb => opKpC_but h hi hb) (fun _ _ => trivial) (fun i hi => ?_) ?_ ?_
  (fun a w => ∃ w1 v2 v3 v4 v6 s x y p,a = putted base [(7,.agg #[.bool s1,.int .u64 x1,.int .u64 y1,.pointer p1]),(8,.agg #[.bool ws,.int .u64 wx,.int .u64 0,.pointer none]),(9,v2),(6,v3),(10,v4),(11,.nilIface),(2,v6),(2,.nilIface)]∧But [] W0 w1∧FracAt w1 (.agg #[.bool s,.int .u64 x,.int .u64 y,.pointer p]) r∧But [] (put4 w1 gb s x y p) w) ?_ ?_ (by omega)
 ·intro b w w' h hb
  cases b with
  | false => exact But.trans' h hb
  | true =>
   obtain ⟨w1,s,x,y,p,h1,h2,h3⟩:=h
   exact ⟨w1,s,x,y,p,h1,h2,h3.trans' hb⟩
 ·exact dep_of (ops:=opKps) (ps:=[(7,0),(7,1),(7,2),(7,3),(7,4),(7,5),(7,6)]) (by kernel_rfl) 7 i (by
   have : i = 0 ∨ i = 1 ∨ i = 2 ∨ i = 3 ∨ i = 4 ∨ i = 5 ∨ i = 6:=by omega
   rcases this with rfl | rfl | rfl | rfl | rfl | rfl | rfl <;> simp)
 ·intro b i o a w K hi hiq ho hH hbq he hdep hk
  have hD:=dep_have (ps:=[(2,0),(2,1),(3,2),(4,3),(5,3)]) (by kernel_rfl) ho (fun j => opKpC s1 x1 y1 p1 ws wx r j w (a.eval (.tmp (opKpT j)))) hdep
  have hq:=fun (h : (6,i) ∈ [(6,0),(6,1),(6,2),(6,3),(6,4)]) => hbq (dep_of (ops:=opKps) (ps:=[(6,0),(6,1),(6,2),(6,3),(6,4)]) (by kernel_rfl) 6 i h)
  have e1':=(he 1 (fun j hj e => absurd e.symm (by revert j; decide))).trans e1
  have : i = 0 ∨ i = 1 ∨ i = 2 ∨ i = 3 ∨ i = 4 ∨ i = 5 ∨ i = 6:=by omega
  rcases this with rfl | rfl | rfl | rfl | rfl | rfl | rfl
  ·obtain rfl:=Option.some.inj ((show opKps[0]? = some opKp0 from rfl).symm.trans ho)
   obtain rfl:=hq (by simp)
   exact wp_value (run_loadK a w _ _ _ _ _ _ gb 0 _ _ _ _ e1' (c1.but hH (by simp))) (hk _ _ (But.refl _ _) rfl)
  ·obtain rfl:=Option.some.inj ((show opKps[1]? = some opKp1 from rfl).symm.trans ho)
   exact wp_enter (run_oneK a w _ _ _ _ _ 2) (R:=fun w' v => But [] w w'∧v = _) ((WH w).mono fun e w' ⟨he,hb⟩ => ⟨_,he,hb,rfl⟩) (fun v w' hv => hk v w' hv.1 hv.2)
  ·obtain rfl:=Option.some.inj ((show opKps[2]? = some opKp2 from rfl).symm.trans ho)
   obtain rfl:=hq (by simp)
   exact wp_enter (run_divK a w _ _ _ _ _ _ _ _ _ (hD 0 (by simp)) (hD 1 (by simp))) (R:=fun w' v => FracOk w' v r∧But [] w w') (DV w hH) (fun v w' hv => hk v w' hv.2 hv.1)
  ·obtain rfl:=Option.some.inj ((show opKps[3]? = some opKp3 from rfl).symm.trans ho)
   exact wp_value (run_mvK a w _ _ _ _ _ _ _ rfl) (hk _ _ (But.refl _ _) (show FracOk w _ r from hD 2 (by simp)))
  ·obtain rfl:=Option.some.inj ((show opKps[4]? = some opKp4 from rfl).symm.trans ho)
   obtain ⟨s,x,y,p,ev,hf⟩:=(show FracOk w _ r from hD 3 (by simp))
   exact wp_value (run_exK a w _ _ _ _ _ _ _ _ _ ev rfl) (hk _ _ (But.refl _ _) hf)
  ·obtain rfl:=Option.some.inj ((show opKps[5]? = some opKp5 from rfl).symm.trans ho)
   obtain ⟨s,x,y,p,ev,hf⟩:=(show FracOk w _ r from hD 3 (by simp))
   exact wp_value (run_exK a w _ _ _ _ _ _ _ _ _ ev rfl) (hk _ _ (But.refl _ _) rfl)
  ·exact absurd rfl hiq
 ·intro o a w K ho hH he hdep hK
  have hD:=dep_have (ps:=[(6,4)]) (by kernel_rfl) ho (fun j => opKpC s1 x1 y1 p1 ws wx r j w (a.eval (.tmp (opKpT j)))) hdep
  obtain rfl:=Option.some.inj ((show opKps[6]? = some opKp6 from rfl).symm.trans ho)
  have e1':=(he 1 (fun j hj e => absurd e.symm (by revert j; decide))).trans e1
  have cl : FracAt w (a.eval (.tmp 10)) r:=hD 4 (by simp)
  have cl':=cl
  obtain ⟨x',y',p',ev,-⟩:=cl.agg
  rw [ev] at cl'
  have hB : But [] W0 w:=hH
  exact wp_skipped (run_store4 a w _ _ _ _ _ gb _ x' y' p' e1' ev (c1.but hB (by simp)) (fun j => (hB.frozen (p:=⟨gb,j,none⟩) lgb (by simp)).trans (fzb j))) (hK _ ⟨w,_,x',y',p',hB,cl',But.refl _ _⟩ (fun j hj u hu => opKpC_over hu hj (c1.but hB (by simp)).1 (put4_but w gb _ x' y' p')))
 ·intro dn o a w K ho hall h hst hK
  obtain rfl:=Option.some.inj ((show opKps[7]? = some opKp7 from rfl).symm.trans ho)
  obtain ⟨w1,s',x',y',p',h1,h2,h3⟩:=hst
  have ea:=h.puts hT (fun i => match i with
   | 0 => .agg #[.bool s1,.int .u64 x1,.int .u64 y1,.pointer p1]
   | 1 => .agg #[.bool ws,.int .u64 wx,.int .u64 0,.pointer none]
   | 2 => a.eval (.tmp 9)
   | 3 => a.eval (.tmp 6)
   | 4 => a.eval (.tmp 10)
   | 5 => .nilIface
   | _ => a.eval (.tmp 2)) (fun i hi => by
   have hc:=h.has i hi (hall i hi)
   have : i = 0 ∨ i = 1 ∨ i = 2 ∨ i = 3 ∨ i = 4 ∨ i = 5 ∨ i = 6:=by omega
   rcases this with rfl | rfl | rfl | rfl | rfl | rfl | rfl
   ·exact hc
   ·exact hc
   ·rfl
   ·rfl
   ·rfl
   ·exact hc
   ·rfl)
  have hev : a.eval (.tmp 11) = .nilIface:=h.has 5 (by omega) (hall 5 (by omega))
  have ea3 : a.put (some 2) .nilIface = putted base ([(7,.agg #[.bool s1,.int .u64 x1,.int .u64 y1,.pointer p1]),(8,.agg #[.bool ws,.int .u64 wx,.int .u64 0,.pointer none]),(9,a.eval (.tmp 9)),(6,a.eval (.tmp 6)),(10,a.eval (.tmp 10)),(11,.nilIface),(2,a.eval (.tmp 2))] ++ [(2,.nilIface)]):=(congrArg (fun z : Act => z.put (some 2) .nilIface) ea).trans (putted_snoc _ _ _ _)
  exact wp_value (run_asK _ _ _ _ _ _ _ _ _ hev) (hK _ _ ⟨w1,_,_,_,_,s',x',y',p',ea3,h1,h2,h3⟩)
 ·rintro a w ⟨w1,v2,v3,v4,v6,s,x,y,p,rfl,h1,h2,h3⟩
  exact hQ w1 w v2 v3 v4 v6 s x y p h1 h2 h3
end Go.Proofs.YtikgmhpbdcdogaaGreatDoor
