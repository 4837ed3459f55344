/- Whether what a line has may be so in its kind: the statement that draws its order, as the Go text of package treaty has it. -/
import Derived.Test.YtjbboicccddhbaaGreatDoorKPXB
import Derived.Test.YtjbboicccddhbaaGreatDoorKPXD
import Derived.Test.YtjbboicccddhbaaGreatDoorKPXF
namespace Go.Proofs.YtjbboicccddhbaaGreatDoor
open Go.RowKit

theorem run_fL1 (a : Act) (w : World) (d t : Nat) (u : TypeId) (ps : String) (ed : Array Edge) (gd : Option (Nat × Bool)) (b : Nat) (h1 : a.eval (.tmp t) = .pointer (some ⟨b,0,none⟩)) :
  (execOp a.eval { dst:=some d,op:=Op.fieldAddr 71 (.tmp t) 1,type:=u,pos:=ps,after:=ed,guard:=gd }).run Tryz.prog w = .ok (.value (.pointer (some ⟨b,1,none⟩))) w:=by
 unfold execOp
 simp only [h1]
 go_simp
theorem run_signX (a : Act) (w : World) (d t0 : Nat) (u : TypeId) (ps : String) (ed : Array Edge) (gd : Option (Nat × Bool)) (z0 : Value) (h0 : a.eval (.tmp t0) = z0) :
  (execOp a.eval { dst:=some d,op:=Op.call { callee:=Callee.value (Operand.func 19),args:=#[Operand.tmp t0],argTypes:=#[27] },type:=u,pos:=ps,after:=ed,guard:=gd }).run Tryz.prog w = .ok (.enter 19 #[z0]) w:=by
 unfold execOp
 go_simp
 rw [← h0]
 simp [Act.eval]
theorem run_cmpX (a : Act) (w : World) (d t0 t1 : Nat) (u : TypeId) (ps : String) (ed : Array Edge) (gd : Option (Nat × Bool)) (z0 z1 : Value) (h0 : a.eval (.tmp t0) = z0) (h1 : a.eval (.tmp t1) = z1) :
  (execOp a.eval { dst:=some d,op:=Op.call { callee:=Callee.value (Operand.func 22),args:=#[Operand.tmp t0,Operand.tmp t1],argTypes:=#[27,27] },type:=u,pos:=ps,after:=ed,guard:=gd }).run Tryz.prog w = .ok (.enter 22 #[z0,z1]) w:=by
 unfold execOp
 go_simp
 rw [← h0,← h1]
 simp [Act.eval]
theorem run_oneX (a : Act) (w : World) (d : Nat) (u : TypeId) (ps : String) (ed : Array Edge) (gd : Option (Nat × Bool)) :
  (execOp a.eval { dst:=some d,op:=Op.call { callee:=Callee.value (Operand.func 16),args:=#[Operand.const (Value.int IntKind.i64 1)],argTypes:=#[3] },type:=u,pos:=ps,after:=ed,guard:=gd }).run Tryz.prog w = .ok (.enter 16 #[.int .i64 1]) w:=by
 unfold execOp
 go_simp
theorem run_ge0X (a : Act) (w : World) (d t : Nat) (u : TypeId) (ps : String) (ed : Array Edge) (gd : Option (Nat × Bool)) (x : Int) (b : Bool) (hb : b = decide (0 ≤ x)) (h : a.eval (.tmp t) = .int .i64 x) :
  (execOp a.eval { dst:=some d,op:=Op.binOp BinOp.geq 3 (.tmp t) (Operand.const (Value.int IntKind.i64 0)) 3,type:=u,pos:=ps,after:=ed,guard:=gd }).run Tryz.prog w = .ok (.value (.bool b)) w:=by
 have e : a.eval (.const (.int .i64 0)) = .int .i64 0:=rfl
 subst hb
 unfold execOp
 simp only [h,e]
 go_simp
theorem run_le0X (a : Act) (w : World) (d t : Nat) (u : TypeId) (ps : String) (ed : Array Edge) (gd : Option (Nat × Bool)) (x : Int) (b : Bool) (hb : b = decide (x ≤ 0)) (h : a.eval (.tmp t) = .int .i64 x) :
  (execOp a.eval { dst:=some d,op:=Op.binOp BinOp.leq 3 (.tmp t) (Operand.const (Value.int IntKind.i64 0)) 3,type:=u,pos:=ps,after:=ed,guard:=gd }).run Tryz.prog w = .ok (.value (.bool b)) w:=by
 have e : a.eval (.const (.int .i64 0)) = .int .i64 0:=rfl
 subst hb
 unfold execOp
 simp only [h,e]
 go_simp
theorem run_andX (a : Act) (w : World) (d t1 t2 : Nat) (u : TypeId) (ps : String) (ed : Array Edge) (gd : Option (Nat × Bool)) (b : Bool) (v o : Value) (ho : o = if b then v else .bool false) (h1 : a.eval (.tmp t1) = .bool b) (h2 : a.eval (.tmp t2) = v) :
  (execOp a.eval { dst:=some d,op:=Op.pick (.tmp t1) (.tmp t2) (.const (.bool false)),type:=u,pos:=ps,after:=ed,guard:=gd }).run Tryz.prog w = .ok (.value o) w:=by
 subst ho
 cases b
 ·unfold execOp
  simp only [h1,h2]
  go_simp
 ·unfold execOp
  simp only [h1,h2]
  go_simp
def opXc0 : Oper:={ dst:=some 7,op:=Op.fieldAddr 71 (Operand.tmp 1) 1,type:=0,pos := "treaty.go:72",after:=#[],guard:=none }
def opXc1 : Oper:={ dst:=some 8,op:=Op.load 27 (Operand.tmp 7),type := 27,pos := "treaty.go:72",after:=#[{ on:=0,ground:=Ground.data }],guard:=none }
def opXc2 : Oper:={ dst:=some 9,op:=Op.call { callee:=Callee.value (Operand.func 19),args:=#[Operand.tmp 8],argTypes:=#[27] },type := 3,pos := "treaty.go:72",after:=#[{ on:=1,ground:=Ground.data }],guard:=none }
def opXc3 : Oper:={ dst:=some 10,op:=Op.binOp BinOp.geq 3 (Operand.tmp 9) (Operand.const (Value.int IntKind.i64 0)) 3,type := 4,pos := "treaty.go:72",after:=#[{ on:=2,ground:=Ground.data }],guard:=none }
def opXc4 : Oper:={ dst:=some 11,op:=Op.move (Operand.tmp 10),type := 4,pos := "treaty.go:72",after:=#[{ on:=3,ground:=Ground.data },{ on:=2,ground:=Ground.chain }],guard:=none }
def opXc5 : Oper:={ dst:=some 12,op:=Op.fieldAddr 71 (Operand.tmp 1) 1,type:=0,pos := "treaty.go:72",after:=#[{ on:=4,ground:=Ground.guard }],guard:=some (4,true) }
def opXc6 : Oper:={ dst:=some 13,op:=Op.load 27 (Operand.tmp 12),type := 27,pos := "treaty.go:72",after:=#[{ on:=5,ground:=Ground.data },{ on:=4,ground:=Ground.guard }],guard:=some (4,true) }
def opXc7 : Oper:={ dst:=some 14,op:=Op.call { callee:=Callee.value (Operand.func 16),args:=#[Operand.const (Value.int IntKind.i64 1)],argTypes:=#[3] },type := 27,pos := "treaty.go:72",after:=#[{ on:=4,ground:=Ground.chain },{ on:=4,ground:=Ground.guard }],guard:=some (4,true) }
def opXc8 : Oper:={ dst:=some 15,op:=Op.call { callee:=Callee.value (Operand.func 22),args:=#[Operand.tmp 13,Operand.tmp 14],argTypes:=#[27,27] },type := 3,pos := "treaty.go:72",after:=#[{ on:=6,ground:=Ground.data },{ on:=7,ground:=Ground.data },{ on:=7,ground:=Ground.chain },{ on:=4,ground:=Ground.guard }],guard:=some (4,true) }
def opXc9 : Oper:={ dst:=some 16,op:=Op.binOp BinOp.leq 3 (Operand.tmp 15) (Operand.const (Value.int IntKind.i64 0)) 3,type := 4,pos := "treaty.go:72",after:=#[{ on:=8,ground:=Ground.data },{ on:=4,ground:=Ground.guard }],guard:=some (4,true) }
def opXc10 : Oper:={ dst:=some 17,op:=Op.pick (Operand.tmp 11) (Operand.tmp 16) (Operand.const (Value.bool false)),type := 4,pos := "treaty.go:72",after:=#[{ on:=4,ground:=Ground.data },{ on:=9,ground:=Ground.data }],guard:=none }
def opXc11 : Oper:={ dst:=some 2,op:=Op.assign (Operand.tmp 17),type := 4,pos := "treaty.go:72",after:=#[{ on:=10,ground:=Ground.data },{ on:=8,ground:=Ground.chain },{ on:=0,ground:=Ground.phase },{ on:=1,ground:=Ground.phase },{ on:=2,ground:=Ground.phase },{ on:=3,ground:=Ground.phase },{ on:=4,ground:=Ground.phase },{ on:=5,ground:=Ground.phase },{ on:=6,ground:=Ground.phase },{ on:=7,ground:=Ground.phase },{ on:=8,ground:=Ground.phase },{ on:=9,ground:=Ground.phase },{ on:=10,ground:=Ground.phase }],guard:=none }
def opXcs : Array Oper:=#[opXc0,opXc1,opXc2,opXc3,opXc4,opXc5,opXc6,opXc7,opXc8,opXc9,opXc10,opXc11]
def opXcT (i : Nat) : Nat:=match i with
 | 0 => 7
 | 1 => 8
 | 2 => 9
 | 3 => 10
 | 4 => 11
 | 5 => 12
 | 6 => 13
 | 7 => 14
 | 8 => 15
 | 9 => 16
 | 10 => 17
 | _ => 2
/-- what each operation's value is -/
def opXcC (g1 : Nat) (s1 : Bool) (x1 : Int) (y1 : Int) (p1 : Option Addr) (sg : Int) (ws : Bool) (wx : Int) (r : Int) (b : Bool) (i : Nat) (_w : World) (v : Value) : Prop:=match i with
 | 0 => v = .pointer (some ⟨g1,1,none⟩)
 | 1 => v = .agg #[.bool s1,.int .u64 x1,.int .u64 y1,.pointer p1]
 | 2 => v = .int .i64 sg
 | 3 => v = .bool true
 | 4 => v = .bool true
 | 5 => v = .pointer (some ⟨g1,1,none⟩)
 | 6 => v = .agg #[.bool s1,.int .u64 x1,.int .u64 y1,.pointer p1]
 | 7 => v = .agg #[.bool ws,.int .u64 wx,.int .u64 0,.pointer none]
 | 8 => v = .int .i64 r
 | 9 => v = .bool b
 | 10 => v = .bool b
 | _ => v = .bool b
theorem opXcC_but {g1 : Nat} {s1 : Bool} {x1 : Int} {y1 : Int} {p1 : Option Addr} {sg : Int} {ws : Bool} {wx : Int} {r : Int} {b : Bool} {i : Nat} {w w' : World} {v : Value} (h : opXcC g1 s1 x1 y1 p1 sg ws wx r b i w v) (hi : i < 12) (_hb : But [] w w') : opXcC g1 s1 x1 y1 p1 sg ws wx r b i w' v:=by
 have : i = 0 ∨ i = 1 ∨ i = 2 ∨ i = 3 ∨ i = 4 ∨ i = 5 ∨ i = 6 ∨ i = 7 ∨ i = 8 ∨ i = 9 ∨ i = 10 ∨ i = 11:=by omega
 rcases this with rfl | rfl | rfl | rfl | rfl | rfl | rfl | rfl | rfl | rfl | rfl | rfl
 all_goals first | exact h
theorem opXcT_inj : ∀ i j,i < 12→j < 12→opXcT i = opXcT j→i = j:=fun i j hi hj => (by decide : ∀ i,i < 12→∀ j,j < 12→opXcT i = opXcT j→i = j) i hi j hj
set_option maxHeartbeats 8000000 in
set_option maxRecDepth 100000 in
theorem fits_pos (id : Nat) (Q : Exit→Act→World→Prop) (base : Act) (W0 : World) (g1 : Nat) (s1 : Bool) (x1 : Int) (y1 : Int) (p1 : Option Addr) (sg : Int) (ws : Bool) (wx : Int) (r : Int) (b : Bool) (hs : 17 < base.tmps.size) (e1 : base.eval (.tmp 1) = .pointer (some ⟨g1,0,none⟩))
  (hsg : 0 ≤ sg) (hbb : b = decide (r ≤ 0)) (c1 : P4o W0 g1 1 s1 x1 y1 p1)
  (SG : ∀ w,But [] W0 w→Calls Tryz.prog 19 #[.agg #[.bool s1,.int .u64 x1,.int .u64 y1,.pointer p1]] w fun e w' => e = .returned (.int .i64 sg)∧But [] w w')
  (WH : ∀ w,Calls Tryz.prog 16 #[.int .i64 1] w fun e w' => e = .returned (.agg #[.bool ws,.int .u64 wx,.int .u64 0,.pointer none])∧But [] w w')
  (CM : ∀ w,But [] W0 w→Calls Tryz.prog 22 #[.agg #[.bool s1,.int .u64 x1,.int .u64 y1,.pointer p1],.agg #[.bool ws,.int .u64 wx,.int .u64 0,.pointer none]] w fun e w' => e = .returned (.int .i64 r)∧But [] w w')
  (hQ : ∀ w,But [] W0 w→Q .normal (putted base [(7,.pointer (some ⟨g1,1,none⟩)),(8,.agg #[.bool s1,.int .u64 x1,.int .u64 y1,.pointer p1]),(9,.int .i64 sg),(10,.bool true),(11,.bool true),(12,.pointer (some ⟨g1,1,none⟩)),(13,.agg #[.bool s1,.int .u64 x1,.int .u64 y1,.pointer p1]),(14,.agg #[.bool ws,.int .u64 wx,.int .u64 0,.pointer none]),(15,.int .i64 r),(16,.bool b),(17,.bool b),(2,.bool b)]) w) :
  (Code.region id opXcs true).wp Tryz.prog Q base W0:=by
 have hdr : ∀ {w},But [] W0.drew w→But [] W0 w:=fun h => (But.refl _ _).drew.trans' h
 have hT : ∀ i,i < 12→opXcT i < base.tmps.size:=fun i hi => by
  have h : opXcT i ≤ 17:=by revert i; decide
  omega
 refine region_go (by kernel_rfl) (low_of (by kernel_rfl)) (opXcC g1 s1 x1 y1 p1 sg ws wx r b) opXcT (by kernel_rfl) ?_ opXcT_inj hT (fun i w w' v hi h hb => opXcC_but h hi hb) ?_ ?_
 ·intro i o j want ho hg w v hv
  have hi : i < 12:=(Array.getElem?_eq_some_iff.1 ho).1
  have : i = 0 ∨ i = 1 ∨ i = 2 ∨ i = 3 ∨ i = 4 ∨ i = 5 ∨ i = 6 ∨ i = 7 ∨ i = 8 ∨ i = 9 ∨ i = 10 ∨ i = 11:=by omega
  rcases this with rfl | rfl | rfl | rfl | rfl | rfl | rfl | rfl | rfl | rfl | rfl | rfl
  ·obtain rfl:=Option.some.inj ((show opXcs[0]? = some opXc0 from rfl).symm.trans ho)
   exact absurd (show (none : Option (Nat × Bool)) = some (j,want) from hg) (by simp)
  ·obtain rfl:=Option.some.inj ((show opXcs[1]? = some opXc1 from rfl).symm.trans ho)
   exact absurd (show (none : Option (Nat × Bool)) = some (j,want) from hg) (by simp)
  ·obtain rfl:=Option.some.inj ((show opXcs[2]? = some opXc2 from rfl).symm.trans ho)
   exact absurd (show (none : Option (Nat × Bool)) = some (j,want) from hg) (by simp)
  ·obtain rfl:=Option.some.inj ((show opXcs[3]? = some opXc3 from rfl).symm.trans ho)
   exact absurd (show (none : Option (Nat × Bool)) = some (j,want) from hg) (by simp)
  ·obtain rfl:=Option.some.inj ((show opXcs[4]? = some opXc4 from rfl).symm.trans ho)
   exact absurd (show (none : Option (Nat × Bool)) = some (j,want) from hg) (by simp)
  ·obtain rfl:=Option.some.inj ((show opXcs[5]? = some opXc5 from rfl).symm.trans ho)
   obtain ⟨rfl,rfl⟩:=Prod.mk.inj (Option.some.inj (show some (4,true) = some (j,want) from hg))
   exact hv
  ·obtain rfl:=Option.some.inj ((show opXcs[6]? = some opXc6 from rfl).symm.trans ho)
   obtain ⟨rfl,rfl⟩:=Prod.mk.inj (Option.some.inj (show some (4,true) = some (j,want) from hg))
   exact hv
  ·obtain rfl:=Option.some.inj ((show opXcs[7]? = some opXc7 from rfl).symm.trans ho)
   obtain ⟨rfl,rfl⟩:=Prod.mk.inj (Option.some.inj (show some (4,true) = some (j,want) from hg))
   exact hv
  ·obtain rfl:=Option.some.inj ((show opXcs[8]? = some opXc8 from rfl).symm.trans ho)
   obtain ⟨rfl,rfl⟩:=Prod.mk.inj (Option.some.inj (show some (4,true) = some (j,want) from hg))
   exact hv
  ·obtain rfl:=Option.some.inj ((show opXcs[9]? = some opXc9 from rfl).symm.trans ho)
   obtain ⟨rfl,rfl⟩:=Prod.mk.inj (Option.some.inj (show some (4,true) = some (j,want) from hg))
   exact hv
  ·obtain rfl:=Option.some.inj ((show opXcs[10]? = some opXc10 from rfl).symm.trans ho)
   exact absurd (show (none : Option (Nat × Bool)) = some (j,want) from hg) (by simp)
  ·obtain rfl:=Option.some.inj ((show opXcs[11]? = some opXc11 from rfl).symm.trans ho)
   exact absurd (show (none : Option (Nat × Bool)) = some (j,want) from hg) (by simp)
 ·intro i o a w K ho hH he hdep hk
  have hi : i < 12:=(Array.getElem?_eq_some_iff.1 ho).1
  have hD:=dep_have (ps:=[(1,0),(2,1),(3,2),(4,2),(4,3),(5,4),(6,4),(6,5),(7,4),(8,4),(8,6),(8,7),(9,4),(9,8),(10,4),(10,9),(11,0),(11,1),(11,2),(11,3),(11,4),(11,5),(11,6),(11,7),(11,8),(11,9),(11,10)]) (by kernel_rfl) ho (fun j => opXcC g1 s1 x1 y1 p1 sg ws wx r b j w (a.eval (.tmp (opXcT j)))) hdep
  have e1':=(he 1 (fun j hj e => absurd e.symm (by revert j; decide))).trans e1
  have : i = 0 ∨ i = 1 ∨ i = 2 ∨ i = 3 ∨ i = 4 ∨ i = 5 ∨ i = 6 ∨ i = 7 ∨ i = 8 ∨ i = 9 ∨ i = 10 ∨ i = 11:=by omega
  rcases this with rfl | rfl | rfl | rfl | rfl | rfl | rfl | rfl | rfl | rfl | rfl | rfl
  ·obtain rfl:=Option.some.inj ((show opXcs[0]? = some opXc0 from rfl).symm.trans ho)
   exact wp_value (run_fL1 a w _ _ _ _ _ _ g1 e1') (hk _ _ (But.refl _ _) rfl)
  ·obtain rfl:=Option.some.inj ((show opXcs[1]? = some opXc1 from rfl).symm.trans ho)
   exact wp_value (run_loadK a w _ _ _ _ _ _ g1 1 _ _ _ _ (hD 0 (by simp)) (c1.but (hdr hH) (by simp))) (hk _ _ (But.refl _ _) rfl)
  ·obtain rfl:=Option.some.inj ((show opXcs[2]? = some opXc2 from rfl).symm.trans ho)
   exact wp_enter (run_signX a w _ _ _ _ _ _ _ (hD 1 (by simp))) (R:=fun w' v => But [] w w'∧v = _) ((SG w (hdr hH)).mono fun e w' ⟨he,hb⟩ => ⟨_,he,hb,rfl⟩) (fun v w' hv => hk v w' hv.1 hv.2)
  ·obtain rfl:=Option.some.inj ((show opXcs[3]? = some opXc3 from rfl).symm.trans ho)
   exact wp_value (run_ge0X a w _ _ _ _ _ _ _ true (decide_eq_true hsg).symm (hD 2 (by simp))) (hk _ _ (But.refl _ _) rfl)
  ·obtain rfl:=Option.some.inj ((show opXcs[4]? = some opXc4 from rfl).symm.trans ho)
   exact wp_value (run_mvK a w _ _ _ _ _ _ _ (hD 3 (by simp))) (hk _ _ (But.refl _ _) rfl)
  ·obtain rfl:=Option.some.inj ((show opXcs[5]? = some opXc5 from rfl).symm.trans ho)
   exact wp_value (run_fL1 a w _ _ _ _ _ _ g1 e1') (hk _ _ (But.refl _ _) rfl)
  ·obtain rfl:=Option.some.inj ((show opXcs[6]? = some opXc6 from rfl).symm.trans ho)
   exact wp_value (run_loadK a w _ _ _ _ _ _ g1 1 _ _ _ _ (hD 5 (by simp)) (c1.but (hdr hH) (by simp))) (hk _ _ (But.refl _ _) rfl)
  ·obtain rfl:=Option.some.inj ((show opXcs[7]? = some opXc7 from rfl).symm.trans ho)
   exact wp_enter (run_oneX a w _ _ _ _ _) (R:=fun w' v => But [] w w'∧v = _) ((WH w).mono fun e w' ⟨he,hb⟩ => ⟨_,he,hb,rfl⟩) (fun v w' hv => hk v w' hv.1 hv.2)
  ·obtain rfl:=Option.some.inj ((show opXcs[8]? = some opXc8 from rfl).symm.trans ho)
   exact wp_enter (run_cmpX a w _ _ _ _ _ _ _ _ _ (hD 6 (by simp)) (hD 7 (by simp))) (R:=fun w' v => But [] w w'∧v = _) ((CM w (hdr hH)).mono fun e w' ⟨he,hb⟩ => ⟨_,he,hb,rfl⟩) (fun v w' hv => hk v w' hv.1 hv.2)
  ·obtain rfl:=Option.some.inj ((show opXcs[9]? = some opXc9 from rfl).symm.trans ho)
   exact wp_value (run_le0X a w _ _ _ _ _ _ _ b hbb (hD 8 (by simp))) (hk _ _ (But.refl _ _) rfl)
  ·obtain rfl:=Option.some.inj ((show opXcs[10]? = some opXc10 from rfl).symm.trans ho)
   exact wp_value (run_andX a w _ _ _ _ _ _ _ true _ _ rfl (hD 4 (by simp)) (hD 9 (by simp))) (hk _ _ (But.refl _ _) rfl)
  ·obtain rfl:=Option.some.inj ((show opXcs[11]? = some opXc11 from rfl).symm.trans ho)
   exact wp_value (run_asK a w _ _ _ _ _ _ _ (hD 10 (by simp))) (hk _ _ (But.refl _ _) rfl)
 ·intro a w h
  have ea:=h.puts hT (fun i => match i with
   | 0 => .pointer (some ⟨g1,1,none⟩)
   | 1 => .agg #[.bool s1,.int .u64 x1,.int .u64 y1,.pointer p1]
   | 2 => .int .i64 sg
   | 3 => .bool true
   | 4 => .bool true
   | 5 => .pointer (some ⟨g1,1,none⟩)
   | 6 => .agg #[.bool s1,.int .u64 x1,.int .u64 y1,.pointer p1]
   | 7 => .agg #[.bool ws,.int .u64 wx,.int .u64 0,.pointer none]
   | 8 => .int .i64 r
   | 9 => .bool b
   | 10 => .bool b
   | _ => .bool b) (fun i hi => by
   have hi' : i < 12:=hi
   have hc:=h.has i hi rfl
   have : i = 0 ∨ i = 1 ∨ i = 2 ∨ i = 3 ∨ i = 4 ∨ i = 5 ∨ i = 6 ∨ i = 7 ∨ i = 8 ∨ i = 9 ∨ i = 10 ∨ i = 11:=by omega
   rcases this with rfl | rfl | rfl | rfl | rfl | rfl | rfl | rfl | rfl | rfl | rfl | rfl
   all_goals first | exact hc | rfl)
  rw [ea]
  exact hQ w (hdr h.but)
def opXd0 : Oper:={ dst:=some 7,op:=Op.fieldAddr 71 (Operand.tmp 1) 1,type:=0,pos := "treaty.go:72",after:=#[],guard:=none }
def opXd1 : Oper:={ dst:=some 8,op:=Op.load 27 (Operand.tmp 7),type := 27,pos := "treaty.go:72",after:=#[{ on:=0,ground:=Ground.data }],guard:=none }
def opXd2 : Oper:={ dst:=some 9,op:=Op.call { callee:=Callee.value (Operand.func 19),args:=#[Operand.tmp 8],argTypes:=#[27] },type := 3,pos := "treaty.go:72",after:=#[{ on:=1,ground:=Ground.data }],guard:=none }
def opXd3 : Oper:={ dst:=some 10,op:=Op.binOp BinOp.geq 3 (Operand.tmp 9) (Operand.const (Value.int IntKind.i64 0)) 3,type := 4,pos := "treaty.go:72",after:=#[{ on:=2,ground:=Ground.data }],guard:=none }
def opXd4 : Oper:={ dst:=some 11,op:=Op.move (Operand.tmp 10),type := 4,pos := "treaty.go:72",after:=#[{ on:=3,ground:=Ground.data },{ on:=2,ground:=Ground.chain }],guard:=none }
def opXd5 : Oper:={ dst:=some 12,op:=Op.fieldAddr 71 (Operand.tmp 1) 1,type:=0,pos := "treaty.go:72",after:=#[{ on:=4,ground:=Ground.guard }],guard:=some (4,true) }
def opXd6 : Oper:={ dst:=some 13,op:=Op.load 27 (Operand.tmp 12),type := 27,pos := "treaty.go:72",after:=#[{ on:=5,ground:=Ground.data },{ on:=4,ground:=Ground.guard }],guard:=some (4,true) }
def opXd7 : Oper:={ dst:=some 14,op:=Op.call { callee:=Callee.value (Operand.func 16),args:=#[Operand.const (Value.int IntKind.i64 1)],argTypes:=#[3] },type := 27,pos := "treaty.go:72",after:=#[{ on:=4,ground:=Ground.chain },{ on:=4,ground:=Ground.guard }],guard:=some (4,true) }
def opXd8 : Oper:={ dst:=some 15,op:=Op.call { callee:=Callee.value (Operand.func 22),args:=#[Operand.tmp 13,Operand.tmp 14],argTypes:=#[27,27] },type := 3,pos := "treaty.go:72",after:=#[{ on:=6,ground:=Ground.data },{ on:=7,ground:=Ground.data },{ on:=7,ground:=Ground.chain },{ on:=4,ground:=Ground.guard }],guard:=some (4,true) }
def opXd9 : Oper:={ dst:=some 16,op:=Op.binOp BinOp.leq 3 (Operand.tmp 15) (Operand.const (Value.int IntKind.i64 0)) 3,type := 4,pos := "treaty.go:72",after:=#[{ on:=8,ground:=Ground.data },{ on:=4,ground:=Ground.guard }],guard:=some (4,true) }
def opXd10 : Oper:={ dst:=some 17,op:=Op.pick (Operand.tmp 11) (Operand.tmp 16) (Operand.const (Value.bool false)),type := 4,pos := "treaty.go:72",after:=#[{ on:=4,ground:=Ground.data },{ on:=9,ground:=Ground.data }],guard:=none }
def opXd11 : Oper:={ dst:=some 2,op:=Op.assign (Operand.tmp 17),type := 4,pos := "treaty.go:72",after:=#[{ on:=10,ground:=Ground.data },{ on:=8,ground:=Ground.chain },{ on:=0,ground:=Ground.phase },{ on:=1,ground:=Ground.phase },{ on:=2,ground:=Ground.phase },{ on:=3,ground:=Ground.phase },{ on:=4,ground:=Ground.phase },{ on:=5,ground:=Ground.phase },{ on:=6,ground:=Ground.phase },{ on:=7,ground:=Ground.phase },{ on:=8,ground:=Ground.phase },{ on:=9,ground:=Ground.phase },{ on:=10,ground:=Ground.phase }],guard:=none }
def opXds : Array Oper:=#[opXd0,opXd1,opXd2,opXd3,opXd4,opXd5,opXd6,opXd7,opXd8,opXd9,opXd10,opXd11]
def opXdT (i : Nat) : Nat:=match i with
 | 0 => 7
 | 1 => 8
 | 2 => 9
 | 3 => 10
 | 4 => 11
 | 5 => 12
 | 6 => 13
 | 7 => 14
 | 8 => 15
 | 9 => 16
 | 10 => 17
 | _ => 2
/-- what each operation's value is -/
def opXdC (g1 : Nat) (s1 : Bool) (x1 : Int) (y1 : Int) (p1 : Option Addr) (sg : Int) (i : Nat) (_w : World) (v : Value) : Prop:=match i with
 | 0 => v = .pointer (some ⟨g1,1,none⟩)
 | 1 => v = .agg #[.bool s1,.int .u64 x1,.int .u64 y1,.pointer p1]
 | 2 => v = .int .i64 sg
 | 3 => v = .bool false
 | 4 => v = .bool false
 | 5 => v = undef
 | 6 => v = undef
 | 7 => v = undef
 | 8 => v = undef
 | 9 => v = undef
 | 10 => v = .bool false
 | _ => v = .bool false
def opXdK (i : Nat) : Bool:=match i with
 | 5 => true
 | 6 => true
 | 7 => true
 | 8 => true
 | 9 => true
 | _ => false
theorem opXdT_inj : ∀ i j,i < 12→j < 12→opXdT i = opXdT j→i = j:=fun i j hi hj => (by decide : ∀ i,i < 12→∀ j,j < 12→opXdT i = opXdT j→i = j) i hi j hj
set_option maxHeartbeats 8000000 in
set_option maxRecDepth 100000 in
theorem fits_neg (id : Nat) (Q : Exit→Act→World→Prop) (base : Act) (W0 : World) (g1 : Nat) (s1 : Bool) (x1 : Int) (y1 : Int) (p1 : Option Addr) (sg : Int) (hs : 17 < base.tmps.size) (e1 : base.eval (.tmp 1) = .pointer (some ⟨g1,0,none⟩))
  (hsg : ¬ 0 ≤ sg) (c1 : P4o W0 g1 1 s1 x1 y1 p1)
  (SG : ∀ w,But [] W0 w→Calls Tryz.prog 19 #[.agg #[.bool s1,.int .u64 x1,.int .u64 y1,.pointer p1]] w fun e w' => e = .returned (.int .i64 sg)∧But [] w w')
  (hQ : ∀ w,But [] W0 w→Q .normal (putted base [(7,.pointer (some ⟨g1,1,none⟩)),(8,.agg #[.bool s1,.int .u64 x1,.int .u64 y1,.pointer p1]),(9,.int .i64 sg),(10,.bool false),(11,.bool false),(12,undef),(13,undef),(14,undef),(15,undef),(16,undef),(17,.bool false),(2,.bool false)]) w) :
  (Code.region id opXds true).wp Tryz.prog Q base W0:=by
 have hdr : ∀ {w},But [] W0.drew w→But [] W0 w:=fun h => (But.refl _ _).drew.trans' h
 have hT : ∀ i,i < 12→opXdT i < base.tmps.size:=fun i hi => by
  have h : opXdT i ≤ 17:=by revert i; decide
  omega
 have hCb : ∀ i w w' v,i < 12→opXdC g1 s1 x1 y1 p1 sg i w v→opXdC g1 s1 x1 y1 p1 sg i w' v:=fun i w w' v hi h => by
  have : i = 0 ∨ i = 1 ∨ i = 2 ∨ i = 3 ∨ i = 4 ∨ i = 5 ∨ i = 6 ∨ i = 7 ∨ i = 8 ∨ i = 9 ∨ i = 10 ∨ i = 11:=by omega
  rcases this with rfl | rfl | rfl | rfl | rfl | rfl | rfl | rfl | rfl | rfl | rfl | rfl
  ·exact (show v = .pointer (some ⟨g1,1,none⟩) from h)
  ·exact (show v = .agg #[.bool s1,.int .u64 x1,.int .u64 y1,.pointer p1] from h)
  ·exact (show v = .int .i64 sg from h)
  ·exact (show v = .bool false from h)
  ·exact (show v = .bool false from h)
  ·exact (show v = undef from h)
  ·exact (show v = undef from h)
  ·exact (show v = undef from h)
  ·exact (show v = undef from h)
  ·exact (show v = undef from h)
  ·exact (show v = .bool false from h)
  ·exact (show v = .bool false from h)
 refine region_skip (by kernel_rfl) (low_of (by kernel_rfl)) (opXdC g1 s1 x1 y1 p1 sg) opXdT (by kernel_rfl) opXdK ?_ ?_ ?_ opXdT_inj hT (fun i w w' v hi h _ => hCb i w w' v hi h) ?_ ?_
 ·intro i o j want ho hg w v hv
  have hi : i < 12:=(Array.getElem?_eq_some_iff.1 ho).1
  have : i = 0 ∨ i = 1 ∨ i = 2 ∨ i = 3 ∨ i = 4 ∨ i = 5 ∨ i = 6 ∨ i = 7 ∨ i = 8 ∨ i = 9 ∨ i = 10 ∨ i = 11:=by omega
  rcases this with rfl | rfl | rfl | rfl | rfl | rfl | rfl | rfl | rfl | rfl | rfl | rfl
  ·obtain rfl:=Option.some.inj ((show opXds[0]? = some opXd0 from rfl).symm.trans ho)
   exact absurd (show (none : Option (Nat × Bool)) = some (j,want) from hg) (by simp)
  ·obtain rfl:=Option.some.inj ((show opXds[1]? = some opXd1 from rfl).symm.trans ho)
   exact absurd (show (none : Option (Nat × Bool)) = some (j,want) from hg) (by simp)
  ·obtain rfl:=Option.some.inj ((show opXds[2]? = some opXd2 from rfl).symm.trans ho)
   exact absurd (show (none : Option (Nat × Bool)) = some (j,want) from hg) (by simp)
  ·obtain rfl:=Option.some.inj ((show opXds[3]? = some opXd3 from rfl).symm.trans ho)
   exact absurd (show (none : Option (Nat × Bool)) = some (j,want) from hg) (by simp)
  ·obtain rfl:=Option.some.inj ((show opXds[4]? = some opXd4 from rfl).symm.trans ho)
   exact absurd (show (none : Option (Nat × Bool)) = some (j,want) from hg) (by simp)
  ·obtain rfl:=Option.some.inj ((show opXds[5]? = some opXd5 from rfl).symm.trans ho)
   obtain ⟨rfl,rfl⟩:=Prod.mk.inj (Option.some.inj (show some (4,true) = some (j,want) from hg))
   exact hv
  ·obtain rfl:=Option.some.inj ((show opXds[6]? = some opXd6 from rfl).symm.trans ho)
   obtain ⟨rfl,rfl⟩:=Prod.mk.inj (Option.some.inj (show some (4,true) = some (j,want) from hg))
   exact hv
  ·obtain rfl:=Option.some.inj ((show opXds[7]? = some opXd7 from rfl).symm.trans ho)
   obtain ⟨rfl,rfl⟩:=Prod.mk.inj (Option.some.inj (show some (4,true) = some (j,want) from hg))
   exact hv
  ·obtain rfl:=Option.some.inj ((show opXds[8]? = some opXd8 from rfl).symm.trans ho)
   obtain ⟨rfl,rfl⟩:=Prod.mk.inj (Option.some.inj (show some (4,true) = some (j,want) from hg))
   exact hv
  ·obtain rfl:=Option.some.inj ((show opXds[9]? = some opXd9 from rfl).symm.trans ho)
   obtain ⟨rfl,rfl⟩:=Prod.mk.inj (Option.some.inj (show some (4,true) = some (j,want) from hg))
   exact hv
  ·obtain rfl:=Option.some.inj ((show opXds[10]? = some opXd10 from rfl).symm.trans ho)
   exact absurd (show (none : Option (Nat × Bool)) = some (j,want) from hg) (by simp)
  ·obtain rfl:=Option.some.inj ((show opXds[11]? = some opXd11 from rfl).symm.trans ho)
   exact absurd (show (none : Option (Nat × Bool)) = some (j,want) from hg) (by simp)
 ·intro i o ho hk hg
  have hi : i < 12:=(Array.getElem?_eq_some_iff.1 ho).1
  have : i = 0 ∨ i = 1 ∨ i = 2 ∨ i = 3 ∨ i = 4 ∨ i = 5 ∨ i = 6 ∨ i = 7 ∨ i = 8 ∨ i = 9 ∨ i = 10 ∨ i = 11:=by omega
  rcases this with rfl | rfl | rfl | rfl | rfl | rfl | rfl | rfl | rfl | rfl | rfl | rfl
  ·exact absurd (show false = true from hk) (by simp)
  ·exact absurd (show false = true from hk) (by simp)
  ·exact absurd (show false = true from hk) (by simp)
  ·exact absurd (show false = true from hk) (by simp)
  ·exact absurd (show false = true from hk) (by simp)
  ·obtain rfl:=Option.some.inj ((show opXds[5]? = some opXd5 from rfl).symm.trans ho)
   exact absurd (show some (4,true) = (none : Option (Nat × Bool)) from hg) (by simp)
  ·obtain rfl:=Option.some.inj ((show opXds[6]? = some opXd6 from rfl).symm.trans ho)
   exact absurd (show some (4,true) = (none : Option (Nat × Bool)) from hg) (by simp)
  ·obtain rfl:=Option.some.inj ((show opXds[7]? = some opXd7 from rfl).symm.trans ho)
   exact absurd (show some (4,true) = (none : Option (Nat × Bool)) from hg) (by simp)
  ·obtain rfl:=Option.some.inj ((show opXds[8]? = some opXd8 from rfl).symm.trans ho)
   exact absurd (show some (4,true) = (none : Option (Nat × Bool)) from hg) (by simp)
  ·obtain rfl:=Option.some.inj ((show opXds[9]? = some opXd9 from rfl).symm.trans ho)
   exact absurd (show some (4,true) = (none : Option (Nat × Bool)) from hg) (by simp)
  ·exact absurd (show false = true from hk) (by simp)
  ·exact absurd (show false = true from hk) (by simp)
 ·intro i w hk
  by_cases hi : i < 12
  ·have : i = 0 ∨ i = 1 ∨ i = 2 ∨ i = 3 ∨ i = 4 ∨ i = 5 ∨ i = 6 ∨ i = 7 ∨ i = 8 ∨ i = 9 ∨ i = 10 ∨ i = 11:=by omega
   rcases this with rfl | rfl | rfl | rfl | rfl | rfl | rfl | rfl | rfl | rfl | rfl | rfl
   ·exact absurd (show false = true from hk) (by simp)
   ·exact absurd (show false = true from hk) (by simp)
   ·exact absurd (show false = true from hk) (by simp)
   ·exact absurd (show false = true from hk) (by simp)
   ·exact absurd (show false = true from hk) (by simp)
   ·exact (show undef = undef from rfl)
   ·exact (show undef = undef from rfl)
   ·exact (show undef = undef from rfl)
   ·exact (show undef = undef from rfl)
   ·exact (show undef = undef from rfl)
   ·exact absurd (show false = true from hk) (by simp)
   ·exact absurd (show false = true from hk) (by simp)
  ·exfalso
   unfold opXdK at hk
   split at hk
   ·omega
   ·omega
   ·omega
   ·omega
   ·omega
   ·simp at hk
 ·intro i o a w K hki ho hH he hdep hk
  have hi : i < 12:=(Array.getElem?_eq_some_iff.1 ho).1
  have hD:=dep_have (ps:=[(1,0),(2,1),(3,2),(4,2),(4,3),(5,4),(6,4),(6,5),(7,4),(8,4),(8,6),(8,7),(9,4),(9,8),(10,4),(10,9),(11,0),(11,1),(11,2),(11,3),(11,4),(11,5),(11,6),(11,7),(11,8),(11,9),(11,10)]) (by kernel_rfl) ho (fun j => opXdC g1 s1 x1 y1 p1 sg j w (a.eval (.tmp (opXdT j)))) hdep
  have e1':=(he 1 (fun j hj e => absurd e.symm (by revert j; decide))).trans e1
  have : i = 0 ∨ i = 1 ∨ i = 2 ∨ i = 3 ∨ i = 4 ∨ i = 5 ∨ i = 6 ∨ i = 7 ∨ i = 8 ∨ i = 9 ∨ i = 10 ∨ i = 11:=by omega
  rcases this with rfl | rfl | rfl | rfl | rfl | rfl | rfl | rfl | rfl | rfl | rfl | rfl
  ·obtain rfl:=Option.some.inj ((show opXds[0]? = some opXd0 from rfl).symm.trans ho)
   exact wp_value (run_fL1 a w _ _ _ _ _ _ g1 e1') (hk _ _ (But.refl _ _) rfl)
  ·obtain rfl:=Option.some.inj ((show opXds[1]? = some opXd1 from rfl).symm.trans ho)
   exact wp_value (run_loadK a w _ _ _ _ _ _ g1 1 _ _ _ _ (hD 0 (by simp)) (c1.but (hdr hH) (by simp))) (hk _ _ (But.refl _ _) rfl)
  ·obtain rfl:=Option.some.inj ((show opXds[2]? = some opXd2 from rfl).symm.trans ho)
   exact wp_enter (run_signX a w _ _ _ _ _ _ _ (hD 1 (by simp))) (R:=fun w' v => But [] w w'∧v = _) ((SG w (hdr hH)).mono fun e w' ⟨he,hb⟩ => ⟨_,he,hb,rfl⟩) (fun v w' hv => hk v w' hv.1 hv.2)
  ·obtain rfl:=Option.some.inj ((show opXds[3]? = some opXd3 from rfl).symm.trans ho)
   exact wp_value (run_ge0X a w _ _ _ _ _ _ _ false (decide_eq_false hsg).symm (hD 2 (by simp))) (hk _ _ (But.refl _ _) rfl)
  ·obtain rfl:=Option.some.inj ((show opXds[4]? = some opXd4 from rfl).symm.trans ho)
   exact wp_value (run_mvK a w _ _ _ _ _ _ _ (hD 3 (by simp))) (hk _ _ (But.refl _ _) rfl)
  ·exact absurd (show true = false from hki) (by simp)
  ·exact absurd (show true = false from hki) (by simp)
  ·exact absurd (show true = false from hki) (by simp)
  ·exact absurd (show true = false from hki) (by simp)
  ·exact absurd (show true = false from hki) (by simp)
  ·obtain rfl:=Option.some.inj ((show opXds[10]? = some opXd10 from rfl).symm.trans ho)
   exact wp_value (run_andX a w _ _ _ _ _ _ _ false _ _ rfl (hD 4 (by simp)) rfl) (hk _ _ (But.refl _ _) rfl)
  ·obtain rfl:=Option.some.inj ((show opXds[11]? = some opXd11 from rfl).symm.trans ho)
   exact wp_value (run_asK a w _ _ _ _ _ _ _ (hD 10 (by simp))) (hk _ _ (But.refl _ _) rfl)
 ·intro a w h
  have ea:=h.puts hT (fun i => match i with
   | 0 => .pointer (some ⟨g1,1,none⟩)
   | 1 => .agg #[.bool s1,.int .u64 x1,.int .u64 y1,.pointer p1]
   | 2 => .int .i64 sg
   | 3 => .bool false
   | 4 => .bool false
   | 5 => undef
   | 6 => undef
   | 7 => undef
   | 8 => undef
   | 9 => undef
   | 10 => .bool false
   | _ => .bool false) (fun i hi => by
   have hi' : i < 12:=hi
   have hc:=h.has i hi rfl
   have : i = 0 ∨ i = 1 ∨ i = 2 ∨ i = 3 ∨ i = 4 ∨ i = 5 ∨ i = 6 ∨ i = 7 ∨ i = 8 ∨ i = 9 ∨ i = 10 ∨ i = 11:=by omega
   rcases this with rfl | rfl | rfl | rfl | rfl | rfl | rfl | rfl | rfl | rfl | rfl | rfl
   all_goals first | exact hc | rfl)
  rw [ea]
  exact hQ w (hdr h.but)
end Go.Proofs.YtjbboicccddhbaaGreatDoor

namespace Go.Proofs.YtjbboicccddhbaaGreatDoor
open Go.RowKit

set_option maxHeartbeats 8000000 in
set_option maxRecDepth 100000 in
theorem fits_one (s : Bool) (x y : Int) (p : Option Addr) (fr li ti pr : Int) (to : ByteArray) (f : Rat) (w : World) (hf : FracAt w (.agg #[.bool s,.int .u64 x,.int .u64 y,.pointer p]) f) (lf : Len f 1) :
  Calls Tryz.prog 164 #[lineV 1 s x y p fr li ti pr to] w fun e w' => e = .returned (.bool (decide (0 ≤ f∧f ≤ 1)))∧But [] w w':=by
 obtain ⟨ws,wx,FW,CW⟩:=whole_is 1 (by omega) (by omega)
 have l1 : Len (((1 : Int) : Rat)) 1:=len_int 1 (by decide)
 obtain ⟨sg,hsg⟩ : ∃ sg,sg = f.num.sign:=⟨_,rfl⟩
 have h0n : 0 ≤ f ↔ 0 ≤ f.num:=Rat.num_nonneg.symm
 have hs0 : 0 ≤ sg ↔ 0 ≤ f.num:=by
  rw [hsg]
  rcases Int.lt_trichotomy f.num 0 with h | h | h
  ·rw [Int.sign_eq_neg_one_of_neg h]; omega
  ·rw [h]; decide
  ·rw [Int.sign_eq_one_of_pos h]; omega
 have SG:=hide (fun W (h : But [] w W) => fracSign_any _ f W (hf.but h))
 rw [← hsg] at SG
 obtain ⟨r,hr⟩ : ∃ r,r = cmpZ (f.num * ((((1 : Int) : Rat)).den : Int)) ((((1 : Int) : Rat)).num * (f.den : Int)):=⟨_,rfl⟩
 have CM:=hide (fun W (h : But [] w W) => fracCmp_any _ _ f ((1 : Int) : Rat) W (hf.but h) (FW W) (lf.mono (by omega)) (l1.mono (by omega)) r hr)
 have hr1 : r ≤ 0 ↔ f ≤ 1:=by
  rw [hr]
  obtain ⟨e1,e2⟩:=int_parts 1
  rw [e1,e2]
  unfold cmpZ
  have h3 : f ≤ 1 ↔ f.num ≤ (f.den : Int):=by
   rw [Rat.le_iff]
   simp
  rw [h3]
  split
  ·omega
  ·split <;> omega
 have x1:=hide (LBox.new w 1 s x y p fr li ti pr to)
 have bA:=hide ((But.refl [] w).alloc (.cells #[.int .i64 1,.bool s,.int .u64 x,.int .u64 y,.pointer p,.int .i64 fr,.int .i64 li,.int .i64 ti,.int .i64 pr,.string to] 71))
 have HCW:=hide CW
 clear hf lf CW FW hsg hr
 obtain ⟨bb,hbb⟩ : ∃ bb,bb = decide (0 ≤ f∧f ≤ 1):=⟨_,rfl⟩
 rw [← hbb]
 have HBB:=hide hbb
 clear hbb
 unfold lineV
 go_enter Tryz.func164,Tryz.ntmps164
 go_wp2
 generalize w.heap.size = g1 at x1 ⊢
 generalize w.alloc (.cells #[.int .i64 1,.bool s,.int .u64 x,.int .u64 y,.pointer p,.int .i64 fr,.int .i64 li,.int .i64 ti,.int .i64 pr,.string to] 71) = V at *
 have c1 : P4o V g1 1 s x y p:=⟨(unhide x1).cells 1 _ rfl,(unhide x1).cells 2 _ rfl,(unhide x1).cells 3 _ rfl,(unhide x1).cells 4 _ rfl⟩
 by_cases hp : 0 ≤ sg
 ·refine fits_pos 3 _ _ V g1 s x y p sg ws wx r bb (by simp) (by simp [Act.eval]) hp (by rw [unhide HBB]; exact decide_eq_decide.2 ⟨fun h => hr1.2 h.2,fun h => ⟨h0n.2 (hs0.1 hp),hr1.1 h⟩⟩) c1 (fun W hb => unhide SG W ((unhide bA).trans' hb)) (unhide HCW) (fun W hb => unhide CM W ((unhide bA).trans' hb)) ?_
  intro w1 hb1
  simp only [putted,List.foldl_cons,List.foldl_nil,Act.put,List.setIfInBounds_toArray,List.set_cons_zero,List.set_cons_succ]
  have B1:=hide ((unhide bA).trans' hb1)
  clear hb1 c1
  go_wp2
  exact bodyPost_ret (v:=.bool bb) (by simp [results,Tryz.results164,go_sem]) rfl ⟨rfl,unhide B1⟩
 ·obtain rfl : bb = false:=by rw [unhide HBB]; exact decide_eq_false (fun h => hp (hs0.2 (h0n.1 h.1)))
  refine fits_neg 3 _ _ V g1 s x y p sg (by simp) (by simp [Act.eval]) hp c1 (fun W hb => unhide SG W ((unhide bA).trans' hb)) ?_
  intro w1 hb1
  simp only [putted,List.foldl_cons,List.foldl_nil,Act.put,List.setIfInBounds_toArray,List.set_cons_zero,List.set_cons_succ]
  have B1:=hide ((unhide bA).trans' hb1)
  clear hb1 c1
  go_wp2
  exact bodyPost_ret (v:=.bool false) (by simp [results,Tryz.results164,go_sem]) rfl ⟨rfl,unhide B1⟩
set_option maxHeartbeats 8000000 in
set_option maxRecDepth 100000 in
theorem fits_two (s : Bool) (x y : Int) (p : Option Addr) (fr li ti pr : Int) (to : ByteArray) (w : World) :
  Calls Tryz.prog 164 #[lineV 2 s x y p fr li ti pr to] w fun e w' => e = .returned (.bool (decide (1 ≤ li)))∧But [] w w':=by
 unfold lineV
 go_enter Tryz.func164,Tryz.ntmps164
 go_wp2
 exact bodyPost_ret (v:=.bool (decide (1 ≤ li))) (by simp [results,Tryz.results164,go_sem]) rfl ⟨rfl,(But.refl _ _).alloc _⟩
set_option maxHeartbeats 8000000 in
set_option maxRecDepth 100000 in
theorem fits_three (s : Bool) (x y : Int) (p : Option Addr) (fr li ti pr : Int) (to : ByteArray) (w : World) :
  Calls Tryz.prog 164 #[lineV 3 s x y p fr li ti pr to] w fun e w' => e = .returned (.bool (decide (1 ≤ li)))∧But [] w w':=by
 unfold lineV
 go_enter Tryz.func164,Tryz.ntmps164
 go_wp2
 exact bodyPost_ret (v:=.bool (decide (1 ≤ li))) (by simp [results,Tryz.results164,go_sem]) rfl ⟨rfl,(But.refl _ _).alloc _⟩
set_option maxHeartbeats 8000000 in
set_option maxRecDepth 100000 in
theorem fits_four (s : Bool) (x y : Int) (p : Option Addr) (fr li ti pr : Int) (to : ByteArray) (w : World) :
  Calls Tryz.prog 164 #[lineV 4 s x y p fr li ti pr to] w fun e w' => e = .returned (.bool true)∧But [] w w':=by
 unfold lineV
 go_enter Tryz.func164,Tryz.ntmps164
 go_wp2
 exact bodyPost_ret (v:=.bool true) (by simp [results,Tryz.results164,go_sem]) rfl ⟨rfl,(But.refl _ _).alloc _⟩
end Go.Proofs.YtjbboicccddhbaaGreatDoor

namespace Go.Proofs.YtjbboicccddhbaaGreatDoor
open Go.RowKit

/-- the numbers of a line are within their bounds -/
def RangeOk (fr li ti pr : Int) : Prop:=(0 ≤ fr∧fr ≤ 1000000000000)∧(0 ≤ li∧li ≤ 1000000000000)∧(0 ≤ pr∧pr ≤ 1000000000000)∧0 ≤ ti∧ti ≤ 100
set_option maxHeartbeats 8000000 in
set_option maxRecDepth 100000 in
theorem lineCheck_one (s : Bool) (x y : Int) (p : Option Addr) (fr li ti pr : Int) (to : ByteArray) (f : Rat) (w : World) (hf : FracAt w (.agg #[.bool s,.int .u64 x,.int .u64 y,.pointer p]) f) (lf : Len f 1) (hname : NameIs to) (hr : RangeOk fr li ti pr) (h1 : 0 ≤ f∧f ≤ 1) (h2 : fr = 0∧li = 0∧ti = 0∧pr = 0) :
  Calls Tryz.prog 122 #[lineV 1 s x y p fr li ti pr to] w fun e w' => e = .returned .nilIface∧But [] w w':=by
 obtain ⟨r1,r2,r3,r4⟩:=hr
 have NM:=hide (fun W => tableName_yes to W hname)
 have W1:=hide (fun W => within_any fr 1000000000000 W)
 rw [decide_eq_true r1] at W1
 have W2:=hide (fun W => within_any li 1000000000000 W)
 rw [decide_eq_true r2] at W2
 have W3:=hide (fun W => within_any pr 1000000000000 W)
 rw [decide_eq_true r3] at W3
 have W4:=hide (fun W => within_any ti 100 W)
 rw [decide_eq_true r4] at W4
 have FI:=hide (fun W (h : But [] w W) => fits_one s x y p fr li ti pr to f W (hf.but h) lf)
 rw [decide_eq_true h1] at FI
 have FO:=hide (fun W => foreign_one s x y p fr li ti pr to W)
 have EM:=hide (fun W (h : But [] w W) => empty_any 1 false 0 0 none fr li ti pr to 0 W (zeroX_at W) true (decide_eq_true ⟨rfl,h2.1,h2.2.1,h2.2.2.1,h2.2.2.2⟩).symm)
 have x1:=hide (LBox.new w 1 s x y p fr li ti pr to)
 have bA:=hide ((But.refl [] w).alloc (.cells #[.int .i64 1,.bool s,.int .u64 x,.int .u64 y,.pointer p,.int .i64 fr,.int .i64 li,.int .i64 ti,.int .i64 pr,.string to] 71))
 unfold lineV at FI FO EM
 clear hf lf hname r1 r2 r3 r4 h1 h2
 unfold lineV
 go_enter Tryz.func122,Tryz.ntmps122
 go_wp2_with fail
 refine (unhide NM _).mono ?_
 rintro e w1 ⟨rfl,hb1⟩
 have B1:=hide ((unhide bA).trans' hb1)
 have X1:=(unhide x1).but hb1 (by simp)
 have c0:=X1.cells 0 _ rfl
 have c1:=X1.cells 1 _ rfl
 have c2:=X1.cells 2 _ rfl
 have c3:=X1.cells 3 _ rfl
 have c4:=X1.cells 4 _ rfl
 have c5:=X1.cells 5 _ rfl
 have c6:=X1.cells 6 _ rfl
 have c7:=X1.cells 7 _ rfl
 have c8:=X1.cells 8 _ rfl
 have c9:=X1.cells 9 _ rfl
 generalize w.heap.size = g1 at c0 c1 c2 c3 c4 c5 c6 c7 c8 c9 ⊢
 clear hb1 NM bA X1 x1
 go_wp2_with fail
 refine (unhide W1 _).mono ?_
 rintro e w1' ⟨rfl,rfl⟩
 go_wp2_with fail
 refine (unhide W2 _).mono ?_
 rintro e w1'' ⟨rfl,rfl⟩
 go_wp2_with fail
 refine (unhide W3 _).mono ?_
 rintro e w13 ⟨rfl,rfl⟩
 go_wp2_with fail
 refine (unhide W4 _).mono ?_
 rintro e w14 ⟨rfl,rfl⟩
 go_wp2_with fail
 refine (unhide FI _ (unhide B1)).mono ?_
 rintro e w2 ⟨rfl,hb2⟩
 have B2:=hide ((unhide B1).trans' hb2)
 have d0:=hb2.cell_some c0 (by simp)
 have d1:=hb2.cell_some c1 (by simp)
 have d2:=hb2.cell_some c2 (by simp)
 have d3:=hb2.cell_some c3 (by simp)
 have d4:=hb2.cell_some c4 (by simp)
 have d5:=hb2.cell_some c5 (by simp)
 have d6:=hb2.cell_some c6 (by simp)
 have d7:=hb2.cell_some c7 (by simp)
 have d8:=hb2.cell_some c8 (by simp)
 have d9:=hb2.cell_some c9 (by simp)
 clear hb2 c0 c1 c2 c3 c4 c5 c6 c7 c8 c9 W1 W2 W3 W4 FI B1
 go_wp2_with fail
 refine (unhide FO _).mono ?_
 rintro e w3 ⟨rfl,hb3⟩
 have B3:=hide ((unhide B2).trans' hb3)
 clear hb3 FO B2 d0 d1 d2 d3 d4 d5 d6 d7 d8 d9
 go_wp2_with fail
 refine (unhide EM _ (unhide B3)).mono ?_
 rintro e w4 ⟨rfl,hb4⟩
 have B4:=hide ((unhide B3).trans' hb4)
 clear hb4 EM B3
 go_wp2
 exact bodyPost_ret (v:=.nilIface) (by simp [results,Tryz.results122,go_sem]) rfl ⟨rfl,unhide B4⟩
set_option maxHeartbeats 8000000 in
set_option maxRecDepth 100000 in
theorem lineCheck_two (s : Bool) (x y : Int) (p : Option Addr) (fr li ti pr : Int) (to : ByteArray) (f : Rat) (w : World) (hf : FracAt w (.agg #[.bool s,.int .u64 x,.int .u64 y,.pointer p]) f) (_lf : Len f 1) (hname : NameIs to) (hr : RangeOk fr li ti pr) (h1 : 1 ≤ li) (h2 : f.num = 0∧fr = 0∧pr = 0) :
  Calls Tryz.prog 122 #[lineV 2 s x y p fr li ti pr to] w fun e w' => e = .returned .nilIface∧But [] w w':=by
 obtain ⟨r1,r2,r3,r4⟩:=hr
 have NM:=hide (fun W => tableName_yes to W hname)
 have W1:=hide (fun W => within_any fr 1000000000000 W)
 rw [decide_eq_true r1] at W1
 have W2:=hide (fun W => within_any li 1000000000000 W)
 rw [decide_eq_true r2] at W2
 have W3:=hide (fun W => within_any pr 1000000000000 W)
 rw [decide_eq_true r3] at W3
 have W4:=hide (fun W => within_any ti 100 W)
 rw [decide_eq_true r4] at W4
 have FI:=hide (fun W (h : But [] w W) => fits_two s x y p fr li ti pr to W)
 rw [decide_eq_true h1] at FI
 have FO:=hide (fun W => foreign_two s x y p fr li ti pr to W)
 have EM:=hide (fun W (h : But [] w W) => empty_any 2 s x y p fr 0 0 pr to f W (hf.but h) true (decide_eq_true ⟨h2.1,h2.2.1,rfl,rfl,h2.2.2⟩).symm)
 have x1:=hide (LBox.new w 2 s x y p fr li ti pr to)
 have bA:=hide ((But.refl [] w).alloc (.cells #[.int .i64 2,.bool s,.int .u64 x,.int .u64 y,.pointer p,.int .i64 fr,.int .i64 li,.int .i64 ti,.int .i64 pr,.string to] 71))
 unfold lineV at FI FO EM
 clear hf _lf hname r1 r2 r3 r4 h1 h2
 unfold lineV
 go_enter Tryz.func122,Tryz.ntmps122
 go_wp2_with fail
 refine (unhide NM _).mono ?_
 rintro e w1 ⟨rfl,hb1⟩
 have B1:=hide ((unhide bA).trans' hb1)
 have X1:=(unhide x1).but hb1 (by simp)
 have c0:=X1.cells 0 _ rfl
 have c1:=X1.cells 1 _ rfl
 have c2:=X1.cells 2 _ rfl
 have c3:=X1.cells 3 _ rfl
 have c4:=X1.cells 4 _ rfl
 have c5:=X1.cells 5 _ rfl
 have c6:=X1.cells 6 _ rfl
 have c7:=X1.cells 7 _ rfl
 have c8:=X1.cells 8 _ rfl
 have c9:=X1.cells 9 _ rfl
 generalize w.heap.size = g1 at c0 c1 c2 c3 c4 c5 c6 c7 c8 c9 ⊢
 clear hb1 NM bA X1 x1
 go_wp2_with fail
 refine (unhide W1 _).mono ?_
 rintro e w1' ⟨rfl,rfl⟩
 go_wp2_with fail
 refine (unhide W2 _).mono ?_
 rintro e w1'' ⟨rfl,rfl⟩
 go_wp2_with fail
 refine (unhide W3 _).mono ?_
 rintro e w13 ⟨rfl,rfl⟩
 go_wp2_with fail
 refine (unhide W4 _).mono ?_
 rintro e w14 ⟨rfl,rfl⟩
 go_wp2_with fail
 refine (unhide FI _ (unhide B1)).mono ?_
 rintro e w2 ⟨rfl,hb2⟩
 have B2:=hide ((unhide B1).trans' hb2)
 have d0:=hb2.cell_some c0 (by simp)
 have d1:=hb2.cell_some c1 (by simp)
 have d2:=hb2.cell_some c2 (by simp)
 have d3:=hb2.cell_some c3 (by simp)
 have d4:=hb2.cell_some c4 (by simp)
 have d5:=hb2.cell_some c5 (by simp)
 have d6:=hb2.cell_some c6 (by simp)
 have d7:=hb2.cell_some c7 (by simp)
 have d8:=hb2.cell_some c8 (by simp)
 have d9:=hb2.cell_some c9 (by simp)
 clear hb2 c0 c1 c2 c3 c4 c5 c6 c7 c8 c9 W1 W2 W3 W4 FI B1
 go_wp2_with fail
 refine (unhide FO _).mono ?_
 rintro e w3 ⟨rfl,hb3⟩
 have B3:=hide ((unhide B2).trans' hb3)
 clear hb3 FO B2 d0 d1 d2 d3 d4 d5 d6 d7 d8 d9
 go_wp2_with fail
 refine (unhide EM _ (unhide B3)).mono ?_
 rintro e w4 ⟨rfl,hb4⟩
 have B4:=hide ((unhide B3).trans' hb4)
 clear hb4 EM B3
 go_wp2
 exact bodyPost_ret (v:=.nilIface) (by simp [results,Tryz.results122,go_sem]) rfl ⟨rfl,unhide B4⟩
set_option maxHeartbeats 8000000 in
set_option maxRecDepth 100000 in
theorem lineCheck_three (s : Bool) (x y : Int) (p : Option Addr) (fr li ti pr : Int) (to : ByteArray) (f : Rat) (w : World) (hf : FracAt w (.agg #[.bool s,.int .u64 x,.int .u64 y,.pointer p]) f) (_lf : Len f 1) (hname : NameIs to) (hr : RangeOk fr li ti pr) (h1 : 1 ≤ li) (h2 : f.num = 0) :
  Calls Tryz.prog 122 #[lineV 3 s x y p fr li ti pr to] w fun e w' => e = .returned .nilIface∧But [] w w':=by
 obtain ⟨r1,r2,r3,r4⟩:=hr
 have NM:=hide (fun W => tableName_yes to W hname)
 have W1:=hide (fun W => within_any fr 1000000000000 W)
 rw [decide_eq_true r1] at W1
 have W2:=hide (fun W => within_any li 1000000000000 W)
 rw [decide_eq_true r2] at W2
 have W3:=hide (fun W => within_any pr 1000000000000 W)
 rw [decide_eq_true r3] at W3
 have W4:=hide (fun W => within_any ti 100 W)
 rw [decide_eq_true r4] at W4
 have FI:=hide (fun W (h : But [] w W) => fits_three s x y p fr li ti pr to W)
 rw [decide_eq_true h1] at FI
 have FO:=hide (fun W => foreign_three s x y p fr li ti pr to W)
 have EM:=hide (fun W (h : But [] w W) => empty_any 3 s x y p 0 0 0 0 to f W (hf.but h) true (decide_eq_true ⟨h2,rfl,rfl,rfl,rfl⟩).symm)
 have x1:=hide (LBox.new w 3 s x y p fr li ti pr to)
 have bA:=hide ((But.refl [] w).alloc (.cells #[.int .i64 3,.bool s,.int .u64 x,.int .u64 y,.pointer p,.int .i64 fr,.int .i64 li,.int .i64 ti,.int .i64 pr,.string to] 71))
 unfold lineV at FI FO EM
 clear hf _lf hname r1 r2 r3 r4 h1 h2
 unfold lineV
 go_enter Tryz.func122,Tryz.ntmps122
 go_wp2_with fail
 refine (unhide NM _).mono ?_
 rintro e w1 ⟨rfl,hb1⟩
 have B1:=hide ((unhide bA).trans' hb1)
 have X1:=(unhide x1).but hb1 (by simp)
 have c0:=X1.cells 0 _ rfl
 have c1:=X1.cells 1 _ rfl
 have c2:=X1.cells 2 _ rfl
 have c3:=X1.cells 3 _ rfl
 have c4:=X1.cells 4 _ rfl
 have c5:=X1.cells 5 _ rfl
 have c6:=X1.cells 6 _ rfl
 have c7:=X1.cells 7 _ rfl
 have c8:=X1.cells 8 _ rfl
 have c9:=X1.cells 9 _ rfl
 generalize w.heap.size = g1 at c0 c1 c2 c3 c4 c5 c6 c7 c8 c9 ⊢
 clear hb1 NM bA X1 x1
 go_wp2_with fail
 refine (unhide W1 _).mono ?_
 rintro e w1' ⟨rfl,rfl⟩
 go_wp2_with fail
 refine (unhide W2 _).mono ?_
 rintro e w1'' ⟨rfl,rfl⟩
 go_wp2_with fail
 refine (unhide W3 _).mono ?_
 rintro e w13 ⟨rfl,rfl⟩
 go_wp2_with fail
 refine (unhide W4 _).mono ?_
 rintro e w14 ⟨rfl,rfl⟩
 go_wp2_with fail
 refine (unhide FI _ (unhide B1)).mono ?_
 rintro e w2 ⟨rfl,hb2⟩
 have B2:=hide ((unhide B1).trans' hb2)
 have d0:=hb2.cell_some c0 (by simp)
 have d1:=hb2.cell_some c1 (by simp)
 have d2:=hb2.cell_some c2 (by simp)
 have d3:=hb2.cell_some c3 (by simp)
 have d4:=hb2.cell_some c4 (by simp)
 have d5:=hb2.cell_some c5 (by simp)
 have d6:=hb2.cell_some c6 (by simp)
 have d7:=hb2.cell_some c7 (by simp)
 have d8:=hb2.cell_some c8 (by simp)
 have d9:=hb2.cell_some c9 (by simp)
 clear hb2 c0 c1 c2 c3 c4 c5 c6 c7 c8 c9 W1 W2 W3 W4 FI B1
 go_wp2_with fail
 refine (unhide FO _).mono ?_
 rintro e w3 ⟨rfl,hb3⟩
 have B3:=hide ((unhide B2).trans' hb3)
 clear hb3 FO B2 d0 d1 d2 d3 d4 d5 d6 d7 d8 d9
 go_wp2_with fail
 refine (unhide EM _ (unhide B3)).mono ?_
 rintro e w4 ⟨rfl,hb4⟩
 have B4:=hide ((unhide B3).trans' hb4)
 clear hb4 EM B3
 go_wp2
 exact bodyPost_ret (v:=.nilIface) (by simp [results,Tryz.results122,go_sem]) rfl ⟨rfl,unhide B4⟩
set_option maxHeartbeats 8000000 in
set_option maxRecDepth 100000 in
theorem lineCheck_four (s : Bool) (x y : Int) (p : Option Addr) (fr li ti pr : Int) (to : ByteArray) (f : Rat) (w : World) (hf : FracAt w (.agg #[.bool s,.int .u64 x,.int .u64 y,.pointer p]) f) (_lf : Len f 1) (hname : NameIs to) (hr : RangeOk fr li ti pr) (h2 : f.num = 0∧ti = 0∧pr = 0) :
  Calls Tryz.prog 122 #[lineV 4 s x y p fr li ti pr to] w fun e w' => e = .returned .nilIface∧But [] w w':=by
 obtain ⟨r1,r2,r3,r4⟩:=hr
 have NM:=hide (fun W => tableName_yes to W hname)
 have W1:=hide (fun W => within_any fr 1000000000000 W)
 rw [decide_eq_true r1] at W1
 have W2:=hide (fun W => within_any li 1000000000000 W)
 rw [decide_eq_true r2] at W2
 have W3:=hide (fun W => within_any pr 1000000000000 W)
 rw [decide_eq_true r3] at W3
 have W4:=hide (fun W => within_any ti 100 W)
 rw [decide_eq_true r4] at W4
 have FI:=hide (fun W (h : But [] w W) => fits_four s x y p fr li ti pr to W)
 have FO:=hide (fun W => foreign_four s x y p fr li ti pr to W)
 have EM:=hide (fun W (h : But [] w W) => empty_any 4 s x y p 0 0 ti pr to f W (hf.but h) true (decide_eq_true ⟨h2.1,rfl,rfl,h2.2.1,h2.2.2⟩).symm)
 have x1:=hide (LBox.new w 4 s x y p fr li ti pr to)
 have bA:=hide ((But.refl [] w).alloc (.cells #[.int .i64 4,.bool s,.int .u64 x,.int .u64 y,.pointer p,.int .i64 fr,.int .i64 li,.int .i64 ti,.int .i64 pr,.string to] 71))
 unfold lineV at FI FO EM
 clear hf _lf hname r1 r2 r3 r4 h2
 unfold lineV
 go_enter Tryz.func122,Tryz.ntmps122
 go_wp2_with fail
 refine (unhide NM _).mono ?_
 rintro e w1 ⟨rfl,hb1⟩
 have B1:=hide ((unhide bA).trans' hb1)
 have X1:=(unhide x1).but hb1 (by simp)
 have c0:=X1.cells 0 _ rfl
 have c1:=X1.cells 1 _ rfl
 have c2:=X1.cells 2 _ rfl
 have c3:=X1.cells 3 _ rfl
 have c4:=X1.cells 4 _ rfl
 have c5:=X1.cells 5 _ rfl
 have c6:=X1.cells 6 _ rfl
 have c7:=X1.cells 7 _ rfl
 have c8:=X1.cells 8 _ rfl
 have c9:=X1.cells 9 _ rfl
 generalize w.heap.size = g1 at c0 c1 c2 c3 c4 c5 c6 c7 c8 c9 ⊢
 clear hb1 NM bA X1 x1
 go_wp2_with fail
 refine (unhide W1 _).mono ?_
 rintro e w1' ⟨rfl,rfl⟩
 go_wp2_with fail
 refine (unhide W2 _).mono ?_
 rintro e w1'' ⟨rfl,rfl⟩
 go_wp2_with fail
 refine (unhide W3 _).mono ?_
 rintro e w13 ⟨rfl,rfl⟩
 go_wp2_with fail
 refine (unhide W4 _).mono ?_
 rintro e w14 ⟨rfl,rfl⟩
 go_wp2_with fail
 refine (unhide FI _ (unhide B1)).mono ?_
 rintro e w2 ⟨rfl,hb2⟩
 have B2:=hide ((unhide B1).trans' hb2)
 have d0:=hb2.cell_some c0 (by simp)
 have d1:=hb2.cell_some c1 (by simp)
 have d2:=hb2.cell_some c2 (by simp)
 have d3:=hb2.cell_some c3 (by simp)
 have d4:=hb2.cell_some c4 (by simp)
 have d5:=hb2.cell_some c5 (by simp)
 have d6:=hb2.cell_some c6 (by simp)
 have d7:=hb2.cell_some c7 (by simp)
 have d8:=hb2.cell_some c8 (by simp)
 have d9:=hb2.cell_some c9 (by simp)
 clear hb2 c0 c1 c2 c3 c4 c5 c6 c7 c8 c9 W1 W2 W3 W4 FI B1
 go_wp2_with fail
 refine (unhide FO _).mono ?_
 rintro e w3 ⟨rfl,hb3⟩
 have B3:=hide ((unhide B2).trans' hb3)
 clear hb3 FO B2 d0 d1 d2 d3 d4 d5 d6 d7 d8 d9
 go_wp2_with fail
 refine (unhide EM _ (unhide B3)).mono ?_
 rintro e w4 ⟨rfl,hb4⟩
 have B4:=hide ((unhide B3).trans' hb4)
 clear hb4 EM B3
 go_wp2
 exact bodyPost_ret (v:=.nilIface) (by simp [results,Tryz.results122,go_sem]) rfl ⟨rfl,unhide B4⟩
end Go.Proofs.YtjbboicccddhbaaGreatDoor

namespace Go.Proofs.YtjbboicccddhbaaGreatDoor
open Go.RowKit

set_option maxHeartbeats 8000000 in
set_option maxRecDepth 100000 in
theorem lineCheck_kind (kd : Int) (s : Bool) (x y : Int) (p : Option Addr) (fr li ti pr : Int) (to : ByteArray) (w : World) (hk : kd < 1 ∨ 4 < kd) :
  Calls Tryz.prog 122 #[lineV kd s x y p fr li ti pr to] w fun e w' => e = .returned (.iface 92 (.int .i64 1))∧But [] w w':=by
 unfold lineV
 rcases hk with h | h
 ·go_enter Tryz.func122,Tryz.ntmps122
  go_wp2
  exact bodyPost_ret (v:=.iface 92 (.int .i64 1)) (by simp [results,Tryz.results122,go_sem]) rfl ⟨rfl,(But.refl _ _).alloc _⟩
 ·have h0 : ¬ kd < 1:=by omega
  go_enter Tryz.func122,Tryz.ntmps122
  go_wp2
  exact bodyPost_ret (v:=.iface 92 (.int .i64 1)) (by simp [results,Tryz.results122,go_sem]) rfl ⟨rfl,(But.refl _ _).alloc _⟩
set_option maxHeartbeats 8000000 in
set_option maxRecDepth 100000 in
theorem lineCheck_name (kd : Int) (s : Bool) (x y : Int) (p : Option Addr) (fr li ti pr : Int) (to : ByteArray) (w : World) (k1 : ¬ kd < 1) (k2 : ¬ 4 < kd) (hname : ¬ NameIs to) (hbig : to.size < 9223372036854775808) :
  Calls Tryz.prog 122 #[lineV kd s x y p fr li ti pr to] w fun e w' => e = .returned (.iface 92 (.int .i64 5))∧But [] w w':=by
 have NM:=hide (fun W => tableName_no to W hname hbig)
 have bA:=hide ((But.refl [] w).alloc (.cells #[.int .i64 kd,.bool s,.int .u64 x,.int .u64 y,.pointer p,.int .i64 fr,.int .i64 li,.int .i64 ti,.int .i64 pr,.string to] 71))
 clear hname hbig
 unfold lineV
 go_enter Tryz.func122,Tryz.ntmps122
 go_wp2_with fail
 refine (unhide NM _).mono ?_
 rintro e w1 ⟨rfl,hb1⟩
 have B1:=hide ((unhide bA).trans' hb1)
 clear hb1 NM bA
 go_wp2
 exact bodyPost_ret (v:=.iface 92 (.int .i64 5)) (by simp [results,Tryz.results122,go_sem]) rfl ⟨rfl,unhide B1⟩
set_option maxHeartbeats 8000000 in
set_option maxRecDepth 100000 in
theorem lineCheck_range1 (kd : Int) (s : Bool) (x y : Int) (p : Option Addr) (fr li ti pr : Int) (to : ByteArray) (w : World) (k1 : ¬ kd < 1) (k2 : ¬ 4 < kd) (hname : NameIs to)  (rb : ¬ (0 ≤ fr∧fr ≤ 1000000000000)) :
  Calls Tryz.prog 122 #[lineV kd s x y p fr li ti pr to] w fun e w' => e = .returned (.iface 92 (.int .i64 2))∧But [] w w':=by
 have NM:=hide (fun W => tableName_yes to W hname)
 have W1:=hide (fun W => within_any fr 1000000000000 W)
 rw [decide_eq_false rb] at W1
 have x1:=hide (LBox.new w kd s x y p fr li ti pr to)
 have bA:=hide ((But.refl [] w).alloc (.cells #[.int .i64 kd,.bool s,.int .u64 x,.int .u64 y,.pointer p,.int .i64 fr,.int .i64 li,.int .i64 ti,.int .i64 pr,.string to] 71))
 clear hname  rb
 unfold lineV
 go_enter Tryz.func122,Tryz.ntmps122
 go_wp2_with fail
 refine (unhide NM _).mono ?_
 rintro e w1 ⟨rfl,hb1⟩
 have B1:=hide ((unhide bA).trans' hb1)
 have X1:=(unhide x1).but hb1 (by simp)
 have c5:=X1.cells 5 _ rfl
 have c6:=X1.cells 6 _ rfl
 have c7:=X1.cells 7 _ rfl
 have c8:=X1.cells 8 _ rfl
 generalize w.heap.size = g1 at c5 c6 c7 c8 ⊢
 clear hb1 NM bA X1 x1
 go_wp2_with fail
 refine (unhide W1 _).mono ?_
 rintro e v0 ⟨rfl,rfl⟩
 go_wp2
 exact bodyPost_ret (v:=.iface 92 (.int .i64 2)) (by simp [results,Tryz.results122,go_sem]) rfl ⟨rfl,unhide B1⟩
set_option maxHeartbeats 8000000 in
set_option maxRecDepth 100000 in
theorem lineCheck_range2 (kd : Int) (s : Bool) (x y : Int) (p : Option Addr) (fr li ti pr : Int) (to : ByteArray) (w : World) (k1 : ¬ kd < 1) (k2 : ¬ 4 < kd) (hname : NameIs to) (r1 : 0 ≤ fr∧fr ≤ 1000000000000) (rb : ¬ (0 ≤ li∧li ≤ 1000000000000)) :
  Calls Tryz.prog 122 #[lineV kd s x y p fr li ti pr to] w fun e w' => e = .returned (.iface 92 (.int .i64 2))∧But [] w w':=by
 have NM:=hide (fun W => tableName_yes to W hname)
 have W1:=hide (fun W => within_any fr 1000000000000 W)
 rw [decide_eq_true r1] at W1
 have W2:=hide (fun W => within_any li 1000000000000 W)
 rw [decide_eq_false rb] at W2
 have x1:=hide (LBox.new w kd s x y p fr li ti pr to)
 have bA:=hide ((But.refl [] w).alloc (.cells #[.int .i64 kd,.bool s,.int .u64 x,.int .u64 y,.pointer p,.int .i64 fr,.int .i64 li,.int .i64 ti,.int .i64 pr,.string to] 71))
 clear hname r1 rb
 unfold lineV
 go_enter Tryz.func122,Tryz.ntmps122
 go_wp2_with fail
 refine (unhide NM _).mono ?_
 rintro e w1 ⟨rfl,hb1⟩
 have B1:=hide ((unhide bA).trans' hb1)
 have X1:=(unhide x1).but hb1 (by simp)
 have c5:=X1.cells 5 _ rfl
 have c6:=X1.cells 6 _ rfl
 have c7:=X1.cells 7 _ rfl
 have c8:=X1.cells 8 _ rfl
 generalize w.heap.size = g1 at c5 c6 c7 c8 ⊢
 clear hb1 NM bA X1 x1
 go_wp2_with fail
 refine (unhide W1 _).mono ?_
 rintro e v0 ⟨rfl,rfl⟩
 go_wp2_with fail
 refine (unhide W2 _).mono ?_
 rintro e v1 ⟨rfl,rfl⟩
 go_wp2
 exact bodyPost_ret (v:=.iface 92 (.int .i64 2)) (by simp [results,Tryz.results122,go_sem]) rfl ⟨rfl,unhide B1⟩
set_option maxHeartbeats 8000000 in
set_option maxRecDepth 100000 in
theorem lineCheck_range3 (kd : Int) (s : Bool) (x y : Int) (p : Option Addr) (fr li ti pr : Int) (to : ByteArray) (w : World) (k1 : ¬ kd < 1) (k2 : ¬ 4 < kd) (hname : NameIs to) (r1 : 0 ≤ fr∧fr ≤ 1000000000000) (r2 : 0 ≤ li∧li ≤ 1000000000000) (rb : ¬ (0 ≤ pr∧pr ≤ 1000000000000)) :
  Calls Tryz.prog 122 #[lineV kd s x y p fr li ti pr to] w fun e w' => e = .returned (.iface 92 (.int .i64 2))∧But [] w w':=by
 have NM:=hide (fun W => tableName_yes to W hname)
 have W1:=hide (fun W => within_any fr 1000000000000 W)
 rw [decide_eq_true r1] at W1
 have W2:=hide (fun W => within_any li 1000000000000 W)
 rw [decide_eq_true r2] at W2
 have W3:=hide (fun W => within_any pr 1000000000000 W)
 rw [decide_eq_false rb] at W3
 have x1:=hide (LBox.new w kd s x y p fr li ti pr to)
 have bA:=hide ((But.refl [] w).alloc (.cells #[.int .i64 kd,.bool s,.int .u64 x,.int .u64 y,.pointer p,.int .i64 fr,.int .i64 li,.int .i64 ti,.int .i64 pr,.string to] 71))
 clear hname r1 r2 rb
 unfold lineV
 go_enter Tryz.func122,Tryz.ntmps122
 go_wp2_with fail
 refine (unhide NM _).mono ?_
 rintro e w1 ⟨rfl,hb1⟩
 have B1:=hide ((unhide bA).trans' hb1)
 have X1:=(unhide x1).but hb1 (by simp)
 have c5:=X1.cells 5 _ rfl
 have c6:=X1.cells 6 _ rfl
 have c7:=X1.cells 7 _ rfl
 have c8:=X1.cells 8 _ rfl
 generalize w.heap.size = g1 at c5 c6 c7 c8 ⊢
 clear hb1 NM bA X1 x1
 go_wp2_with fail
 refine (unhide W1 _).mono ?_
 rintro e v0 ⟨rfl,rfl⟩
 go_wp2_with fail
 refine (unhide W2 _).mono ?_
 rintro e v1 ⟨rfl,rfl⟩
 go_wp2_with fail
 refine (unhide W3 _).mono ?_
 rintro e v2 ⟨rfl,rfl⟩
 go_wp2
 exact bodyPost_ret (v:=.iface 92 (.int .i64 2)) (by simp [results,Tryz.results122,go_sem]) rfl ⟨rfl,unhide B1⟩
set_option maxHeartbeats 8000000 in
set_option maxRecDepth 100000 in
theorem lineCheck_range4 (kd : Int) (s : Bool) (x y : Int) (p : Option Addr) (fr li ti pr : Int) (to : ByteArray) (w : World) (k1 : ¬ kd < 1) (k2 : ¬ 4 < kd) (hname : NameIs to) (r1 : 0 ≤ fr∧fr ≤ 1000000000000) (r2 : 0 ≤ li∧li ≤ 1000000000000) (r3 : 0 ≤ pr∧pr ≤ 1000000000000) (rb : ¬ (0 ≤ ti∧ti ≤ 100)) :
  Calls Tryz.prog 122 #[lineV kd s x y p fr li ti pr to] w fun e w' => e = .returned (.iface 92 (.int .i64 2))∧But [] w w':=by
 have NM:=hide (fun W => tableName_yes to W hname)
 have W1:=hide (fun W => within_any fr 1000000000000 W)
 rw [decide_eq_true r1] at W1
 have W2:=hide (fun W => within_any li 1000000000000 W)
 rw [decide_eq_true r2] at W2
 have W3:=hide (fun W => within_any pr 1000000000000 W)
 rw [decide_eq_true r3] at W3
 have W4:=hide (fun W => within_any ti 100 W)
 rw [decide_eq_false rb] at W4
 have x1:=hide (LBox.new w kd s x y p fr li ti pr to)
 have bA:=hide ((But.refl [] w).alloc (.cells #[.int .i64 kd,.bool s,.int .u64 x,.int .u64 y,.pointer p,.int .i64 fr,.int .i64 li,.int .i64 ti,.int .i64 pr,.string to] 71))
 clear hname r1 r2 r3 rb
 unfold lineV
 go_enter Tryz.func122,Tryz.ntmps122
 go_wp2_with fail
 refine (unhide NM _).mono ?_
 rintro e w1 ⟨rfl,hb1⟩
 have B1:=hide ((unhide bA).trans' hb1)
 have X1:=(unhide x1).but hb1 (by simp)
 have c5:=X1.cells 5 _ rfl
 have c6:=X1.cells 6 _ rfl
 have c7:=X1.cells 7 _ rfl
 have c8:=X1.cells 8 _ rfl
 generalize w.heap.size = g1 at c5 c6 c7 c8 ⊢
 clear hb1 NM bA X1 x1
 go_wp2_with fail
 refine (unhide W1 _).mono ?_
 rintro e v0 ⟨rfl,rfl⟩
 go_wp2_with fail
 refine (unhide W2 _).mono ?_
 rintro e v1 ⟨rfl,rfl⟩
 go_wp2_with fail
 refine (unhide W3 _).mono ?_
 rintro e v2 ⟨rfl,rfl⟩
 go_wp2_with fail
 refine (unhide W4 _).mono ?_
 rintro e v3 ⟨rfl,rfl⟩
 go_wp2
 exact bodyPost_ret (v:=.iface 92 (.int .i64 2)) (by simp [results,Tryz.results122,go_sem]) rfl ⟨rfl,unhide B1⟩
end Go.Proofs.YtjbboicccddhbaaGreatDoor
