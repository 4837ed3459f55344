/- Statements that draw their order, as the Go texts of packages order and tontinekeep have them. -/
import Derived.Test.YtikgmhpbdcdogaaGreatDoorYKQ
import Derived.Test.YtikgmhpbdcdogaaGreatDoorYKW
namespace Go.Proofs.YtikgmhpbdcdogaaGreatDoor
open Go.RowKit

theorem run_leastK (a : Act) (w : World) (d t1 t2 : Nat) (u : TypeId) (ps : String) (ed : Array Edge) (gd : Option (Nat × Bool)) (x1 x2 : Value) (h1 : a.eval (.tmp t1) = x1) (h2 : a.eval (.tmp t2) = x2) :
  (execOp a.eval { dst:=some d,op:=Op.call { callee:=Callee.value (Operand.func 110),args:=#[Operand.tmp t1,Operand.tmp t2],argTypes:=#[29,29] },type:=u,pos:=ps,after:=ed,guard:=gd }).run Tryz.prog w = .ok (.enter 110 #[x1,x2]) w:=by
 unfold execOp
 go_simp
 rw [← h1,← h2]
 simp [Act.eval]
def opOa0 : Oper:={ dst:=some 40,op:=Op.load 29 (Operand.tmp 11),type:=29,pos:= "order.go:46",after:=#[],guard:=none }
def opOa1 : Oper:={ dst:=some 41,op:=Op.load 29 (Operand.tmp 13),type:=29,pos:= "order.go:46",after:=#[],guard:=none }
def opOa2 : Oper:={ dst:=some 42,op:=Op.move (Operand.tmp 12),type:=3,pos:= "order.go:46",after:=#[],guard:=none }
def opOa3 : Oper:={ dst:=some 43,op:=Op.call { callee:=Callee.value (Operand.func 24),args:=#[Operand.tmp 42],argTypes:=#[3] },type:=29,pos:= "order.go:46",after:=#[{ on:=2,ground:=Ground.data }],guard:=none }
def opOa4 : Oper:={ dst:=some 44,op:=Op.call { callee:=Callee.value (Operand.func 32),args:=#[Operand.tmp 41,Operand.tmp 43],argTypes:=#[29,29] },type:=29,pos:= "order.go:46",after:=#[{ on:=1,ground:=Ground.data },{ on:=3,ground:=Ground.data },{ on:=3,ground:=Ground.chain }],guard:=none }
def opOa5 : Oper:={ dst:=some 45,op:=Op.call { callee:=Callee.value (Operand.func 19),args:=#[Operand.tmp 40,Operand.tmp 44],argTypes:=#[29,29] },type:=29,pos:= "order.go:46",after:=#[{ on:=0,ground:=Ground.data },{ on:=4,ground:=Ground.data },{ on:=4,ground:=Ground.chain }],guard:=none }
def opOa6 : Oper:={ dst:=none,op:=Op.store 29 (Operand.tmp 11) (Operand.tmp 45),type:=0,pos:= "order.go:46",after:=#[{ on:=5,ground:=Ground.data },{ on:=5,ground:=Ground.chain },{ on:=0,ground:=Ground.phase },{ on:=1,ground:=Ground.phase },{ on:=2,ground:=Ground.phase },{ on:=3,ground:=Ground.phase },{ on:=4,ground:=Ground.phase },{ on:=5,ground:=Ground.phase }],guard:=none }
def opOas : Array Oper:=#[opOa0,opOa1,opOa2,opOa3,opOa4,opOa5,opOa6]
def opOaT (i : Nat) : Nat:=match i with
 | 0 => 40
 | 1 => 41
 | 2 => 42
 | 3 => 43
 | 4 => 44
 | _ => 45
/-- what each operation's value is -/
def opOaC (s1 : Bool) (x1 : Int) (y1 : Int) (p1 : Option Addr) (s2 : Bool) (x2 : Int) (y2 : Int) (p2 : Option Addr) (k : Int) (ws : Bool) (wx : Int) (f1 : Rat) (f2 : Rat) (i : Nat) (w : World) (v : Value) : Prop:=match i with
 | 0 => v = .agg #[.bool s1,.int .u64 x1,.int .u64 y1,.pointer p1]
 | 1 => v = .agg #[.bool s2,.int .u64 x2,.int .u64 y2,.pointer p2]
 | 2 => v = .int .i64 k
 | 3 => v = .agg #[.bool ws,.int .u64 wx,.int .u64 0,.pointer none]
 | 4 => FracAt w v (f2 * ((k : Int) : Rat))
 | _ => FracAt w v (f1 + f2 * ((k : Int) : Rat))
theorem opOaC_but {s1 : Bool} {x1 : Int} {y1 : Int} {p1 : Option Addr} {s2 : Bool} {x2 : Int} {y2 : Int} {p2 : Option Addr} {k : Int} {ws : Bool} {wx : Int} {f1 : Rat} {f2 : Rat} {i : Nat} {w w' : World} {v : Value} (h : opOaC s1 x1 y1 p1 s2 x2 y2 p2 k ws wx f1 f2 i w v) (hi : i < 6) (hb : But [] w w') : opOaC s1 x1 y1 p1 s2 x2 y2 p2 k ws wx f1 f2 i w' v:=by
 have : i = 0 ∨ i = 1 ∨ i = 2 ∨ i = 3 ∨ i = 4 ∨ i = 5:=by omega
 rcases this with rfl | rfl | rfl | rfl | rfl | rfl
 all_goals first | exact h | exact FracAt.but h hb | exact FracsAt.but h hb
theorem opOaT_inj : ∀ i j,i < 6→j < 6→opOaT i = opOaT j→i = j:=fun i j hi hj => (by decide : ∀ i,i < 6→∀ j,j < 6→opOaT i = opOaT j→i = j) i hi j hj
set_option maxHeartbeats 8000000 in
set_option maxRecDepth 100000 in
theorem nowhere_region (id : Nat) (Q : Exit→Act→World→Prop) (base : Act) (W0 : World) (s1 : Bool) (x1 : Int) (y1 : Int) (p1 : Option Addr) (s2 : Bool) (x2 : Int) (y2 : Int) (p2 : Option Addr) (k : Int) (ws : Bool) (wx : Int) (f1 : Rat) (f2 : Rat) (gb g13 : Nat) {sb : Bool} {xb yb : Int} {pb : Option Addr} (hs : 45 < base.tmps.size) (eb : base.eval (.tmp 11) = .pointer (some ⟨gb,0,none⟩)) (cb : P4 W0 gb sb xb yb pb) (fzb : ∀ j,W0.frozen? ⟨gb,j,none⟩ = false) (e13 : base.eval (.tmp 13) = .pointer (some ⟨g13,0,none⟩)) (e12 : base.eval (.tmp 12) = .int .i64 k)
  (c1 : P4 W0 gb s1 x1 y1 p1) (c2 : P4 W0 g13 s2 x2 y2 p2)
  (WH : ∀ w,Calls Tryz.prog 24 #[.int .i64 k] w fun e w' => e = .returned (.agg #[.bool ws,.int .u64 wx,.int .u64 0,.pointer none])∧But [] w w')
  (MU : ∀ w,But [] W0 w→Calls Tryz.prog 32 #[.agg #[.bool s2,.int .u64 x2,.int .u64 y2,.pointer p2],.agg #[.bool ws,.int .u64 wx,.int .u64 0,.pointer none]] w fun e w' => ∃ v,e = .returned v∧FracAt w' v (f2 * ((k : Int) : Rat))∧But [] w w')
  (AD : ∀ w v,But [] W0 w→FracAt w v (f2 * ((k : Int) : Rat))→Calls Tryz.prog 19 #[.agg #[.bool s1,.int .u64 x1,.int .u64 y1,.pointer p1],v] w fun e w' => ∃ v,e = .returned v∧FracAt w' v (f1 + f2 * ((k : Int) : Rat))∧But [] w w')
  (hQ : ∀ w1 v4 s' x' y' p',But [] W0 w1→FracAt w1 (.agg #[.bool s',.int .u64 x',.int .u64 y',.pointer p']) (f1 + f2 * ((k : Int) : Rat))→Q .normal (putted base [(40,.agg #[.bool s1,.int .u64 x1,.int .u64 y1,.pointer p1]),(41,.agg #[.bool s2,.int .u64 x2,.int .u64 y2,.pointer p2]),(42,.int .i64 k),(43,.agg #[.bool ws,.int .u64 wx,.int .u64 0,.pointer none]),(44,v4),(45,(.agg #[.bool s',.int .u64 x',.int .u64 y',.pointer p']))]) (put4 w1 gb s' x' y' p')) :
  (Code.region id opOas true).wp Tryz.prog Q base W0:=by
 have hdr : ∀ {w},But [] W0.drew w→But [] W0 w:=fun h => (But.refl _ _).drew.trans' h
 have lgb : gb < W0.heap.size:=lt_of_cell cb.1
 have hT : ∀ i,i < 6→opOaT i < base.tmps.size:=fun i hi => by
  have h : opOaT i ≤ 45:=by revert i; decide
  omega
 refine region_flow (by kernel_rfl) (low_of (by kernel_rfl)) (fun i o ho => (calm_of (ops:=opOas) (by kernel_rfl) i o ho).1)
  (fun _ w => But [] W0.drew w) (opOaC s1 x1 y1 p1 s2 x2 y2 p2 k ws wx f1 f2) opOaT 6 rfl opOaT_inj hT (But.refl _ _)
  (fun i hi => ?_) ?_ (fun a w => ∃ w1 v4 s' x' y' p',a = putted base [(40,.agg #[.bool s1,.int .u64 x1,.int .u64 y1,.pointer p1]),(41,.agg #[.bool s2,.int .u64 x2,.int .u64 y2,.pointer p2]),(42,.int .i64 k),(43,.agg #[.bool ws,.int .u64 wx,.int .u64 0,.pointer none]),(44,v4),(45,(.agg #[.bool s',.int .u64 x',.int .u64 y',.pointer p']))]∧w = put4 w1 gb s' x' y' p'∧But [] W0 w1∧FracAt w1 (.agg #[.bool s',.int .u64 x',.int .u64 y',.pointer p']) (f1 + f2 * ((k : Int) : Rat))) ?_ ?_
 ·exact dep_of (ops:=opOas) (ps:=[(6,0),(6,1),(6,2),(6,3),(6,4),(6,5)]) (by kernel_rfl) 6 i (by
   have : i = 0 ∨ i = 1 ∨ i = 2 ∨ i = 3 ∨ i = 4 ∨ i = 5:=by omega
   rcases this with rfl | rfl | rfl | rfl | rfl | rfl <;> simp)
 ·intro dn i o a w K hi ho hdi hH he hdep hK
  have hD:=fun j hj => (dep_have (ps:=[(3,2),(4,1),(4,3),(5,0),(5,4)]) (by kernel_rfl) ho (fun j => dn j = true∧opOaC s1 x1 y1 p1 s2 x2 y2 p2 k ws wx f1 f2 j w (a.eval (.tmp (opOaT j)))) hdep j hj).2
  have hk : ∀ v w',But [] w w'→opOaC s1 x1 y1 p1 s2 x2 y2 p2 k ws wx f1 f2 i w' v→K (a.put (some (opOaT i)) v) w':=fun v w' hb hv => hK v w' (hH.trans' hb) (fun j hj _ u hu => opOaC_but hu hj hb) hv
  have eb':=(he 11 (fun j hj e => absurd e.symm (by revert j; decide))).trans eb
  have e13':=(he 13 (fun j hj e => absurd e.symm (by revert j; decide))).trans e13
  have e12':=(he 12 (fun j hj e => absurd e.symm (by revert j; decide))).trans e12
  have : i = 0 ∨ i = 1 ∨ i = 2 ∨ i = 3 ∨ i = 4 ∨ i = 5:=by omega
  rcases this with rfl | rfl | rfl | rfl | rfl | rfl
  ·obtain rfl:=Option.some.inj ((show opOas[0]? = some opOa0 from rfl).symm.trans ho)
   exact wp_value (run_loadK a w _ _ _ _ _ _ gb 0 _ _ _ _ eb' (c1.but (hdr hH) (by simp))) (hk _ _ (But.refl _ _) rfl)
  ·obtain rfl:=Option.some.inj ((show opOas[1]? = some opOa1 from rfl).symm.trans ho)
   exact wp_value (run_loadK a w _ _ _ _ _ _ g13 0 _ _ _ _ e13' (c2.but (hdr hH) (by simp))) (hk _ _ (But.refl _ _) rfl)
  ·obtain rfl:=Option.some.inj ((show opOas[2]? = some opOa2 from rfl).symm.trans ho)
   exact wp_value (run_mvK a w _ _ _ _ _ _ _ e12') (hk _ _ (But.refl _ _) rfl)
  ·obtain rfl:=Option.some.inj ((show opOas[3]? = some opOa3 from rfl).symm.trans ho)
   exact wp_enter (run_wholeK a w _ _ _ _ _ _ _ (hD 2 (by simp))) (R:=fun w' v => But [] w w'∧v = _) ((WH w).mono fun e w' ⟨he,hb⟩ => ⟨_,he,hb,rfl⟩) (fun v w' hv => hk v w' hv.1 hv.2)
  ·obtain rfl:=Option.some.inj ((show opOas[4]? = some opOa4 from rfl).symm.trans ho)
   exact wp_enter (run_mulK a w _ _ _ _ _ _ _ _ _ (hD 1 (by simp)) (hD 3 (by simp))) (R:=fun w' v => FracAt w' v (f2 * ((k : Int) : Rat))∧But [] w w') (MU w (hdr hH)) (fun v w' hv => hk v w' hv.2 hv.1)
  ·obtain rfl:=Option.some.inj ((show opOas[5]? = some opOa5 from rfl).symm.trans ho)
   exact wp_enter (run_addK a w _ _ _ _ _ _ _ _ _ (hD 0 (by simp)) rfl) (R:=fun w' v => FracAt w' v (f1 + f2 * ((k : Int) : Rat))∧But [] w w') (AD w _ (hdr hH) (hD 4 (by simp))) (fun v w' hv => hk v w' hv.2 hv.1)
 ·intro dn o a w K ho hall h hK
  obtain rfl:=Option.some.inj ((show opOas[6]? = some opOa6 from rfl).symm.trans ho)
  have eb':=(h.eval 11 (fun j hj e => absurd e.symm (by revert j; decide))).trans eb
  have cl : FracAt w (a.eval (.tmp 45)) (f1 + f2 * ((k : Int) : Rat)):=h.has 5 (by omega) (hall 5 (by omega))
  have cl':=cl
  obtain ⟨x',y',p',ev,-⟩:=cl.agg
  rw [ev] at cl'
  have ea:=h.puts hT (fun i => match i with
   | 0 => .agg #[.bool s1,.int .u64 x1,.int .u64 y1,.pointer p1]
   | 1 => .agg #[.bool s2,.int .u64 x2,.int .u64 y2,.pointer p2]
   | 2 => .int .i64 k
   | 3 => .agg #[.bool ws,.int .u64 wx,.int .u64 0,.pointer none]
   | 4 => a.eval (.tmp 44)
   | _ => .agg #[.bool (decide ((f1 + f2 * ((k : Int) : Rat)).num < 0)),.int .u64 x',.int .u64 y',.pointer p']) (fun i hi => by
   have hc:=h.has i hi (hall i hi)
   have : i = 0 ∨ i = 1 ∨ i = 2 ∨ i = 3 ∨ i = 4 ∨ i = 5:=by omega
   rcases this with rfl | rfl | rfl | rfl | rfl | rfl
   all_goals first | exact ev | exact hc | rfl)
  exact wp_skipped (run_store4 a w _ _ _ _ _ gb _ x' y' p' eb' ev (cb.but (hdr h.mem) (by simp)) (fun j => ((hdr h.mem).frozen (p:=⟨gb,j,none⟩) lgb (by simp)).trans (fzb j))) (hK _ _ ⟨w,a.eval (.tmp 44),_,x',y',p',ea,rfl,hdr h.mem,cl'⟩)
 ·rintro a w ⟨w1,v4,s',x',y',p',rfl,rfl,h1,h2⟩
  exact hQ  w1 v4 s' x' y' p' h1 h2
def opOb0 : Oper:={ dst:=some 13,op:=Op.load 29 (Operand.tmp 5),type:=29,pos:= "beside.go:34",after:=#[],guard:=none }
def opOb1 : Oper:={ dst:=some 14,op:=Op.move (Operand.tmp 1),type:=33,pos:= "beside.go:34",after:=#[],guard:=none }
def opOb2 : Oper:={ dst:=some 15,op:=Op.move (Operand.tmp 6),type:=3,pos:= "beside.go:34",after:=#[],guard:=none }
def opOb3 : Oper:={ dst:=some 16,op:=Op.indexAddr 33 (Operand.tmp 14) (Operand.tmp 15),type:=0,pos:= "beside.go:34",after:=#[{ on:=1,ground:=Ground.data },{ on:=2,ground:=Ground.data }],guard:=none }
def opOb4 : Oper:={ dst:=some 17,op:=Op.load 29 (Operand.tmp 16),type:=29,pos:= "beside.go:34",after:=#[{ on:=3,ground:=Ground.data }],guard:=none }
def opOb5 : Oper:={ dst:=some 18,op:=Op.call { callee:=Callee.value (Operand.func 110),args:=#[Operand.tmp 13,Operand.tmp 17],argTypes:=#[29,29] },type:=29,pos:= "beside.go:34",after:=#[{ on:=0,ground:=Ground.data },{ on:=4,ground:=Ground.data }],guard:=none }
def opOb6 : Oper:={ dst:=some 7,op:=Op.alloc 29,type:=0,pos:= "beside.go:34",after:=#[],guard:=none }
def opOb7 : Oper:={ dst:=none,op:=Op.store 29 (Operand.tmp 7) (Operand.tmp 18),type:=0,pos:= "beside.go:34",after:=#[{ on:=6,ground:=Ground.data },{ on:=5,ground:=Ground.data },{ on:=5,ground:=Ground.chain },{ on:=0,ground:=Ground.phase },{ on:=1,ground:=Ground.phase },{ on:=2,ground:=Ground.phase },{ on:=3,ground:=Ground.phase },{ on:=4,ground:=Ground.phase },{ on:=5,ground:=Ground.phase },{ on:=6,ground:=Ground.phase }],guard:=none }
def opObs : Array Oper:=#[opOb0,opOb1,opOb2,opOb3,opOb4,opOb5,opOb6,opOb7]
def opObT (i : Nat) : Nat:=match i with
 | 0 => 13
 | 1 => 14
 | 2 => 15
 | 3 => 16
 | 4 => 17
 | 5 => 18
 | _ => 7
/-- what each operation's value is -/
def opObC (b : Nat) (off : Nat) (N : Nat) (cp : Nat) (ka : Nat) (B : Nat) (s1 : Bool) (x1 : Int) (y1 : Int) (p1 : Option Addr) (s2 : Bool) (x2 : Int) (y2 : Int) (p2 : Option Addr) (f1 : Rat) (i : Nat) (w : World) (v : Value) : Prop:=match i with
 | 0 => v = .agg #[.bool s1,.int .u64 x1,.int .u64 y1,.pointer p1]
 | 1 => v = .slice (some ⟨b,off,none⟩) N cp
 | 2 => v = .int .i64 (ka : Int)
 | 3 => v = .pointer (some ⟨b,off + ka * 4,none⟩)
 | 4 => v = .agg #[.bool s2,.int .u64 x2,.int .u64 y2,.pointer p2]
 | 5 => FracAt w v f1
 | _ => LaidK B w v
theorem opObC_but {b : Nat} {off : Nat} {N : Nat} {cp : Nat} {ka : Nat} {B : Nat} {s1 : Bool} {x1 : Int} {y1 : Int} {p1 : Option Addr} {s2 : Bool} {x2 : Int} {y2 : Int} {p2 : Option Addr} {f1 : Rat} {i : Nat} {w w' : World} {v : Value} (h : opObC b off N cp ka B s1 x1 y1 p1 s2 x2 y2 p2 f1 i w v) (hi : i < 7) (hb : But [] w w') : opObC b off N cp ka B s1 x1 y1 p1 s2 x2 y2 p2 f1 i w' v:=by
 have : i = 0 ∨ i = 1 ∨ i = 2 ∨ i = 3 ∨ i = 4 ∨ i = 5 ∨ i = 6:=by omega
 rcases this with rfl | rfl | rfl | rfl | rfl | rfl | rfl
 all_goals first | exact h | exact FracAt.but h hb | exact FracsAt.but h hb | exact LaidK.but h hb
theorem opObT_inj : ∀ i j,i < 7→j < 7→opObT i = opObT j→i = j:=fun i j hi hj => (by decide : ∀ i,i < 7→∀ j,j < 7→opObT i = opObT j→i = j) i hi j hj
set_option maxHeartbeats 8000000 in
set_option maxRecDepth 100000 in
theorem lowest_region4 (id : Nat) (Q : Exit→Act→World→Prop) (base : Act) (W0 : World) (b : Nat) (off : Nat) (N : Nat) (cp : Nat) (ka : Nat) (B : Nat) (s1 : Bool) (x1 : Int) (y1 : Int) (p1 : Option Addr) (s2 : Bool) (x2 : Int) (y2 : Int) (p2 : Option Addr) (f1 : Rat) (hs : 18 < base.tmps.size) (g5 : Nat) (hBW : B ≤ W0.heap.size) (e5 : base.eval (.tmp 5) = .pointer (some ⟨g5,0,none⟩)) (e1 : base.eval (.tmp 1) = .slice (some ⟨b,off,none⟩) N cp) (e6 : base.eval (.tmp 6) = .int .i64 (ka : Int))
  (hka : ka < N) (hN2 : N < 1000000) (c1 : P4 W0 g5 s1 x1 y1 p1) (c2 : P4o W0 b (off + ka * 4) s2 x2 y2 p2)
  (LE : ∀ w,But [] W0 w→Calls Tryz.prog 110 #[.agg #[.bool s1,.int .u64 x1,.int .u64 y1,.pointer p1],.agg #[.bool s2,.int .u64 x2,.int .u64 y2,.pointer p2]] w fun e w' => ∃ v,e = .returned v∧FracAt w' v f1∧But [] w w')
  (hQ : ∀ w1 bn s' x' y' p',But [] W0 w1→B ≤ bn→P4 w1 bn false 0 0 none→(∀ j,w1.frozen? ⟨bn,j,none⟩ = false)→FracAt w1 (.agg #[.bool s',.int .u64 x',.int .u64 y',.pointer p']) (f1)→Q .normal (putted base [(13,.agg #[.bool s1,.int .u64 x1,.int .u64 y1,.pointer p1]),(14,.slice (some ⟨b,off,none⟩) N cp),(15,.int .i64 (ka : Int)),(16,.pointer (some ⟨b,off + ka * 4,none⟩)),(17,.agg #[.bool s2,.int .u64 x2,.int .u64 y2,.pointer p2]),(18,(.agg #[.bool s',.int .u64 x',.int .u64 y',.pointer p'])),(7,.pointer (some ⟨bn,0,none⟩))]) (put4 w1 bn s' x' y' p')) :
  (Code.region id opObs true).wp Tryz.prog Q base W0:=by
 have hdr : ∀ {w},But [] W0.drew w→But [] W0 w:=fun h => (But.refl _ _).drew.trans' h
 have hT : ∀ i,i < 7→opObT i < base.tmps.size:=fun i hi => by
  have h : opObT i ≤ 18:=by revert i; decide
  omega
 refine region_flow (by kernel_rfl) (low_of (by kernel_rfl)) (fun i o ho => (calm_of (ops:=opObs) (by kernel_rfl) i o ho).1)
  (fun _ w => But [] W0.drew w) (opObC b off N cp ka B s1 x1 y1 p1 s2 x2 y2 p2 f1) opObT 7 rfl opObT_inj hT (But.refl _ _)
  (fun i hi => ?_) ?_ (fun a w => ∃ w1 bn s' x' y' p',a = putted base [(13,.agg #[.bool s1,.int .u64 x1,.int .u64 y1,.pointer p1]),(14,.slice (some ⟨b,off,none⟩) N cp),(15,.int .i64 (ka : Int)),(16,.pointer (some ⟨b,off + ka * 4,none⟩)),(17,.agg #[.bool s2,.int .u64 x2,.int .u64 y2,.pointer p2]),(18,(.agg #[.bool s',.int .u64 x',.int .u64 y',.pointer p'])),(7,.pointer (some ⟨bn,0,none⟩))]∧w = put4 w1 bn s' x' y' p'∧But [] W0 w1∧B ≤ bn∧P4 w1 bn false 0 0 none∧(∀ j,w1.frozen? ⟨bn,j,none⟩ = false)∧FracAt w1 (.agg #[.bool s',.int .u64 x',.int .u64 y',.pointer p']) (f1)) ?_ ?_
 ·exact dep_of (ops:=opObs) (ps:=[(7,0),(7,1),(7,2),(7,3),(7,4),(7,5),(7,6)]) (by kernel_rfl) 7 i (by
   have : i = 0 ∨ i = 1 ∨ i = 2 ∨ i = 3 ∨ i = 4 ∨ i = 5 ∨ i = 6:=by omega
   rcases this with rfl | rfl | rfl | rfl | rfl | rfl | rfl <;> simp)
 ·intro dn i o a w K hi ho hdi hH he hdep hK
  have hD:=fun j hj => (dep_have (ps:=[(3,1),(3,2),(4,3),(5,0),(5,4)]) (by kernel_rfl) ho (fun j => dn j = true∧opObC b off N cp ka B s1 x1 y1 p1 s2 x2 y2 p2 f1 j w (a.eval (.tmp (opObT j)))) hdep j hj).2
  have hk : ∀ v w',But [] w w'→opObC b off N cp ka B s1 x1 y1 p1 s2 x2 y2 p2 f1 i w' v→K (a.put (some (opObT i)) v) w':=fun v w' hb hv => hK v w' (hH.trans' hb) (fun j hj _ u hu => opObC_but hu hj hb) hv
  have e5':=(he 5 (fun j hj e => absurd e.symm (by revert j; decide))).trans e5
  have e1':=(he 1 (fun j hj e => absurd e.symm (by revert j; decide))).trans e1
  have e6':=(he 6 (fun j hj e => absurd e.symm (by revert j; decide))).trans e6
  have : i = 0 ∨ i = 1 ∨ i = 2 ∨ i = 3 ∨ i = 4 ∨ i = 5 ∨ i = 6:=by omega
  rcases this with rfl | rfl | rfl | rfl | rfl | rfl | rfl
  ·obtain rfl:=Option.some.inj ((show opObs[0]? = some opOb0 from rfl).symm.trans ho)
   exact wp_value (run_loadK a w _ _ _ _ _ _ g5 0 _ _ _ _ e5' (c1.but (hdr hH) (by simp))) (hk _ _ (But.refl _ _) rfl)
  ·obtain rfl:=Option.some.inj ((show opObs[1]? = some opOb1 from rfl).symm.trans ho)
   exact wp_value (run_mvK a w _ _ _ _ _ _ _ e1') (hk _ _ (But.refl _ _) rfl)
  ·obtain rfl:=Option.some.inj ((show opObs[2]? = some opOb2 from rfl).symm.trans ho)
   exact wp_value (run_mvK a w _ _ _ _ _ _ _ e6') (hk _ _ (But.refl _ _) rfl)
  ·obtain rfl:=Option.some.inj ((show opObs[3]? = some opOb3 from rfl).symm.trans ho)
   exact wp_value (run_indexK a w _ _ _ _ _ _ _ b off N cp ka hka hN2 (hD 1 (by simp)) (hD 2 (by simp))) (hk _ _ (But.refl _ _) rfl)
  ·obtain rfl:=Option.some.inj ((show opObs[4]? = some opOb4 from rfl).symm.trans ho)
   exact wp_value (run_loadK a w _ _ _ _ _ _ b _ _ _ _ _ (hD 3 (by simp)) (c2.but (hdr hH) (by simp))) (hk _ _ (But.refl _ _) rfl)
  ·obtain rfl:=Option.some.inj ((show opObs[5]? = some opOb5 from rfl).symm.trans ho)
   exact wp_enter (run_leastK a w _ _ _ _ _ _ _ _ _ (hD 0 (by simp)) (hD 4 (by simp))) (R:=fun w' v => FracAt w' v (f1)∧But [] w w') (LE w (hdr hH)) (fun v w' hv => hk v w' hv.2 hv.1)
  ·obtain rfl:=Option.some.inj ((show opObs[6]? = some opOb6 from rfl).symm.trans ho)
   exact wp_value (run_allocK a w _ _ _ _) (hk _ _ ((But.refl _ _).alloc _) ⟨w.heap.size,rfl,Nat.le_trans hBW (hdr hH).size,⟨by simp,by simp,by simp,by simp⟩,fun j => by simp⟩)
 ·intro dn o a w K ho hall h hK
  obtain rfl:=Option.some.inj ((show opObs[7]? = some opOb7 from rfl).symm.trans ho)
  have cl : FracAt w (a.eval (.tmp 18)) (f1):=h.has 5 (by omega) (hall 5 (by omega))
  obtain ⟨bn,eb,hb1,hb2,hb3⟩ : LaidK B w (a.eval (.tmp 7)):=h.has 6 (by omega) (hall 6 (by omega))
  have cl':=cl
  obtain ⟨x',y',p',ev,-⟩:=cl.agg
  rw [ev] at cl'
  have ea:=h.puts hT (fun i => match i with
   | 0 => .agg #[.bool s1,.int .u64 x1,.int .u64 y1,.pointer p1]
   | 1 => .slice (some ⟨b,off,none⟩) N cp
   | 2 => .int .i64 (ka : Int)
   | 3 => .pointer (some ⟨b,off + ka * 4,none⟩)
   | 4 => .agg #[.bool s2,.int .u64 x2,.int .u64 y2,.pointer p2]
   | 5 => .agg #[.bool (decide ((f1).num < 0)),.int .u64 x',.int .u64 y',.pointer p']
   | _ => .pointer (some ⟨bn,0,none⟩)) (fun i hi => by
   have hc:=h.has i hi (hall i hi)
   have : i = 0 ∨ i = 1 ∨ i = 2 ∨ i = 3 ∨ i = 4 ∨ i = 5 ∨ i = 6:=by omega
   rcases this with rfl | rfl | rfl | rfl | rfl | rfl | rfl
   all_goals first | exact ev | exact eb | exact hc | rfl)
  exact wp_skipped (run_store4 a w _ _ _ _ _ bn _ x' y' p' eb ev hb2 hb3) (hK _ _ ⟨w,bn,_,x',y',p',ea,rfl,hdr h.mem,hb1,hb2,hb3,cl'⟩)
 ·rintro a w ⟨w1,bn,s',x',y',p',rfl,rfl,h1,h2,h3,h4,h5⟩
  exact hQ  w1 bn s' x' y' p' h1 h2 h3 h4 h5
def opOc0 : Oper:={ dst:=some 23,op:=Op.move (Operand.tmp 1),type:=33,pos:= "beside.go:36",after:=#[],guard:=none }
def opOc1 : Oper:={ dst:=some 24,op:=Op.move (Operand.tmp 6),type:=3,pos:= "beside.go:36",after:=#[],guard:=none }
def opOc2 : Oper:={ dst:=some 25,op:=Op.move (Operand.tmp 1),type:=33,pos:= "beside.go:36",after:=#[],guard:=none }
def opOc3 : Oper:={ dst:=some 26,op:=Op.move (Operand.tmp 6),type:=3,pos:= "beside.go:36",after:=#[],guard:=none }
def opOc4 : Oper:={ dst:=some 27,op:=Op.indexAddr 33 (Operand.tmp 25) (Operand.tmp 26),type:=0,pos:= "beside.go:36",after:=#[{ on:=2,ground:=Ground.data },{ on:=3,ground:=Ground.data }],guard:=none }
def opOc5 : Oper:={ dst:=some 28,op:=Op.load 29 (Operand.tmp 27),type:=29,pos:= "beside.go:36",after:=#[{ on:=4,ground:=Ground.data }],guard:=none }
def opOc6 : Oper:={ dst:=some 29,op:=Op.load 29 (Operand.tmp 7),type:=29,pos:= "beside.go:36",after:=#[],guard:=none }
def opOc7 : Oper:={ dst:=some 30,op:=Op.call { callee:=Callee.value (Operand.func 57),args:=#[Operand.tmp 28,Operand.tmp 29],argTypes:=#[29,29] },type:=29,pos:= "beside.go:36",after:=#[{ on:=5,ground:=Ground.data },{ on:=6,ground:=Ground.data }],guard:=none }
def opOc8 : Oper:={ dst:=some 31,op:=Op.indexAddr 33 (Operand.tmp 23) (Operand.tmp 24),type:=0,pos:= "beside.go:36",after:=#[{ on:=0,ground:=Ground.data },{ on:=1,ground:=Ground.data },{ on:=0,ground:=Ground.phase },{ on:=1,ground:=Ground.phase },{ on:=2,ground:=Ground.phase },{ on:=3,ground:=Ground.phase },{ on:=4,ground:=Ground.phase },{ on:=5,ground:=Ground.phase },{ on:=6,ground:=Ground.phase },{ on:=7,ground:=Ground.phase }],guard:=none }
def opOc9 : Oper:={ dst:=none,op:=Op.store 29 (Operand.tmp 31) (Operand.tmp 30),type:=0,pos:= "beside.go:36",after:=#[{ on:=8,ground:=Ground.data },{ on:=7,ground:=Ground.data },{ on:=7,ground:=Ground.chain },{ on:=0,ground:=Ground.phase },{ on:=1,ground:=Ground.phase },{ on:=2,ground:=Ground.phase },{ on:=3,ground:=Ground.phase },{ on:=4,ground:=Ground.phase },{ on:=5,ground:=Ground.phase },{ on:=6,ground:=Ground.phase },{ on:=7,ground:=Ground.phase }],guard:=none }
def opOcs : Array Oper:=#[opOc0,opOc1,opOc2,opOc3,opOc4,opOc5,opOc6,opOc7,opOc8,opOc9]
def opOcT (i : Nat) : Nat:=match i with
 | 0 => 23
 | 1 => 24
 | 2 => 25
 | 3 => 26
 | 4 => 27
 | 5 => 28
 | 6 => 29
 | 7 => 30
 | _ => 31
/-- what each operation's value is -/
def opOcC (gb : Nat) (go : Nat) (off : Nat) (N : Nat) (cp : Nat) (ka : Nat) (s1 : Bool) (x1 : Int) (y1 : Int) (p1 : Option Addr) (s2 : Bool) (x2 : Int) (y2 : Int) (p2 : Option Addr) (f1 : Rat) (f2 : Rat) (i : Nat) (w : World) (v : Value) : Prop:=match i with
 | 0 => v = .slice (some ⟨gb,off,none⟩) N cp
 | 1 => v = .int .i64 (ka : Int)
 | 2 => v = .slice (some ⟨gb,off,none⟩) N cp
 | 3 => v = .int .i64 (ka : Int)
 | 4 => v = .pointer (some ⟨gb,go,none⟩)
 | 5 => v = .agg #[.bool s1,.int .u64 x1,.int .u64 y1,.pointer p1]
 | 6 => v = .agg #[.bool s2,.int .u64 x2,.int .u64 y2,.pointer p2]
 | 7 => FracAt w v (f1 - f2)
 | _ => v = .pointer (some ⟨gb,go,none⟩)
theorem opOcC_but {gb : Nat} {go : Nat} {off : Nat} {N : Nat} {cp : Nat} {ka : Nat} {s1 : Bool} {x1 : Int} {y1 : Int} {p1 : Option Addr} {s2 : Bool} {x2 : Int} {y2 : Int} {p2 : Option Addr} {f1 : Rat} {f2 : Rat} {i : Nat} {w w' : World} {v : Value} (h : opOcC gb go off N cp ka s1 x1 y1 p1 s2 x2 y2 p2 f1 f2 i w v) (hi : i < 9) (hb : But [] w w') : opOcC gb go off N cp ka s1 x1 y1 p1 s2 x2 y2 p2 f1 f2 i w' v:=by
 have : i = 0 ∨ i = 1 ∨ i = 2 ∨ i = 3 ∨ i = 4 ∨ i = 5 ∨ i = 6 ∨ i = 7 ∨ i = 8:=by omega
 rcases this with rfl | rfl | rfl | rfl | rfl | rfl | rfl | rfl | rfl
 all_goals first | exact h | exact FracAt.but h hb | exact FracsAt.but h hb
theorem opOcT_inj : ∀ i j,i < 9→j < 9→opOcT i = opOcT j→i = j:=fun i j hi hj => (by decide : ∀ i,i < 9→∀ j,j < 9→opOcT i = opOcT j→i = j) i hi j hj
set_option maxHeartbeats 8000000 in
set_option maxRecDepth 100000 in
theorem lowest_region6 (id : Nat) (Q : Exit→Act→World→Prop) (base : Act) (W0 : World) (gb : Nat) (go : Nat) (off : Nat) (N : Nat) (cp : Nat) (ka : Nat) (s1 : Bool) (x1 : Int) (y1 : Int) (p1 : Option Addr) (s2 : Bool) (x2 : Int) (y2 : Int) (p2 : Option Addr) (f1 : Rat) (f2 : Rat) (g7 : Nat) {sb : Bool} {xb yb : Int} {pb : Option Addr} (hs : 31 < base.tmps.size) (cb : P4o W0 gb go sb xb yb pb) (fzb : ∀ j,W0.frozen? ⟨gb,j,none⟩ = false) (e1 : base.eval (.tmp 1) = .slice (some ⟨gb,off,none⟩) N cp) (e6 : base.eval (.tmp 6) = .int .i64 (ka : Int)) (e7 : base.eval (.tmp 7) = .pointer (some ⟨g7,0,none⟩))
  (hgo : go = off + ka * 4) (hka : ka < N) (hN2 : N < 1000000) (c1 : P4o W0 gb go s1 x1 y1 p1) (c2 : P4 W0 g7 s2 x2 y2 p2)
  (SU : ∀ w,But [] W0 w→Calls Tryz.prog 57 #[.agg #[.bool s1,.int .u64 x1,.int .u64 y1,.pointer p1],.agg #[.bool s2,.int .u64 x2,.int .u64 y2,.pointer p2]] w fun e w' => ∃ v,e = .returned v∧FracAt w' v (f1 - f2)∧But [] w w')
  (hQ : ∀ w1 s' x' y' p',But [] W0 w1→FracAt w1 (.agg #[.bool s',.int .u64 x',.int .u64 y',.pointer p']) (f1 - f2)→Q .normal (putted base [(23,.slice (some ⟨gb,off,none⟩) N cp),(24,.int .i64 (ka : Int)),(25,.slice (some ⟨gb,off,none⟩) N cp),(26,.int .i64 (ka : Int)),(27,.pointer (some ⟨gb,go,none⟩)),(28,.agg #[.bool s1,.int .u64 x1,.int .u64 y1,.pointer p1]),(29,.agg #[.bool s2,.int .u64 x2,.int .u64 y2,.pointer p2]),(30,(.agg #[.bool s',.int .u64 x',.int .u64 y',.pointer p'])),(31,.pointer (some ⟨gb,go,none⟩))]) (w1.setCells gb go [.bool s',.int .u64 x',.int .u64 y',.pointer p'])) :
  (Code.region id opOcs true).wp Tryz.prog Q base W0:=by
 have hdr : ∀ {w},But [] W0.drew w→But [] W0 w:=fun h => (But.refl _ _).drew.trans' h
 have lgb : gb < W0.heap.size:=lt_of_cell cb.1
 have hT : ∀ i,i < 9→opOcT i < base.tmps.size:=fun i hi => by
  have h : opOcT i ≤ 31:=by revert i; decide
  omega
 refine region_flow (by kernel_rfl) (low_of (by kernel_rfl)) (fun i o ho => (calm_of (ops:=opOcs) (by kernel_rfl) i o ho).1)
  (fun _ w => But [] W0.drew w) (opOcC gb go off N cp ka s1 x1 y1 p1 s2 x2 y2 p2 f1 f2) opOcT 9 rfl opOcT_inj hT (But.refl _ _)
  (fun i hi => ?_) ?_ (fun a w => ∃ w1 s' x' y' p',a = putted base [(23,.slice (some ⟨gb,off,none⟩) N cp),(24,.int .i64 (ka : Int)),(25,.slice (some ⟨gb,off,none⟩) N cp),(26,.int .i64 (ka : Int)),(27,.pointer (some ⟨gb,go,none⟩)),(28,.agg #[.bool s1,.int .u64 x1,.int .u64 y1,.pointer p1]),(29,.agg #[.bool s2,.int .u64 x2,.int .u64 y2,.pointer p2]),(30,(.agg #[.bool s',.int .u64 x',.int .u64 y',.pointer p'])),(31,.pointer (some ⟨gb,go,none⟩))]∧w = w1.setCells gb go [.bool s',.int .u64 x',.int .u64 y',.pointer p']∧But [] W0 w1∧FracAt w1 (.agg #[.bool s',.int .u64 x',.int .u64 y',.pointer p']) (f1 - f2)) ?_ ?_
 ·exact dep_of (ops:=opOcs) (ps:=[(9,0),(9,1),(9,2),(9,3),(9,4),(9,5),(9,6),(9,7),(9,8)]) (by kernel_rfl) 9 i (by
   have : i = 0 ∨ i = 1 ∨ i = 2 ∨ i = 3 ∨ i = 4 ∨ i = 5 ∨ i = 6 ∨ i = 7 ∨ i = 8:=by omega
   rcases this with rfl | rfl | rfl | rfl | rfl | rfl | rfl | rfl | rfl <;> simp)
 ·intro dn i o a w K hi ho hdi hH he hdep hK
  have hD:=fun j hj => (dep_have (ps:=[(4,2),(4,3),(5,4),(7,5),(7,6),(8,0),(8,1),(8,2),(8,3),(8,4),(8,5),(8,6),(8,7)]) (by kernel_rfl) ho (fun j => dn j = true∧opOcC gb go off N cp ka s1 x1 y1 p1 s2 x2 y2 p2 f1 f2 j w (a.eval (.tmp (opOcT j)))) hdep j hj).2
  have hk : ∀ v w',But [] w w'→opOcC gb go off N cp ka s1 x1 y1 p1 s2 x2 y2 p2 f1 f2 i w' v→K (a.put (some (opOcT i)) v) w':=fun v w' hb hv => hK v w' (hH.trans' hb) (fun j hj _ u hu => opOcC_but hu hj hb) hv
  have e1':=(he 1 (fun j hj e => absurd e.symm (by revert j; decide))).trans e1
  have e6':=(he 6 (fun j hj e => absurd e.symm (by revert j; decide))).trans e6
  have e7':=(he 7 (fun j hj e => absurd e.symm (by revert j; decide))).trans e7
  have : i = 0 ∨ i = 1 ∨ i = 2 ∨ i = 3 ∨ i = 4 ∨ i = 5 ∨ i = 6 ∨ i = 7 ∨ i = 8:=by omega
  rcases this with rfl | rfl | rfl | rfl | rfl | rfl | rfl | rfl | rfl
  ·obtain rfl:=Option.some.inj ((show opOcs[0]? = some opOc0 from rfl).symm.trans ho)
   exact wp_value (run_mvK a w _ _ _ _ _ _ _ e1') (hk _ _ (But.refl _ _) rfl)
  ·obtain rfl:=Option.some.inj ((show opOcs[1]? = some opOc1 from rfl).symm.trans ho)
   exact wp_value (run_mvK a w _ _ _ _ _ _ _ e6') (hk _ _ (But.refl _ _) rfl)
  ·obtain rfl:=Option.some.inj ((show opOcs[2]? = some opOc2 from rfl).symm.trans ho)
   exact wp_value (run_mvK a w _ _ _ _ _ _ _ e1') (hk _ _ (But.refl _ _) rfl)
  ·obtain rfl:=Option.some.inj ((show opOcs[3]? = some opOc3 from rfl).symm.trans ho)
   exact wp_value (run_mvK a w _ _ _ _ _ _ _ e6') (hk _ _ (But.refl _ _) rfl)
  ·obtain rfl:=Option.some.inj ((show opOcs[4]? = some opOc4 from rfl).symm.trans ho)
   refine wp_value (run_indexK a w _ _ _ _ _ _ _ gb off N cp ka hka hN2 (hD 2 (by simp)) (hD 3 (by simp))) (hk _ _ (But.refl _ _) ?_)
   show Value.pointer _ = Value.pointer _
   rw [hgo]
  ·obtain rfl:=Option.some.inj ((show opOcs[5]? = some opOc5 from rfl).symm.trans ho)
   exact wp_value (run_loadK a w _ _ _ _ _ _ gb go _ _ _ _ (hD 4 (by simp)) (c1.but (hdr hH) (by simp))) (hk _ _ (But.refl _ _) rfl)
  ·obtain rfl:=Option.some.inj ((show opOcs[6]? = some opOc6 from rfl).symm.trans ho)
   exact wp_value (run_loadK a w _ _ _ _ _ _ g7 0 _ _ _ _ e7' (c2.but (hdr hH) (by simp))) (hk _ _ (But.refl _ _) rfl)
  ·obtain rfl:=Option.some.inj ((show opOcs[7]? = some opOc7 from rfl).symm.trans ho)
   exact wp_enter (run_subK a w _ _ _ _ _ _ _ _ _ (hD 5 (by simp)) (hD 6 (by simp))) (R:=fun w' v => FracAt w' v (f1 - f2)∧But [] w w') (SU w (hdr hH)) (fun v w' hv => hk v w' hv.2 hv.1)
  ·obtain rfl:=Option.some.inj ((show opOcs[8]? = some opOc8 from rfl).symm.trans ho)
   refine wp_value (run_indexK a w _ _ _ _ _ _ _ gb off N cp ka hka hN2 (hD 0 (by simp)) (hD 1 (by simp))) (hk _ _ (But.refl _ _) ?_)
   show Value.pointer _ = Value.pointer _
   rw [hgo]
 ·intro dn o a w K ho hall h hK
  obtain rfl:=Option.some.inj ((show opOcs[9]? = some opOc9 from rfl).symm.trans ho)
  have eb' : a.eval (.tmp 31) = .pointer (some ⟨gb,go,none⟩):=h.has 8 (by omega) (hall 8 (by omega))
  have cl : FracAt w (a.eval (.tmp 30)) (f1 - f2):=h.has 7 (by omega) (hall 7 (by omega))
  have cl':=cl
  obtain ⟨x',y',p',ev,-⟩:=cl.agg
  rw [ev] at cl'
  have ea:=h.puts hT (fun i => match i with
   | 0 => .slice (some ⟨gb,off,none⟩) N cp
   | 1 => .int .i64 (ka : Int)
   | 2 => .slice (some ⟨gb,off,none⟩) N cp
   | 3 => .int .i64 (ka : Int)
   | 4 => .pointer (some ⟨gb,go,none⟩)
   | 5 => .agg #[.bool s1,.int .u64 x1,.int .u64 y1,.pointer p1]
   | 6 => .agg #[.bool s2,.int .u64 x2,.int .u64 y2,.pointer p2]
   | 7 => .agg #[.bool (decide ((f1 - f2).num < 0)),.int .u64 x',.int .u64 y',.pointer p']
   | _ => .pointer (some ⟨gb,go,none⟩)) (fun i hi => by
   have hc:=h.has i hi (hall i hi)
   have : i = 0 ∨ i = 1 ∨ i = 2 ∨ i = 3 ∨ i = 4 ∨ i = 5 ∨ i = 6 ∨ i = 7 ∨ i = 8:=by omega
   rcases this with rfl | rfl | rfl | rfl | rfl | rfl | rfl | rfl | rfl
   all_goals first | exact ev | exact hc | rfl)
  exact wp_skipped (run_store4o a w _ _ _ _ _ gb go _ x' y' p' eb' ev (cb.but (hdr h.mem) (by simp)) (fun j => ((hdr h.mem).frozen (p:=⟨gb,j,none⟩) lgb (by simp)).trans (fzb j))) (hK _ _ ⟨w,_,x',y',p',ea,rfl,hdr h.mem,cl'⟩)
 ·rintro a w ⟨w1,s',x',y',p',rfl,rfl,h1,h2⟩
  exact hQ  w1 s' x' y' p' h1 h2
def opOd0 : Oper:={ dst:=some 12,op:=Op.load 29 (Operand.tmp 3),type:=29,pos:= "keep.go:48",after:=#[],guard:=none }
def opOd1 : Oper:={ dst:=some 13,op:=Op.move (Operand.tmp 0),type:=33,pos:= "keep.go:48",after:=#[],guard:=none }
def opOd2 : Oper:={ dst:=some 14,op:=Op.move (Operand.tmp 4),type:=3,pos:= "keep.go:48",after:=#[],guard:=none }
def opOd3 : Oper:={ dst:=some 15,op:=Op.indexAddr 33 (Operand.tmp 13) (Operand.tmp 14),type:=0,pos:= "keep.go:48",after:=#[{ on:=1,ground:=Ground.data },{ on:=2,ground:=Ground.data }],guard:=none }
def opOd4 : Oper:={ dst:=some 16,op:=Op.load 29 (Operand.tmp 15),type:=29,pos:= "keep.go:48",after:=#[{ on:=3,ground:=Ground.data }],guard:=none }
def opOd5 : Oper:={ dst:=some 17,op:=Op.call { callee:=Callee.value (Operand.func 19),args:=#[Operand.tmp 12,Operand.tmp 16],argTypes:=#[29,29] },type:=29,pos:= "keep.go:48",after:=#[{ on:=0,ground:=Ground.data },{ on:=4,ground:=Ground.data }],guard:=none }
def opOd6 : Oper:={ dst:=none,op:=Op.store 29 (Operand.tmp 3) (Operand.tmp 17),type:=0,pos:= "keep.go:48",after:=#[{ on:=5,ground:=Ground.data },{ on:=5,ground:=Ground.chain },{ on:=0,ground:=Ground.phase },{ on:=1,ground:=Ground.phase },{ on:=2,ground:=Ground.phase },{ on:=3,ground:=Ground.phase },{ on:=4,ground:=Ground.phase },{ on:=5,ground:=Ground.phase }],guard:=none }
def opOds : Array Oper:=#[opOd0,opOd1,opOd2,opOd3,opOd4,opOd5,opOd6]
def opOdT (i : Nat) : Nat:=match i with
 | 0 => 12
 | 1 => 13
 | 2 => 14
 | 3 => 15
 | 4 => 16
 | _ => 17
/-- what each operation's value is -/
def opOdC (b : Nat) (off : Nat) (N : Nat) (cp : Nat) (ka : Nat) (s1 : Bool) (x1 : Int) (y1 : Int) (p1 : Option Addr) (s2 : Bool) (x2 : Int) (y2 : Int) (p2 : Option Addr) (f1 : Rat) (f2 : Rat) (i : Nat) (w : World) (v : Value) : Prop:=match i with
 | 0 => v = .agg #[.bool s1,.int .u64 x1,.int .u64 y1,.pointer p1]
 | 1 => v = .slice (some ⟨b,off,none⟩) N cp
 | 2 => v = .int .i64 (ka : Int)
 | 3 => v = .pointer (some ⟨b,off + ka * 4,none⟩)
 | 4 => v = .agg #[.bool s2,.int .u64 x2,.int .u64 y2,.pointer p2]
 | _ => FracAt w v (f1 + f2)
theorem opOdC_but {b : Nat} {off : Nat} {N : Nat} {cp : Nat} {ka : Nat} {s1 : Bool} {x1 : Int} {y1 : Int} {p1 : Option Addr} {s2 : Bool} {x2 : Int} {y2 : Int} {p2 : Option Addr} {f1 : Rat} {f2 : Rat} {i : Nat} {w w' : World} {v : Value} (h : opOdC b off N cp ka s1 x1 y1 p1 s2 x2 y2 p2 f1 f2 i w v) (hi : i < 6) (hb : But [] w w') : opOdC b off N cp ka s1 x1 y1 p1 s2 x2 y2 p2 f1 f2 i w' v:=by
 have : i = 0 ∨ i = 1 ∨ i = 2 ∨ i = 3 ∨ i = 4 ∨ i = 5:=by omega
 rcases this with rfl | rfl | rfl | rfl | rfl | rfl
 all_goals first | exact h | exact FracAt.but h hb | exact FracsAt.but h hb
theorem opOdT_inj : ∀ i j,i < 6→j < 6→opOdT i = opOdT j→i = j:=fun i j hi hj => (by decide : ∀ i,i < 6→∀ j,j < 6→opOdT i = opOdT j→i = j) i hi j hj
set_option maxHeartbeats 8000000 in
set_option maxRecDepth 100000 in
theorem sum_region (id : Nat) (Q : Exit→Act→World→Prop) (base : Act) (W0 : World) (b : Nat) (off : Nat) (N : Nat) (cp : Nat) (ka : Nat) (s1 : Bool) (x1 : Int) (y1 : Int) (p1 : Option Addr) (s2 : Bool) (x2 : Int) (y2 : Int) (p2 : Option Addr) (f1 : Rat) (f2 : Rat) (gb : Nat) {sb : Bool} {xb yb : Int} {pb : Option Addr} (hs : 17 < base.tmps.size) (eb : base.eval (.tmp 3) = .pointer (some ⟨gb,0,none⟩)) (cb : P4 W0 gb sb xb yb pb) (fzb : ∀ j,W0.frozen? ⟨gb,j,none⟩ = false) (e0 : base.eval (.tmp 0) = .slice (some ⟨b,off,none⟩) N cp) (e4 : base.eval (.tmp 4) = .int .i64 (ka : Int))
  (hka : ka < N) (hN2 : N < 1000000) (c1 : P4 W0 gb s1 x1 y1 p1) (c2 : P4o W0 b (off + ka * 4) s2 x2 y2 p2)
  (AD : ∀ w,But [] W0 w→Calls Tryz.prog 19 #[.agg #[.bool s1,.int .u64 x1,.int .u64 y1,.pointer p1],.agg #[.bool s2,.int .u64 x2,.int .u64 y2,.pointer p2]] w fun e w' => ∃ v,e = .returned v∧FracAt w' v (f1 + f2)∧But [] w w')
  (hQ : ∀ w1 s' x' y' p',But [] W0 w1→FracAt w1 (.agg #[.bool s',.int .u64 x',.int .u64 y',.pointer p']) (f1 + f2)→Q .normal (putted base [(12,.agg #[.bool s1,.int .u64 x1,.int .u64 y1,.pointer p1]),(13,.slice (some ⟨b,off,none⟩) N cp),(14,.int .i64 (ka : Int)),(15,.pointer (some ⟨b,off + ka * 4,none⟩)),(16,.agg #[.bool s2,.int .u64 x2,.int .u64 y2,.pointer p2]),(17,(.agg #[.bool s',.int .u64 x',.int .u64 y',.pointer p']))]) (put4 w1 gb s' x' y' p')) :
  (Code.region id opOds true).wp Tryz.prog Q base W0:=by
 have hdr : ∀ {w},But [] W0.drew w→But [] W0 w:=fun h => (But.refl _ _).drew.trans' h
 have lgb : gb < W0.heap.size:=lt_of_cell cb.1
 have hT : ∀ i,i < 6→opOdT i < base.tmps.size:=fun i hi => by
  have h : opOdT i ≤ 17:=by revert i; decide
  omega
 refine region_flow (by kernel_rfl) (low_of (by kernel_rfl)) (fun i o ho => (calm_of (ops:=opOds) (by kernel_rfl) i o ho).1)
  (fun _ w => But [] W0.drew w) (opOdC b off N cp ka s1 x1 y1 p1 s2 x2 y2 p2 f1 f2) opOdT 6 rfl opOdT_inj hT (But.refl _ _)
  (fun i hi => ?_) ?_ (fun a w => ∃ w1 s' x' y' p',a = putted base [(12,.agg #[.bool s1,.int .u64 x1,.int .u64 y1,.pointer p1]),(13,.slice (some ⟨b,off,none⟩) N cp),(14,.int .i64 (ka : Int)),(15,.pointer (some ⟨b,off + ka * 4,none⟩)),(16,.agg #[.bool s2,.int .u64 x2,.int .u64 y2,.pointer p2]),(17,(.agg #[.bool s',.int .u64 x',.int .u64 y',.pointer p']))]∧w = put4 w1 gb s' x' y' p'∧But [] W0 w1∧FracAt w1 (.agg #[.bool s',.int .u64 x',.int .u64 y',.pointer p']) (f1 + f2)) ?_ ?_
 ·exact dep_of (ops:=opOds) (ps:=[(6,0),(6,1),(6,2),(6,3),(6,4),(6,5)]) (by kernel_rfl) 6 i (by
   have : i = 0 ∨ i = 1 ∨ i = 2 ∨ i = 3 ∨ i = 4 ∨ i = 5:=by omega
   rcases this with rfl | rfl | rfl | rfl | rfl | rfl <;> simp)
 ·intro dn i o a w K hi ho hdi hH he hdep hK
  have hD:=fun j hj => (dep_have (ps:=[(3,1),(3,2),(4,3),(5,0),(5,4)]) (by kernel_rfl) ho (fun j => dn j = true∧opOdC b off N cp ka s1 x1 y1 p1 s2 x2 y2 p2 f1 f2 j w (a.eval (.tmp (opOdT j)))) hdep j hj).2
  have hk : ∀ v w',But [] w w'→opOdC b off N cp ka s1 x1 y1 p1 s2 x2 y2 p2 f1 f2 i w' v→K (a.put (some (opOdT i)) v) w':=fun v w' hb hv => hK v w' (hH.trans' hb) (fun j hj _ u hu => opOdC_but hu hj hb) hv
  have eb':=(he 3 (fun j hj e => absurd e.symm (by revert j; decide))).trans eb
  have e0':=(he 0 (fun j hj e => absurd e.symm (by revert j; decide))).trans e0
  have e4':=(he 4 (fun j hj e => absurd e.symm (by revert j; decide))).trans e4
  have : i = 0 ∨ i = 1 ∨ i = 2 ∨ i = 3 ∨ i = 4 ∨ i = 5:=by omega
  rcases this with rfl | rfl | rfl | rfl | rfl | rfl
  ·obtain rfl:=Option.some.inj ((show opOds[0]? = some opOd0 from rfl).symm.trans ho)
   exact wp_value (run_loadK a w _ _ _ _ _ _ gb 0 _ _ _ _ eb' (c1.but (hdr hH) (by simp))) (hk _ _ (But.refl _ _) rfl)
  ·obtain rfl:=Option.some.inj ((show opOds[1]? = some opOd1 from rfl).symm.trans ho)
   exact wp_value (run_mvK a w _ _ _ _ _ _ _ e0') (hk _ _ (But.refl _ _) rfl)
  ·obtain rfl:=Option.some.inj ((show opOds[2]? = some opOd2 from rfl).symm.trans ho)
   exact wp_value (run_mvK a w _ _ _ _ _ _ _ e4') (hk _ _ (But.refl _ _) rfl)
  ·obtain rfl:=Option.some.inj ((show opOds[3]? = some opOd3 from rfl).symm.trans ho)
   exact wp_value (run_indexK a w _ _ _ _ _ _ _ b off N cp ka hka hN2 (hD 1 (by simp)) (hD 2 (by simp))) (hk _ _ (But.refl _ _) rfl)
  ·obtain rfl:=Option.some.inj ((show opOds[4]? = some opOd4 from rfl).symm.trans ho)
   exact wp_value (run_loadK a w _ _ _ _ _ _ b _ _ _ _ _ (hD 3 (by simp)) (c2.but (hdr hH) (by simp))) (hk _ _ (But.refl _ _) rfl)
  ·obtain rfl:=Option.some.inj ((show opOds[5]? = some opOd5 from rfl).symm.trans ho)
   exact wp_enter (run_addK a w _ _ _ _ _ _ _ _ _ (hD 0 (by simp)) (hD 4 (by simp))) (R:=fun w' v => FracAt w' v (f1 + f2)∧But [] w w') (AD w (hdr hH)) (fun v w' hv => hk v w' hv.2 hv.1)
 ·intro dn o a w K ho hall h hK
  obtain rfl:=Option.some.inj ((show opOds[6]? = some opOd6 from rfl).symm.trans ho)
  have eb':=(h.eval 3 (fun j hj e => absurd e.symm (by revert j; decide))).trans eb
  have cl : FracAt w (a.eval (.tmp 17)) (f1 + f2):=h.has 5 (by omega) (hall 5 (by omega))
  have cl':=cl
  obtain ⟨x',y',p',ev,-⟩:=cl.agg
  rw [ev] at cl'
  have ea:=h.puts hT (fun i => match i with
   | 0 => .agg #[.bool s1,.int .u64 x1,.int .u64 y1,.pointer p1]
   | 1 => .slice (some ⟨b,off,none⟩) N cp
   | 2 => .int .i64 (ka : Int)
   | 3 => .pointer (some ⟨b,off + ka * 4,none⟩)
   | 4 => .agg #[.bool s2,.int .u64 x2,.int .u64 y2,.pointer p2]
   | _ => .agg #[.bool (decide ((f1 + f2).num < 0)),.int .u64 x',.int .u64 y',.pointer p']) (fun i hi => by
   have hc:=h.has i hi (hall i hi)
   have : i = 0 ∨ i = 1 ∨ i = 2 ∨ i = 3 ∨ i = 4 ∨ i = 5:=by omega
   rcases this with rfl | rfl | rfl | rfl | rfl | rfl
   all_goals first | exact ev | exact hc | rfl)
  exact wp_skipped (run_store4 a w _ _ _ _ _ gb _ x' y' p' eb' ev (cb.but (hdr h.mem) (by simp)) (fun j => ((hdr h.mem).frozen (p:=⟨gb,j,none⟩) lgb (by simp)).trans (fzb j))) (hK _ _ ⟨w,_,x',y',p',ea,rfl,hdr h.mem,cl'⟩)
 ·rintro a w ⟨w1,s',x',y',p',rfl,rfl,h1,h2⟩
  exact hQ  w1 s' x' y' p' h1 h2
def opOe0 : Oper:={ dst:=some 17,op:=Op.move (Operand.tmp 0),type:=33,pos:= "keep.go:31",after:=#[],guard:=none }
def opOe1 : Oper:={ dst:=some 18,op:=Op.move (Operand.tmp 5),type:=3,pos:= "keep.go:31",after:=#[],guard:=none }
def opOe2 : Oper:={ dst:=some 19,op:=Op.indexAddr 33 (Operand.tmp 17) (Operand.tmp 18),type:=0,pos:= "keep.go:31",after:=#[{ on:=0,ground:=Ground.data },{ on:=1,ground:=Ground.data }],guard:=none }
def opOe3 : Oper:={ dst:=some 20,op:=Op.load 29 (Operand.tmp 19),type:=29,pos:= "keep.go:31",after:=#[{ on:=2,ground:=Ground.data }],guard:=none }
def opOe4 : Oper:={ dst:=some 21,op:=Op.move (Operand.tmp 1),type:=33,pos:= "keep.go:31",after:=#[],guard:=none }
def opOe5 : Oper:={ dst:=some 22,op:=Op.move (Operand.tmp 5),type:=3,pos:= "keep.go:31",after:=#[],guard:=none }
def opOe6 : Oper:={ dst:=some 23,op:=Op.indexAddr 33 (Operand.tmp 21) (Operand.tmp 22),type:=0,pos:= "keep.go:31",after:=#[{ on:=4,ground:=Ground.data },{ on:=5,ground:=Ground.data }],guard:=none }
def opOe7 : Oper:={ dst:=some 24,op:=Op.load 29 (Operand.tmp 23),type:=29,pos:= "keep.go:31",after:=#[{ on:=6,ground:=Ground.data }],guard:=none }
def opOe8 : Oper:={ dst:=some 25,op:=Op.call { callee:=Callee.value (Operand.func 18),args:=#[Operand.tmp 20,Operand.tmp 24],argTypes:=#[29,29] },type:=4,pos:= "keep.go:31",after:=#[{ on:=3,ground:=Ground.data },{ on:=7,ground:=Ground.data }],guard:=none }
def opOe9 : Oper:={ dst:=some 26,op:=Op.unOp UnOp.not 4 (Operand.tmp 25),type:=4,pos:= "keep.go:31",after:=#[{ on:=8,ground:=Ground.data }],guard:=none }
def opOes : Array Oper:=#[opOe0,opOe1,opOe2,opOe3,opOe4,opOe5,opOe6,opOe7,opOe8,opOe9]
def opOeT (i : Nat) : Nat:=match i with
 | 0 => 17
 | 1 => 18
 | 2 => 19
 | 3 => 20
 | 4 => 21
 | 5 => 22
 | 6 => 23
 | 7 => 24
 | 8 => 25
 | _ => 26
/-- what each operation's value is -/
def opOeC (b : Nat) (off : Nat) (N : Nat) (cp : Nat) (b2 : Nat) (of2 : Nat) (c2 : Nat) (ka : Nat) (s1 : Bool) (x1 : Int) (y1 : Int) (p1 : Option Addr) (s2 : Bool) (x2 : Int) (y2 : Int) (p2 : Option Addr) (i : Nat) (_w : World) (v : Value) : Prop:=match i with
 | 0 => v = .slice (some ⟨b,off,none⟩) N cp
 | 1 => v = .int .i64 (ka : Int)
 | 2 => v = .pointer (some ⟨b,off + ka * 4,none⟩)
 | 3 => v = .agg #[.bool s1,.int .u64 x1,.int .u64 y1,.pointer p1]
 | 4 => v = .slice (some ⟨b2,of2,none⟩) N c2
 | 5 => v = .int .i64 (ka : Int)
 | 6 => v = .pointer (some ⟨b2,of2 + ka * 4,none⟩)
 | 7 => v = .agg #[.bool s2,.int .u64 x2,.int .u64 y2,.pointer p2]
 | 8 => v = .bool true
 | _ => v = .bool false
theorem opOeC_but {b : Nat} {off : Nat} {N : Nat} {cp : Nat} {b2 : Nat} {of2 : Nat} {c2 : Nat} {ka : Nat} {s1 : Bool} {x1 : Int} {y1 : Int} {p1 : Option Addr} {s2 : Bool} {x2 : Int} {y2 : Int} {p2 : Option Addr} {i : Nat} {w w' : World} {v : Value} (h : opOeC b off N cp b2 of2 c2 ka s1 x1 y1 p1 s2 x2 y2 p2 i w v) (hi : i < 10) (_hb : But [] w w') : opOeC b off N cp b2 of2 c2 ka s1 x1 y1 p1 s2 x2 y2 p2 i w' v:=by
 have : i = 0 ∨ i = 1 ∨ i = 2 ∨ i = 3 ∨ i = 4 ∨ i = 5 ∨ i = 6 ∨ i = 7 ∨ i = 8 ∨ i = 9:=by omega
 rcases this with rfl | rfl | rfl | rfl | rfl | rfl | rfl | rfl | rfl | rfl
 all_goals exact h
theorem opOeT_inj : ∀ i j,i < 10→j < 10→opOeT i = opOeT j→i = j:=fun i j hi hj => (by decide : ∀ i,i < 10→∀ j,j < 10→opOeT i = opOeT j→i = j) i hi j hj
set_option maxHeartbeats 8000000 in
set_option maxRecDepth 100000 in
theorem likes_region (id : Nat) (Q : Exit→Act→World→Prop) (base : Act) (W0 : World) (b : Nat) (off : Nat) (N : Nat) (cp : Nat) (b2 : Nat) (of2 : Nat) (c2 : Nat) (ka : Nat) (s1 : Bool) (x1 : Int) (y1 : Int) (p1 : Option Addr) (s2 : Bool) (x2 : Int) (y2 : Int) (p2 : Option Addr) (hs : 26 < base.tmps.size) (e0 : base.eval (.tmp 0) = .slice (some ⟨b,off,none⟩) N cp) (e5 : base.eval (.tmp 5) = .int .i64 (ka : Int)) (e1 : base.eval (.tmp 1) = .slice (some ⟨b2,of2,none⟩) N c2)
  (hka : ka < N) (hN2 : N < 1000000) (k1 : P4o W0 b (off + ka * 4) s1 x1 y1 p1) (k2 : P4o W0 b2 (of2 + ka * 4) s2 x2 y2 p2)
  (LK : ∀ w,But [] W0 w→Calls Tryz.prog 18 #[.agg #[.bool s1,.int .u64 x1,.int .u64 y1,.pointer p1],.agg #[.bool s2,.int .u64 x2,.int .u64 y2,.pointer p2]] w fun e w' => e = .returned (.bool true)∧But [] w w')
  (hQ : ∀ w,But [] W0 w→Q .normal (putted base [(17,.slice (some ⟨b,off,none⟩) N cp),(18,.int .i64 (ka : Int)),(19,.pointer (some ⟨b,off + ka * 4,none⟩)),(20,.agg #[.bool s1,.int .u64 x1,.int .u64 y1,.pointer p1]),(21,.slice (some ⟨b2,of2,none⟩) N c2),(22,.int .i64 (ka : Int)),(23,.pointer (some ⟨b2,of2 + ka * 4,none⟩)),(24,.agg #[.bool s2,.int .u64 x2,.int .u64 y2,.pointer p2]),(25,.bool true),(26,.bool false)]) w) :
  (Code.region id opOes true).wp Tryz.prog Q base W0:=by
 have hdr : ∀ {w},But [] W0.drew w→But [] W0 w:=fun h => (But.refl _ _).drew.trans' h
 have hT : ∀ i,i < 10→opOeT i < base.tmps.size:=fun i hi => by
  have h : opOeT i ≤ 26:=by revert i; decide
  omega
 refine region_go (by kernel_rfl) (low_of (by kernel_rfl)) (opOeC b off N cp b2 of2 c2 ka s1 x1 y1 p1 s2 x2 y2 p2) opOeT (by kernel_rfl) ?_ opOeT_inj hT (fun i w w' v hi h hb => opOeC_but h hi hb) ?_ ?_
 ·intro i o j want ho hg w v hv
  have hi : i < 10:=(Array.getElem?_eq_some_iff.1 ho).1
  have : i = 0 ∨ i = 1 ∨ i = 2 ∨ i = 3 ∨ i = 4 ∨ i = 5 ∨ i = 6 ∨ i = 7 ∨ i = 8 ∨ i = 9:=by omega
  rcases this with rfl | rfl | rfl | rfl | rfl | rfl | rfl | rfl | rfl | rfl
  ·obtain rfl:=Option.some.inj ((show opOes[0]? = some opOe0 from rfl).symm.trans ho)
   exact absurd (show (none : Option (Nat × Bool)) = some (j,want) from hg) (by simp)
  ·obtain rfl:=Option.some.inj ((show opOes[1]? = some opOe1 from rfl).symm.trans ho)
   exact absurd (show (none : Option (Nat × Bool)) = some (j,want) from hg) (by simp)
  ·obtain rfl:=Option.some.inj ((show opOes[2]? = some opOe2 from rfl).symm.trans ho)
   exact absurd (show (none : Option (Nat × Bool)) = some (j,want) from hg) (by simp)
  ·obtain rfl:=Option.some.inj ((show opOes[3]? = some opOe3 from rfl).symm.trans ho)
   exact absurd (show (none : Option (Nat × Bool)) = some (j,want) from hg) (by simp)
  ·obtain rfl:=Option.some.inj ((show opOes[4]? = some opOe4 from rfl).symm.trans ho)
   exact absurd (show (none : Option (Nat × Bool)) = some (j,want) from hg) (by simp)
  ·obtain rfl:=Option.some.inj ((show opOes[5]? = some opOe5 from rfl).symm.trans ho)
   exact absurd (show (none : Option (Nat × Bool)) = some (j,want) from hg) (by simp)
  ·obtain rfl:=Option.some.inj ((show opOes[6]? = some opOe6 from rfl).symm.trans ho)
   exact absurd (show (none : Option (Nat × Bool)) = some (j,want) from hg) (by simp)
  ·obtain rfl:=Option.some.inj ((show opOes[7]? = some opOe7 from rfl).symm.trans ho)
   exact absurd (show (none : Option (Nat × Bool)) = some (j,want) from hg) (by simp)
  ·obtain rfl:=Option.some.inj ((show opOes[8]? = some opOe8 from rfl).symm.trans ho)
   exact absurd (show (none : Option (Nat × Bool)) = some (j,want) from hg) (by simp)
  ·obtain rfl:=Option.some.inj ((show opOes[9]? = some opOe9 from rfl).symm.trans ho)
   exact absurd (show (none : Option (Nat × Bool)) = some (j,want) from hg) (by simp)
 ·intro i o a w K ho hH he hdep hk
  have hi : i < 10:=(Array.getElem?_eq_some_iff.1 ho).1
  have hD:=dep_have (ps:=[(2,0),(2,1),(3,2),(6,4),(6,5),(7,6),(8,3),(8,7),(9,8)]) (by kernel_rfl) ho (fun j => opOeC b off N cp b2 of2 c2 ka s1 x1 y1 p1 s2 x2 y2 p2 j w (a.eval (.tmp (opOeT j)))) hdep
  have e0':=(he 0 (fun j hj e => absurd e.symm (by revert j; decide))).trans e0
  have e5':=(he 5 (fun j hj e => absurd e.symm (by revert j; decide))).trans e5
  have e1':=(he 1 (fun j hj e => absurd e.symm (by revert j; decide))).trans e1
  have : i = 0 ∨ i = 1 ∨ i = 2 ∨ i = 3 ∨ i = 4 ∨ i = 5 ∨ i = 6 ∨ i = 7 ∨ i = 8 ∨ i = 9:=by omega
  rcases this with rfl | rfl | rfl | rfl | rfl | rfl | rfl | rfl | rfl | rfl
  ·obtain rfl:=Option.some.inj ((show opOes[0]? = some opOe0 from rfl).symm.trans ho)
   exact wp_value (run_mvK a w _ _ _ _ _ _ _ e0') (hk _ _ (But.refl _ _) rfl)
  ·obtain rfl:=Option.some.inj ((show opOes[1]? = some opOe1 from rfl).symm.trans ho)
   exact wp_value (run_mvK a w _ _ _ _ _ _ _ e5') (hk _ _ (But.refl _ _) rfl)
  ·obtain rfl:=Option.some.inj ((show opOes[2]? = some opOe2 from rfl).symm.trans ho)
   exact wp_value (run_indexK a w _ _ _ _ _ _ _ b off N cp ka hka hN2 (hD 0 (by simp)) (hD 1 (by simp))) (hk _ _ (But.refl _ _) rfl)
  ·obtain rfl:=Option.some.inj ((show opOes[3]? = some opOe3 from rfl).symm.trans ho)
   exact wp_value (run_loadK a w _ _ _ _ _ _ b _ _ _ _ _ (hD 2 (by simp)) (k1.but (hdr hH) (by simp))) (hk _ _ (But.refl _ _) rfl)
  ·obtain rfl:=Option.some.inj ((show opOes[4]? = some opOe4 from rfl).symm.trans ho)
   exact wp_value (run_mvK a w _ _ _ _ _ _ _ e1') (hk _ _ (But.refl _ _) rfl)
  ·obtain rfl:=Option.some.inj ((show opOes[5]? = some opOe5 from rfl).symm.trans ho)
   exact wp_value (run_mvK a w _ _ _ _ _ _ _ e5') (hk _ _ (But.refl _ _) rfl)
  ·obtain rfl:=Option.some.inj ((show opOes[6]? = some opOe6 from rfl).symm.trans ho)
   exact wp_value (run_indexK a w _ _ _ _ _ _ _ b2 of2 N c2 ka hka hN2 (hD 4 (by simp)) (hD 5 (by simp))) (hk _ _ (But.refl _ _) rfl)
  ·obtain rfl:=Option.some.inj ((show opOes[7]? = some opOe7 from rfl).symm.trans ho)
   exact wp_value (run_loadK a w _ _ _ _ _ _ b2 _ _ _ _ _ (hD 6 (by simp)) (k2.but (hdr hH) (by simp))) (hk _ _ (But.refl _ _) rfl)
  ·obtain rfl:=Option.some.inj ((show opOes[8]? = some opOe8 from rfl).symm.trans ho)
   exact wp_enter (run_likeK a w _ _ _ _ _ _ _ _ _ (hD 3 (by simp)) (hD 7 (by simp))) (R:=fun w' v => But [] w w'∧v = _) ((LK w (hdr hH)).mono fun e w' ⟨he,hb⟩ => ⟨_,he,hb,rfl⟩) (fun v w' hv => hk v w' hv.1 hv.2)
  ·obtain rfl:=Option.some.inj ((show opOes[9]? = some opOe9 from rfl).symm.trans ho)
   exact wp_value (run_notK a w _ _ _ _ _ _ true (hD 8 (by simp))) (hk _ _ (But.refl _ _) rfl)
 ·intro a w h
  have ea:=h.puts hT (fun i => match i with
   | 0 => .slice (some ⟨b,off,none⟩) N cp
   | 1 => .int .i64 (ka : Int)
   | 2 => .pointer (some ⟨b,off + ka * 4,none⟩)
   | 3 => .agg #[.bool s1,.int .u64 x1,.int .u64 y1,.pointer p1]
   | 4 => .slice (some ⟨b2,of2,none⟩) N c2
   | 5 => .int .i64 (ka : Int)
   | 6 => .pointer (some ⟨b2,of2 + ka * 4,none⟩)
   | 7 => .agg #[.bool s2,.int .u64 x2,.int .u64 y2,.pointer p2]
   | 8 => .bool true
   | _ => .bool false) (fun i hi => by
   have hi' : i < 10:=hi
   have hc:=h.has i hi rfl
   have : i = 0 ∨ i = 1 ∨ i = 2 ∨ i = 3 ∨ i = 4 ∨ i = 5 ∨ i = 6 ∨ i = 7 ∨ i = 8 ∨ i = 9:=by omega
   rcases this with rfl | rfl | rfl | rfl | rfl | rfl | rfl | rfl | rfl | rfl
   all_goals first | exact hc | rfl)
  rw [ea]
  exact hQ w (hdr h.but)
end Go.Proofs.YtikgmhpbdcdogaaGreatDoor

namespace Go.Proofs.YtikgmhpbdcdogaaGreatDoor
open Go.RowKit

/-- what has come has come behind all that it hangs on -/
def ShutUp (ops : Array Oper) (d : Nat→Bool) : Prop:=∀ i o,ops[i]? = some o→d i = true→∀ e ∈ o.after,Region.binds .any e = true→d e.on = true
theorem region_flowC {P : Program} {id : Nat} {ops : Array Oper} {Q : Exit→Act→World→Prop} {base : Act} {W0 : World} (hm : P.follows .mixedOrders = true)
  (hlow : ∀ i o,ops[i]? = some o→∀ e ∈ o.after,Region.binds .any e = true→e.on < i)
  (hg : ∀ (i : Nat) (o : Oper),ops[i]? = some o→o.guard = none)
  (H : (Nat→Bool)→World→Prop) (C : Nat→World→Value→Prop) (T : Nat→Nat) (m : Nat) (hsz : ops.size = m + 1)
  (hinj : ∀ i j,i < m→j < m→T i = T j→i = j) (hT : ∀ i,i < m→T i < base.tmps.size) (h0 : H (fun _ => false) W0.drew)
  (hall : ∀ d,ShutUp ops d→(∀ o,ops[m]? = some o→∀ e ∈ o.after,Region.binds .any e = true→d e.on = true)→∀ i,i < m→d i = true)
  (hstep : ∀ (d : Nat→Bool) (i : Nat) (o : Oper) (a : Act) (w : World) (K : Act→World→Prop),i < m→ops[i]? = some o→d i = false→H d w→(∀ t,(∀ j,j < m→t ≠ T j)→a.eval (.tmp t) = base.eval (.tmp t))→(∀ e ∈ o.after,Region.binds .any e = true→d e.on = true∧C e.on w (a.eval (.tmp (T e.on))))→(∀ v w',H (came d i) w'→(∀ j,j < m→d j = true→∀ u,C j w u→C j w' u)→C i w' v→K (a.put (some (T i)) v) w')→o.wp P a w K Q)
  (Fin : Act→World→Prop)
  (hlast : ∀ (d : Nat→Bool) (o : Oper) (a : Act) (w : World) (K : Act→World→Prop),ops[m]? = some o→(∀ i,i < m→d i = true)→Flow2 base H C T m d a w→(∀ a' w',Fin a' w'→K a' w')→o.wp P a w K Q)
  (hend : ∀ a w,Fin a w→Q .normal a w) :
  (Code.region id ops true).wp P Q base W0:=by
 have wpo : ∀ i o a w (K : Act→World→Prop),ops[i]? = some o→o.wp P a w K Q→wpOp P ops Q i K a w:=fun i o a w K ho h => by
  unfold wpOp
  simp only [ho,Region.wanted,hg i o ho,if_true]
  exact .inl h
 refine region_inv hm hlow (fun d a w => if d m = true then (Fin a w∧∀ i,i < m→d i = true) else (Flow2 base H C T m d a w∧ShutUp ops d)) ?_ ?_ ?_
 ·simp only [Bool.false_eq_true,if_false]
  exact ⟨⟨h0,rfl,rfl,fun _ _ => rfl,fun _ _ h => by simp at h⟩,fun _ _ _ h => by simp at h⟩
 ·intro d a w hd h
  rw [if_pos (hd m (by omega))] at h
  exact hend a w h.1
 ·intro d i o a w ho hdi hdep h
  refine wpo i o a w _ ho ?_
  have hi : i < m + 1:=by rw [← hsz]; exact (Array.getElem?_eq_some_iff.1 ho).1
  by_cases e : i = m
  ·subst e
   rw [if_neg (by rw [hdi]; simp)] at h
   have hd : ∀ j,j < i→d j = true:=hall d h.2 (fun o' ho' => by
    rw [ho] at ho'
    obtain rfl:=Option.some.inj ho'
    exact hdep)
   refine hlast d o a w _ ho hd h.1 (fun a' w' hf => ?_)
   rw [if_pos (came_self d i)]
   exact ⟨hf,fun j hj => by rw [came_ne d (by omega)]; exact hd j hj⟩
  ·have him : i < m:=by omega
   by_cases hdm : d m = true
   ·exfalso
    rw [if_pos hdm] at h
    rw [h.2 i him] at hdi
    simp at hdi
   ·rw [if_neg hdm] at h
    refine hstep d i o a w _ him ho hdi h.1.mem (fun t ht => h.1.eval t ht) (fun ed he hb => ⟨hdep ed he hb,h.1.has _ (by have:=hlow i o ho ed he hb; omega) (hdep ed he hb)⟩) (fun v w' hH hC hv => ?_)
    rw [if_neg (by rw [came_ne d (Ne.symm e)]; exact hdm)]
    refine ⟨h.1.next hinj hT i him v w' hH hC hv,fun j oj hoj hdj ed he hb => ?_⟩
    by_cases ej : j = i
    ·subst ej
     rw [ho] at hoj
     obtain rfl:=Option.some.inj hoj
     have hk:=hdep ed he hb
     rw [came_ne d (fun e2 => by rw [e2,hdi] at hk; simp at hk)]
     exact hk
    ·rw [came_ne d ej] at hdj
     have hk:=h.2 j oj hoj hdj ed he hb
     rw [came_ne d (fun e2 => by rw [e2,hdi] at hk; simp at hk)]
     exact hk
theorem shut_of {ops : Array Oper} {ps : List (Nat × Nat)} (h : depOps ops ps = true) {d : Nat→Bool} (hs : ShutUp ops d) (i j : Nat) (hij : (i,j) ∈ ps) (hd : d i = true) : d j = true:=by
 obtain ⟨o,ho,ed,hed,hbi,rfl⟩:=dep_of h i j hij
 exact hs i o ho hd ed hed hbi
end Go.Proofs.YtikgmhpbdcdogaaGreatDoor

namespace Go.Proofs.YtikgmhpbdcdogaaGreatDoor
open Go.RowKit

theorem run_indexRK (a : Act) (w : World) (d t1 t2 : Nat) (u : TypeId) (ps : String) (ed : Array Edge) (gd : Option (Nat × Bool)) (b off n c k : Nat) (hk : k < n) (_hn : n < 1000000) (h1 : a.eval (.tmp t1) = .slice (some ⟨b,off,none⟩) n c) (h2 : a.eval (.tmp t2) = .int .i64 (k : Int)) :
  (execOp a.eval { dst:=some d,op:=Op.indexAddr 63 (.tmp t1) (.tmp t2),type:=u,pos:=ps,after:=ed,guard:=gd }).run Tryz.prog w = .ok (.value (.pointer (some ⟨b,off + k,none⟩))) w:=by
 unfold execOp
 simp only [h1,h2]
 go_simp
theorem run_loadRK (a : Act) (w : World) (d t : Nat) (u : TypeId) (ps : String) (ed : Array Edge) (gd : Option (Nat × Bool)) (b o : Nat) (q : Option Addr) (m c : Nat) (h1 : a.eval (.tmp t) = .pointer (some ⟨b,o,none⟩)) (hc : w.cell? ⟨b,o,none⟩ = some (.slice q m c)) :
  (execOp a.eval { dst:=some d,op:=Op.load 33 (.tmp t),type:=u,pos:=ps,after:=ed,guard:=gd }).run Tryz.prog w = .ok (.value (.slice q m c)) w:=by
 unfold execOp
 simp only [h1]
 go_simp
theorem run_lowestK (a : Act) (w : World) (d t1 t2 t3 : Nat) (u : TypeId) (ps : String) (ed : Array Edge) (gd : Option (Nat × Bool)) (x1 x2 x3 : Value) (h1 : a.eval (.tmp t1) = x1) (h2 : a.eval (.tmp t2) = x2) (h3 : a.eval (.tmp t3) = x3) :
  (execOp a.eval { dst:=some d,op:=Op.call { callee:=Callee.value (Operand.func 69),args:=#[Operand.tmp t1,Operand.tmp t2,Operand.tmp t3],argTypes:=#[33,33,29] },type:=u,pos:=ps,after:=ed,guard:=gd }).run Tryz.prog w = .ok (.enter 69 #[x1,x2,x3]) w:=by
 unfold execOp
 go_simp
 rw [← h1,← h2,← h3]
 simp [Act.eval]
def opOf0 : Oper:={ dst:=some 49,op:=Op.move (Operand.tmp 9),type:=63,pos:= "beside.go:26",after:=#[],guard:=none }
def opOf1 : Oper:={ dst:=some 50,op:=Op.move (Operand.tmp 11),type:=3,pos:= "beside.go:26",after:=#[],guard:=none }
def opOf2 : Oper:={ dst:=some 51,op:=Op.indexAddr 63 (Operand.tmp 49) (Operand.tmp 50),type:=0,pos:= "beside.go:26",after:=#[{ on:=0,ground:=Ground.data },{ on:=1,ground:=Ground.data }],guard:=none }
def opOf3 : Oper:={ dst:=some 52,op:=Op.load 33 (Operand.tmp 51),type:=33,pos:= "beside.go:26",after:=#[{ on:=2,ground:=Ground.data }],guard:=none }
def opOf4 : Oper:={ dst:=some 53,op:=Op.move (Operand.tmp 10),type:=38,pos:= "beside.go:26",after:=#[],guard:=none }
def opOf5 : Oper:={ dst:=some 54,op:=Op.load 29 (Operand.tmp 12),type:=29,pos:= "beside.go:26",after:=#[],guard:=none }
def opOf6 : Oper:={ dst:=some 55,op:=Op.call { callee:=Callee.value (Operand.func 69),args:=#[Operand.tmp 52,Operand.tmp 53,Operand.tmp 54],argTypes:=#[33,33,29] },type:=0,pos:= "beside.go:26",after:=#[{ on:=3,ground:=Ground.data },{ on:=4,ground:=Ground.data },{ on:=5,ground:=Ground.data }],guard:=none }
def opOfs : Array Oper:=#[opOf0,opOf1,opOf2,opOf3,opOf4,opOf5,opOf6]
def opOfT (i : Nat) : Nat:=match i with
 | 0 => 49
 | 1 => 50
 | 2 => 51
 | 3 => 52
 | 4 => 53
 | _ => 54
/-- what each operation's value is -/
def opOfC (go N ka : Nat) (q : Option Addr) (m c : Nat) (q2 : Option Addr) (m2 c2 : Nat) (s1 : Bool) (x1 y1 : Int) (p1 : Option Addr) (i : Nat) (_w : World) (v : Value) : Prop:=match i with
 | 0 => v = .slice (some ⟨go,0,none⟩) N N
 | 1 => v = .int .i64 (ka : Int)
 | 2 => v = .pointer (some ⟨go,0 + ka,none⟩)
 | 3 => v = .slice q m c
 | 4 => v = .slice q2 m2 c2
 | _ => v = .agg #[.bool s1,.int .u64 x1,.int .u64 y1,.pointer p1]
theorem opOfC_but {go N ka : Nat} {q : Option Addr} {m c : Nat} {q2 : Option Addr} {m2 c2 : Nat} {s1 : Bool} {x1 y1 : Int} {p1 : Option Addr} {i : Nat} {w w' : World} {v : Value} (h : opOfC go N ka q m c q2 m2 c2 s1 x1 y1 p1 i w v) (hi : i < 6) (_hb : But [] w w') : opOfC go N ka q m c q2 m2 c2 s1 x1 y1 p1 i w' v:=by
 have : i = 0 ∨ i = 1 ∨ i = 2 ∨ i = 3 ∨ i = 4 ∨ i = 5:=by omega
 rcases this with rfl | rfl | rfl | rfl | rfl | rfl
 all_goals exact h
theorem opOfT_inj : ∀ i j,i < 6→j < 6→opOfT i = opOfT j→i = j:=fun i j hi hj => (by decide : ∀ i,i < 6→∀ j,j < 6→opOfT i = opOfT j→i = j) i hi j hj
set_option maxHeartbeats 4000000 in
set_option maxRecDepth 100000 in
theorem beside_region (id : Nat) (Q : Exit→Act→World→Prop) (base : Act) (W0 : World) (go N ka : Nat) (q : Option Addr) (m c : Nat) (q2 : Option Addr) (m2 c2 : Nat) (s1 : Bool) (x1 y1 : Int) (p1 : Option Addr) (g12 : Nat) (R : World→World→Prop) (hs : 55 < base.tmps.size) (e9 : base.eval (.tmp 9) = .slice (some ⟨go,0,none⟩) N N) (e11 : base.eval (.tmp 11) = .int .i64 (ka : Int)) (e10 : base.eval (.tmp 10) = .slice q2 m2 c2) (e12 : base.eval (.tmp 12) = .pointer (some ⟨g12,0,none⟩))
  (hka : ka < N) (hN2 : N < 1000000) (cr : W0.cell? ⟨go,0 + ka,none⟩ = some (.slice q m c)) (c1 : P4 W0 g12 s1 x1 y1 p1)
  (TL : ∀ w,But [] W0 w→Calls Tryz.prog 69 #[.slice q m c,.slice q2 m2 c2,.agg #[.bool s1,.int .u64 x1,.int .u64 y1,.pointer p1]] w fun e w' => ∃ v,e = .returned v∧R w w')
  (hQ : ∀ w1 v w2,But [] W0 w1→R w1 w2→Q .normal (putted base ([(49,.slice (some ⟨go,0,none⟩) N N),(50,.int .i64 (ka : Int)),(51,.pointer (some ⟨go,0 + ka,none⟩)),(52,.slice q m c),(53,.slice q2 m2 c2),(54,.agg #[.bool s1,.int .u64 x1,.int .u64 y1,.pointer p1])] ++ [(55,v)])) w2) :
  (Code.region id opOfs true).wp Tryz.prog Q base W0:=by
 have hdr : ∀ {w},But [] W0.drew w→But [] W0 w:=fun h => (But.refl _ _).drew.trans' h
 have hT : ∀ i,i < 6→opOfT i < base.tmps.size:=fun i hi => by
  have h : opOfT i ≤ 54:=by revert i; decide
  omega
 refine region_flowC (by kernel_rfl) (low_of (by kernel_rfl)) (fun i o ho => (calm_of (ops:=opOfs) (by kernel_rfl) i o ho).1)
  (fun _ w => But [] W0.drew w) (opOfC go N ka q m c q2 m2 c2 s1 x1 y1 p1) opOfT 6 rfl opOfT_inj hT (But.refl _ _)
  (fun d hs hl => ?_) ?_ (fun a w => ∃ w1 v,a = putted base ([(49,.slice (some ⟨go,0,none⟩) N N),(50,.int .i64 (ka : Int)),(51,.pointer (some ⟨go,0 + ka,none⟩)),(52,.slice q m c),(53,.slice q2 m2 c2),(54,.agg #[.bool s1,.int .u64 x1,.int .u64 y1,.pointer p1])] ++ [(55,v)])∧But [] W0 w1∧R w1 w) ?_ ?_
 ·obtain ⟨o6,ho6,ed3,he3,hb3,h3⟩:=dep_of (ops:=opOfs) (ps:=[(6,3),(6,4),(6,5)]) (by kernel_rfl) 6 3 (by simp)
  obtain ⟨o6',ho6',ed4,he4,hb4,h4⟩:=dep_of (ops:=opOfs) (ps:=[(6,3),(6,4),(6,5)]) (by kernel_rfl) 6 4 (by simp)
  obtain ⟨o6'',ho6'',ed5,he5,hb5,h5⟩:=dep_of (ops:=opOfs) (ps:=[(6,3),(6,4),(6,5)]) (by kernel_rfl) 6 5 (by simp)
  have d3 : d 3 = true:=by rw [← h3]; exact hl o6 ho6 ed3 he3 hb3
  have d4 : d 4 = true:=by rw [← h4]; exact hl o6' ho6' ed4 he4 hb4
  have d5 : d 5 = true:=by rw [← h5]; exact hl o6'' ho6'' ed5 he5 hb5
  have d2:=shut_of (ops:=opOfs) (ps:=[(3,2)]) (by kernel_rfl) hs 3 2 (by simp) d3
  have d1:=shut_of (ops:=opOfs) (ps:=[(2,1)]) (by kernel_rfl) hs 2 1 (by simp) d2
  have d0:=shut_of (ops:=opOfs) (ps:=[(2,0)]) (by kernel_rfl) hs 2 0 (by simp) d2
  intro i hi
  have : i = 0 ∨ i = 1 ∨ i = 2 ∨ i = 3 ∨ i = 4 ∨ i = 5:=by omega
  rcases this with rfl | rfl | rfl | rfl | rfl | rfl <;> assumption
 ·intro dn i o a w K hi ho hdi hH he hdep hK
  have hD:=fun j hj => (dep_have (ps:=[(2,0),(2,1),(3,2)]) (by kernel_rfl) ho (fun j => dn j = true∧opOfC go N ka q m c q2 m2 c2 s1 x1 y1 p1 j w (a.eval (.tmp (opOfT j)))) hdep j hj).2
  have hk : ∀ v w',But [] w w'→opOfC go N ka q m c q2 m2 c2 s1 x1 y1 p1 i w' v→K (a.put (some (opOfT i)) v) w':=fun v w' hb hv => hK v w' (hH.trans' hb) (fun j hj _ u hu => opOfC_but hu hj hb) hv
  have e9':=(he 9 (fun j hj e => absurd e.symm (by revert j; decide))).trans e9
  have e11':=(he 11 (fun j hj e => absurd e.symm (by revert j; decide))).trans e11
  have e10':=(he 10 (fun j hj e => absurd e.symm (by revert j; decide))).trans e10
  have e12':=(he 12 (fun j hj e => absurd e.symm (by revert j; decide))).trans e12
  have : i = 0 ∨ i = 1 ∨ i = 2 ∨ i = 3 ∨ i = 4 ∨ i = 5:=by omega
  rcases this with rfl | rfl | rfl | rfl | rfl | rfl
  ·obtain rfl:=Option.some.inj ((show opOfs[0]? = some opOf0 from rfl).symm.trans ho)
   exact wp_value (run_mvK a w _ _ _ _ _ _ _ e9') (hk _ _ (But.refl _ _) rfl)
  ·obtain rfl:=Option.some.inj ((show opOfs[1]? = some opOf1 from rfl).symm.trans ho)
   exact wp_value (run_mvK a w _ _ _ _ _ _ _ e11') (hk _ _ (But.refl _ _) rfl)
  ·obtain rfl:=Option.some.inj ((show opOfs[2]? = some opOf2 from rfl).symm.trans ho)
   exact wp_value (run_indexRK a w _ _ _ _ _ _ _ go 0 N N ka hka hN2 (hD 0 (by simp)) (hD 1 (by simp))) (hk _ _ (But.refl _ _) rfl)
  ·obtain rfl:=Option.some.inj ((show opOfs[3]? = some opOf3 from rfl).symm.trans ho)
   exact wp_value (run_loadRK a w _ _ _ _ _ _ go _ _ _ _ (hD 2 (by simp)) ((hdr hH).cell_some cr (by simp))) (hk _ _ (But.refl _ _) rfl)
  ·obtain rfl:=Option.some.inj ((show opOfs[4]? = some opOf4 from rfl).symm.trans ho)
   exact wp_value (run_mvK a w _ _ _ _ _ _ _ e10') (hk _ _ (But.refl _ _) rfl)
  ·obtain rfl:=Option.some.inj ((show opOfs[5]? = some opOf5 from rfl).symm.trans ho)
   exact wp_value (run_loadK a w _ _ _ _ _ _ g12 0 _ _ _ _ e12' (c1.but (hdr hH) (by simp))) (hk _ _ (But.refl _ _) rfl)
 ·intro dn o a w K ho hall h hK
  obtain rfl:=Option.some.inj ((show opOfs[6]? = some opOf6 from rfl).symm.trans ho)
  have ea:=h.puts hT (fun i => match i with
   | 0 => .slice (some ⟨go,0,none⟩) N N
   | 1 => .int .i64 (ka : Int)
   | 2 => .pointer (some ⟨go,0 + ka,none⟩)
   | 3 => .slice q m c
   | 4 => .slice q2 m2 c2
   | _ => .agg #[.bool s1,.int .u64 x1,.int .u64 y1,.pointer p1]) (fun i hi => by
   have hc:=h.has i hi (hall i hi)
   have : i = 0 ∨ i = 1 ∨ i = 2 ∨ i = 3 ∨ i = 4 ∨ i = 5:=by omega
   rcases this with rfl | rfl | rfl | rfl | rfl | rfl
   all_goals exact hc)
  have v3 : a.eval (.tmp 52) = .slice q m c:=h.has 3 (by omega) (hall 3 (by omega))
  have v4 : a.eval (.tmp 53) = .slice q2 m2 c2:=h.has 4 (by omega) (hall 4 (by omega))
  have v5 : a.eval (.tmp 54) = .agg #[.bool s1,.int .u64 x1,.int .u64 y1,.pointer p1]:=h.has 5 (by omega) (hall 5 (by omega))
  exact wp_enter (run_lowestK a w _ _ _ _ _ _ _ _ _ _ _ v3 v4 v5) (R:=fun w' _ => R w w') ((TL w (hdr h.mem)).mono fun e w' ⟨v,he,hr⟩ => ⟨v,he,hr⟩) (fun v w' hv => hK _ _ ⟨w,v,(congrArg (fun z : Act => z.put (some 55) v) ea).trans (putted_snoc _ _ _ _),hdr h.mem,hv⟩)
 ·rintro a w ⟨w1,v,rfl,h1,h2⟩
  exact hQ w1 v w h1 h2
end Go.Proofs.YtikgmhpbdcdogaaGreatDoor
