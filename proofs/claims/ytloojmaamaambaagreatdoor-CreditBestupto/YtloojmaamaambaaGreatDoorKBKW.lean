/- Layers, one upon the other: the statements of the law that draw their order, as the Go text of package tontinekeep has them. -/
import Derived.Test.YtloojmaamaambaaGreatDoorKBKO
namespace Go.Proofs.YtloojmaamaambaaGreatDoor
open Go.RowKit

theorem run_notK (a : Act) (w : World) (d t : Nat) (u : TypeId) (ps : String) (ed : Array Edge) (gd : Option (Nat × Bool)) (b : Bool) (h : a.eval (.tmp t) = .bool b) :
  (execOp a.eval { dst:=some d,op:=Op.unOp UnOp.not 4 (.tmp t),type:=u,pos:=ps,after:=ed,guard:=gd }).run Tryz.prog w = .ok (.value (.bool (!b))) w:=by
 unfold execOp
 simp only [h]
 go_simp
end Go.Proofs.YtloojmaamaambaaGreatDoor

namespace Go.Proofs.YtloojmaamaambaaGreatDoor
open Go.RowKit

def opOaT (i : Nat) : Nat:=match i with
 | 0 => 40
 | 1 => 41
 | 2 => 42
 | 3 => 43
 | 4 => 44
 | _ => 45
def opOd0 : Oper:={ dst:=some 12,op:=Op.load 29 (Operand.tmp 3),type:=29,pos:= "keep.go:48",after:=#[],guard:=none }
def opOd1 : Oper:={ dst:=some 13,op:=Op.move (Operand.tmp 0),type:=33,pos:= "keep.go:48",after:=#[],guard:=none }
def opOd2 : Oper:={ dst:=some 14,op:=Op.move (Operand.tmp 4),type:=3,pos:= "keep.go:48",after:=#[],guard:=none }
def opOd3 : Oper:={ dst:=some 15,op:=Op.indexAddr 33 (Operand.tmp 13) (Operand.tmp 14),type:=0,pos:= "keep.go:48",after:=#[{ on:=1,ground:=Ground.data },{ on:=2,ground:=Ground.data }],guard:=none }
def opOd4 : Oper:={ dst:=some 16,op:=Op.load 29 (Operand.tmp 15),type:=29,pos:= "keep.go:48",after:=#[{ on:=3,ground:=Ground.data }],guard:=none }
def opOd5 : Oper:={ dst:=some 17,op:=Op.call { callee:=Callee.value (Operand.func 22),args:=#[Operand.tmp 12,Operand.tmp 16],argTypes:=#[29,29] },type:=29,pos:= "keep.go:48",after:=#[{ on:=0,ground:=Ground.data },{ on:=4,ground:=Ground.data }],guard:=none }
def opOd6 : Oper:={ dst:=none,op:=Op.store 29 (Operand.tmp 3) (Operand.tmp 17),type:=0,pos:= "keep.go:48",after:=#[{ on:=5,ground:=Ground.data },{ on:=5,ground:=Ground.chain },{ on:=0,ground:=Ground.phase },{ on:=1,ground:=Ground.phase },{ on:=2,ground:=Ground.phase },{ on:=3,ground:=Ground.phase },{ on:=4,ground:=Ground.phase },{ on:=5,ground:=Ground.phase }],guard:=none }
def opOds : Array Oper:=#[opOd0,opOd1,opOd2,opOd3,opOd4,opOd5,opOd6]
def opOdT (i : Nat) : Nat:=match i with
 | 0 => 12
 | 1 => 13
 | 2 => 14
 | 3 => 15
 | 4 => 16
 | _ => 17
/-- what each operation's value is -/
def opOdC (b : Nat) (off : Nat) (N : Nat) (cp : Nat) (ka : Nat) (s1 : Bool) (x1 : Int) (y1 : Int) (p1 : Option Addr) (s2 : Bool) (x2 : Int) (y2 : Int) (p2 : Option Addr) (f1 : Rat) (f2 : Rat) (i : Nat) (w : World) (v : Value) : Prop:=match i with
 | 0 => v = .agg #[.bool s1,.int .u64 x1,.int .u64 y1,.pointer p1]
 | 1 => v = .slice (some ⟨b,off,none⟩) N cp
 | 2 => v = .int .i64 (ka : Int)
 | 3 => v = .pointer (some ⟨b,off + ka * 4,none⟩)
 | 4 => v = .agg #[.bool s2,.int .u64 x2,.int .u64 y2,.pointer p2]
 | _ => FracAt w v (f1 + f2)
theorem opOdC_but {b : Nat} {off : Nat} {N : Nat} {cp : Nat} {ka : Nat} {s1 : Bool} {x1 : Int} {y1 : Int} {p1 : Option Addr} {s2 : Bool} {x2 : Int} {y2 : Int} {p2 : Option Addr} {f1 : Rat} {f2 : Rat} {i : Nat} {w w' : World} {v : Value} (h : opOdC b off N cp ka s1 x1 y1 p1 s2 x2 y2 p2 f1 f2 i w v) (hi : i < 6) (hb : But [] w w') : opOdC b off N cp ka s1 x1 y1 p1 s2 x2 y2 p2 f1 f2 i w' v:=by
 have : i = 0 ∨ i = 1 ∨ i = 2 ∨ i = 3 ∨ i = 4 ∨ i = 5:=by omega
 rcases this with rfl | rfl | rfl | rfl | rfl | rfl
 all_goals first | exact h | exact FracAt.but h hb | exact FracsAt.but h hb
theorem opOdT_inj : ∀ i j,i < 6→j < 6→opOdT i = opOdT j→i = j:=fun i j hi hj => (by decide : ∀ i,i < 6→∀ j,j < 6→opOdT i = opOdT j→i = j) i hi j hj
set_option maxHeartbeats 8000000 in
set_option maxRecDepth 100000 in
theorem sum_region (id : Nat) (Q : Exit→Act→World→Prop) (base : Act) (W0 : World) (b : Nat) (off : Nat) (N : Nat) (cp : Nat) (ka : Nat) (s1 : Bool) (x1 : Int) (y1 : Int) (p1 : Option Addr) (s2 : Bool) (x2 : Int) (y2 : Int) (p2 : Option Addr) (f1 : Rat) (f2 : Rat) (gb : Nat) {sb : Bool} {xb yb : Int} {pb : Option Addr} (hs : 17 < base.tmps.size) (eb : base.eval (.tmp 3) = .pointer (some ⟨gb,0,none⟩)) (cb : P4 W0 gb sb xb yb pb) (fzb : ∀ j,W0.frozen? ⟨gb,j,none⟩ = false) (e0 : base.eval (.tmp 0) = .slice (some ⟨b,off,none⟩) N cp) (e4 : base.eval (.tmp 4) = .int .i64 (ka : Int))
  (hka : ka < N) (hN2 : N < 1000000) (c1 : P4 W0 gb s1 x1 y1 p1) (c2 : P4o W0 b (off + ka * 4) s2 x2 y2 p2)
  (AD : ∀ w,But [] W0 w→Calls Tryz.prog 22 #[.agg #[.bool s1,.int .u64 x1,.int .u64 y1,.pointer p1],.agg #[.bool s2,.int .u64 x2,.int .u64 y2,.pointer p2]] w fun e w' => ∃ v,e = .returned v∧FracAt w' v (f1 + f2)∧But [] w w')
  (hQ : ∀ w1 s' x' y' p',But [] W0 w1→FracAt w1 (.agg #[.bool s',.int .u64 x',.int .u64 y',.pointer p']) (f1 + f2)→Q .normal (putted base [(12,.agg #[.bool s1,.int .u64 x1,.int .u64 y1,.pointer p1]),(13,.slice (some ⟨b,off,none⟩) N cp),(14,.int .i64 (ka : Int)),(15,.pointer (some ⟨b,off + ka * 4,none⟩)),(16,.agg #[.bool s2,.int .u64 x2,.int .u64 y2,.pointer p2]),(17,(.agg #[.bool s',.int .u64 x',.int .u64 y',.pointer p']))]) (put4 w1 gb s' x' y' p')) :
  (Code.region id opOds true).wp Tryz.prog Q base W0:=by
 have hdr : ∀ {w},But [] W0.drew w→But [] W0 w:=fun h => (But.refl _ _).drew.trans' h
 have lgb : gb < W0.heap.size:=lt_of_cell cb.1
 have hT : ∀ i,i < 6→opOdT i < base.tmps.size:=fun i hi => by
  have h : opOdT i ≤ 17:=by revert i; decide
  omega
 refine region_flow (by kernel_rfl) (low_of (by kernel_rfl)) (fun i o ho => (calm_of (ops:=opOds) (by kernel_rfl) i o ho).1)
  (fun _ w => But [] W0.drew w) (opOdC b off N cp ka s1 x1 y1 p1 s2 x2 y2 p2 f1 f2) opOdT 6 rfl opOdT_inj hT (But.refl _ _)
  (fun i hi => ?_) ?_ (fun a w => ∃ w1 s' x' y' p',a = putted base [(12,.agg #[.bool s1,.int .u64 x1,.int .u64 y1,.pointer p1]),(13,.slice (some ⟨b,off,none⟩) N cp),(14,.int .i64 (ka : Int)),(15,.pointer (some ⟨b,off + ka * 4,none⟩)),(16,.agg #[.bool s2,.int .u64 x2,.int .u64 y2,.pointer p2]),(17,(.agg #[.bool s',.int .u64 x',.int .u64 y',.pointer p']))]∧w = put4 w1 gb s' x' y' p'∧But [] W0 w1∧FracAt w1 (.agg #[.bool s',.int .u64 x',.int .u64 y',.pointer p']) (f1 + f2)) ?_ ?_
 ·exact dep_of (ops:=opOds) (ps:=[(6,0),(6,1),(6,2),(6,3),(6,4),(6,5)]) (by kernel_rfl) 6 i (by
   have : i = 0 ∨ i = 1 ∨ i = 2 ∨ i = 3 ∨ i = 4 ∨ i = 5:=by omega
   rcases this with rfl | rfl | rfl | rfl | rfl | rfl <;> simp)
 ·intro dn i o a w K hi ho hdi hH he hdep hK
  have hD:=fun j hj => (dep_have (ps:=[(3,1),(3,2),(4,3),(5,0),(5,4)]) (by kernel_rfl) ho (fun j => dn j = true∧opOdC b off N cp ka s1 x1 y1 p1 s2 x2 y2 p2 f1 f2 j w (a.eval (.tmp (opOdT j)))) hdep j hj).2
  have hk : ∀ v w',But [] w w'→opOdC b off N cp ka s1 x1 y1 p1 s2 x2 y2 p2 f1 f2 i w' v→K (a.put (some (opOdT i)) v) w':=fun v w' hb hv => hK v w' (hH.trans' hb) (fun j hj _ u hu => opOdC_but hu hj hb) hv
  have eb':=(he 3 (fun j hj e => absurd e.symm (by revert j; decide))).trans eb
  have e0':=(he 0 (fun j hj e => absurd e.symm (by revert j; decide))).trans e0
  have e4':=(he 4 (fun j hj e => absurd e.symm (by revert j; decide))).trans e4
  have : i = 0 ∨ i = 1 ∨ i = 2 ∨ i = 3 ∨ i = 4 ∨ i = 5:=by omega
  rcases this with rfl | rfl | rfl | rfl | rfl | rfl
  ·obtain rfl:=Option.some.inj ((show opOds[0]? = some opOd0 from rfl).symm.trans ho)
   exact wp_value (run_loadK a w _ _ _ _ _ _ gb 0 _ _ _ _ eb' (c1.but (hdr hH) (by simp))) (hk _ _ (But.refl _ _) rfl)
  ·obtain rfl:=Option.some.inj ((show opOds[1]? = some opOd1 from rfl).symm.trans ho)
   exact wp_value (run_mvK a w _ _ _ _ _ _ _ e0') (hk _ _ (But.refl _ _) rfl)
  ·obtain rfl:=Option.some.inj ((show opOds[2]? = some opOd2 from rfl).symm.trans ho)
   exact wp_value (run_mvK a w _ _ _ _ _ _ _ e4') (hk _ _ (But.refl _ _) rfl)
  ·obtain rfl:=Option.some.inj ((show opOds[3]? = some opOd3 from rfl).symm.trans ho)
   exact wp_value (run_indexK a w _ _ _ _ _ _ _ b off N cp ka hka hN2 (hD 1 (by simp)) (hD 2 (by simp))) (hk _ _ (But.refl _ _) rfl)
  ·obtain rfl:=Option.some.inj ((show opOds[4]? = some opOd4 from rfl).symm.trans ho)
   exact wp_value (run_loadK a w _ _ _ _ _ _ b _ _ _ _ _ (hD 3 (by simp)) (c2.but (hdr hH) (by simp))) (hk _ _ (But.refl _ _) rfl)
  ·obtain rfl:=Option.some.inj ((show opOds[5]? = some opOd5 from rfl).symm.trans ho)
   exact wp_enter (run_addK a w _ _ _ _ _ _ _ _ _ (hD 0 (by simp)) (hD 4 (by simp))) (R:=fun w' v => FracAt w' v (f1 + f2)∧But [] w w') (AD w (hdr hH)) (fun v w' hv => hk v w' hv.2 hv.1)
 ·intro dn o a w K ho hall h hK
  obtain rfl:=Option.some.inj ((show opOds[6]? = some opOd6 from rfl).symm.trans ho)
  have eb':=(h.eval 3 (fun j hj e => absurd e.symm (by revert j; decide))).trans eb
  have cl : FracAt w (a.eval (.tmp 17)) (f1 + f2):=h.has 5 (by omega) (hall 5 (by omega))
  have cl':=cl
  obtain ⟨x',y',p',ev,-⟩:=cl.agg
  rw [ev] at cl'
  have ea:=h.puts hT (fun i => match i with
   | 0 => .agg #[.bool s1,.int .u64 x1,.int .u64 y1,.pointer p1]
   | 1 => .slice (some ⟨b,off,none⟩) N cp
   | 2 => .int .i64 (ka : Int)
   | 3 => .pointer (some ⟨b,off + ka * 4,none⟩)
   | 4 => .agg #[.bool s2,.int .u64 x2,.int .u64 y2,.pointer p2]
   | _ => .agg #[.bool (decide ((f1 + f2).num < 0)),.int .u64 x',.int .u64 y',.pointer p']) (fun i hi => by
   have hc:=h.has i hi (hall i hi)
   have : i = 0 ∨ i = 1 ∨ i = 2 ∨ i = 3 ∨ i = 4 ∨ i = 5:=by omega
   rcases this with rfl | rfl | rfl | rfl | rfl | rfl
   all_goals first | exact ev | exact hc | rfl)
  exact wp_skipped (run_store4 a w _ _ _ _ _ gb _ x' y' p' eb' ev (cb.but (hdr h.mem) (by simp)) (fun j => ((hdr h.mem).frozen (p:=⟨gb,j,none⟩) lgb (by simp)).trans (fzb j))) (hK _ _ ⟨w,_,x',y',p',ea,rfl,hdr h.mem,cl'⟩)
 ·rintro a w ⟨w1,s',x',y',p',rfl,rfl,h1,h2⟩
  exact hQ  w1 s' x' y' p' h1 h2
end Go.Proofs.YtloojmaamaambaaGreatDoor
