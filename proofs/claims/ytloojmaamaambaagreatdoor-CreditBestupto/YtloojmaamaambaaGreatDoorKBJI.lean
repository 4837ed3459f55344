/- What rows tell: the statements that draw their order, as the Go text of package credit has them. -/
import Derived.Test.YtloojmaamaambaaGreatDoorKBJB
import Derived.Test.YtloojmaamaambaaGreatDoorKBJE
import Derived.Test.YtloojmaamaambaaGreatDoorKBQ8a
namespace Go.Proofs.YtloojmaamaambaaGreatDoor
open Go.RowKit

/-- a row of fractions of the call's own -/
def RowB (B n : Nat) (F : Nat→Rat) (w : World) (v : Value) : Prop:=∃ g,v = .slice (some ⟨g,0,none⟩) n n∧RowOf w g n F∧B ≤ g∧g < w.heap.size
theorem RowB.but {B n : Nat} {F : Nat→Rat} {w w' : World} {v : Value} (h : RowB B n F w v) (hb : But [] w w') : RowB B n F w' v:=by
 obtain ⟨g,e,h1,h2,h3⟩:=h
 exact ⟨g,e,h1.but hb h3,h2,Nat.lt_of_lt_of_le h3 hb.size⟩
/-- a struct of fractions -/
def FoundAt (f1 f2 f3 f4 : Rat) (B n : Nat) (F : Nat→Rat) (w : World) (v : Value) : Prop:=∃ s1 x1 y1 p1 s2 x2 y2 p2 s3 x3 y3 p3 s4 x4 y4 p4 g,v = .agg #[.bool s1,.int .u64 x1,.int .u64 y1,.pointer p1,.bool s2,.int .u64 x2,.int .u64 y2,.pointer p2,.bool s3,.int .u64 x3,.int .u64 y3,.pointer p3,.bool s4,.int .u64 x4,.int .u64 y4,.pointer p4,.slice (some ⟨g,0,none⟩) n n]∧FracAt w (.agg #[.bool s1,.int .u64 x1,.int .u64 y1,.pointer p1]) f1∧FracAt w (.agg #[.bool s2,.int .u64 x2,.int .u64 y2,.pointer p2]) f2∧FracAt w (.agg #[.bool s3,.int .u64 x3,.int .u64 y3,.pointer p3]) f3∧FracAt w (.agg #[.bool s4,.int .u64 x4,.int .u64 y4,.pointer p4]) f4∧RowOf w g n F∧B ≤ g∧g < w.heap.size
theorem FoundAt.but {f1 f2 f3 f4 : Rat} {B n : Nat} {F : Nat→Rat} {w w' : World} {v : Value} (h : FoundAt f1 f2 f3 f4 B n F w v) (hb : But [] w w') : FoundAt f1 f2 f3 f4 B n F w' v:=by
 obtain ⟨s1,x1,y1,p1,s2,x2,y2,p2,s3,x3,y3,p3,s4,x4,y4,p4,g,e,h1,h2,h3,h4,hr,hg1,hg2⟩:=h
 exact ⟨s1,x1,y1,p1,s2,x2,y2,p2,s3,x3,y3,p3,s4,x4,y4,p4,g,e,h1.but hb,h2.but hb,h3.but hb,h4.but hb,hr.but hb hg2,hg1,Nat.lt_of_lt_of_le hg2 hb.size⟩
theorem run_bdFoundAt (a : Act) (w : World) (d t1 t2 t3 t4 tr : Nat) (u : TypeId) (ps : String) (ed : Array Edge) (gd : Option (Nat × Bool)) (s1 : Bool) (x1 y1 : Int) (p1 : Option Addr) (s2 : Bool) (x2 y2 : Int) (p2 : Option Addr) (s3 : Bool) (x3 y3 : Int) (p3 : Option Addr) (s4 : Bool) (x4 y4 : Int) (p4 : Option Addr) (g n : Nat) (h1 : a.eval (.tmp t1) = .agg #[.bool s1,.int .u64 x1,.int .u64 y1,.pointer p1]) (h2 : a.eval (.tmp t2) = .agg #[.bool s2,.int .u64 x2,.int .u64 y2,.pointer p2]) (h3 : a.eval (.tmp t3) = .agg #[.bool s3,.int .u64 x3,.int .u64 y3,.pointer p3]) (h4 : a.eval (.tmp t4) = .agg #[.bool s4,.int .u64 x4,.int .u64 y4,.pointer p4]) (hr : a.eval (.tmp tr) = .slice (some ⟨g,0,none⟩) n n) :
  (execOp a.eval { dst:=some d,op:=Op.build 86 #[(0,Operand.tmp t1),(1,Operand.tmp t2),(2,Operand.tmp t3),(3,Operand.tmp t4),(4,Operand.tmp tr)],type:=u,pos:=ps,after:=ed,guard:=gd }).run Tryz.prog w = .ok (.value (.agg #[.bool s1,.int .u64 x1,.int .u64 y1,.pointer p1,.bool s2,.int .u64 x2,.int .u64 y2,.pointer p2,.bool s3,.int .u64 x3,.int .u64 y3,.pointer p3,.bool s4,.int .u64 x4,.int .u64 y4,.pointer p4,.slice (some ⟨g,0,none⟩) n n])) w:=by
 unfold execOp
 simp only [List.map_toArray,List.map_cons,List.map_nil,h1,h2,h3,h4,hr]
 go_simp
theorem run_stFoundAt (a : Act) (w : World) (t1 t2 : Nat) (u : TypeId) (ps : String) (ed : Array Edge) (gb : Nat) (s1 : Bool) (x1 y1 : Int) (p1 : Option Addr) (s2 : Bool) (x2 y2 : Int) (p2 : Option Addr) (s3 : Bool) (x3 y3 : Int) (p3 : Option Addr) (s4 : Bool) (x4 y4 : Int) (p4 : Option Addr) (g n : Nat) {vb : List Value} (h1 : a.eval (.tmp t1) = .pointer (some ⟨gb,0,none⟩)) (h2 : a.eval (.tmp t2) = .agg #[.bool s1,.int .u64 x1,.int .u64 y1,.pointer p1,.bool s2,.int .u64 x2,.int .u64 y2,.pointer p2,.bool s3,.int .u64 x3,.int .u64 y3,.pointer p3,.bool s4,.int .u64 x4,.int .u64 y4,.pointer p4,.slice (some ⟨g,0,none⟩) n n]) (hc : SBox w gb vb) (hl : vb.length = 17) :
  (execOp a.eval { dst:=none,op:=Op.store 86 (.tmp t1) (.tmp t2),type:=u,pos:=ps,after:=ed,guard:=none }).run Tryz.prog w = .ok .skip (w.setCells gb 0 [.bool s1,.int .u64 x1,.int .u64 y1,.pointer p1,.bool s2,.int .u64 x2,.int .u64 y2,.pointer p2,.bool s3,.int .u64 x3,.int .u64 y3,.pointer p3,.bool s4,.int .u64 x4,.int .u64 y4,.pointer p4,.slice (some ⟨g,0,none⟩) n n]):=by
 obtain ⟨u0,c0⟩:=hc.some 0 (by omega)
 obtain ⟨u1,c1⟩:=hc.some 1 (by omega)
 obtain ⟨u2,c2⟩:=hc.some 2 (by omega)
 obtain ⟨u3,c3⟩:=hc.some 3 (by omega)
 obtain ⟨u4,c4⟩:=hc.some 4 (by omega)
 obtain ⟨u5,c5⟩:=hc.some 5 (by omega)
 obtain ⟨u6,c6⟩:=hc.some 6 (by omega)
 obtain ⟨u7,c7⟩:=hc.some 7 (by omega)
 obtain ⟨u8,c8⟩:=hc.some 8 (by omega)
 obtain ⟨u9,c9⟩:=hc.some 9 (by omega)
 obtain ⟨u10,c10⟩:=hc.some 10 (by omega)
 obtain ⟨u11,c11⟩:=hc.some 11 (by omega)
 obtain ⟨u12,c12⟩:=hc.some 12 (by omega)
 obtain ⟨u13,c13⟩:=hc.some 13 (by omega)
 obtain ⟨u14,c14⟩:=hc.some 14 (by omega)
 obtain ⟨u15,c15⟩:=hc.some 15 (by omega)
 obtain ⟨u16,c16⟩:=hc.some 16 (by omega)
 have fz:=hc.loose
 unfold execOp
 simp only [h1,h2]
 go_simp
 rfl
theorem run_spreadJ (a : Act) (w : World) (d t0 : Nat) (u : TypeId) (ps : String) (ed : Array Edge) (gd : Option (Nat × Bool)) (z0 : Value) (h0 : a.eval (.tmp t0) = z0) :
  (execOp a.eval { dst:=some d,op:=Op.call { callee:=Callee.value (Operand.func 112),args:=#[Operand.tmp t0],argTypes:=#[33] },type:=u,pos:=ps,after:=ed,guard:=gd }).run Tryz.prog w = .ok (.enter 112 #[z0]) w:=by
 unfold execOp
 go_simp
 rw [← h0]
 simp [Act.eval]
theorem run_noughtJ (a : Act) (w : World) (d t0 : Nat) (u : TypeId) (ps : String) (ed : Array Edge) (gd : Option (Nat × Bool)) (z0 : Value) (h0 : a.eval (.tmp t0) = z0) :
  (execOp a.eval { dst:=some d,op:=Op.call { callee:=Callee.value (Operand.func 114),args:=#[Operand.tmp t0],argTypes:=#[29] },type:=u,pos:=ps,after:=ed,guard:=gd }).run Tryz.prog w = .ok (.enter 114 #[z0]) w:=by
 unfold execOp
 go_simp
 rw [← h0]
 simp [Act.eval]
theorem run_premJ (a : Act) (w : World) (d t0 t1 t2 : Nat) (u : TypeId) (ps : String) (ed : Array Edge) (gd : Option (Nat × Bool)) (z0 z1 z2 : Value) (h0 : a.eval (.tmp t0) = z0) (h1 : a.eval (.tmp t1) = z1) (h2 : a.eval (.tmp t2) = z2) :
  (execOp a.eval { dst:=some d,op:=Op.call { callee:=Callee.value (Operand.func 115),args:=#[Operand.tmp t0,Operand.tmp t1,Operand.tmp t2],argTypes:=#[33,29,29] },type:=u,pos:=ps,after:=ed,guard:=gd }).run Tryz.prog w = .ok (.enter 115 #[z0,z1,z2]) w:=by
 unfold execOp
 go_simp
 rw [← h0,← h1,← h2]
 simp [Act.eval]
theorem run_lenJ (a : Act) (w : World) (d t : Nat) (u : TypeId) (ps : String) (ed : Array Edge) (gd : Option (Nat × Bool)) (q : Option Addr) (m c : Nat) (h : a.eval (.tmp t) = .slice q m c) :
  (execOp a.eval { dst:=some d,op:=Op.call { callee:=Callee.builtin Builtin.len,args:=#[Operand.tmp t],argTypes:=#[33] },type:=u,pos:=ps,after:=ed,guard:=gd }).run Tryz.prog w = .ok (.value (.int .i64 (m : Int))) w:=by
 have h' : a.tmps[t]?.getD undef = .slice q m c:=by rw [← Array.getD_eq_getD_getElem?]; exact h
 unfold execOp
 go_simp
theorem run_lenJ2 (a : Act) (w : World) (d t : Nat) (u : TypeId) (ps : String) (ed : Array Edge) (gd : Option (Nat × Bool)) (q : Option Addr) (m c : Nat) (h : a.eval (.tmp t) = .slice q m c) :
  (execOp a.eval { dst:=some d,op:=Op.call { callee:=Callee.builtin Builtin.len,args:=#[Operand.tmp t],argTypes:=#[63] },type:=u,pos:=ps,after:=ed,guard:=gd }).run Tryz.prog w = .ok (.value (.int .i64 (m : Int))) w:=by
 have h' : a.tmps[t]?.getD undef = .slice q m c:=by rw [← Array.getD_eq_getD_getElem?]; exact h
 unfold execOp
 go_simp
theorem run_mkJ (a : Act) (w : World) (d t : Nat) (u : TypeId) (ps : String) (ed : Array Edge) (gd : Option (Nat × Bool)) (n : Nat) (hn : n < 1000000) (h : a.eval (.tmp t) = .int .i64 (n : Int)) :
  (execOp a.eval { dst:=some d,op:=Op.makeSlice 33 (.tmp t) (.tmp t),type:=u,pos:=ps,after:=ed,guard:=gd }).run Tryz.prog w = .ok (.value (.slice (some ⟨w.heap.size,0,none⟩) n n)) (w.alloc (.cells (madeCells #[.bool false,.int .u64 0,.int .u64 0,.pointer none] (n * 4)) 29)):=by
 have hmk:=run_makeF w n hn
 unfold execOp
 simp only [h]
 go_simp
theorem run_ix0J (a : Act) (w : World) (d t1 : Nat) (u : TypeId) (ps : String) (ed : Array Edge) (gd : Option (Nat × Bool)) (b off n c : Nat) (hn0 : 0 < n) (_hn : n < 1000000) (h1 : a.eval (.tmp t1) = .slice (some ⟨b,off,none⟩) n c) :
  (execOp a.eval { dst:=some d,op:=Op.indexAddr 63 (.tmp t1) (Operand.const (Value.int IntKind.i64 0)),type:=u,pos:=ps,after:=ed,guard:=gd }).run Tryz.prog w = .ok (.value (.pointer (some ⟨b,off,none⟩))) w:=by
 have e : a.eval (.const (.int .i64 0)) = .int .i64 0:=rfl
 have hz : (0 : Int) < (n : Int):=by omega
 unfold execOp
 simp only [h1,e]
 go_simp
def opJm0 : Oper:={ dst:=some 20,op:=Op.move (Operand.tmp 0),type:=63,pos:= "credit.go:20",after:=#[],guard:=none }
def opJm1 : Oper:={ dst:=some 21,op:=Op.call { callee:=Callee.builtin Builtin.len,args:=#[Operand.tmp 20],argTypes:=#[63] },type:=3,pos:= "credit.go:20",after:=#[{ on:=0,ground:=Ground.data }],guard:=none }
def opJm2 : Oper:={ dst:=some 22,op:=Op.makeSlice 33 (Operand.tmp 21) (Operand.tmp 21),type:=33,pos:= "credit.go:20",after:=#[{ on:=1,ground:=Ground.data },{ on:=1,ground:=Ground.data }],guard:=none }
def opJm3 : Oper:={ dst:=some 23,op:=Op.move (Operand.tmp 0),type:=63,pos:= "credit.go:20",after:=#[],guard:=none }
def opJm4 : Oper:={ dst:=some 24,op:=Op.call { callee:=Callee.builtin Builtin.len,args:=#[Operand.tmp 23],argTypes:=#[63] },type:=3,pos:= "credit.go:20",after:=#[{ on:=3,ground:=Ground.data }],guard:=none }
def opJm5 : Oper:={ dst:=some 25,op:=Op.makeSlice 33 (Operand.tmp 24) (Operand.tmp 24),type:=33,pos:= "credit.go:20",after:=#[{ on:=4,ground:=Ground.data },{ on:=4,ground:=Ground.data }],guard:=none }
def opJm6 : Oper:={ dst:=some 5,op:=Op.assign (Operand.tmp 22),type:=33,pos:= "credit.go:20",after:=#[{ on:=2,ground:=Ground.data },{ on:=0,ground:=Ground.phase },{ on:=1,ground:=Ground.phase },{ on:=2,ground:=Ground.phase },{ on:=3,ground:=Ground.textOnly Departure.lateStores },{ on:=4,ground:=Ground.textOnly Departure.lateStoresUnsure },{ on:=5,ground:=Ground.textOnly Departure.lateStoresUnsure }],guard:=none }
def opJm7 : Oper:={ dst:=some 6,op:=Op.assign (Operand.tmp 25),type:=33,pos:= "credit.go:20",after:=#[{ on:=5,ground:=Ground.data },{ on:=6,ground:=Ground.chain },{ on:=0,ground:=Ground.phase },{ on:=1,ground:=Ground.phase },{ on:=2,ground:=Ground.phase },{ on:=3,ground:=Ground.phase },{ on:=4,ground:=Ground.phase },{ on:=5,ground:=Ground.phase },{ on:=6,ground:=Ground.phase }],guard:=none }
def opJms : Array Oper:=#[opJm0,opJm1,opJm2,opJm3,opJm4,opJm5,opJm6,opJm7]
def opJmT (i : Nat) : Nat:=match i with
 | 0 => 20
 | 1 => 21
 | 2 => 22
 | 3 => 23
 | 4 => 24
 | 5 => 25
 | 6 => 5
 | _ => 6
def opJmV (q : Option Addr) (n c : Nat) (N : Nat × Nat) (i : Nat) : Value:=match i with
 | 0 => .slice q n c
 | 1 => .int .i64 (n : Int)
 | 2 => .slice (some ⟨N.1,0,none⟩) n n
 | 3 => .slice q n c
 | 4 => .int .i64 (n : Int)
 | 5 => .slice (some ⟨N.2,0,none⟩) n n
 | 6 => .slice (some ⟨N.1,0,none⟩) n n
 | _ => .slice (some ⟨N.2,0,none⟩) n n
/-- the two rows, as far as they are made -/
structure TwoH (W0 : World) (n : Nat) (N : Nat × Nat) (a b : Bool) (w : World) : Prop where
 but : But [] W0 w
 one : a = true→RowOf w N.1 n (fun _ => 0)∧W0.heap.size ≤ N.1∧N.1 < w.heap.size
 two : b = true→RowOf w N.2 n (fun _ => 0)∧W0.heap.size ≤ N.2∧N.2 < w.heap.size
 ne : a = true→b = true→N.1 ≠ N.2
theorem opJmT_inj : ∀ i j,i < 8→j < 8→opJmT i = opJmT j→i = j:=fun i j hi hj => (by decide : ∀ i,i < 8→∀ j,j < 8→opJmT i = opJmT j→i = j) i hi j hj
set_option maxHeartbeats 8000000 in
set_option maxRecDepth 100000 in
theorem twoRows_region (id : Nat) (Q : Exit→Act→World→Prop) (base : Act) (W0 : World) (q : Option Addr) (n c : Nat) (hn : n < 1000000) (hs : 25 < base.tmps.size) (e0 : base.eval (.tmp 0) = .slice q n c)
  (hQ : ∀ w g1 g2,But [] W0 w→RowOf w g1 n (fun _ => 0)→RowOf w g2 n (fun _ => 0)→W0.heap.size ≤ g1→W0.heap.size ≤ g2→g1 < w.heap.size→g2 < w.heap.size→g1 ≠ g2→Q .normal (putted base [(20,.slice q n c),(21,.int .i64 (n : Int)),(22,.slice (some ⟨g1,0,none⟩) n n),(23,.slice q n c),(24,.int .i64 (n : Int)),(25,.slice (some ⟨g2,0,none⟩) n n),(5,.slice (some ⟨g1,0,none⟩) n n),(6,.slice (some ⟨g2,0,none⟩) n n)]) w) :
  (Code.region id opJms true).wp Tryz.prog Q base W0:=by
 have hT : ∀ i,i < 8→opJmT i < base.tmps.size:=fun i hi => by
  have h : opJmT i ≤ 25:=by revert i; decide
  omega
 refine region_names (by kernel_rfl) (low_of (by kernel_rfl)) (bare_of (by kernel_rfl)) (α:=Nat × Nat) (fun N d w => TwoH W0.drew n N (d 2) (d 5) w) (opJmV q n c) opJmT 8 (by kernel_rfl) opJmT_inj hT (0,0) ⟨But.refl _ _,fun h => by simp at h,fun h => by simp at h,fun h => by simp at h⟩ ?_ ?_
 ·intro N d i o a w K hi ho hdi hcl hH he hdep hK
  have hD:=dep_is (ps:=[(1,0),(2,1),(4,3),(5,4),(6,2),(7,5)]) (by kernel_rfl) ho (fun j => d j = true∧a.eval (.tmp (opJmT j)) = opJmV q n c N j) hdep
  have h62 : d 2 = false→d 6 = false:=fun h => hcl.not (ps:=[(6,2)]) (by kernel_rfl) (by simp) h
  have h75 : d 5 = false→d 7 = false:=fun h => hcl.not (ps:=[(7,5)]) (by kernel_rfl) (by simp) h
  have e0':=(he 0 (fun j hj e => absurd e.symm (by revert j; decide))).trans e0
  have keep : i ≠ 2→i ≠ 5→TwoH W0.drew n N (came d i 2) (came d i 5) w:=fun h2 h5 => by rw [came_ne d (Ne.symm h2),came_ne d (Ne.symm h5)]; exact hH
  have : i = 0 ∨ i = 1 ∨ i = 2 ∨ i = 3 ∨ i = 4 ∨ i = 5 ∨ i = 6 ∨ i = 7:=by omega
  rcases this with rfl | rfl | rfl | rfl | rfl | rfl | rfl | rfl
  ·obtain rfl:=Option.some.inj ((show opJms[0]? = some opJm0 from rfl).symm.trans ho)
   exact wp_value (run_mvK a w _ _ _ _ _ _ _ e0') (hK N _ _ rfl (fun _ _ _ => rfl) (keep (by decide) (by decide)))
  ·obtain rfl:=Option.some.inj ((show opJms[1]? = some opJm1 from rfl).symm.trans ho)
   exact wp_value (run_lenJ2 a w _ _ _ _ _ _ q n c (hD 0 (by simp)).2) (hK N _ _ rfl (fun _ _ _ => rfl) (keep (by decide) (by decide)))
  ·obtain rfl:=Option.some.inj ((show opJms[2]? = some opJm2 from rfl).symm.trans ho)
   have bA : But [] w (w.alloc (.cells (madeCells #[.bool false,.int .u64 0,.int .u64 0,.pointer none] (n * 4)) 29)):=(But.refl _ _).alloc _
   have hsz:=hH.but.size
   have hlast:=h62 hdi
   refine wp_value (run_mkJ a w _ _ _ _ _ _ n hn (hD 1 (by simp)).2) (hK (w.heap.size,N.2) _ _ rfl (fun j hj hd' => ?_) ?_)
   ·have : j = 0 ∨ j = 1 ∨ j = 2 ∨ j = 3 ∨ j = 4 ∨ j = 5 ∨ j = 6 ∨ j = 7:=by omega
    rcases this with rfl | rfl | rfl | rfl | rfl | rfl | rfl | rfl
    ·rfl
    ·rfl
    ·rw [hdi] at hd'; simp at hd'
    ·rfl
    ·rfl
    ·rfl
    ·rw [hlast] at hd'; simp at hd'
    ·rfl
   ·rw [came_self,came_ne d (show (5 : Nat) ≠ 2 by decide)]
    refine ⟨hH.but.trans' bA,fun _ => ⟨RowOf.made w n,hsz,by simp⟩,fun h => ?_,fun _ h => ?_⟩
    ·obtain ⟨h1,h2,h3⟩:=hH.two h
     exact ⟨h1.but bA h3,h2,Nat.lt_of_lt_of_le h3 bA.size⟩
    ·obtain ⟨h1,h2,h3⟩:=hH.two h
     show w.heap.size ≠ N.2
     omega
  ·obtain rfl:=Option.some.inj ((show opJms[3]? = some opJm3 from rfl).symm.trans ho)
   exact wp_value (run_mvK a w _ _ _ _ _ _ _ e0') (hK N _ _ rfl (fun _ _ _ => rfl) (keep (by decide) (by decide)))
  ·obtain rfl:=Option.some.inj ((show opJms[4]? = some opJm4 from rfl).symm.trans ho)
   exact wp_value (run_lenJ2 a w _ _ _ _ _ _ q n c (hD 3 (by simp)).2) (hK N _ _ rfl (fun _ _ _ => rfl) (keep (by decide) (by decide)))
  ·obtain rfl:=Option.some.inj ((show opJms[5]? = some opJm5 from rfl).symm.trans ho)
   have bA : But [] w (w.alloc (.cells (madeCells #[.bool false,.int .u64 0,.int .u64 0,.pointer none] (n * 4)) 29)):=(But.refl _ _).alloc _
   have hsz:=hH.but.size
   have hlast:=h75 hdi
   refine wp_value (run_mkJ a w _ _ _ _ _ _ n hn (hD 4 (by simp)).2) (hK (N.1,w.heap.size) _ _ rfl (fun j hj hd' => ?_) ?_)
   ·have : j = 0 ∨ j = 1 ∨ j = 2 ∨ j = 3 ∨ j = 4 ∨ j = 5 ∨ j = 6 ∨ j = 7:=by omega
    rcases this with rfl | rfl | rfl | rfl | rfl | rfl | rfl | rfl
    ·rfl
    ·rfl
    ·rfl
    ·rfl
    ·rfl
    ·rw [hdi] at hd'; simp at hd'
    ·rfl
    ·rw [hlast] at hd'; simp at hd'
   ·rw [came_self,came_ne d (show (2 : Nat) ≠ 5 by decide)]
    refine ⟨hH.but.trans' bA,fun h => ?_,fun _ => ⟨RowOf.made w n,hsz,by simp⟩,fun h _ => ?_⟩
    ·obtain ⟨h1,h2,h3⟩:=hH.one h
     exact ⟨h1.but bA h3,h2,Nat.lt_of_lt_of_le h3 bA.size⟩
    ·obtain ⟨h1,h2,h3⟩:=hH.one h
     show N.1 ≠ w.heap.size
     omega
  ·obtain rfl:=Option.some.inj ((show opJms[6]? = some opJm6 from rfl).symm.trans ho)
   exact wp_value (run_asK a w _ _ _ _ _ _ _ (hD 2 (by simp)).2) (hK N _ _ rfl (fun _ _ _ => rfl) (keep (by decide) (by decide)))
  ·obtain rfl:=Option.some.inj ((show opJms[7]? = some opJm7 from rfl).symm.trans ho)
   exact wp_value (run_asK a w _ _ _ _ _ _ _ (hD 5 (by simp)).2) (hK N _ _ rfl (fun _ _ _ => rfl) (keep (by decide) (by decide)))
 ·intro N d w hd hH
  obtain ⟨h1,h2,h3⟩:=hH.one (hd 2 (by omega))
  obtain ⟨k1,k2,k3⟩:=hH.two (hd 5 (by omega))
  exact hQ w N.1 N.2 ((But.refl _ _).drew.trans' hH.but) h1 k1 h2 k2 h3 k3 (hH.ne (hd 2 (by omega)) (hd 5 (by omega)))
def opJn0 : Oper:={ dst:=some 48,op:=Op.load 29 (Operand.tmp 10),type:=29,pos:= "credit.go:25",after:=#[],guard:=none }
def opJn1 : Oper:={ dst:=some 49,op:=Op.move (Operand.tmp 0),type:=63,pos:= "credit.go:25",after:=#[],guard:=none }
def opJn2 : Oper:={ dst:=some 50,op:=Op.indexAddr 63 (Operand.tmp 49) (Operand.const (Value.int IntKind.i64 0)),type:=0,pos:= "credit.go:25",after:=#[{ on:=1,ground:=Ground.data }],guard:=none }
def opJn3 : Oper:={ dst:=some 51,op:=Op.load 33 (Operand.tmp 50),type:=33,pos:= "credit.go:25",after:=#[{ on:=2,ground:=Ground.data }],guard:=none }
def opJn4 : Oper:={ dst:=some 52,op:=Op.call { callee:=Callee.builtin Builtin.len,args:=#[Operand.tmp 51],argTypes:=#[33] },type:=3,pos:= "credit.go:25",after:=#[{ on:=3,ground:=Ground.data }],guard:=none }
def opJn5 : Oper:={ dst:=some 53,op:=Op.call { callee:=Callee.value (Operand.func 113),args:=#[Operand.tmp 48,Operand.tmp 52],argTypes:=#[29,3] },type:=29,pos:= "credit.go:25",after:=#[{ on:=0,ground:=Ground.data },{ on:=4,ground:=Ground.data }],guard:=none }
def opJn6 : Oper:={ dst:=some 11,op:=Op.alloc 29,type:=0,pos:= "credit.go:25",after:=#[],guard:=none }
def opJn7 : Oper:={ dst:=none,op:=Op.store 29 (Operand.tmp 11) (Operand.tmp 53),type:=0,pos:= "credit.go:25",after:=#[{ on:=6,ground:=Ground.data },{ on:=5,ground:=Ground.data },{ on:=5,ground:=Ground.chain },{ on:=0,ground:=Ground.phase },{ on:=1,ground:=Ground.phase },{ on:=2,ground:=Ground.phase },{ on:=3,ground:=Ground.phase },{ on:=4,ground:=Ground.phase },{ on:=5,ground:=Ground.phase },{ on:=6,ground:=Ground.phase }],guard:=none }
def opJns : Array Oper:=#[opJn0,opJn1,opJn2,opJn3,opJn4,opJn5,opJn6,opJn7]
def opJnT (i : Nat) : Nat:=match i with
 | 0 => 48
 | 1 => 49
 | 2 => 50
 | 3 => 51
 | 4 => 52
 | 5 => 53
 | _ => 11
/-- what each operation's value is -/
def opJnC (B : Nat) (gm : Nat) (off : Nat) (N : Nat) (cp : Nat) (q : Option Addr) (m : Nat) (c : Nat) (s1 : Bool) (x1 : Int) (y1 : Int) (p1 : Option Addr) (f1 : Rat) (i : Nat) (w : World) (v : Value) : Prop:=match i with
 | 0 => v = .agg #[.bool s1,.int .u64 x1,.int .u64 y1,.pointer p1]
 | 1 => v = .slice (some ⟨gm,off,none⟩) N cp
 | 2 => v = .pointer (some ⟨gm,off,none⟩)
 | 3 => v = .slice q m c
 | 4 => v = .int .i64 (m : Int)
 | 5 => FracAt w v (f1 / (((m : Nat) : Int) : Rat))
 | _ => LaidJ B w v
theorem opJnC_but {B : Nat} {gm : Nat} {off : Nat} {N : Nat} {cp : Nat} {q : Option Addr} {m : Nat} {c : Nat} {s1 : Bool} {x1 : Int} {y1 : Int} {p1 : Option Addr} {f1 : Rat} {i : Nat} {w w' : World} {v : Value} (h : opJnC B gm off N cp q m c s1 x1 y1 p1 f1 i w v) (hi : i < 7) (hb : But [] w w') : opJnC B gm off N cp q m c s1 x1 y1 p1 f1 i w' v:=by
 have : i = 0 ∨ i = 1 ∨ i = 2 ∨ i = 3 ∨ i = 4 ∨ i = 5 ∨ i = 6:=by omega
 rcases this with rfl | rfl | rfl | rfl | rfl | rfl | rfl
 all_goals first | exact h | exact FracAt.but h hb | exact FracsAt.but h hb | exact LaidJ.but h hb | exact FracAt.but h hb
theorem opJnT_inj : ∀ i j,i < 7→j < 7→opJnT i = opJnT j→i = j:=fun i j hi hj => (by decide : ∀ i,i < 7→∀ j,j < 7→opJnT i = opJnT j→i = j) i hi j hj
set_option maxHeartbeats 8000000 in
set_option maxRecDepth 100000 in
theorem est_region11 (id : Nat) (Q : Exit→Act→World→Prop) (base : Act) (W0 : World) (B : Nat) (gm : Nat) (off : Nat) (N : Nat) (cp : Nat) (q : Option Addr) (m : Nat) (c : Nat) (s1 : Bool) (x1 : Int) (y1 : Int) (p1 : Option Addr) (f1 : Rat) (hs : 53 < base.tmps.size) (g10 : Nat) (hBW : B ≤ W0.heap.size) (e10 : base.eval (.tmp 10) = .pointer (some ⟨g10,0,none⟩)) (e0 : base.eval (.tmp 0) = .slice (some ⟨gm,off,none⟩) N cp)
  (hN0 : 0 < N) (hN2 : N < 1000000) (c1 : P4 W0 g10 s1 x1 y1 p1) (cr : W0.cell? ⟨gm,off,none⟩ = some (.slice q m c))
  (QU : ∀ w,But [] W0 w→Calls Tryz.prog 113 #[.agg #[.bool s1,.int .u64 x1,.int .u64 y1,.pointer p1],.int .i64 (m : Int)] w fun e w' => ∃ v,e = .returned v∧FracAt w' v (f1 / (((m : Nat) : Int) : Rat))∧But [] w w')
  (hQ : ∀ w1 bn s' x' y' p',But [] W0 w1→B ≤ bn→P4 w1 bn false 0 0 none→(∀ j,w1.frozen? ⟨bn,j,none⟩ = false)→FracAt w1 (.agg #[.bool s',.int .u64 x',.int .u64 y',.pointer p']) (f1 / (((m : Nat) : Int) : Rat))→Q .normal (putted base [(48,.agg #[.bool s1,.int .u64 x1,.int .u64 y1,.pointer p1]),(49,.slice (some ⟨gm,off,none⟩) N cp),(50,.pointer (some ⟨gm,off,none⟩)),(51,.slice q m c),(52,.int .i64 (m : Int)),(53,(.agg #[.bool s',.int .u64 x',.int .u64 y',.pointer p'])),(11,.pointer (some ⟨bn,0,none⟩))]) (put4 w1 bn s' x' y' p')) :
  (Code.region id opJns true).wp Tryz.prog Q base W0:=by
 have hdr : ∀ {w},But [] W0.drew w→But [] W0 w:=fun h => (But.refl _ _).drew.trans' h
 have hT : ∀ i,i < 7→opJnT i < base.tmps.size:=fun i hi => by
  have h : opJnT i ≤ 53:=by revert i; decide
  omega
 refine region_flow (by kernel_rfl) (low_of (by kernel_rfl)) (fun i o ho => (calm_of (ops:=opJns) (by kernel_rfl) i o ho).1)
  (fun _ w => But [] W0.drew w) (opJnC B gm off N cp q m c s1 x1 y1 p1 f1) opJnT 7 rfl opJnT_inj hT (But.refl _ _)
  (fun i hi => ?_) ?_ (fun a w => ∃ w1 bn s' x' y' p',a = putted base [(48,.agg #[.bool s1,.int .u64 x1,.int .u64 y1,.pointer p1]),(49,.slice (some ⟨gm,off,none⟩) N cp),(50,.pointer (some ⟨gm,off,none⟩)),(51,.slice q m c),(52,.int .i64 (m : Int)),(53,(.agg #[.bool s',.int .u64 x',.int .u64 y',.pointer p'])),(11,.pointer (some ⟨bn,0,none⟩))]∧w = put4 w1 bn s' x' y' p'∧But [] W0 w1∧B ≤ bn∧P4 w1 bn false 0 0 none∧(∀ j,w1.frozen? ⟨bn,j,none⟩ = false)∧FracAt w1 (.agg #[.bool s',.int .u64 x',.int .u64 y',.pointer p']) (f1 / (((m : Nat) : Int) : Rat))) ?_ ?_
 ·exact dep_of (ops:=opJns) (ps:=[(7,0),(7,1),(7,2),(7,3),(7,4),(7,5),(7,6)]) (by kernel_rfl) 7 i (by
   have : i = 0 ∨ i = 1 ∨ i = 2 ∨ i = 3 ∨ i = 4 ∨ i = 5 ∨ i = 6:=by omega
   rcases this with rfl | rfl | rfl | rfl | rfl | rfl | rfl <;> simp)
 ·intro dn i o a w K hi ho hdi hH he hdep hK
  have hD:=fun j hj => (dep_have (ps:=[(2,1),(3,2),(4,3),(5,0),(5,4)]) (by kernel_rfl) ho (fun j => dn j = true∧opJnC B gm off N cp q m c s1 x1 y1 p1 f1 j w (a.eval (.tmp (opJnT j)))) hdep j hj).2
  have hk : ∀ v w',But [] w w'→opJnC B gm off N cp q m c s1 x1 y1 p1 f1 i w' v→K (a.put (some (opJnT i)) v) w':=fun v w' hb hv => hK v w' (hH.trans' hb) (fun j hj _ u hu => opJnC_but hu hj hb) hv
  have e10':=(he 10 (fun j hj e => absurd e.symm (by revert j; decide))).trans e10
  have e0':=(he 0 (fun j hj e => absurd e.symm (by revert j; decide))).trans e0
  have : i = 0 ∨ i = 1 ∨ i = 2 ∨ i = 3 ∨ i = 4 ∨ i = 5 ∨ i = 6:=by omega
  rcases this with rfl | rfl | rfl | rfl | rfl | rfl | rfl
  ·obtain rfl:=Option.some.inj ((show opJns[0]? = some opJn0 from rfl).symm.trans ho)
   exact wp_value (run_loadK a w _ _ _ _ _ _ g10 0 _ _ _ _ e10' (c1.but (hdr hH) (by simp))) (hk _ _ (But.refl _ _) rfl)
  ·obtain rfl:=Option.some.inj ((show opJns[1]? = some opJn1 from rfl).symm.trans ho)
   exact wp_value (run_mvK a w _ _ _ _ _ _ _ e0') (hk _ _ (But.refl _ _) rfl)
  ·obtain rfl:=Option.some.inj ((show opJns[2]? = some opJn2 from rfl).symm.trans ho)
   exact wp_value (run_ix0J a w _ _ _ _ _ _ gm off N cp hN0 hN2 (hD 1 (by simp))) (hk _ _ (But.refl _ _) rfl)
  ·obtain rfl:=Option.some.inj ((show opJns[3]? = some opJn3 from rfl).symm.trans ho)
   exact wp_value (run_loadRK a w _ _ _ _ _ _ gm off _ _ _ (hD 2 (by simp)) ((hdr hH).cell_some cr (by simp))) (hk _ _ (But.refl _ _) rfl)
  ·obtain rfl:=Option.some.inj ((show opJns[4]? = some opJn4 from rfl).symm.trans ho)
   exact wp_value (run_lenJ a w _ _ _ _ _ _ _ _ _ (hD 3 (by simp))) (hk _ _ (But.refl _ _) rfl)
  ·obtain rfl:=Option.some.inj ((show opJns[5]? = some opJn5 from rfl).symm.trans ho)
   exact wp_enter (run_quotJ a w _ _ _ _ _ _ _ _ _ (hD 0 (by simp)) (hD 4 (by simp))) (R:=fun w' v => FracAt w' v (f1 / (((m : Nat) : Int) : Rat))∧But [] w w') (QU w (hdr hH)) (fun v w' hv => hk v w' hv.2 hv.1)
  ·obtain rfl:=Option.some.inj ((show opJns[6]? = some opJn6 from rfl).symm.trans ho)
   exact wp_value (run_alloc4 a w _ _ _ _ _) (hk _ _ ((But.refl _ _).alloc _) ⟨w.heap.size,rfl,Nat.le_trans hBW (hdr hH).size,⟨by simp,by simp,by simp,by simp⟩,fun j => by simp⟩)
 ·intro dn o a w K ho hall h hK
  obtain rfl:=Option.some.inj ((show opJns[7]? = some opJn7 from rfl).symm.trans ho)
  have cl : FracAt w (a.eval (.tmp 53)) (f1 / (((m : Nat) : Int) : Rat)):=h.has 5 (by omega) (hall 5 (by omega))
  obtain ⟨bn,eb,hb1,hb2,hb3⟩ : LaidJ B w (a.eval (.tmp 11)):=h.has 6 (by omega) (hall 6 (by omega))
  have cl':=cl
  obtain ⟨x',y',p',ev,-⟩:=cl.agg
  rw [ev] at cl'
  have ea:=h.puts hT (fun i => match i with
   | 0 => .agg #[.bool s1,.int .u64 x1,.int .u64 y1,.pointer p1]
   | 1 => .slice (some ⟨gm,off,none⟩) N cp
   | 2 => .pointer (some ⟨gm,off,none⟩)
   | 3 => .slice q m c
   | 4 => .int .i64 (m : Int)
   | 5 => .agg #[.bool (decide ((f1 / (((m : Nat) : Int) : Rat)).num < 0)),.int .u64 x',.int .u64 y',.pointer p']
   | _ => .pointer (some ⟨bn,0,none⟩)) (fun i hi => by
   have hc:=h.has i hi (hall i hi)
   have : i = 0 ∨ i = 1 ∨ i = 2 ∨ i = 3 ∨ i = 4 ∨ i = 5 ∨ i = 6:=by omega
   rcases this with rfl | rfl | rfl | rfl | rfl | rfl | rfl
   all_goals first | exact ev | exact eb | exact hc | rfl)
  exact wp_skipped (run_store4 a w _ _ _ _ _ bn _ x' y' p' eb ev hb2 hb3) (hK _ _ ⟨w,bn,_,x',y',p',ea,rfl,hdr h.mem,hb1,hb2,hb3,cl'⟩)
 ·rintro a w ⟨w1,bn,s',x',y',p',rfl,rfl,h1,h2,h3,h4,h5⟩
  exact hQ  w1 bn s' x' y' p' h1 h2 h3 h4 h5
def opJo0 : Oper:={ dst:=some 54,op:=Op.move (Operand.tmp 5),type:=33,pos:= "credit.go:26",after:=#[],guard:=none }
def opJo1 : Oper:={ dst:=some 55,op:=Op.call { callee:=Callee.value (Operand.func 112),args:=#[Operand.tmp 54],argTypes:=#[33] },type:=29,pos:= "credit.go:26",after:=#[{ on:=0,ground:=Ground.data }],guard:=none }
def opJo2 : Oper:={ dst:=some 56,op:=Op.load 29 (Operand.tmp 11),type:=29,pos:= "credit.go:26",after:=#[],guard:=none }
def opJo3 : Oper:={ dst:=some 57,op:=Op.call { callee:=Callee.value (Operand.func 74),args:=#[Operand.tmp 55,Operand.tmp 56],argTypes:=#[29,29] },type:=29,pos:= "credit.go:26",after:=#[{ on:=1,ground:=Ground.data },{ on:=2,ground:=Ground.data },{ on:=1,ground:=Ground.chain }],guard:=none }
def opJo4 : Oper:={ dst:=some 58,op:=Op.call { callee:=Callee.value (Operand.func 114),args:=#[Operand.tmp 57],argTypes:=#[29] },type:=29,pos:= "credit.go:26",after:=#[{ on:=3,ground:=Ground.data },{ on:=3,ground:=Ground.chain }],guard:=none }
def opJo5 : Oper:={ dst:=some 12,op:=Op.alloc 29,type:=0,pos:= "credit.go:26",after:=#[],guard:=none }
def opJo6 : Oper:={ dst:=none,op:=Op.store 29 (Operand.tmp 12) (Operand.tmp 58),type:=0,pos:= "credit.go:26",after:=#[{ on:=5,ground:=Ground.data },{ on:=4,ground:=Ground.data },{ on:=4,ground:=Ground.chain },{ on:=0,ground:=Ground.phase },{ on:=1,ground:=Ground.phase },{ on:=2,ground:=Ground.phase },{ on:=3,ground:=Ground.phase },{ on:=4,ground:=Ground.phase },{ on:=5,ground:=Ground.phase }],guard:=none }
def opJos : Array Oper:=#[opJo0,opJo1,opJo2,opJo3,opJo4,opJo5,opJo6]
def opJoT (i : Nat) : Nat:=match i with
 | 0 => 54
 | 1 => 55
 | 2 => 56
 | 3 => 57
 | 4 => 58
 | _ => 12
/-- what each operation's value is -/
def opJoC (B : Nat) (vs : Value) (s1 : Bool) (x1 : Int) (y1 : Int) (p1 : Option Addr) (f1 : Rat) (f2 : Rat) (i : Nat) (w : World) (v : Value) : Prop:=match i with
 | 0 => v = vs
 | 1 => FracAt w v f2
 | 2 => v = .agg #[.bool s1,.int .u64 x1,.int .u64 y1,.pointer p1]
 | 3 => FracAt w v (f2 - f1)
 | 4 => FracAt w v (max0 (f2 - f1))
 | _ => LaidJ B w v
theorem opJoC_but {B : Nat} {vs : Value} {s1 : Bool} {x1 : Int} {y1 : Int} {p1 : Option Addr} {f1 : Rat} {f2 : Rat} {i : Nat} {w w' : World} {v : Value} (h : opJoC B vs s1 x1 y1 p1 f1 f2 i w v) (hi : i < 6) (hb : But [] w w') : opJoC B vs s1 x1 y1 p1 f1 f2 i w' v:=by
 have : i = 0 ∨ i = 1 ∨ i = 2 ∨ i = 3 ∨ i = 4 ∨ i = 5:=by omega
 rcases this with rfl | rfl | rfl | rfl | rfl | rfl
 all_goals first | exact h | exact FracAt.but h hb | exact FracsAt.but h hb | exact LaidJ.but h hb | exact FracAt.but h hb
theorem opJoT_inj : ∀ i j,i < 6→j < 6→opJoT i = opJoT j→i = j:=fun i j hi hj => (by decide : ∀ i,i < 6→∀ j,j < 6→opJoT i = opJoT j→i = j) i hi j hj
set_option maxHeartbeats 8000000 in
set_option maxRecDepth 100000 in
theorem est_region12 (id : Nat) (Q : Exit→Act→World→Prop) (base : Act) (W0 : World) (B : Nat) (vs : Value) (s1 : Bool) (x1 : Int) (y1 : Int) (p1 : Option Addr) (f1 : Rat) (f2 : Rat) (hs : 58 < base.tmps.size) (g11 : Nat) (hBW : B ≤ W0.heap.size) (e5 : base.eval (.tmp 5) = vs) (e11 : base.eval (.tmp 11) = .pointer (some ⟨g11,0,none⟩))
  (c1 : P4 W0 g11 s1 x1 y1 p1)
  (SP : ∀ w,But [] W0 w→Calls Tryz.prog 112 #[vs] w fun e w' => ∃ v,e = .returned v∧FracAt w' v f2∧But [] w w')
  (SU : ∀ w,But [] W0 w→∀ v,FracAt w v f2→Calls Tryz.prog 74 #[v,.agg #[.bool s1,.int .u64 x1,.int .u64 y1,.pointer p1]] w fun e w' => ∃ v,e = .returned v∧FracAt w' v (f2 - f1)∧But [] w w')
  (NO : ∀ w,But [] W0 w→∀ v,FracAt w v (f2 - f1)→Calls Tryz.prog 114 #[v] w fun e w' => ∃ v,e = .returned v∧FracAt w' v (max0 (f2 - f1))∧But [] w w')
  (hQ : ∀ w1 bn v1 v3 s' x' y' p',But [] W0 w1→B ≤ bn→P4 w1 bn false 0 0 none→(∀ j,w1.frozen? ⟨bn,j,none⟩ = false)→FracAt w1 (.agg #[.bool s',.int .u64 x',.int .u64 y',.pointer p']) (max0 (f2 - f1))→Q .normal (putted base [(54,vs),(55,v1),(56,.agg #[.bool s1,.int .u64 x1,.int .u64 y1,.pointer p1]),(57,v3),(58,(.agg #[.bool s',.int .u64 x',.int .u64 y',.pointer p'])),(12,.pointer (some ⟨bn,0,none⟩))]) (put4 w1 bn s' x' y' p')) :
  (Code.region id opJos true).wp Tryz.prog Q base W0:=by
 have hdr : ∀ {w},But [] W0.drew w→But [] W0 w:=fun h => (But.refl _ _).drew.trans' h
 have hT : ∀ i,i < 6→opJoT i < base.tmps.size:=fun i hi => by
  have h : opJoT i ≤ 58:=by revert i; decide
  omega
 refine region_flow (by kernel_rfl) (low_of (by kernel_rfl)) (fun i o ho => (calm_of (ops:=opJos) (by kernel_rfl) i o ho).1)
  (fun _ w => But [] W0.drew w) (opJoC B vs s1 x1 y1 p1 f1 f2) opJoT 6 rfl opJoT_inj hT (But.refl _ _)
  (fun i hi => ?_) ?_ (fun a w => ∃ w1 bn v1 v3 s' x' y' p',a = putted base [(54,vs),(55,v1),(56,.agg #[.bool s1,.int .u64 x1,.int .u64 y1,.pointer p1]),(57,v3),(58,(.agg #[.bool s',.int .u64 x',.int .u64 y',.pointer p'])),(12,.pointer (some ⟨bn,0,none⟩))]∧w = put4 w1 bn s' x' y' p'∧But [] W0 w1∧B ≤ bn∧P4 w1 bn false 0 0 none∧(∀ j,w1.frozen? ⟨bn,j,none⟩ = false)∧FracAt w1 (.agg #[.bool s',.int .u64 x',.int .u64 y',.pointer p']) (max0 (f2 - f1))) ?_ ?_
 ·exact dep_of (ops:=opJos) (ps:=[(6,0),(6,1),(6,2),(6,3),(6,4),(6,5)]) (by kernel_rfl) 6 i (by
   have : i = 0 ∨ i = 1 ∨ i = 2 ∨ i = 3 ∨ i = 4 ∨ i = 5:=by omega
   rcases this with rfl | rfl | rfl | rfl | rfl | rfl <;> simp)
 ·intro dn i o a w K hi ho hdi hH he hdep hK
  have hD:=fun j hj => (dep_have (ps:=[(1,0),(3,1),(3,2),(4,3)]) (by kernel_rfl) ho (fun j => dn j = true∧opJoC B vs s1 x1 y1 p1 f1 f2 j w (a.eval (.tmp (opJoT j)))) hdep j hj).2
  have hk : ∀ v w',But [] w w'→opJoC B vs s1 x1 y1 p1 f1 f2 i w' v→K (a.put (some (opJoT i)) v) w':=fun v w' hb hv => hK v w' (hH.trans' hb) (fun j hj _ u hu => opJoC_but hu hj hb) hv
  have e5':=(he 5 (fun j hj e => absurd e.symm (by revert j; decide))).trans e5
  have e11':=(he 11 (fun j hj e => absurd e.symm (by revert j; decide))).trans e11
  have : i = 0 ∨ i = 1 ∨ i = 2 ∨ i = 3 ∨ i = 4 ∨ i = 5:=by omega
  rcases this with rfl | rfl | rfl | rfl | rfl | rfl
  ·obtain rfl:=Option.some.inj ((show opJos[0]? = some opJo0 from rfl).symm.trans ho)
   exact wp_value (run_mvK a w _ _ _ _ _ _ _ e5') (hk _ _ (But.refl _ _) rfl)
  ·obtain rfl:=Option.some.inj ((show opJos[1]? = some opJo1 from rfl).symm.trans ho)
   exact wp_enter (run_spreadJ a w _ _ _ _ _ _ _ (hD 0 (by simp))) (R:=fun w' v => FracAt w' v (f2)∧But [] w w') (SP w (hdr hH)) (fun v w' hv => hk v w' hv.2 hv.1)
  ·obtain rfl:=Option.some.inj ((show opJos[2]? = some opJo2 from rfl).symm.trans ho)
   exact wp_value (run_loadK a w _ _ _ _ _ _ g11 0 _ _ _ _ e11' (c1.but (hdr hH) (by simp))) (hk _ _ (But.refl _ _) rfl)
  ·obtain rfl:=Option.some.inj ((show opJos[3]? = some opJo3 from rfl).symm.trans ho)
   exact wp_enter (run_subJ a w _ _ _ _ _ _ _ _ _ rfl (hD 2 (by simp))) (R:=fun w' v => FracAt w' v (f2 - f1)∧But [] w w') (SU w (hdr hH) _ (hD 1 (by simp))) (fun v w' hv => hk v w' hv.2 hv.1)
  ·obtain rfl:=Option.some.inj ((show opJos[4]? = some opJo4 from rfl).symm.trans ho)
   exact wp_enter (run_noughtJ a w _ _ _ _ _ _ _ rfl) (R:=fun w' v => FracAt w' v (max0 (f2 - f1))∧But [] w w') (NO w (hdr hH) _ (hD 3 (by simp))) (fun v w' hv => hk v w' hv.2 hv.1)
  ·obtain rfl:=Option.some.inj ((show opJos[5]? = some opJo5 from rfl).symm.trans ho)
   exact wp_value (run_alloc4 a w _ _ _ _ _) (hk _ _ ((But.refl _ _).alloc _) ⟨w.heap.size,rfl,Nat.le_trans hBW (hdr hH).size,⟨by simp,by simp,by simp,by simp⟩,fun j => by simp⟩)
 ·intro dn o a w K ho hall h hK
  obtain rfl:=Option.some.inj ((show opJos[6]? = some opJo6 from rfl).symm.trans ho)
  have cl : FracAt w (a.eval (.tmp 58)) (max0 (f2 - f1)):=h.has 4 (by omega) (hall 4 (by omega))
  obtain ⟨bn,eb,hb1,hb2,hb3⟩ : LaidJ B w (a.eval (.tmp 12)):=h.has 5 (by omega) (hall 5 (by omega))
  have cl':=cl
  obtain ⟨x',y',p',ev,-⟩:=cl.agg
  rw [ev] at cl'
  have ea:=h.puts hT (fun i => match i with
   | 0 => vs
   | 1 => a.eval (.tmp 55)
   | 2 => .agg #[.bool s1,.int .u64 x1,.int .u64 y1,.pointer p1]
   | 3 => a.eval (.tmp 57)
   | 4 => .agg #[.bool (decide ((max0 (f2 - f1)).num < 0)),.int .u64 x',.int .u64 y',.pointer p']
   | _ => .pointer (some ⟨bn,0,none⟩)) (fun i hi => by
   have hc:=h.has i hi (hall i hi)
   have : i = 0 ∨ i = 1 ∨ i = 2 ∨ i = 3 ∨ i = 4 ∨ i = 5:=by omega
   rcases this with rfl | rfl | rfl | rfl | rfl | rfl
   all_goals first | exact ev | exact eb | exact hc | rfl)
  exact wp_skipped (run_store4 a w _ _ _ _ _ bn _ x' y' p' eb ev hb2 hb3) (hK _ _ ⟨w,bn,a.eval (.tmp 55),a.eval (.tmp 57),_,x',y',p',ea,rfl,hdr h.mem,hb1,hb2,hb3,cl'⟩)
 ·rintro a w ⟨w1,bn,v1,v3,s',x',y',p',rfl,rfl,h1,h2,h3,h4,h5⟩
  exact hQ  w1 bn v1 v3 s' x' y' p' h1 h2 h3 h4 h5
def opJp0 : Oper:={ dst:=some 62,op:=Op.load 29 (Operand.tmp 9),type:=29,pos:= "credit.go:28",after:=#[],guard:=none }
def opJp1 : Oper:={ dst:=some 63,op:=Op.load 29 (Operand.tmp 10),type:=29,pos:= "credit.go:28",after:=#[],guard:=none }
def opJp2 : Oper:={ dst:=some 64,op:=Op.load 29 (Operand.tmp 12),type:=29,pos:= "credit.go:28",after:=#[],guard:=none }
def opJp3 : Oper:={ dst:=some 65,op:=Op.load 29 (Operand.tmp 13),type:=29,pos:= "credit.go:28",after:=#[],guard:=none }
def opJp4 : Oper:={ dst:=some 66,op:=Op.move (Operand.tmp 5),type:=33,pos:= "credit.go:28",after:=#[],guard:=none }
def opJp5 : Oper:={ dst:=some 67,op:=Op.load 29 (Operand.tmp 9),type:=29,pos:= "credit.go:28",after:=#[],guard:=none }
def opJp6 : Oper:={ dst:=some 68,op:=Op.load 29 (Operand.tmp 13),type:=29,pos:= "credit.go:28",after:=#[],guard:=none }
def opJp7 : Oper:={ dst:=some 69,op:=Op.call { callee:=Callee.value (Operand.func 115),args:=#[Operand.tmp 66,Operand.tmp 67,Operand.tmp 68],argTypes:=#[33,29,29] },type:=33,pos:= "credit.go:28",after:=#[{ on:=4,ground:=Ground.data },{ on:=5,ground:=Ground.data },{ on:=6,ground:=Ground.data }],guard:=none }
def opJp8 : Oper:={ dst:=some 70,op:=Op.build 86 #[(0,Operand.tmp 62),(1,Operand.tmp 63),(2,Operand.tmp 64),(3,Operand.tmp 65),(4,Operand.tmp 69)],type:=86,pos:= "credit.go:28",after:=#[{ on:=0,ground:=Ground.data },{ on:=1,ground:=Ground.data },{ on:=2,ground:=Ground.data },{ on:=3,ground:=Ground.data },{ on:=7,ground:=Ground.data }],guard:=none }
def opJp9 : Oper:={ dst:=none,op:=Op.store 86 (Operand.tmp 2) (Operand.tmp 70),type:=0,pos:= "credit.go:28",after:=#[{ on:=8,ground:=Ground.data },{ on:=7,ground:=Ground.chain },{ on:=0,ground:=Ground.phase },{ on:=1,ground:=Ground.phase },{ on:=2,ground:=Ground.phase },{ on:=3,ground:=Ground.phase },{ on:=4,ground:=Ground.phase },{ on:=5,ground:=Ground.phase },{ on:=6,ground:=Ground.phase },{ on:=7,ground:=Ground.phase },{ on:=8,ground:=Ground.phase }],guard:=none }
def opJp10 : Oper:={ dst:=some 3,op:=Op.assign (Operand.const Value.nilIface),type:=35,pos:= "credit.go:28",after:=#[{ on:=9,ground:=Ground.chain },{ on:=0,ground:=Ground.phase },{ on:=1,ground:=Ground.phase },{ on:=2,ground:=Ground.phase },{ on:=3,ground:=Ground.phase },{ on:=4,ground:=Ground.phase },{ on:=5,ground:=Ground.phase },{ on:=6,ground:=Ground.phase },{ on:=7,ground:=Ground.phase },{ on:=8,ground:=Ground.phase },{ on:=9,ground:=Ground.phase }],guard:=none }
def opJps : Array Oper:=#[opJp0,opJp1,opJp2,opJp3,opJp4,opJp5,opJp6,opJp7,opJp8,opJp9,opJp10]
def opJpT (i : Nat) : Nat:=match i with
 | 0 => 62
 | 1 => 63
 | 2 => 64
 | 3 => 65
 | 4 => 66
 | 5 => 67
 | 6 => 68
 | 7 => 69
 | _ => 70
/-- what each operation's value is -/
def opJpC (B : Nat) (vs : Value) (N : Nat) (F : Nat→Rat) (s1 : Bool) (x1 : Int) (y1 : Int) (p1 : Option Addr) (_s2 : Bool) (_x2 : Int) (_y2 : Int) (_p2 : Option Addr) (_s3 : Bool) (_x3 : Int) (_y3 : Int) (_p3 : Option Addr) (s4 : Bool) (x4 : Int) (y4 : Int) (p4 : Option Addr) (f1 : Rat) (f2 : Rat) (f3 : Rat) (f4 : Rat) (i : Nat) (w : World) (v : Value) : Prop:=match i with
 | 0 => FracAt w v f1
 | 1 => FracAt w v f2
 | 2 => FracAt w v f3
 | 3 => FracAt w v f4
 | 4 => v = vs
 | 5 => v = .agg #[.bool s1,.int .u64 x1,.int .u64 y1,.pointer p1]
 | 6 => v = .agg #[.bool s4,.int .u64 x4,.int .u64 y4,.pointer p4]
 | 7 => RowB B N F w v
 | _ => FoundAt (f1) (f2) (f3) (f4) B N (F) w v
theorem opJpC_but {B : Nat} {vs : Value} {N : Nat} {F : Nat→Rat} {s1 : Bool} {x1 : Int} {y1 : Int} {p1 : Option Addr} {s2 : Bool} {x2 : Int} {y2 : Int} {p2 : Option Addr} {s3 : Bool} {x3 : Int} {y3 : Int} {p3 : Option Addr} {s4 : Bool} {x4 : Int} {y4 : Int} {p4 : Option Addr} {f1 : Rat} {f2 : Rat} {f3 : Rat} {f4 : Rat} {i : Nat} {w w' : World} {v : Value} (h : opJpC B vs N F s1 x1 y1 p1 s2 x2 y2 p2 s3 x3 y3 p3 s4 x4 y4 p4 f1 f2 f3 f4 i w v) (hi : i < 9) (hb : But [] w w') : opJpC B vs N F s1 x1 y1 p1 s2 x2 y2 p2 s3 x3 y3 p3 s4 x4 y4 p4 f1 f2 f3 f4 i w' v:=by
 have : i = 0 ∨ i = 1 ∨ i = 2 ∨ i = 3 ∨ i = 4 ∨ i = 5 ∨ i = 6 ∨ i = 7 ∨ i = 8:=by omega
 rcases this with rfl | rfl | rfl | rfl | rfl | rfl | rfl | rfl | rfl
 ·exact FracAt.but (show FracAt w v f1 from h) hb
 ·exact FracAt.but (show FracAt w v f2 from h) hb
 ·exact FracAt.but (show FracAt w v f3 from h) hb
 ·exact FracAt.but (show FracAt w v f4 from h) hb
 ·exact (show v = vs from h)
 ·exact (show v = .agg #[.bool s1,.int .u64 x1,.int .u64 y1,.pointer p1] from h)
 ·exact (show v = .agg #[.bool s4,.int .u64 x4,.int .u64 y4,.pointer p4] from h)
 ·exact RowB.but (show RowB B N F w v from h) hb
 ·exact FoundAt.but (show FoundAt (f1) (f2) (f3) (f4) B N (F) w v from h) hb
theorem opJpT_inj : ∀ i j,i < 9→j < 9→opJpT i = opJpT j→i = j:=fun i j hi hj => (by decide : ∀ i,i < 9→∀ j,j < 9→opJpT i = opJpT j→i = j) i hi j hj
set_option maxHeartbeats 8000000 in
set_option maxRecDepth 100000 in
theorem est_region14 (id : Nat) (Q : Exit→Act→World→Prop) (base : Act) (W0 : World) (B : Nat) (vs : Value) (N : Nat) (F : Nat→Rat) (s1 : Bool) (x1 : Int) (y1 : Int) (p1 : Option Addr) (s2 : Bool) (x2 : Int) (y2 : Int) (p2 : Option Addr) (s3 : Bool) (x3 : Int) (y3 : Int) (p3 : Option Addr) (s4 : Bool) (x4 : Int) (y4 : Int) (p4 : Option Addr) (f1 : Rat) (f2 : Rat) (f3 : Rat) (f4 : Rat) (gb g9 g10 g12 g13 : Nat) {vb : List Value} (hs : 70 < base.tmps.size) (eb : base.eval (.tmp 2) = .pointer (some ⟨gb,0,none⟩)) (cb : SBox W0 gb vb) (hvb : vb.length = 17) (e9 : base.eval (.tmp 9) = .pointer (some ⟨g9,0,none⟩)) (e10 : base.eval (.tmp 10) = .pointer (some ⟨g10,0,none⟩)) (e12 : base.eval (.tmp 12) = .pointer (some ⟨g12,0,none⟩)) (e13 : base.eval (.tmp 13) = .pointer (some ⟨g13,0,none⟩)) (e5 : base.eval (.tmp 5) = vs)
  (c1 : P4 W0 g9 s1 x1 y1 p1) (c2 : P4 W0 g10 s2 x2 y2 p2) (c3 : P4 W0 g12 s3 x3 y3 p3) (c4 : P4 W0 g13 s4 x4 y4 p4) (F1 : FracAt W0 (.agg #[.bool s1,.int .u64 x1,.int .u64 y1,.pointer p1]) f1) (F2 : FracAt W0 (.agg #[.bool s2,.int .u64 x2,.int .u64 y2,.pointer p2]) f2) (F3 : FracAt W0 (.agg #[.bool s3,.int .u64 x3,.int .u64 y3,.pointer p3]) f3) (F4 : FracAt W0 (.agg #[.bool s4,.int .u64 x4,.int .u64 y4,.pointer p4]) f4)
  (PR : ∀ w,But [] W0 w→Calls Tryz.prog 115 #[vs,.agg #[.bool s1,.int .u64 x1,.int .u64 y1,.pointer p1],.agg #[.bool s4,.int .u64 x4,.int .u64 y4,.pointer p4]] w fun e w' => ∃ v,e = .returned v∧RowB B N F w' v∧But [] w w')
  (hQ : ∀ w1 v0 v1 v2 v3 v7 a1 b1 c1 d1 a2 b2 c2 d2 a3 b3 c3 d3 a4 b4 c4 d4 gr,But [] W0 w1→FracAt w1 (.agg #[.bool a1,.int .u64 b1,.int .u64 c1,.pointer d1]) (f1)→FracAt w1 (.agg #[.bool a2,.int .u64 b2,.int .u64 c2,.pointer d2]) (f2)→FracAt w1 (.agg #[.bool a3,.int .u64 b3,.int .u64 c3,.pointer d3]) (f3)→FracAt w1 (.agg #[.bool a4,.int .u64 b4,.int .u64 c4,.pointer d4]) (f4)→RowOf w1 gr N (F)→B ≤ gr→gr < w1.heap.size→Q .normal (putted base [(62,v0),(63,v1),(64,v2),(65,v3),(66,vs),(67,.agg #[.bool s1,.int .u64 x1,.int .u64 y1,.pointer p1]),(68,.agg #[.bool s4,.int .u64 x4,.int .u64 y4,.pointer p4]),(69,v7),(70,.agg #[.bool a1,.int .u64 b1,.int .u64 c1,.pointer d1,.bool a2,.int .u64 b2,.int .u64 c2,.pointer d2,.bool a3,.int .u64 b3,.int .u64 c3,.pointer d3,.bool a4,.int .u64 b4,.int .u64 c4,.pointer d4,.slice (some ⟨gr,0,none⟩) N N]),(3,.nilIface)]) (w1.setCells gb 0 [.bool a1,.int .u64 b1,.int .u64 c1,.pointer d1,.bool a2,.int .u64 b2,.int .u64 c2,.pointer d2,.bool a3,.int .u64 b3,.int .u64 c3,.pointer d3,.bool a4,.int .u64 b4,.int .u64 c4,.pointer d4,.slice (some ⟨gr,0,none⟩) N N])) :
  (Code.region id opJps true).wp Tryz.prog Q base W0:=by
 have hdr : ∀ {w},But [] W0.drew w→But [] W0 w:=fun h => (But.refl _ _).drew.trans' h
 have hT : ∀ i,i < 9→opJpT i < base.tmps.size:=fun i hi => by
  have h : opJpT i ≤ 70:=by revert i; decide
  omega
 refine region_flow2 (by kernel_rfl) (low_of (by kernel_rfl)) (fun i o ho => (calm_of (ops:=opJps) (by kernel_rfl) i o ho).1)
  (fun _ w => But [] W0.drew w) (opJpC B vs N F s1 x1 y1 p1 s2 x2 y2 p2 s3 x3 y3 p3 s4 x4 y4 p4 f1 f2 f3 f4) opJpT 9 rfl opJpT_inj hT (But.refl _ _)
  (fun i hi => ?_) (dep_of (ops:=opJps) (ps:=[(10,9)]) (by kernel_rfl) 10 9 (by simp)) ?_ (fun a w => ∃ w1 v0 v1 v2 v3 v7 a1 b1 c1 d1 a2 b2 c2 d2 a3 b3 c3 d3 a4 b4 c4 d4 gr,a = putted base [(62,v0),(63,v1),(64,v2),(65,v3),(66,vs),(67,.agg #[.bool s1,.int .u64 x1,.int .u64 y1,.pointer p1]),(68,.agg #[.bool s4,.int .u64 x4,.int .u64 y4,.pointer p4]),(69,v7),(70,.agg #[.bool a1,.int .u64 b1,.int .u64 c1,.pointer d1,.bool a2,.int .u64 b2,.int .u64 c2,.pointer d2,.bool a3,.int .u64 b3,.int .u64 c3,.pointer d3,.bool a4,.int .u64 b4,.int .u64 c4,.pointer d4,.slice (some ⟨gr,0,none⟩) N N])]∧w = w1.setCells gb 0 [.bool a1,.int .u64 b1,.int .u64 c1,.pointer d1,.bool a2,.int .u64 b2,.int .u64 c2,.pointer d2,.bool a3,.int .u64 b3,.int .u64 c3,.pointer d3,.bool a4,.int .u64 b4,.int .u64 c4,.pointer d4,.slice (some ⟨gr,0,none⟩) N N]∧But [] W0 w1∧FracAt w1 (.agg #[.bool a1,.int .u64 b1,.int .u64 c1,.pointer d1]) (f1)∧FracAt w1 (.agg #[.bool a2,.int .u64 b2,.int .u64 c2,.pointer d2]) (f2)∧FracAt w1 (.agg #[.bool a3,.int .u64 b3,.int .u64 c3,.pointer d3]) (f3)∧FracAt w1 (.agg #[.bool a4,.int .u64 b4,.int .u64 c4,.pointer d4]) (f4)∧RowOf w1 gr N (F)∧B ≤ gr∧gr < w1.heap.size) (fun a w => ∃ w1 v0 v1 v2 v3 v7 a1 b1 c1 d1 a2 b2 c2 d2 a3 b3 c3 d3 a4 b4 c4 d4 gr,a = putted base [(62,v0),(63,v1),(64,v2),(65,v3),(66,vs),(67,.agg #[.bool s1,.int .u64 x1,.int .u64 y1,.pointer p1]),(68,.agg #[.bool s4,.int .u64 x4,.int .u64 y4,.pointer p4]),(69,v7),(70,.agg #[.bool a1,.int .u64 b1,.int .u64 c1,.pointer d1,.bool a2,.int .u64 b2,.int .u64 c2,.pointer d2,.bool a3,.int .u64 b3,.int .u64 c3,.pointer d3,.bool a4,.int .u64 b4,.int .u64 c4,.pointer d4,.slice (some ⟨gr,0,none⟩) N N]),(3,.nilIface)]∧w = w1.setCells gb 0 [.bool a1,.int .u64 b1,.int .u64 c1,.pointer d1,.bool a2,.int .u64 b2,.int .u64 c2,.pointer d2,.bool a3,.int .u64 b3,.int .u64 c3,.pointer d3,.bool a4,.int .u64 b4,.int .u64 c4,.pointer d4,.slice (some ⟨gr,0,none⟩) N N]∧But [] W0 w1∧FracAt w1 (.agg #[.bool a1,.int .u64 b1,.int .u64 c1,.pointer d1]) (f1)∧FracAt w1 (.agg #[.bool a2,.int .u64 b2,.int .u64 c2,.pointer d2]) (f2)∧FracAt w1 (.agg #[.bool a3,.int .u64 b3,.int .u64 c3,.pointer d3]) (f3)∧FracAt w1 (.agg #[.bool a4,.int .u64 b4,.int .u64 c4,.pointer d4]) (f4)∧RowOf w1 gr N (F)∧B ≤ gr∧gr < w1.heap.size) ?_ ?_ ?_
 ·exact dep_of (ops:=opJps) (ps:=[(9,0),(9,1),(9,2),(9,3),(9,4),(9,5),(9,6),(9,7),(9,8)]) (by kernel_rfl) 9 i (by
   have : i = 0 ∨ i = 1 ∨ i = 2 ∨ i = 3 ∨ i = 4 ∨ i = 5 ∨ i = 6 ∨ i = 7 ∨ i = 8:=by omega
   rcases this with rfl | rfl | rfl | rfl | rfl | rfl | rfl | rfl | rfl <;> simp)
 ·intro dn i o a w K hi ho hdi hH he hdep hK
  have hD:=fun j hj => (dep_have (ps:=[(7,4),(7,5),(7,6),(8,0),(8,1),(8,2),(8,3),(8,7)]) (by kernel_rfl) ho (fun j => dn j = true∧opJpC B vs N F s1 x1 y1 p1 s2 x2 y2 p2 s3 x3 y3 p3 s4 x4 y4 p4 f1 f2 f3 f4 j w (a.eval (.tmp (opJpT j)))) hdep j hj).2
  have hk : ∀ v w',But [] w w'→opJpC B vs N F s1 x1 y1 p1 s2 x2 y2 p2 s3 x3 y3 p3 s4 x4 y4 p4 f1 f2 f3 f4 i w' v→K (a.put (some (opJpT i)) v) w':=fun v w' hb hv => hK v w' (hH.trans' hb) (fun j hj _ u hu => opJpC_but hu hj hb) hv
  have e9':=(he 9 (fun j hj e => absurd e.symm (by revert j; decide))).trans e9
  have e10':=(he 10 (fun j hj e => absurd e.symm (by revert j; decide))).trans e10
  have e12':=(he 12 (fun j hj e => absurd e.symm (by revert j; decide))).trans e12
  have e13':=(he 13 (fun j hj e => absurd e.symm (by revert j; decide))).trans e13
  have e5':=(he 5 (fun j hj e => absurd e.symm (by revert j; decide))).trans e5
  have : i = 0 ∨ i = 1 ∨ i = 2 ∨ i = 3 ∨ i = 4 ∨ i = 5 ∨ i = 6 ∨ i = 7 ∨ i = 8:=by omega
  rcases this with rfl | rfl | rfl | rfl | rfl | rfl | rfl | rfl | rfl
  ·obtain rfl:=Option.some.inj ((show opJps[0]? = some opJp0 from rfl).symm.trans ho)
   exact wp_value (run_loadK a w _ _ _ _ _ _ g9 0 _ _ _ _ e9' (c1.but (hdr hH) (by simp))) (hk _ _ (But.refl _ _) (F1.but (hdr hH)))
  ·obtain rfl:=Option.some.inj ((show opJps[1]? = some opJp1 from rfl).symm.trans ho)
   exact wp_value (run_loadK a w _ _ _ _ _ _ g10 0 _ _ _ _ e10' (c2.but (hdr hH) (by simp))) (hk _ _ (But.refl _ _) (F2.but (hdr hH)))
  ·obtain rfl:=Option.some.inj ((show opJps[2]? = some opJp2 from rfl).symm.trans ho)
   exact wp_value (run_loadK a w _ _ _ _ _ _ g12 0 _ _ _ _ e12' (c3.but (hdr hH) (by simp))) (hk _ _ (But.refl _ _) (F3.but (hdr hH)))
  ·obtain rfl:=Option.some.inj ((show opJps[3]? = some opJp3 from rfl).symm.trans ho)
   exact wp_value (run_loadK a w _ _ _ _ _ _ g13 0 _ _ _ _ e13' (c4.but (hdr hH) (by simp))) (hk _ _ (But.refl _ _) (F4.but (hdr hH)))
  ·obtain rfl:=Option.some.inj ((show opJps[4]? = some opJp4 from rfl).symm.trans ho)
   exact wp_value (run_mvK a w _ _ _ _ _ _ _ e5') (hk _ _ (But.refl _ _) rfl)
  ·obtain rfl:=Option.some.inj ((show opJps[5]? = some opJp5 from rfl).symm.trans ho)
   exact wp_value (run_loadK a w _ _ _ _ _ _ g9 0 _ _ _ _ e9' (c1.but (hdr hH) (by simp))) (hk _ _ (But.refl _ _) rfl)
  ·obtain rfl:=Option.some.inj ((show opJps[6]? = some opJp6 from rfl).symm.trans ho)
   exact wp_value (run_loadK a w _ _ _ _ _ _ g13 0 _ _ _ _ e13' (c4.but (hdr hH) (by simp))) (hk _ _ (But.refl _ _) rfl)
  ·obtain rfl:=Option.some.inj ((show opJps[7]? = some opJp7 from rfl).symm.trans ho)
   exact wp_enter (run_premJ a w _ _ _ _ _ _ _ _ _ _ _ (hD 4 (by simp)) (hD 5 (by simp)) (hD 6 (by simp))) (R:=fun w' v => RowB B N F w' v∧But [] w w') (PR w (hdr hH)) (fun v w' hv => hk v w' hv.2 hv.1)
  ·obtain rfl:=Option.some.inj ((show opJps[8]? = some opJp8 from rfl).symm.trans ho)
   have q1 : FracAt w (a.eval (.tmp 62)) (f1):=hD 0 (by simp)
   obtain ⟨b1,c1,d1,e1,-⟩:=q1.agg
   rw [e1] at q1
   have q2 : FracAt w (a.eval (.tmp 63)) (f2):=hD 1 (by simp)
   obtain ⟨b2,c2,d2,e2,-⟩:=q2.agg
   rw [e2] at q2
   have q3 : FracAt w (a.eval (.tmp 64)) (f3):=hD 2 (by simp)
   obtain ⟨b3,c3,d3,e3,-⟩:=q3.agg
   rw [e3] at q3
   have q4 : FracAt w (a.eval (.tmp 65)) (f4):=hD 3 (by simp)
   obtain ⟨b4,c4,d4,e4,-⟩:=q4.agg
   rw [e4] at q4
   obtain ⟨gr,er,hr,hg1,hg2⟩ : RowB B N (F) w (a.eval (.tmp 69)):=hD 7 (by simp)
   exact wp_value (run_bdFoundAt a w _ _ _ _ _ _ _ _ _ _ _ b1 c1 d1 _ b2 c2 d2 _ b3 c3 d3 _ b4 c4 d4 gr N e1 e2 e3 e4 er) (hk _ _ (But.refl _ _) ⟨_,b1,c1,d1,_,b2,c2,d2,_,b3,c3,d3,_,b4,c4,d4,gr,rfl,q1,q2,q3,q4,hr,hg1,hg2⟩)
 ·intro dn o a w K ho hall h hK
  obtain rfl:=Option.some.inj ((show opJps[9]? = some opJp9 from rfl).symm.trans ho)
  have eb':=(h.eval 2 (fun j hj e => absurd e.symm (by revert j; decide))).trans eb
  obtain ⟨a1,b1,c1,d1,a2,b2,c2,d2,a3,b3,c3,d3,a4,b4,c4,d4,gr,ev,h1,h2,h3,h4,hr,hg1,hg2⟩ : FoundAt (f1) (f2) (f3) (f4) B N (F) w (a.eval (.tmp 70)):=h.has 8 (by omega) (hall 8 (by omega))
  have ea:=h.puts hT (fun i => match i with
   | 0 => a.eval (.tmp 62)
   | 1 => a.eval (.tmp 63)
   | 2 => a.eval (.tmp 64)
   | 3 => a.eval (.tmp 65)
   | 4 => vs
   | 5 => .agg #[.bool s1,.int .u64 x1,.int .u64 y1,.pointer p1]
   | 6 => .agg #[.bool s4,.int .u64 x4,.int .u64 y4,.pointer p4]
   | 7 => a.eval (.tmp 69)
   | _ => .agg #[.bool a1,.int .u64 b1,.int .u64 c1,.pointer d1,.bool a2,.int .u64 b2,.int .u64 c2,.pointer d2,.bool a3,.int .u64 b3,.int .u64 c3,.pointer d3,.bool a4,.int .u64 b4,.int .u64 c4,.pointer d4,.slice (some ⟨gr,0,none⟩) N N]) (fun i hi => by
   have hc:=h.has i hi (hall i hi)
   have : i = 0 ∨ i = 1 ∨ i = 2 ∨ i = 3 ∨ i = 4 ∨ i = 5 ∨ i = 6 ∨ i = 7 ∨ i = 8:=by omega
   rcases this with rfl | rfl | rfl | rfl | rfl | rfl | rfl | rfl | rfl
   ·rfl
   ·rfl
   ·rfl
   ·rfl
   ·exact hc
   ·exact hc
   ·exact hc
   ·rfl
   ·exact ev)
  exact wp_skipped (run_stFoundAt a w _ _ _ _ _ gb a1 b1 c1 d1 a2 b2 c2 d2 a3 b3 c3 d3 a4 b4 c4 d4 gr N eb' ev (cb.but (hdr h.mem) (by simp) (by omega)) hvb) (hK _ _ ⟨w,a.eval (.tmp 62),a.eval (.tmp 63),a.eval (.tmp 64),a.eval (.tmp 65),a.eval (.tmp 69),a1,b1,c1,d1,a2,b2,c2,d2,a3,b3,c3,d3,a4,b4,c4,d4,gr,ea,rfl,hdr h.mem,h1,h2,h3,h4,hr,hg1,hg2⟩)
 ·rintro o a w K ho ⟨w1,v0,v1,v2,v3,v7,a1,b1,c1,d1,a2,b2,c2,d2,a3,b3,c3,d3,a4,b4,c4,d4,gr,ha,hw,hb1,h1,h2,h3,h4,hr,hg1,hg2⟩ hK
  obtain rfl:=Option.some.inj ((show opJps[10]? = some opJp10 from rfl).symm.trans ho)
  exact wp_value (run_nilJ _ _ _ _ _ _ _) (hK _ _ ⟨w1,v0,v1,v2,v3,v7,a1,b1,c1,d1,a2,b2,c2,d2,a3,b3,c3,d3,a4,b4,c4,d4,gr,by rw [ha]; exact putted_snoc _ _ _ _,hw,hb1,h1,h2,h3,h4,hr,hg1,hg2⟩)
 ·rintro a w ⟨w1,v0,v1,v2,v3,v7,a1,b1,c1,d1,a2,b2,c2,d2,a3,b3,c3,d3,a4,b4,c4,d4,gr,rfl,rfl,hb1,h1,h2,h3,h4,hr,hg1,hg2⟩
  exact hQ w1 v0 v1 v2 v3 v7 a1 b1 c1 d1 a2 b2 c2 d2 a3 b3 c3 d3 a4 b4 c4 d4 gr hb1 h1 h2 h3 h4 hr hg1 hg2
end Go.Proofs.YtloojmaamaambaaGreatDoor

namespace Go.Proofs.YtloojmaamaambaaGreatDoor
open Go.RowKit

/-- which error rows make, or none -/
def rowE (ls : List (List Rat)) : Int:=if ¬ (2 ≤ ls.length∧ls.length ≤ 40) ∨ ¬ (2 ≤ (ls[0]?.getD []).length∧(ls[0]?.getD []).length ≤ 40) then 4 else if ls.any (fun l => l.length != (ls[0]?.getD []).length) then 3 else 0
set_option maxHeartbeats 8000000 in
set_option maxRecDepth 100000 in
theorem several_any (n : Nat) (hn : n < 1000000) (w : World) : Calls Tryz.prog 164 #[.int .i64 (n : Int)] w fun e w' => e = .returned (.bool (decide (2 ≤ n∧n ≤ 40)))∧But [] w w':=by
 obtain ⟨b,hb⟩ : ∃ b,b = decide (2 ≤ n∧n ≤ 40):=⟨_,rfl⟩
 rw [← hb]
 by_cases h1 : 2 ≤ n
 ·by_cases h2 : n ≤ 40
  ·obtain rfl : b = true:=by rw [hb]; exact decide_eq_true ⟨h1,h2⟩
   clear hb
   go_enter Tryz.func164,Tryz.ntmps164
   go_wp2
   go_ret
   exact ⟨by show Ending.returned (.bool (decide ((n : Int) ≤ 40))) = _; rw [decide_eq_true (by omega)],But.refl _ _⟩
  ·obtain rfl : b = false:=by rw [hb]; exact decide_eq_false (fun h => h2 h.2)
   clear hb
   go_enter Tryz.func164,Tryz.ntmps164
   go_wp2
   go_ret
   exact ⟨by show Ending.returned (.bool (decide ((n : Int) ≤ 40))) = _; rw [decide_eq_false (by omega)],But.refl _ _⟩
 ·obtain rfl : b = false:=by rw [hb]; exact decide_eq_false (fun h => h1 h.1)
  clear hb
  go_enter Tryz.func164,Tryz.ntmps164
  go_wp2
  go_ret
  exact ⟨rfl,But.refl _ _⟩
theorem ListsAt.at {w : World} {q : Option Addr} {n cap : Nat} {ls : List (List Rat)} (h : ListsAt w (.slice q n cap) ls) (i : Nat) (hi : i < n) : ∃ b off a c,q = some ⟨b,off,none⟩∧w.cell? ⟨b,off + i,none⟩ = some (.slice a (ls[i]?.getD []).length c)∧FracsAt w (.slice a (ls[i]?.getD []).length c) (ls[i]?.getD []):=by
 have hi2 : i < ls.length:=by
  obtain ⟨a,cap',e,-,-⟩:=h
  simp only [Value.slice.injEq] at e
  omega
 obtain ⟨b,off,u,e1,h1,h2⟩:=h.get i hi2
 obtain ⟨a,c,rfl,-,-⟩:=id h2
 exact ⟨b,off,a,c,e1,h1,h2⟩
set_option maxHeartbeats 16000000 in
set_option maxRecDepth 100000 in
theorem checkRows_any (q : Option Addr) (n cap : Nat) (ls : List (List Rat)) (w : World) (hv : ListsAt w (.slice q n cap) ls) (hN : n = ls.length) (hn : n ≤ 1000) (hl : ∀ i,i < n→(ls[i]?.getD []).length ≤ 1000) :
  Calls Tryz.prog 110 #[.slice q n cap] w fun e w' => e = .returned (errV (rowE ls))∧But [] w w':=by
 obtain ⟨ce,hce⟩ : ∃ ce,ce = rowE ls:=⟨_,rfl⟩
 rw [← hce]
 obtain ⟨m,hm⟩ : ∃ m,m = (ls[0]?.getD []).length:=⟨_,rfl⟩
 have HCE : Hid (ce = if ¬ (2 ≤ n∧n ≤ 40) ∨ ¬ (2 ≤ m∧m ≤ 40) then 4 else if ls.any (fun l => l.length != m) then 3 else 0):=by
  show _ = _
  rw [hce,hm,hN]; rfl
 have S1:=hide (several_any n (by omega))
 have HV:=hide hv
 have HN:=hide hN
 have HL:=hide hl
 have HM:=hide hm
 clear hv hN hl hm hce
 by_cases h1 : 2 ≤ n∧n ≤ 40
 ·obtain ⟨h1a,h1b⟩:=h1
  rw [decide_eq_true (show 2 ≤ n∧n ≤ 40 from ⟨h1a,h1b⟩)] at S1
  obtain ⟨b,off,a0,c0,rfl,hc0,-⟩:=(unhide HV).at 0 (by omega)
  rw [← unhide HM,Nat.add_zero] at hc0
  have hm1 : m ≤ 1000:=by rw [unhide HM]; exact unhide HL 0 (by omega)
  have S2:=hide (several_any m (by omega))
  by_cases h2 : 2 ≤ m∧m ≤ 40
  ·obtain ⟨h2a,h2b⟩:=h2
   rw [decide_eq_true (show 2 ≤ m∧m ≤ 40 from ⟨h2a,h2b⟩)] at S2
   have HC2 : Hid (ce = if ls.any (fun l => l.length != m) then 3 else 0):=by
    show _ = _
    rw [unhide HCE,if_neg (by omega)]
   have HC0:=hide hc0
   clear HCE
   go_enter Tryz.func110,Tryz.ntmps110
   go_wp2_with fail
   refine (unhide S1 _).mono ?_
   rintro e w1 ⟨rfl,hb1⟩
   have B1:=hide hb1
   have hc1:=hb1.cell_some hc0 (by simp)
   clear hb1 S1 hc0
   go_wp2_with fail
   refine (unhide S2 _).mono ?_
   rintro e w2 ⟨rfl,hb2⟩
   have B2:=hide ((unhide B1).trans' hb2)
   clear hb2 S2 hc1 B1
   go_wp2
   go_loopw [20] (fun iv wr => ∃ k : Nat,k ≤ n∧iv = .int .i64 (k : Int)∧Hid ((∀ j,j < k→(ls[j]?.getD []).length = m)∧But [] w wr)) (fun iv _ => n - (intOf iv).toNat)
   case atStart => exact ⟨0,Nat.zero_le _,rfl,fun j hj => absurd hj (by omega),unhide B2⟩
   case round =>
    obtain ⟨k,hk,rfl,HI⟩:=hrel
    rename World => wr
    clear B2
    by_cases hlt : k < n
    ·have hkl : k < ls.length:=by have:=unhide HN; omega
     have hlk:=unhide HL k hlt
     have hc0:=(unhide HI).2.cell_some (unhide HC0) (by simp)
     obtain ⟨b',off',ak,ck,e',hck,-⟩:=((unhide HV).but (unhide HI).2).at k hlt
     simp only [Option.some.injEq,Addr.mk.injEq,and_true] at e'
     obtain ⟨rfl,rfl⟩:=e'
     obtain ⟨lk,hlk2⟩ : ∃ lk,lk = (ls[k]?.getD []).length:=⟨_,rfl⟩
     rw [← hlk2] at hck hlk
     have HLK:=hide hlk2
     clear hlk2
     by_cases heq : lk = m
     ·have HEQ:=hide heq
      subst heq
      go_wp2
      refine ⟨⟨k + 1,by omega,by go_num,fun j hj => ?_,(unhide HI).2⟩,by simp [intOf]; omega⟩
      by_cases e : j = k
      ·rw [e,← unhide HLK]
      ·exact (unhide HI).1 j (by omega)
     ·have e3 : ce = 3:=by
       rw [unhide HC2,if_pos (List.any_eq_true.2 ⟨ls[k],List.getElem_mem hkl,by
        have:=unhide HLK
        rw [List.getElem?_eq_getElem hkl,Option.getD_some] at this
        rw [← this]
        simpa using heq⟩)]
      subst e3
      have hne : ¬ (lk : Int) = (m : Int):=by omega
      clear heq
      go_wp2
      go_ret
      exact ⟨rfl,(unhide HI).2⟩
    ·obtain rfl : k = n:=by omega
     have e0 : ce = 0:=by
      rw [unhide HC2,if_neg (fun h => ?_)]
      obtain ⟨l,hl,hne⟩:=List.any_eq_true.1 h
      obtain ⟨j,hj,rfl⟩:=List.mem_iff_getElem.1 hl
      have:=(unhide HI).1 j (by have:=unhide HN; omega)
      rw [List.getElem?_eq_getElem hj,Option.getD_some] at this
      simp [this] at hne
     subst e0
     go_wp2
     go_ret
     exact ⟨rfl,(unhide HI).2⟩
  ·rw [decide_eq_false h2] at S2
   have e4 : ce = 4:=by rw [unhide HCE,if_pos (.inr h2)]
   subst e4
   clear h2 HCE
   go_enter Tryz.func110,Tryz.ntmps110
   go_wp2_with fail
   refine (unhide S1 _).mono ?_
   rintro e w1 ⟨rfl,hb1⟩
   have B1:=hide hb1
   have hc1:=hb1.cell_some hc0 (by simp)
   clear hb1 S1 hc0
   go_wp2_with fail
   refine (unhide S2 _).mono ?_
   rintro e w2 ⟨rfl,hb2⟩
   have B2:=hide ((unhide B1).trans' hb2)
   clear hb2 S2 hc1 B1
   go_wp2
   go_ret
   exact ⟨rfl,unhide B2⟩
 ·rw [decide_eq_false h1] at S1
  have e4 : ce = 4:=by rw [unhide HCE,if_pos (.inl h1)]
  subst e4
  clear h1 HCE
  go_enter Tryz.func110,Tryz.ntmps110
  go_wp2_with fail
  refine (unhide S1 _).mono ?_
  rintro e w1 ⟨rfl,hb1⟩
  have B1:=hide hb1
  clear hb1 S1
  go_wp2
  go_ret
  exact ⟨rfl,unhide B1⟩
end Go.Proofs.YtloojmaamaambaaGreatDoor
