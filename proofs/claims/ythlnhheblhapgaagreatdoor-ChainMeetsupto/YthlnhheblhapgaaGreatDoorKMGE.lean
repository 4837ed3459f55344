/- A year of a chain, and a chain: the stat -/
import Derived.Test.YthlnhheblhapgaaGreatDoorKMGC
import Derived.Test.YthlnhheblhapgaaGreatDoorKMGR
namespace Go.Proofs.YthlnhheblhapgaaGreatDoor
open Go.RowKit
set_option maxHeartbeats 8000000
set_option maxRecDepth 100000
set_option linter.unusedVariables false
theorem run_Ge0 (a:Act) (w:World) (d t:Nat) (u:TypeId) (ps:String) (ed:Array Edge) (gd:Option (Nat × Bool)) (q:Option Addr) (n c:Nat) (h1:a.eval (.tmp t)=.slice q n c) :
  (execOp a.eval { dst:=some d,op:=Op.call { callee:=Callee.builtin Builtin.len,args:=#[Operand.tmp t],argTypes:=#[53] },type:=u,pos:=ps,after:=ed,guard:=gd }).run Tryz.prog w=.ok (.value (.int .i64 (n:Int))) w:=by
 unfold execOp
 simp only [resolve,invoke,builtin,Sem.run_bind,Sem.run_pure,Result.andThen_ok,List.map_toArray,List.map_cons,List.map_nil,h1]
 go_simp
theorem run_Ge1 (a:Act) (w:World) (d t:Nat) (u:TypeId) (ps:String) (ed:Array Edge) (gd:Option (Nat × Bool)) (n:Nat) (hn:n<1000000) (h:a.eval (.tmp t)=.int .i64 (n:Int)) :
  (execOp a.eval { dst:=some d,op:=Op.makeSlice 53 (.tmp t) (.tmp t),type:=u,pos:=ps,after:=ed,guard:=gd }).run Tryz.prog w=.ok (.value (.slice (some ⟨w.heap.size,0,none⟩) n n)) (w.alloc (.cells (madeCells #[.slice none 0 0] n) 32)):=by
 have hmk:=run_makeM w n hn
 unfold execOp
 simp only [h]
 go_simp
theorem run_Ge2 (a:Act) (w:World) (d t0:Nat) (u:TypeId) (ps:String) (ed:Array Edge) (gd:Option (Nat × Bool)) (z0:Value) (h0:a.eval (.tmp t0)=z0) :
  (execOp a.eval { dst:=some d,op:=Op.call { callee:=Callee.value (Operand.func 45),args:=#[Operand.tmp t0],argTypes:=#[52] },type:=u,pos:=ps,after:=ed,guard:=gd }).run Tryz.prog w=.ok (.enter 45 #[z0]) w:=by
 unfold execOp
 go_simp
 rw [← h0]
 simp [Act.eval]
theorem run_Ge3 (a:Act) (w:World) (d t0 t1:Nat) (u:TypeId) (ps:String) (ed:Array Edge) (gd:Option (Nat × Bool)) (q0:Option Addr) (n0 c0:Nat) (s1:Bool) (x1 y1:Int) (p1:Option Addr) (h0:a.eval (.tmp t0)=.slice q0 n0 c0) (h1:a.eval (.tmp t1)=.agg #[.bool s1,.int .u64 x1,.int .u64 y1,.pointer p1]) :
  (execOp a.eval { dst:=some d,op:=Op.build 76 #[(0,Operand.tmp t0),(1,Operand.tmp t1)],type:=u,pos:=ps,after:=ed,guard:=gd }).run Tryz.prog w=.ok (.value (.agg #[.slice q0 n0 c0,.bool s1,.int .u64 x1,.int .u64 y1,.pointer p1])) w:=by
 unfold execOp
 simp only [List.map_toArray,List.map_cons,List.map_nil,h0,h1]
 go_simp
theorem run_Ge4 (a:Act) (w:World) (d:Nat) (u:TypeId) (ps:String) (ed:Array Edge) (gd:Option (Nat × Bool)) :
  (execOp a.eval { dst:=some d,op:=Op.alloc 76,type:=u,pos:=ps,after:=ed,guard:=gd }).run Tryz.prog w=.ok (.value (.pointer (some ⟨w.heap.size,0,none⟩))) (w.alloc (.cells #[.slice none 0 0,.bool false,.int .u64 0,.int .u64 0,.pointer none] 76)):=by
 unfold execOp
 go_simp
theorem run_Ge5 (a:Act) (w:World) (t1 t2:Nat) (u:TypeId) (ps:String) (ed:Array Edge) (b o:Nat) (q0:Option Addr) (n0 c0:Nat) (s1:Bool) (x1 y1:Int) (p1:Option Addr) (h1:a.eval (.tmp t1)=.pointer (some ⟨b,o,none⟩)) (h2:a.eval (.tmp t2)=.agg #[.slice q0 n0 c0,.bool s1,.int .u64 x1,.int .u64 y1,.pointer p1]) (k0:∃ u,w.cell? ⟨b,o,none⟩=some u) (k1:∃ u,w.cell? ⟨b,o+1,none⟩=some u) (k2:∃ u,w.cell? ⟨b,o+2,none⟩=some u) (k3:∃ u,w.cell? ⟨b,o+3,none⟩=some u) (k4:∃ u,w.cell? ⟨b,o+4,none⟩=some u) (fz:∀ j,w.frozen? ⟨b,j,none⟩=false) :
  (execOp a.eval { dst:=none,op:=Op.store 76 (.tmp t1) (.tmp t2),type:=u,pos:=ps,after:=ed,guard:=none }).run Tryz.prog w=.ok .skip (w.setCells b o [.slice q0 n0 c0,.bool s1,.int .u64 x1,.int .u64 y1,.pointer p1]):=by
 obtain ⟨u0,e0⟩:=k0
 obtain ⟨u1,e1⟩:=k1
 obtain ⟨u2,e2⟩:=k2
 obtain ⟨u3,e3⟩:=k3
 obtain ⟨u4,e4⟩:=k4
 unfold execOp
 simp only [h1,h2]
 go_simp
 try rfl
def opGa0:Oper:={ dst:=some 5,op:=Op.move (Operand.tmp 0),type := 53,pos := "whole.go:28",after:=#[],guard:=none }
def opGa1:Oper:={ dst:=some 6,op:=Op.call { callee:=Callee.builtin Builtin.len,args:=#[Operand.tmp 5],argTypes:=#[53] },type := 3,pos := "whole.go:28",after:=#[⟨0,.data⟩],guard:=none }
def opGa2:Oper:={ dst:=some 7,op:=Op.makeSlice 53 (Operand.tmp 6) (Operand.tmp 6),type := 53,pos := "whole.go:28",after:=#[⟨1,.data⟩,⟨1,.data⟩],guard:=none }
def opGa3:Oper:={ dst:=some 8,op:=Op.move (Operand.tmp 0),type := 53,pos := "whole.go:28",after:=#[],guard:=none }
def opGa4:Oper:={ dst:=some 9,op:=Op.call { callee:=Callee.value (Operand.func 45),args:=#[Operand.tmp 8],argTypes:=#[52] },type := 41,pos := "whole.go:28",after:=#[⟨3,.data⟩],guard:=none }
def opGa5:Oper:={ dst:=some 10,op:=Op.build 76 #[(0,Operand.tmp 7),(1,Operand.tmp 9)],type := 76,pos := "whole.go:28",after:=#[⟨2,.data⟩,⟨4,.data⟩],guard:=none }
def opGa6:Oper:={ dst:=some 3,op:=Op.alloc 76,type:=0,pos := "whole.go:28",after:=#[],guard:=none }
def opGa7:Oper:={ dst:=none,op:=Op.store 76 (Operand.tmp 3) (Operand.tmp 10),type:=0,pos := "whole.go:28",after:=#[⟨6,.data⟩,⟨5,.data⟩,⟨4,.chain⟩,⟨0,.phase⟩,⟨1,.phase⟩,⟨2,.phase⟩,⟨3,.phase⟩,⟨4,.phase⟩,⟨5,.phase⟩,⟨6,.phase⟩],guard:=none }
def opGas:Array Oper:=#[opGa0,opGa1,opGa2,opGa3,opGa4,opGa5,opGa6,opGa7]
structure opGaH (W0:World) (q:Option Addr) (n:Nat) (c:Nat) (U:Rat) (go:Nat) (z:FZ) (g3:Nat) (b2:Bool) (b4:Bool) (b6:Bool) (w:World):Prop where
 mem:But [] W0 w
 f2:b2=true→NewM W0.heap.size w go n
 f4:b4=true→FracAt w (.agg #[.bool z.1,.int .u64 z.2.1,.int .u64 z.2.2.1,.pointer z.2.2.2]) (U)
 f6:b6=true→NewB W0.heap.size w g3 [.slice none 0 0,.bool false,.int .u64 0,.int .u64 0,.pointer none]
 x2_6:b2=true→b6=true→go≠g3
theorem opGaH.but {W0:World} {q:Option Addr} {n:Nat} {c:Nat} {U:Rat} {go:Nat} {z:FZ} {g3:Nat} {b2 b4 b6:Bool} {w w':World} (h:opGaH W0 q n c U go z g3 b2 b4 b6 w) (hb:But [] w w'):opGaH W0 q n c U go z g3 b2 b4 b6 w' :=
 { mem:=h.mem.trans' hb,f2:=fun e=>(h.f2 e).but hb,f4:=fun e=>(h.f4 e).but hb,f6:=fun e=>(h.f6 e).but hb,x2_6:=h.x2_6 }
theorem opGaH.s2 {W0:World} {q:Option Addr} {n:Nat} {c:Nat} {U:Rat} {go:Nat} {z:FZ} {g3:Nat} {b2 b4 b6:Bool} {w:World} (h:opGaH W0 q n c U go z g3 b2 b4 b6 w) (go':Nat) (hf:NewM W0.heap.size w go' n) (k2_6:b6=true→go'≠g3):opGaH W0 q n c U go' z g3 true b4 b6 w :=
 { mem:=h.mem,f2:=fun _=>hf,f4:=h.f4,f6:=h.f6,x2_6:=fun _ e=>k2_6 e }
theorem opGaH.s4 {W0:World} {q:Option Addr} {n:Nat} {c:Nat} {U:Rat} {go:Nat} {z:FZ} {g3:Nat} {b2 b4 b6:Bool} {w:World} (h:opGaH W0 q n c U go z g3 b2 b4 b6 w) (z':FZ) (hf:FracAt w (.agg #[.bool z'.1,.int .u64 z'.2.1,.int .u64 z'.2.2.1,.pointer z'.2.2.2]) (U)):opGaH W0 q n c U go z' g3 b2 true b6 w :=
 { mem:=h.mem,f2:=h.f2,f4:=fun _=>hf,f6:=h.f6,x2_6:=h.x2_6 }
theorem opGaH.s6 {W0:World} {q:Option Addr} {n:Nat} {c:Nat} {U:Rat} {go:Nat} {z:FZ} {g3:Nat} {b2 b4 b6:Bool} {w:World} (h:opGaH W0 q n c U go z g3 b2 b4 b6 w) (g3':Nat) (hf:NewB W0.heap.size w g3' [.slice none 0 0,.bool false,.int .u64 0,.int .u64 0,.pointer none]) (k2_6:b2=true→go≠g3'):opGaH W0 q n c U go z g3' b2 b4 true w :=
 { mem:=h.mem,f2:=h.f2,f4:=h.f4,f6:=fun _=>hf,x2_6:=fun e _=>k2_6 e }
def opGaT (i:Nat):Nat:=match i with
 | 0=>5
 | 1=>6
 | 2=>7
 | 3=>8
 | 4=>9
 | 5=>10
 | 6=>3
 | _=>5
def opGaW (i:Nat):Bool:=match i with
 | 7=>false
 | _=>true
def opGaV (q:Option Addr) (n:Nat) (c:Nat) (U:Rat) (go:Nat) (z:FZ) (g3:Nat) (i:Nat):Value:=match i with
 | 0=>.slice q n c
 | 1=>.int .i64 (n:Int)
 | 2=>.slice (some ⟨go,0,none⟩) n n
 | 3=>.slice q n c
 | 4=>.agg #[.bool z.1,.int .u64 z.2.1,.int .u64 z.2.2.1,.pointer z.2.2.2]
 | 5=>.agg #[.slice (some ⟨go,0,none⟩) n n,.bool z.1,.int .u64 z.2.1,.int .u64 z.2.2.1,.pointer z.2.2.2]
 | 6=>.pointer (some ⟨g3,0,none⟩)
 | _=>undef
theorem opGa_dep:depOps opGas [(1,0),(2,1),(4,3),(5,2),(5,4),(7,0),(7,1),(7,2),(7,3),(7,4),(7,5),(7,6)]=true:=by kernel_rfl
theorem opGaT_inj:∀ i j,i<8→j<8→opGaW i=true→opGaW j=true→opGaT i=opGaT j→i=j:=fun i j hi hj=>(by decide:∀ i,i<8→∀ j,j<8→opGaW i=true→opGaW j=true→opGaT i=opGaT j→i=j) i hi j hj
theorem year_region1 (id:Nat) (Q:Exit→Act→World→Prop) (base:Act) (W0:World) (q:Option Addr) (n:Nat) (c:Nat) (U:Rat) (hs:10<base.tmps.size) (e0:base.eval (.tmp 0)=.slice q n c)
  (hn:n<1000000) (CO:∀ w,But [] W0 w→Calls Tryz.prog 45 #[.slice q n c] w fun e w'=>∃ z:FZ,e=.returned (.agg #[.bool z.1,.int .u64 z.2.1,.int .u64 z.2.2.1,.pointer z.2.2.2])∧FracAt w' (.agg #[.bool z.1,.int .u64 z.2.1,.int .u64 z.2.2.1,.pointer z.2.2.2]) (U)∧But [] w w')
  (hQ:∀ (go:Nat) (z:FZ) (g3:Nat) w1,opGaH W0 q n c U go z g3 true true true w1→Q .normal (putted base [(5,.slice q n c),(6,.int .i64 (n:Int)),(7,.slice (some ⟨go,0,none⟩) n n),(8,.slice q n c),(9,.agg #[.bool z.1,.int .u64 z.2.1,.int .u64 z.2.2.1,.pointer z.2.2.2]),(10,.agg #[.slice (some ⟨go,0,none⟩) n n,.bool z.1,.int .u64 z.2.1,.int .u64 z.2.2.1,.pointer z.2.2.2]),(3,.pointer (some ⟨g3,0,none⟩))]) (w1.setCells g3 (0) [.slice (some ⟨go,0,none⟩) n n,.bool z.1,.int .u64 z.2.1,.int .u64 z.2.2.1,.pointer z.2.2.2])) :
  (Code.region id opGas true).wp Tryz.prog Q base W0:=by
 have hT:∀ i,i<8→opGaW i=true→opGaT i<base.tmps.size:=fun i hi _=>by
  have h:opGaT i≤10:=by revert i;decide
  omega
 refine region_all (by kernel_rfl) (low_of (by kernel_rfl)) (bare_of (by kernel_rfl)) (fun (N:(Nat) × (FZ) × (Nat)) d w=>∃ w1,opGaH W0 q n c U N.1 N.2.1 N.2.2 (d 2) (d 4) (d 6) w1∧(d 7=false→w=w1)∧(d 7=true→w=(w1.setCells N.2.2 (0) [.slice (some ⟨N.1,0,none⟩) n n,.bool N.2.1.1,.int .u64 N.2.1.2.1,.int .u64 N.2.1.2.2.1,.pointer N.2.1.2.2.2]))) (fun N=>opGaV q n c U N.1 N.2.1 N.2.2) opGaT opGaW 8 (by kernel_rfl) opGaT_inj hT (0,(false,0,0,none),0) ⟨_,{ mem:=(But.refl _ _).drew,f2:=fun h=>by simp at h,f4:=fun h=>by simp at h,f6:=fun h=>by simp at h,x2_6:=fun h=>by simp at h },fun _=>rfl,fun h=>by simp at h⟩ ?_ ?_
 ·intro N d i o a w K hi ho hdi hcl hH he hdep hK
  have hD:=dep_is opGa_dep ho (fun j=>d j=true∧(opGaW j=true→a.eval (.tmp (opGaT j))=opGaV q n c U N.1 N.2.1 N.2.2 j)) hdep
  have e0':=(he 0 (fun j hj _ _=>(by decide:∀ j,j<8→(0:Nat)≠opGaT j) j hj)).trans e0
  have:i=0∨i=1∨i=2∨i=3∨i=4∨i=5∨i=6∨i=7:=by omega
  rcases this with rfl | rfl | rfl | rfl | rfl | rfl | rfl | rfl
  ·obtain rfl:=Option.some.inj ((show opGas[0]? = some opGa0 from rfl).symm.trans ho)
   exact wp_value (run_mvK a w _ _ _ _ _ _ _ e0') (hK N _ _ (fun _=>rfl) (fun _ _ _ _=>rfl) hH)
  ·obtain rfl:=Option.some.inj ((show opGas[1]? = some opGa1 from rfl).symm.trans ho)
   exact wp_value (run_Ge0 a w _ _ _ _ _ _ _ _ _ ((hD 0 (by simp)).2 rfl)) (hK N _ _ (fun _=>rfl) (fun _ _ _ _=>rfl) hH)
  ·obtain rfl:=Option.some.inj ((show opGas[2]? = some opGa2 from rfl).symm.trans ho)
   have hs0:d 7=false:=(hcl.not opGa_dep (i:=7) (j:=2) (by simp) hdi)
   obtain ⟨w1,hP,h1,h2⟩:=hH
   obtain rfl:=h1 hs0
   have hW:=hP.mem
   have bA:But [] w (w.alloc (.cells (madeCells #[.slice none 0 0] n) 32)):=(But.refl _ _).alloc _
   have hsz:=hW.size
   exact wp_value (run_Ge1 a w _ _ _ _ _ _ n hn ((hD 1 (by simp)).2 rfl)) (hK (w.heap.size,N.2.1,N.2.2) _ _ (fun _=>rfl) (fun j hj _ hdj=>by
    have:j=0∨j=1∨j=2∨j=3∨j=4∨j=5∨j=6∨j=7:=by omega
    rcases this with rfl | rfl | rfl | rfl | rfl | rfl | rfl | rfl
    ·rfl
    ·rfl
    ·exact absurd (hdi.symm.trans hdj) (by simp)
    ·rfl
    ·rfl
    ·exact absurd ((hcl.not opGa_dep (i:=5) (j:=2) (by simp) hdi).symm.trans hdj) (by simp)
    ·rfl
    ·rfl) ⟨_,((hP.but bA).s2 w.heap.size (NewM.made _ w n _ hsz) (fun e=>(Nat.ne_of_lt (hP.f6 e).lt).symm)),fun _=>rfl,fun h=>absurd (hs0.symm.trans h) (by simp)⟩)
  ·obtain rfl:=Option.some.inj ((show opGas[3]? = some opGa3 from rfl).symm.trans ho)
   exact wp_value (run_mvK a w _ _ _ _ _ _ _ e0') (hK N _ _ (fun _=>rfl) (fun _ _ _ _=>rfl) hH)
  ·obtain rfl:=Option.some.inj ((show opGas[4]? = some opGa4 from rfl).symm.trans ho)
   have hs0:d 7=false:=(hcl.not opGa_dep (i:=7) (j:=4) (by simp) hdi)
   obtain ⟨w1,hP,h1,h2⟩:=hH
   obtain rfl:=h1 hs0
   have hW:=hP.mem
   exact wp_enter (run_Ge2 a w _ _ _ _ _ _ _ ((hD 3 (by simp)).2 rfl)) (R:=fun w' u=>∃ v,u=.agg #[.bool v.1,.int .u64 v.2.1,.int .u64 v.2.2.1,.pointer v.2.2.2]∧(FracAt w' (.agg #[.bool v.1,.int .u64 v.2.1,.int .u64 v.2.2.1,.pointer v.2.2.2]) (U))∧But [] w w') ((CO w hW).mono fun e w' ⟨v,he,hf,hb⟩=>⟨_,he,v,rfl,hf,hb⟩) (fun u w' ⟨v,hu,hf,hb⟩=>hK (N.1,v,N.2.2) _ _ (fun _=>hu) (fun j hj _ hdj=>by
    have:j=0∨j=1∨j=2∨j=3∨j=4∨j=5∨j=6∨j=7:=by omega
    rcases this with rfl | rfl | rfl | rfl | rfl | rfl | rfl | rfl
    ·rfl
    ·rfl
    ·rfl
    ·rfl
    ·exact absurd (hdi.symm.trans hdj) (by simp)
    ·exact absurd ((hcl.not opGa_dep (i:=5) (j:=4) (by simp) hdi).symm.trans hdj) (by simp)
    ·rfl
    ·rfl) ⟨_,((hP.but hb).s4 v hf),fun _=>rfl,fun h=>absurd (hs0.symm.trans h) (by simp)⟩)
  ·obtain rfl:=Option.some.inj ((show opGas[5]? = some opGa5 from rfl).symm.trans ho)
   exact wp_value (run_Ge3 a w _ _ _ _ _ _ _ _ _ _ _ _ _ _ ((hD 2 (by simp)).2 rfl) ((hD 4 (by simp)).2 rfl)) (hK N _ _ (fun _=>rfl) (fun _ _ _ _=>rfl) hH)
  ·obtain rfl:=Option.some.inj ((show opGas[6]? = some opGa6 from rfl).symm.trans ho)
   have hs0:d 7=false:=(hcl.not opGa_dep (i:=7) (j:=6) (by simp) hdi)
   obtain ⟨w1,hP,h1,h2⟩:=hH
   obtain rfl:=h1 hs0
   have hW:=hP.mem
   have bA:But [] w (w.alloc (.cells #[.slice none 0 0,.bool false,.int .u64 0,.int .u64 0,.pointer none] 76)):=(But.refl _ _).alloc _
   have hsz:=hW.size
   exact wp_value (run_Ge4 a w _ _ _ _ _) (hK (N.1,N.2.1,w.heap.size) _ _ (fun _=>rfl) (fun j hj _ hdj=>by
    have:j=0∨j=1∨j=2∨j=3∨j=4∨j=5∨j=6∨j=7:=by omega
    rcases this with rfl | rfl | rfl | rfl | rfl | rfl | rfl | rfl
    ·rfl
    ·rfl
    ·rfl
    ·rfl
    ·rfl
    ·rfl
    ·exact absurd (hdi.symm.trans hdj) (by simp)
    ·rfl) ⟨_,((hP.but bA).s6 w.heap.size (NewB.made _ w [.slice none 0 0,.bool false,.int .u64 0,.int .u64 0,.pointer none] _ hsz) (fun e=>Nat.ne_of_lt (hP.f2 e).lt)),fun _=>rfl,fun h=>absurd (hs0.symm.trans h) (by simp)⟩)
  ·obtain rfl:=Option.some.inj ((show opGas[7]? = some opGa7 from rfl).symm.trans ho)
   obtain ⟨w1,hP,h1,h2⟩:=hH
   obtain rfl:=h1 hdi
   have hW:=hP.mem
   have t2:d 2=true:=(hD 2 (by simp)).1
   have t4:d 4=true:=(hD 4 (by simp)).1
   have t6:d 6=true:=(hD 6 (by simp)).1
   exact wp_skipped (run_Ge5 a w _ _ _ _ _ N.2.2 (0) _ _ _ _ _ _ _ ((hD 6 (by simp)).2 rfl) ((hD 5 (by simp)).2 rfl) (⟨_,(hP.f6 t6).cells 0 _ rfl⟩) (⟨_,(hP.f6 t6).cells 1 _ rfl⟩) (⟨_,(hP.f6 t6).cells 2 _ rfl⟩) (⟨_,(hP.f6 t6).cells 3 _ rfl⟩) (⟨_,(hP.f6 t6).cells 4 _ rfl⟩) ((hP.f6 t6).loose)) (hK N undef _ (fun h=>absurd h (by decide)) (fun _ _ _ _=>rfl) ⟨w,hP,fun h=>absurd h (by rw [came_self];simp),fun _=>rfl⟩)
 ·intro N d w hd hH
  obtain ⟨w1,hP,h1,h2⟩:=hH
  rw [h2 (hd 7 (by omega))]
  rw [hd 2 (by omega),hd 4 (by omega),hd 6 (by omega)] at hP
  exact hQ N.1 N.2.1 N.2.2 w1 hP
theorem run_Ge6 (a:Act) (w:World) (d t:Nat) (u:TypeId) (ps:String) (ed:Array Edge) (gd:Option (Nat × Bool)) (b o o':Nat) (ho:o+0=o') (h1:a.eval (.tmp t)=.pointer (some ⟨b,o,none⟩)) :
  (execOp a.eval { dst:=some d,op:=Op.fieldAddr 76 (.tmp t) 0,type:=u,pos:=ps,after:=ed,guard:=gd }).run Tryz.prog w=.ok (.value (.pointer (some ⟨b,o',none⟩))) w:=by
 subst ho
 unfold execOp
 simp only [h1]
 go_simp
theorem run_Ge7 (a:Act) (w:World) (d t:Nat) (u:TypeId) (ps:String) (ed:Array Edge) (gd:Option (Nat × Bool)) (b o:Nat) (v:Value) (h1:a.eval (.tmp t)=.pointer (some ⟨b,o,none⟩)) (hc:w.cell? ⟨b,o,none⟩=some v) :
  (execOp a.eval { dst:=some d,op:=Op.load 53 (.tmp t),type:=u,pos:=ps,after:=ed,guard:=gd }).run Tryz.prog w=.ok (.value v) w:=by
 unfold execOp
 simp only [h1]
 go_simp
theorem run_Ge8 (a:Act) (w:World) (d t1 t2:Nat) (u:TypeId) (ps:String) (ed:Array Edge) (gd:Option (Nat × Bool)) (b off n c k o':Nat) (ho:off+k=o') (hk:k<n) (_hn:n<1000000) (h1:a.eval (.tmp t1)=.slice (some ⟨b,off,none⟩) n c) (h2:a.eval (.tmp t2)=.int .i64 (k:Int)) :
  (execOp a.eval { dst:=some d,op:=Op.indexAddr 53 (.tmp t1) (.tmp t2),type:=u,pos:=ps,after:=ed,guard:=gd }).run Tryz.prog w=.ok (.value (.pointer (some ⟨b,o',none⟩))) w:=by
 subst ho
 unfold execOp
 simp only [h1,h2]
 go_simp
theorem run_Ge9 (a:Act) (w:World) (d t:Nat) (u:TypeId) (ps:String) (ed:Array Edge) (gd:Option (Nat × Bool)) (b o:Nat) (v:Value) (h1:a.eval (.tmp t)=.pointer (some ⟨b,o,none⟩)) (hc:w.cell? ⟨b,o,none⟩=some v) :
  (execOp a.eval { dst:=some d,op:=Op.load 32 (.tmp t),type:=u,pos:=ps,after:=ed,guard:=gd }).run Tryz.prog w=.ok (.value v) w:=by
 unfold execOp
 simp only [h1]
 go_simp
theorem run_Ge10 (a:Act) (w:World) (d t:Nat) (u:TypeId) (ps:String) (ed:Array Edge) (gd:Option (Nat × Bool)) (b o o':Nat) (ho:o+1=o') (h1:a.eval (.tmp t)=.pointer (some ⟨b,o,none⟩)) :
  (execOp a.eval { dst:=some d,op:=Op.fieldAddr 76 (.tmp t) 1,type:=u,pos:=ps,after:=ed,guard:=gd }).run Tryz.prog w=.ok (.value (.pointer (some ⟨b,o',none⟩))) w:=by
 subst ho
 unfold execOp
 simp only [h1]
 go_simp
theorem run_Ge11 (a:Act) (w:World) (d t0 t1:Nat) (u:TypeId) (ps:String) (ed:Array Edge) (gd:Option (Nat × Bool)) (z0 z1:Value) (h0:a.eval (.tmp t0)=z0) (h1:a.eval (.tmp t1)=z1) :
  (execOp a.eval { dst:=some d,op:=Op.call { callee:=Callee.value (Operand.func 46),args:=#[Operand.tmp t0,Operand.tmp t1],argTypes:=#[32,41] },type:=u,pos:=ps,after:=ed,guard:=gd }).run Tryz.prog w=.ok (.enter 46 #[z0,z1]) w:=by
 unfold execOp
 go_simp
 rw [← h0,← h1]
 simp [Act.eval]
theorem run_Ge12 (a:Act) (w:World) (t1 t2:Nat) (u:TypeId) (ps:String) (ed:Array Edge) (b o:Nat) (q:Option Addr) (n c:Nat) (u0:Value) (h1:a.eval (.tmp t1)=.pointer (some ⟨b,o,none⟩)) (h2:a.eval (.tmp t2)=.slice q n c) (hc:w.cell? ⟨b,o,none⟩=some u0) (fz:w.frozen? ⟨b,o,none⟩=false) :
  (execOp a.eval { dst:=none,op:=Op.store 32 (.tmp t1) (.tmp t2),type:=u,pos:=ps,after:=ed,guard:=none }).run Tryz.prog w=.ok .skip (w.setCell ⟨b,o,none⟩ (.slice q n c)):=by
 unfold execOp
 simp only [h1,h2]
 go_simp
def opGb0:Oper:={ dst:=some 16,op:=Op.fieldAddr 76 (Operand.tmp 3) 0,type:=0,pos := "whole.go:30",after:=#[],guard:=none }
def opGb1:Oper:={ dst:=some 17,op:=Op.load 53 (Operand.tmp 16),type := 53,pos := "whole.go:30",after:=#[⟨0,.data⟩],guard:=none }
def opGb2:Oper:={ dst:=some 18,op:=Op.move (Operand.tmp 4),type := 3,pos := "whole.go:30",after:=#[],guard:=none }
def opGb3:Oper:={ dst:=some 19,op:=Op.move (Operand.tmp 0),type := 53,pos := "whole.go:30",after:=#[],guard:=none }
def opGb4:Oper:={ dst:=some 20,op:=Op.move (Operand.tmp 4),type := 3,pos := "whole.go:30",after:=#[],guard:=none }
def opGb5:Oper:={ dst:=some 21,op:=Op.indexAddr 53 (Operand.tmp 19) (Operand.tmp 20),type:=0,pos := "whole.go:30",after:=#[⟨3,.data⟩,⟨4,.data⟩],guard:=none }
def opGb6:Oper:={ dst:=some 22,op:=Op.load 32 (Operand.tmp 21),type := 32,pos := "whole.go:30",after:=#[⟨5,.data⟩],guard:=none }
def opGb7:Oper:={ dst:=some 23,op:=Op.fieldAddr 76 (Operand.tmp 3) 1,type:=0,pos := "whole.go:30",after:=#[],guard:=none }
def opGb8:Oper:={ dst:=some 24,op:=Op.load 41 (Operand.tmp 23),type := 41,pos := "whole.go:30",after:=#[⟨7,.data⟩],guard:=none }
def opGb9:Oper:={ dst:=some 25,op:=Op.call { callee:=Callee.value (Operand.func 46),args:=#[Operand.tmp 22,Operand.tmp 24],argTypes:=#[32,41] },type := 32,pos := "whole.go:30",after:=#[⟨6,.data⟩,⟨8,.data⟩],guard:=none }
def opGb10:Oper:={ dst:=some 26,op:=Op.indexAddr 53 (Operand.tmp 17) (Operand.tmp 18),type:=0,pos := "whole.go:30",after:=#[⟨1,.data⟩,⟨2,.data⟩,⟨0,.phase⟩,⟨1,.phase⟩,⟨2,.phase⟩,⟨3,.phase⟩,⟨4,.phase⟩,⟨5,.phase⟩,⟨6,.phase⟩,⟨7,.phase⟩,⟨8,.phase⟩,⟨9,.phase⟩],guard:=none }
def opGb11:Oper:={ dst:=none,op:=Op.store 32 (Operand.tmp 26) (Operand.tmp 25),type:=0,pos := "whole.go:30",after:=#[⟨10,.data⟩,⟨9,.data⟩,⟨9,.chain⟩,⟨0,.phase⟩,⟨1,.phase⟩,⟨2,.phase⟩,⟨3,.phase⟩,⟨4,.phase⟩,⟨5,.phase⟩,⟨6,.phase⟩,⟨7,.phase⟩,⟨8,.phase⟩,⟨9,.phase⟩],guard:=none }
def opGbs:Array Oper:=#[opGb0,opGb1,opGb2,opGb3,opGb4,opGb5,opGb6,opGb7,opGb8,opGb9,opGb10,opGb11]
structure opGbH (W0:World) (g3:Nat) (go:Nat) (b:Nat) (off:Nat) (n:Nat) (c:Nat) (ia:Nat) (ln:Nat) (lc:Nat) (qa:Option Addr) (F:Nat→Rat) (s1:Bool) (x1:Int) (y1:Int) (p1:Option Addr) (gr:Nat) (b9:Bool) (w:World):Prop where
 mem:But [] W0 w
 f9:b9=true→NewR W0.heap.size w gr n F
theorem opGbH.but {W0:World} {g3:Nat} {go:Nat} {b:Nat} {off:Nat} {n:Nat} {c:Nat} {ia:Nat} {ln:Nat} {lc:Nat} {qa:Option Addr} {F:Nat→Rat} {s1:Bool} {x1:Int} {y1:Int} {p1:Option Addr} {gr:Nat} {b9:Bool} {w w':World} (h:opGbH W0 g3 go b off n c ia ln lc qa F s1 x1 y1 p1 gr b9 w) (hb:But [] w w'):opGbH W0 g3 go b off n c ia ln lc qa F s1 x1 y1 p1 gr b9 w' :=
 { mem:=h.mem.trans' hb,f9:=fun e=>(h.f9 e).but hb }
theorem opGbH.s9 {W0:World} {g3:Nat} {go:Nat} {b:Nat} {off:Nat} {n:Nat} {c:Nat} {ia:Nat} {ln:Nat} {lc:Nat} {qa:Option Addr} {F:Nat→Rat} {s1:Bool} {x1:Int} {y1:Int} {p1:Option Addr} {gr:Nat} {b9:Bool} {w:World} (h:opGbH W0 g3 go b off n c ia ln lc qa F s1 x1 y1 p1 gr b9 w) (gr':Nat) (hf:NewR W0.heap.size w gr' n F):opGbH W0 g3 go b off n c ia ln lc qa F s1 x1 y1 p1 gr' true w :=
 { mem:=h.mem,f9:=fun _=>hf }
def opGbT (i:Nat):Nat:=match i with
 | 0=>16
 | 1=>17
 | 2=>18
 | 3=>19
 | 4=>20
 | 5=>21
 | 6=>22
 | 7=>23
 | 8=>24
 | 9=>25
 | 10=>26
 | _=>16
def opGbW (i:Nat):Bool:=match i with
 | 11=>false
 | _=>true
def opGbV (g3:Nat) (go:Nat) (b:Nat) (off:Nat) (n:Nat) (c:Nat) (ia:Nat) (ln:Nat) (lc:Nat) (qa:Option Addr) (F:Nat→Rat) (s1:Bool) (x1:Int) (y1:Int) (p1:Option Addr) (gr:Nat) (i:Nat):Value:=match i with
 | 0=>.pointer (some ⟨g3,0,none⟩)
 | 1=>.slice (some ⟨go,0,none⟩) n n
 | 2=>.int .i64 (ia:Int)
 | 3=>.slice (some ⟨b,off,none⟩) n c
 | 4=>.int .i64 (ia:Int)
 | 5=>.pointer (some ⟨b,off+ia,none⟩)
 | 6=>.slice qa ln lc
 | 7=>.pointer (some ⟨g3,1,none⟩)
 | 8=>.agg #[.bool s1,.int .u64 x1,.int .u64 y1,.pointer p1]
 | 9=>.slice (some ⟨gr,0,none⟩) n n
 | 10=>.pointer (some ⟨go,ia,none⟩)
 | _=>undef
theorem opGb_dep:depOps opGbs [(1,0),(5,3),(5,4),(6,5),(8,7),(9,6),(9,8),(10,0),(10,1),(10,2),(10,3),(10,4),(10,5),(10,6),(10,7),(10,8),(10,9),(11,0),(11,1),(11,2),(11,3),(11,4),(11,5),(11,6),(11,7),(11,8),(11,9),(11,10)]=true:=by kernel_rfl
theorem opGbT_inj:∀ i j,i<12→j<12→opGbW i=true→opGbW j=true→opGbT i=opGbT j→i=j:=fun i j hi hj=>(by decide:∀ i,i<12→∀ j,j<12→opGbW i=true→opGbW j=true→opGbT i=opGbT j→i=j) i hi j hj
theorem year_region5 (id:Nat) (Q:Exit→Act→World→Prop) (base:Act) (W0:World) (g3:Nat) (go:Nat) (b:Nat) (off:Nat) (n:Nat) (c:Nat) (ia:Nat) (ln:Nat) (lc:Nat) (qa:Option Addr) (F:Nat→Rat) (s1:Bool) (x1:Int) (y1:Int) (p1:Option Addr) (hs:26<base.tmps.size) (e3:base.eval (.tmp 3)=.pointer (some ⟨g3,0,none⟩)) (e4:base.eval (.tmp 4)=.int .i64 (ia:Int)) (e0:base.eval (.tmp 0)=.slice (some ⟨b,off,none⟩) n c)
  (hia:ia<n) (hn:n<1000000) (c0:W0.cell? ⟨g3,0,none⟩=some (.slice (some ⟨go,0,none⟩) n n)) (ca:W0.cell? ⟨b,off+ia,none⟩=some (.slice qa ln lc)) (c1:P4o W0 g3 (1) s1 x1 y1 p1) (cz:W0.cell? ⟨go,ia,none⟩=some (.slice none 0 0)) (fz:W0.frozen? ⟨go,ia,none⟩=false) (TI:∀ w,But [] W0 w→Calls Tryz.prog 46 #[.slice qa ln lc,.agg #[.bool s1,.int .u64 x1,.int .u64 y1,.pointer p1]] w fun e w'=>∃ g,e=.returned (.slice (some ⟨g,0,none⟩) n n)∧NewR W0.heap.size w' g n F∧But [] w w')
  (hQ:∀ (gr:Nat) w1,opGbH W0 g3 go b off n c ia ln lc qa F s1 x1 y1 p1 gr true w1→Q .normal (putted base [(16,.pointer (some ⟨g3,0,none⟩)),(17,.slice (some ⟨go,0,none⟩) n n),(18,.int .i64 (ia:Int)),(19,.slice (some ⟨b,off,none⟩) n c),(20,.int .i64 (ia:Int)),(21,.pointer (some ⟨b,off+ia,none⟩)),(22,.slice qa ln lc),(23,.pointer (some ⟨g3,1,none⟩)),(24,.agg #[.bool s1,.int .u64 x1,.int .u64 y1,.pointer p1]),(25,.slice (some ⟨gr,0,none⟩) n n),(26,.pointer (some ⟨go,ia,none⟩))]) (w1.setCell ⟨go,ia,none⟩ (.slice (some ⟨gr,0,none⟩) n n))) :
  (Code.region id opGbs true).wp Tryz.prog Q base W0:=by
 have hT:∀ i,i<12→opGbW i=true→opGbT i<base.tmps.size:=fun i hi _=>by
  have h:opGbT i≤26:=by revert i;decide
  omega
 refine region_all (by kernel_rfl) (low_of (by kernel_rfl)) (bare_of (by kernel_rfl)) (fun (N:(Nat)) d w=>∃ w1,opGbH W0 g3 go b off n c ia ln lc qa F s1 x1 y1 p1 N (d 9) w1∧(d 11=false→w=w1)∧(d 11=true→w=(w1.setCell ⟨go,ia,none⟩ (.slice (some ⟨N,0,none⟩) n n)))) (fun N=>opGbV g3 go b off n c ia ln lc qa F s1 x1 y1 p1 N) opGbT opGbW 12 (by kernel_rfl) opGbT_inj hT (0) ⟨_,{ mem:=(But.refl _ _).drew,f9:=fun h=>by simp at h },fun _=>rfl,fun h=>by simp at h⟩ ?_ ?_
 ·intro N d i o a w K hi ho hdi hcl hH he hdep hK
  have hD:=dep_is opGb_dep ho (fun j=>d j=true∧(opGbW j=true→a.eval (.tmp (opGbT j))=opGbV g3 go b off n c ia ln lc qa F s1 x1 y1 p1 N j)) hdep
  have e3':=(he 3 (fun j hj _ _=>(by decide:∀ j,j<12→(3:Nat)≠opGbT j) j hj)).trans e3
  have e4':=(he 4 (fun j hj _ _=>(by decide:∀ j,j<12→(4:Nat)≠opGbT j) j hj)).trans e4
  have e0':=(he 0 (fun j hj _ _=>(by decide:∀ j,j<12→(0:Nat)≠opGbT j) j hj)).trans e0
  have:i=0∨i=1∨i=2∨i=3∨i=4∨i=5∨i=6∨i=7∨i=8∨i=9∨i=10∨i=11:=by omega
  rcases this with rfl | rfl | rfl | rfl | rfl | rfl | rfl | rfl | rfl | rfl | rfl | rfl
  ·obtain rfl:=Option.some.inj ((show opGbs[0]? = some opGb0 from rfl).symm.trans ho)
   exact wp_value (run_Ge6 a w _ _ _ _ _ _ g3 (0) (0) rfl e3') (hK N _ _ (fun _=>rfl) (fun _ _ _ _=>rfl) hH)
  ·obtain rfl:=Option.some.inj ((show opGbs[1]? = some opGb1 from rfl).symm.trans ho)
   have hs0:d 11=false:=(hcl.not opGb_dep (i:=11) (j:=1) (by simp) hdi)
   obtain ⟨w1,hP,h1,h2⟩:=hH
   obtain rfl:=h1 hs0
   have hW:=hP.mem
   exact wp_value (run_Ge7 a w _ _ _ _ _ _ g3 (0) _ ((hD 0 (by simp)).2 rfl) (hW.cell_some c0 (by simp))) (hK N _ _ (fun _=>rfl) (fun _ _ _ _=>rfl) ⟨_,hP,h1,h2⟩)
  ·obtain rfl:=Option.some.inj ((show opGbs[2]? = some opGb2 from rfl).symm.trans ho)
   exact wp_value (run_mvK a w _ _ _ _ _ _ _ e4') (hK N _ _ (fun _=>rfl) (fun _ _ _ _=>rfl) hH)
  ·obtain rfl:=Option.some.inj ((show opGbs[3]? = some opGb3 from rfl).symm.trans ho)
   exact wp_value (run_mvK a w _ _ _ _ _ _ _ e0') (hK N _ _ (fun _=>rfl) (fun _ _ _ _=>rfl) hH)
  ·obtain rfl:=Option.some.inj ((show opGbs[4]? = some opGb4 from rfl).symm.trans ho)
   exact wp_value (run_mvK a w _ _ _ _ _ _ _ e4') (hK N _ _ (fun _=>rfl) (fun _ _ _ _=>rfl) hH)
  ·obtain rfl:=Option.some.inj ((show opGbs[5]? = some opGb5 from rfl).symm.trans ho)
   exact wp_value (run_Ge8 a w _ _ _ _ _ _ _ b (off) (n) (c) (ia) (off+ia) (by omega) hia hn ((hD 3 (by simp)).2 rfl) ((hD 4 (by simp)).2 rfl)) (hK N _ _ (fun _=>rfl) (fun _ _ _ _=>rfl) hH)
  ·obtain rfl:=Option.some.inj ((show opGbs[6]? = some opGb6 from rfl).symm.trans ho)
   have hs0:d 11=false:=(hcl.not opGb_dep (i:=11) (j:=6) (by simp) hdi)
   obtain ⟨w1,hP,h1,h2⟩:=hH
   obtain rfl:=h1 hs0
   have hW:=hP.mem
   exact wp_value (run_Ge9 a w _ _ _ _ _ _ b (off+ia) _ ((hD 5 (by simp)).2 rfl) (hW.cell_some ca (by simp))) (hK N _ _ (fun _=>rfl) (fun _ _ _ _=>rfl) ⟨_,hP,h1,h2⟩)
  ·obtain rfl:=Option.some.inj ((show opGbs[7]? = some opGb7 from rfl).symm.trans ho)
   exact wp_value (run_Ge10 a w _ _ _ _ _ _ g3 (0) (1) rfl e3') (hK N _ _ (fun _=>rfl) (fun _ _ _ _=>rfl) hH)
  ·obtain rfl:=Option.some.inj ((show opGbs[8]? = some opGb8 from rfl).symm.trans ho)
   have hs0:d 11=false:=(hcl.not opGb_dep (i:=11) (j:=8) (by simp) hdi)
   obtain ⟨w1,hP,h1,h2⟩:=hH
   obtain rfl:=h1 hs0
   have hW:=hP.mem
   exact wp_value (run_loadK a w _ _ _ _ _ _ g3 (1) _ _ _ _ ((hD 7 (by simp)).2 rfl) (c1.but hW (by simp))) (hK N _ _ (fun _=>rfl) (fun _ _ _ _=>rfl) ⟨_,hP,h1,h2⟩)
  ·obtain rfl:=Option.some.inj ((show opGbs[9]? = some opGb9 from rfl).symm.trans ho)
   have hs0:d 11=false:=(hcl.not opGb_dep (i:=11) (j:=9) (by simp) hdi)
   obtain ⟨w1,hP,h1,h2⟩:=hH
   obtain rfl:=h1 hs0
   have hW:=hP.mem
   exact wp_enter (run_Ge11 a w _ _ _ _ _ _ _ _ _ ((hD 6 (by simp)).2 rfl) ((hD 8 (by simp)).2 rfl)) (R:=fun w' u=>∃ v,u=.slice (some ⟨v,0,none⟩) n n∧(NewR W0.heap.size w' v n F)∧But [] w w') ((TI w hW).mono fun e w' ⟨v,he,hf,hb⟩=>⟨_,he,v,rfl,hf,hb⟩) (fun u w' ⟨v,hu,hf,hb⟩=>hK (v) _ _ (fun _=>hu) (fun j hj _ hdj=>by
    have:j=0∨j=1∨j=2∨j=3∨j=4∨j=5∨j=6∨j=7∨j=8∨j=9∨j=10∨j=11:=by omega
    rcases this with rfl | rfl | rfl | rfl | rfl | rfl | rfl | rfl | rfl | rfl | rfl | rfl
    ·rfl
    ·rfl
    ·rfl
    ·rfl
    ·rfl
    ·rfl
    ·rfl
    ·rfl
    ·rfl
    ·exact absurd (hdi.symm.trans hdj) (by simp)
    ·rfl
    ·rfl) ⟨_,((hP.but hb).s9 v hf),fun _=>rfl,fun h=>absurd (hs0.symm.trans h) (by simp)⟩)
  ·obtain rfl:=Option.some.inj ((show opGbs[10]? = some opGb10 from rfl).symm.trans ho)
   exact wp_value (run_Ge8 a w _ _ _ _ _ _ _ go (0) (n) (n) (ia) (ia) (by omega) hia hn ((hD 1 (by simp)).2 rfl) ((hD 2 (by simp)).2 rfl)) (hK N _ _ (fun _=>rfl) (fun _ _ _ _=>rfl) hH)
  ·obtain rfl:=Option.some.inj ((show opGbs[11]? = some opGb11 from rfl).symm.trans ho)
   obtain ⟨w1,hP,h1,h2⟩:=hH
   obtain rfl:=h1 hdi
   have hW:=hP.mem
   have t9:d 9=true:=(hD 9 (by simp)).1
   exact wp_skipped (run_Ge12 a w _ _ _ _ _ go (ia) _ _ _ _ ((hD 10 (by simp)).2 rfl) ((hD 9 (by simp)).2 rfl) (hW.cell_some cz (by simp)) ((hW.frozen (p:=⟨go,ia,none⟩) (lt_of_cell cz) (by simp)).trans fz)) (hK N undef _ (fun h=>absurd h (by decide)) (fun _ _ _ _=>rfl) ⟨w,hP,fun h=>absurd h (by rw [came_self];simp),fun _=>rfl⟩)
 ·intro N d w hd hH
  obtain ⟨w1,hP,h1,h2⟩:=hH
  rw [h2 (hd 11 (by omega))]
  rw [hd 9 (by omega)] at hP
  exact hQ N w1 hP
theorem run_Ge13 (a:Act) (w:World) (d t:Nat) (u:TypeId) (ps:String) (ed:Array Edge) (gd:Option (Nat × Bool)) (b o:Nat) (h1:a.eval (.tmp t)=.pointer (some ⟨b,o,none⟩)) :
  (execOp a.eval { dst:=some d,op:=Op.nilCheck (.tmp t),type:=u,pos:=ps,after:=ed,guard:=gd }).run Tryz.prog w=.ok (.value (.pointer (some ⟨b,o,none⟩))) w:=by
 unfold execOp
 simp only [h1]
 go_simp
theorem run_Ge14 (a:Act) (w:World) (d t:Nat) (u:TypeId) (ps:String) (ed:Array Edge) (gd:Option (Nat × Bool)) (b o o':Nat) (ho:o+1=o') (h1:a.eval (.tmp t)=.pointer (some ⟨b,o,none⟩)) :
  (execOp a.eval { dst:=some d,op:=Op.fieldAddr 63 (.tmp t) 1,type:=u,pos:=ps,after:=ed,guard:=gd }).run Tryz.prog w=.ok (.value (.pointer (some ⟨b,o',none⟩))) w:=by
 subst ho
 unfold execOp
 simp only [h1]
 go_simp
theorem run_Ge15 (a:Act) (w:World) (d t:Nat) (u:TypeId) (ps:String) (ed:Array Edge) (gd:Option (Nat × Bool)) (b o:Nat) (v:Value) (h1:a.eval (.tmp t)=.pointer (some ⟨b,o,none⟩)) (hc:w.cell? ⟨b,o,none⟩=some v) :
  (execOp a.eval { dst:=some d,op:=Op.load 61 (.tmp t),type:=u,pos:=ps,after:=ed,guard:=gd }).run Tryz.prog w=.ok (.value v) w:=by
 unfold execOp
 simp only [h1]
 go_simp
theorem run_Ge16 (a:Act) (w:World) (d t0:Nat) (u:TypeId) (ps:String) (ed:Array Edge) (gd:Option (Nat × Bool)) (z0:Value) (h0:a.eval (.tmp t0)=z0) :
  (execOp a.eval { dst:=some d,op:=Op.call { callee:=Callee.value (Operand.func 40),args:=#[Operand.tmp t0],argTypes:=#[53] },type:=u,pos:=ps,after:=ed,guard:=gd }).run Tryz.prog w=.ok (.enter 40 #[z0]) w:=by
 unfold execOp
 go_simp
 rw [← h0]
 simp [Act.eval]
theorem run_Ge17 (a:Act) (w:World) (d t:Nat) (u:TypeId) (ps:String) (ed:Array Edge) (gd:Option (Nat × Bool)) (q0:Option Addr) (n0 c0:Nat) (s1:Bool) (x1 y1:Int) (p1:Option Addr) (h1:a.eval (.tmp t)=.agg #[.slice q0 n0 c0,.bool s1,.int .u64 x1,.int .u64 y1,.pointer p1]) :
  (execOp a.eval { dst:=some d,op:=Op.buildSlice 61 1 #[(0,Operand.tmp t)],type:=u,pos:=ps,after:=ed,guard:=gd }).run Tryz.prog w=.ok (.value (.slice (some ⟨w.heap.size,0,none⟩) 1 1)) (w.alloc (.cells #[.slice q0 n0 c0,.bool s1,.int .u64 x1,.int .u64 y1,.pointer p1] 76)):=by
 unfold execOp
 simp only [List.map_toArray,List.map_cons,List.map_nil,h1]
 go_simp
theorem run_Ge18 (a:Act) (w:World) (d t1 t2:Nat) (ps:String) (ed:Array Edge) (gd:Option (Nat × Bool)) (v0 v1 v':Value) (w':World) (h1:a.eval (.tmp t1)=v0) (h2:a.eval (.tmp t2)=v1) (hr:(Builtin.append_ #[61,61] 61 #[v0,v1]).run Tryz.prog w=.ok v' w') :
  (execOp a.eval { dst:=some d,op:=Op.call { callee:=Callee.builtin Builtin.append,args:=#[Operand.tmp t1,Operand.tmp t2],argTypes:=#[61,61] },type := 61,pos:=ps,after:=ed,guard:=gd }).run Tryz.prog w=.ok (.value v') w':=by
 unfold execOp
 simp only [resolve,invoke,builtin,Sem.run_bind,Sem.run_pure,Result.andThen_ok,List.map_toArray,List.map_cons,List.map_nil,h1,h2,hr]
theorem run_Ge19 (a:Act) (w:World) (t1 t2:Nat) (u:TypeId) (ps:String) (ed:Array Edge) (b o:Nat) (q:Option Addr) (n c:Nat) (u0:Value) (h1:a.eval (.tmp t1)=.pointer (some ⟨b,o,none⟩)) (h2:a.eval (.tmp t2)=.slice q n c) (hc:w.cell? ⟨b,o,none⟩=some u0) (fz:w.frozen? ⟨b,o,none⟩=false) :
  (execOp a.eval { dst:=none,op:=Op.store 61 (.tmp t1) (.tmp t2),type:=u,pos:=ps,after:=ed,guard:=none }).run Tryz.prog w=.ok .skip (w.setCell ⟨b,o,none⟩ (.slice q n c)):=by
 unfold execOp
 simp only [h1,h2]
 go_simp
def opGc0:Oper:={ dst:=some 42,op:=Op.move (Operand.tmp 4),type := 25,pos := "chain.go:60",after:=#[],guard:=none }
def opGc1:Oper:={ dst:=some 43,op:=Op.move (Operand.tmp 4),type := 25,pos := "chain.go:60",after:=#[],guard:=none }
def opGc2:Oper:={ dst:=some 44,op:=Op.nilCheck (Operand.tmp 43),type:=0,pos := "chain.go:60",after:=#[⟨1,.data⟩],guard:=none }
def opGc3:Oper:={ dst:=some 45,op:=Op.fieldAddr 63 (Operand.tmp 44) 1,type:=0,pos := "chain.go:60",after:=#[⟨2,.data⟩],guard:=none }
def opGc4:Oper:={ dst:=some 46,op:=Op.load 61 (Operand.tmp 45),type := 61,pos := "chain.go:60",after:=#[⟨3,.data⟩],guard:=none }
def opGc5:Oper:={ dst:=some 47,op:=Op.move (Operand.tmp 6),type := 53,pos := "chain.go:60",after:=#[],guard:=none }
def opGc6:Oper:={ dst:=some 48,op:=Op.call { callee:=Callee.value (Operand.func 40),args:=#[Operand.tmp 47],argTypes:=#[53] },type := 76,pos := "chain.go:60",after:=#[⟨5,.data⟩],guard:=none }
def opGc7:Oper:={ dst:=some 49,op:=Op.buildSlice 61 1 #[(0,Operand.tmp 48)],type := 61,pos := "chain.go:60",after:=#[⟨6,.data⟩],guard:=none }
def opGc8:Oper:={ dst:=some 50,op:=Op.call { callee:=Callee.builtin Builtin.append,args:=#[Operand.tmp 46,Operand.tmp 49],argTypes:=#[61,61] },type := 61,pos := "chain.go:60",after:=#[⟨4,.data⟩,⟨7,.data⟩,⟨6,.chain⟩],guard:=none }
def opGc9:Oper:={ dst:=some 51,op:=Op.nilCheck (Operand.tmp 42),type:=0,pos := "chain.go:60",after:=#[⟨0,.data⟩,⟨0,.phase⟩,⟨1,.phase⟩,⟨2,.phase⟩,⟨3,.phase⟩,⟨4,.phase⟩,⟨5,.phase⟩,⟨6,.phase⟩,⟨7,.phase⟩,⟨8,.phase⟩],guard:=none }
def opGc10:Oper:={ dst:=some 52,op:=Op.fieldAddr 63 (Operand.tmp 51) 1,type:=0,pos := "chain.go:60",after:=#[⟨9,.data⟩,⟨0,.phase⟩,⟨1,.phase⟩,⟨2,.phase⟩,⟨3,.phase⟩,⟨4,.phase⟩,⟨5,.phase⟩,⟨6,.phase⟩,⟨7,.phase⟩,⟨8,.phase⟩],guard:=none }
def opGc11:Oper:={ dst:=none,op:=Op.store 61 (Operand.tmp 52) (Operand.tmp 50),type:=0,pos := "chain.go:60",after:=#[⟨10,.data⟩,⟨8,.data⟩,⟨8,.chain⟩,⟨0,.phase⟩,⟨1,.phase⟩,⟨2,.phase⟩,⟨3,.phase⟩,⟨4,.phase⟩,⟨5,.phase⟩,⟨6,.phase⟩,⟨7,.phase⟩,⟨8,.phase⟩],guard:=none }
def opGcs:Array Oper:=#[opGc0,opGc1,opGc2,opGc3,opGc4,opGc5,opGc6,opGc7,opGc8,opGc9,opGc10,opGc11]
structure opGcH (W0:World) (g4:Nat) (ny:Nat) (cy:Nat) (n:Nat) (cap:Nat) (m:Nat) (qy:Option Addr) (q:Option Addr) (M:Nat→Nat→Rat) (U:Rat) (z:Nat × FZ) (gb:Nat × Nat × FZ) (av:Option Addr × Nat × Nat) (b6:Bool) (b7:Bool) (w:World):Prop where
 mem:But [] W0 w
 f6:b6=true→YrNew W0.heap.size m M U w z
 f7:b7=true→NewY W0.heap.size m M U w gb
theorem opGcH.but {W0:World} {g4:Nat} {ny:Nat} {cy:Nat} {n:Nat} {cap:Nat} {m:Nat} {qy:Option Addr} {q:Option Addr} {M:Nat→Nat→Rat} {U:Rat} {z:Nat × FZ} {gb:Nat × Nat × FZ} {av:Option Addr × Nat × Nat} {b6 b7:Bool} {w w':World} (h:opGcH W0 g4 ny cy n cap m qy q M U z gb av b6 b7 w) (hb:But [] w w'):opGcH W0 g4 ny cy n cap m qy q M U z gb av b6 b7 w' :=
 { mem:=h.mem.trans' hb,f6:=fun e=>(h.f6 e).but hb,f7:=fun e=>(h.f7 e).but hb }
theorem opGcH.s6 {W0:World} {g4:Nat} {ny:Nat} {cy:Nat} {n:Nat} {cap:Nat} {m:Nat} {qy:Option Addr} {q:Option Addr} {M:Nat→Nat→Rat} {U:Rat} {z:Nat × FZ} {gb:Nat × Nat × FZ} {av:Option Addr × Nat × Nat} {b6 b7:Bool} {w:World} (h:opGcH W0 g4 ny cy n cap m qy q M U z gb av b6 b7 w) (z':Nat × FZ) (hf:YrNew W0.heap.size m M U w z'):opGcH W0 g4 ny cy n cap m qy q M U z' gb av true b7 w :=
 { mem:=h.mem,f6:=fun _=>hf,f7:=h.f7 }
theorem opGcH.s7 {W0:World} {g4:Nat} {ny:Nat} {cy:Nat} {n:Nat} {cap:Nat} {m:Nat} {qy:Option Addr} {q:Option Addr} {M:Nat→Nat→Rat} {U:Rat} {z:Nat × FZ} {gb:Nat × Nat × FZ} {av:Option Addr × Nat × Nat} {b6 b7:Bool} {w:World} (h:opGcH W0 g4 ny cy n cap m qy q M U z gb av b6 b7 w) (gb':Nat × Nat × FZ) (hf:NewY W0.heap.size m M U w gb'):opGcH W0 g4 ny cy n cap m qy q M U z gb' av b6 true w :=
 { mem:=h.mem,f6:=h.f6,f7:=fun _=>hf }
def opGcT (i:Nat):Nat:=match i with
 | 0=>42
 | 1=>43
 | 2=>44
 | 3=>45
 | 4=>46
 | 5=>47
 | 6=>48
 | 7=>49
 | 8=>50
 | 9=>51
 | 10=>52
 | _=>42
def opGcW (i:Nat):Bool:=match i with
 | 11=>false
 | _=>true
def opGcV (g4:Nat) (ny:Nat) (cy:Nat) (n:Nat) (cap:Nat) (m:Nat) (qy:Option Addr) (q:Option Addr) (M:Nat→Nat→Rat) (U:Rat) (z:Nat × FZ) (gb:Nat × Nat × FZ) (av:Option Addr × Nat × Nat) (i:Nat):Value:=match i with
 | 0=>.pointer (some ⟨g4,0,none⟩)
 | 1=>.pointer (some ⟨g4,0,none⟩)
 | 2=>.pointer (some ⟨g4,0,none⟩)
 | 3=>.pointer (some ⟨g4,1,none⟩)
 | 4=>.slice qy ny cy
 | 5=>.slice q n cap
 | 6=>.agg #[.slice (some ⟨z.1,0,none⟩) m m,.bool z.2.1,.int .u64 z.2.2.1,.int .u64 z.2.2.2.1,.pointer z.2.2.2.2]
 | 7=>.slice (some ⟨gb.1,0,none⟩) 1 1
 | 8=>.slice av.1 av.2.1 av.2.2
 | 9=>.pointer (some ⟨g4,0,none⟩)
 | 10=>.pointer (some ⟨g4,1,none⟩)
 | _=>undef
theorem opGc_dep:depOps opGcs [(2,1),(3,2),(4,3),(6,5),(7,6),(8,4),(8,6),(8,7),(9,0),(9,1),(9,2),(9,3),(9,4),(9,5),(9,6),(9,7),(9,8),(10,0),(10,1),(10,2),(10,3),(10,4),(10,5),(10,6),(10,7),(10,8),(10,9),(11,0),(11,1),(11,2),(11,3),(11,4),(11,5),(11,6),(11,7),(11,8),(11,10)]=true:=by kernel_rfl
theorem opGcT_inj:∀ i j,i<12→j<12→opGcW i=true→opGcW j=true→opGcT i=opGcT j→i=j:=fun i j hi hj=>(by decide:∀ i,i<12→∀ j,j<12→opGcW i=true→opGcW j=true→opGcT i=opGcT j→i=j) i hi j hj
theorem new_region12 (id:Nat) (Q:Exit→Act→World→Prop) (base:Act) (W0:World) (g4:Nat) (ny:Nat) (cy:Nat) (n:Nat) (cap:Nat) (m:Nat) (qy:Option Addr) (q:Option Addr) (M:Nat→Nat→Rat) (U:Rat) (Post PostS:Option Addr × Nat × Nat→World→Prop) (hs:52<base.tmps.size) (e4:base.eval (.tmp 4)=.pointer (some ⟨g4,0,none⟩)) (e6:base.eval (.tmp 6)=.slice q n cap)
  (c1:W0.cell? ⟨g4,1,none⟩=some (.slice qy ny cy))  (YO:∀ w,But [] W0 w→Calls Tryz.prog 40 #[.slice q n cap] w fun e w'=>∃ z:Nat × FZ,e=.returned (.agg #[.slice (some ⟨z.1,0,none⟩) m m,.bool z.2.1,.int .u64 z.2.2.1,.int .u64 z.2.2.2.1,.pointer z.2.2.2.2])∧YrNew W0.heap.size m M U w' z∧But [] w w')
  (AP:∀ (z:Nat × FZ) (gb:Nat) w,But [] W0 w→YrNew W0.heap.size m M U w z→NewB W0.heap.size w gb [.slice (some ⟨z.1,0,none⟩) m m,.bool z.2.1,.int .u64 z.2.2.1,.int .u64 z.2.2.2.1,.pointer z.2.2.2.2]→∃ (a:Option Addr × Nat × Nat) (w':World),(Builtin.append_ #[61,61] 61 #[.slice qy ny cy,.slice (some ⟨gb,0,none⟩) 1 1]).run Tryz.prog w=.ok (.slice a.1 a.2.1 a.2.2) w'∧Post a w')
  (SA:∀ (a:Option Addr × Nat × Nat) w,Post a w→(∃ u,w.cell? ⟨g4,1,none⟩=some u)∧w.frozen? ⟨g4,1,none⟩=false∧PostS a (w.setCell ⟨g4,1,none⟩ (.slice a.1 a.2.1 a.2.2)))
  (hQ:∀ (z:Nat × FZ) (gb:Nat × Nat × FZ) (av:Option Addr × Nat × Nat) w1,PostS av w1→Q .normal (putted base [(42,.pointer (some ⟨g4,0,none⟩)),(43,.pointer (some ⟨g4,0,none⟩)),(44,.pointer (some ⟨g4,0,none⟩)),(45,.pointer (some ⟨g4,1,none⟩)),(46,.slice qy ny cy),(47,.slice q n cap),(48,.agg #[.slice (some ⟨z.1,0,none⟩) m m,.bool z.2.1,.int .u64 z.2.2.1,.int .u64 z.2.2.2.1,.pointer z.2.2.2.2]),(49,.slice (some ⟨gb.1,0,none⟩) 1 1),(50,.slice av.1 av.2.1 av.2.2),(51,.pointer (some ⟨g4,0,none⟩)),(52,.pointer (some ⟨g4,1,none⟩))]) w1) :
  (Code.region id opGcs true).wp Tryz.prog Q base W0:=by
 have hT:∀ i,i<12→opGcW i=true→opGcT i<base.tmps.size:=fun i hi _=>by
  have h:opGcT i≤52:=by revert i;decide
  omega
 refine region_all (by kernel_rfl) (low_of (by kernel_rfl)) (bare_of (by kernel_rfl)) (fun (N:(Nat × FZ) × (Nat × Nat × FZ) × (Option Addr × Nat × Nat)) d w=>∃ w1,opGcH W0 g4 ny cy n cap m qy q M U N.1 N.2.1 N.2.2 (d 6) (d 7) w1∧(d 8=false→w=w1)∧(d 8=true→d 11=false→Post N.2.2 w)∧(d 11=true→PostS N.2.2 w)) (fun N=>opGcV g4 ny cy n cap m qy q M U N.1 N.2.1 N.2.2) opGcT opGcW 12 (by kernel_rfl) opGcT_inj hT ((0,false,0,0,none),(0,0,false,0,0,none),(none,0,0)) ⟨_,{ mem:=(But.refl _ _).drew,f6:=fun h=>by simp at h,f7:=fun h=>by simp at h },fun _=>rfl,fun h=>by simp at h,fun h=>by simp at h⟩ ?_ ?_
 ·intro N d i o a w K hi ho hdi hcl hH he hdep hK
  have hD:=dep_is opGc_dep ho (fun j=>d j=true∧(opGcW j=true→a.eval (.tmp (opGcT j))=opGcV g4 ny cy n cap m qy q M U N.1 N.2.1 N.2.2 j)) hdep
  have e4':=(he 4 (fun j hj _ _=>(by decide:∀ j,j<12→(4:Nat)≠opGcT j) j hj)).trans e4
  have e6':=(he 6 (fun j hj _ _=>(by decide:∀ j,j<12→(6:Nat)≠opGcT j) j hj)).trans e6
  have:i=0∨i=1∨i=2∨i=3∨i=4∨i=5∨i=6∨i=7∨i=8∨i=9∨i=10∨i=11:=by omega
  rcases this with rfl | rfl | rfl | rfl | rfl | rfl | rfl | rfl | rfl | rfl | rfl | rfl
  ·obtain rfl:=Option.some.inj ((show opGcs[0]? = some opGc0 from rfl).symm.trans ho)
   exact wp_value (run_mvK a w _ _ _ _ _ _ _ e4') (hK N _ _ (fun _=>rfl) (fun _ _ _ _=>rfl) hH)
  ·obtain rfl:=Option.some.inj ((show opGcs[1]? = some opGc1 from rfl).symm.trans ho)
   exact wp_value (run_mvK a w _ _ _ _ _ _ _ e4') (hK N _ _ (fun _=>rfl) (fun _ _ _ _=>rfl) hH)
  ·obtain rfl:=Option.some.inj ((show opGcs[2]? = some opGc2 from rfl).symm.trans ho)
   exact wp_value (run_Ge13 a w _ _ _ _ _ _ g4 (0) ((hD 1 (by simp)).2 rfl)) (hK N _ _ (fun _=>rfl) (fun _ _ _ _=>rfl) hH)
  ·obtain rfl:=Option.some.inj ((show opGcs[3]? = some opGc3 from rfl).symm.trans ho)
   exact wp_value (run_Ge14 a w _ _ _ _ _ _ g4 (0) (1) rfl ((hD 2 (by simp)).2 rfl)) (hK N _ _ (fun _=>rfl) (fun _ _ _ _=>rfl) hH)
  ·obtain rfl:=Option.some.inj ((show opGcs[4]? = some opGc4 from rfl).symm.trans ho)
   have hs0:d 8=false:=(hcl.not opGc_dep (i:=8) (j:=4) (by simp) hdi)
   have hs1:d 11=false:=(hcl.not opGc_dep (i:=11) (j:=4) (by simp) hdi)
   obtain ⟨w1,hP,h1,h2,h3⟩:=hH
   obtain rfl:=h1 hs0
   have hW:=hP.mem
   exact wp_value (run_Ge15 a w _ _ _ _ _ _ g4 (1) _ ((hD 3 (by simp)).2 rfl) (hW.cell_some c1 (by simp))) (hK N _ _ (fun _=>rfl) (fun _ _ _ _=>rfl) ⟨_,hP,h1,h2,h3⟩)
  ·obtain rfl:=Option.some.inj ((show opGcs[5]? = some opGc5 from rfl).symm.trans ho)
   exact wp_value (run_mvK a w _ _ _ _ _ _ _ e6') (hK N _ _ (fun _=>rfl) (fun _ _ _ _=>rfl) hH)
  ·obtain rfl:=Option.some.inj ((show opGcs[6]? = some opGc6 from rfl).symm.trans ho)
   have hs0:d 8=false:=(hcl.not opGc_dep (i:=8) (j:=6) (by simp) hdi)
   have hs1:d 11=false:=(hcl.not opGc_dep (i:=11) (j:=6) (by simp) hdi)
   obtain ⟨w1,hP,h1,h2,h3⟩:=hH
   obtain rfl:=h1 hs0
   have hW:=hP.mem
   exact wp_enter (run_Ge16 a w _ _ _ _ _ _ _ ((hD 5 (by simp)).2 rfl)) (R:=fun w' u=>∃ v,u=.agg #[.slice (some ⟨v.1,0,none⟩) m m,.bool v.2.1,.int .u64 v.2.2.1,.int .u64 v.2.2.2.1,.pointer v.2.2.2.2]∧(YrNew W0.heap.size m M U w' v)∧But [] w w') ((YO w hW).mono fun e w' ⟨v,he,hf,hb⟩=>⟨_,he,v,rfl,hf,hb⟩) (fun u w' ⟨v,hu,hf,hb⟩=>hK (v,N.2.1,N.2.2) _ _ (fun _=>hu) (fun j hj _ hdj=>by
    have:j=0∨j=1∨j=2∨j=3∨j=4∨j=5∨j=6∨j=7∨j=8∨j=9∨j=10∨j=11:=by omega
    rcases this with rfl | rfl | rfl | rfl | rfl | rfl | rfl | rfl | rfl | rfl | rfl | rfl
    ·rfl
    ·rfl
    ·rfl
    ·rfl
    ·rfl
    ·rfl
    ·exact absurd (hdi.symm.trans hdj) (by simp)
    ·rfl
    ·rfl
    ·rfl
    ·rfl
    ·rfl) ⟨_,((hP.but hb).s6 v hf),fun _=>rfl,fun h=>absurd (hs0.symm.trans h) (by simp),fun h=>absurd (hs1.symm.trans h) (by simp)⟩)
  ·obtain rfl:=Option.some.inj ((show opGcs[7]? = some opGc7 from rfl).symm.trans ho)
   have hs0:d 8=false:=(hcl.not opGc_dep (i:=8) (j:=7) (by simp) hdi)
   have hs1:d 11=false:=(hcl.not opGc_dep (i:=11) (j:=7) (by simp) hdi)
   obtain ⟨w1,hP,h1,h2,h3⟩:=hH
   obtain rfl:=h1 hs0
   have hW:=hP.mem
   have t6:d 6=true:=(hD 6 (by simp)).1
   have bA:But [] w (w.alloc (.cells #[.slice (some ⟨N.1.1,0,none⟩) m m,.bool N.1.2.1,.int .u64 N.1.2.2.1,.int .u64 N.1.2.2.2.1,.pointer N.1.2.2.2.2] 76)):=(But.refl _ _).alloc _
   have hsz:=hW.size
   exact wp_value (run_Ge17 a w _ _ _ _ _ _ _ _ _ _ _ _ _ ((hD 6 (by simp)).2 rfl)) (hK (N.1,(w.heap.size,N.1),N.2.2) _ _ (fun _=>rfl) (fun j hj _ hdj=>by
    have:j=0∨j=1∨j=2∨j=3∨j=4∨j=5∨j=6∨j=7∨j=8∨j=9∨j=10∨j=11:=by omega
    rcases this with rfl | rfl | rfl | rfl | rfl | rfl | rfl | rfl | rfl | rfl | rfl | rfl
    ·rfl
    ·rfl
    ·rfl
    ·rfl
    ·rfl
    ·rfl
    ·rfl
    ·exact absurd (hdi.symm.trans hdj) (by simp)
    ·rfl
    ·rfl
    ·rfl
    ·rfl) ⟨_,((hP.but bA).s7 (w.heap.size,N.1) (NewY.made (hP.f6 t6) hsz _)),fun _=>rfl,fun h=>absurd (hs0.symm.trans h) (by simp),fun h=>absurd (hs1.symm.trans h) (by simp)⟩)
  ·obtain rfl:=Option.some.inj ((show opGcs[8]? = some opGc8 from rfl).symm.trans ho)
   obtain ⟨w1,hP,h1,h2,h3⟩:=hH
   obtain rfl:=h1 hdi
   have hW:=hP.mem
   have t6:d 6=true:=(hD 6 (by simp)).1
   have t7:d 7=true:=(hD 7 (by simp)).1
   obtain ⟨v',w',hr,hpost⟩:=AP N.2.1.2 N.2.1.1 w hW (hP.f7 t7).yr (hP.f7 t7).box
   exact wp_value (run_Ge18 a w _ _ _ _ _ _ _ _ _ w' ((hD 4 (by simp)).2 rfl) ((hD 7 (by simp)).2 rfl) hr) (hK (N.1,N.2.1,v') _ _ (fun _=>rfl) (fun j hj _ hdj=>by
    have:j=0∨j=1∨j=2∨j=3∨j=4∨j=5∨j=6∨j=7∨j=8∨j=9∨j=10∨j=11:=by omega
    rcases this with rfl | rfl | rfl | rfl | rfl | rfl | rfl | rfl | rfl | rfl | rfl | rfl
    ·rfl
    ·rfl
    ·rfl
    ·rfl
    ·rfl
    ·rfl
    ·rfl
    ·rfl
    ·exact absurd (hdi.symm.trans hdj) (by simp)
    ·rfl
    ·rfl
    ·rfl) ⟨w,{ mem:=hP.mem,f6:=hP.f6,f7:=hP.f7 },fun h=>absurd h (by rw [came_self];simp),fun _ _=>hpost,fun h=>absurd ((hcl.not opGc_dep (i:=11) (j:=8) (by simp) hdi).symm.trans h) (by simp)⟩)
  ·obtain rfl:=Option.some.inj ((show opGcs[9]? = some opGc9 from rfl).symm.trans ho)
   exact wp_value (run_Ge13 a w _ _ _ _ _ _ g4 (0) ((hD 0 (by simp)).2 rfl)) (hK N _ _ (fun _=>rfl) (fun _ _ _ _=>rfl) hH)
  ·obtain rfl:=Option.some.inj ((show opGcs[10]? = some opGc10 from rfl).symm.trans ho)
   exact wp_value (run_Ge14 a w _ _ _ _ _ _ g4 (0) (1) rfl ((hD 9 (by simp)).2 rfl)) (hK N _ _ (fun _=>rfl) (fun _ _ _ _=>rfl) hH)
  ·obtain rfl:=Option.some.inj ((show opGcs[11]? = some opGc11 from rfl).symm.trans ho)
   obtain ⟨w1,hP,h1,h2,h3⟩:=hH
   have ta:d 8=true:=(hD 8 (by simp)).1
   obtain ⟨⟨u0,hc⟩,hz,hS⟩:=SA N.2.2 w (h2 ta hdi)
   exact wp_skipped (run_Ge19 a w _ _ _ _ _ g4 (1) _ _ _ _ ((hD 10 (by simp)).2 rfl) ((hD 8 (by simp)).2 rfl) hc hz) (hK N undef _ (fun h=>absurd h (by decide)) (fun _ _ _ _=>rfl) ⟨w1,hP,fun h=>absurd (ta.symm.trans h) (by simp),fun _ h=>absurd h (by rw [came_self];simp),fun _=>hS⟩)
 ·intro N d w hd hH
  obtain ⟨w1,hP,h1,h2,h3⟩:=hH
  exact hQ N.1 N.2.1 N.2.2 w (h3 (hd 11 (by omega)))
end Go.Proofs.YthlnhheblhapgaaGreatDoor
