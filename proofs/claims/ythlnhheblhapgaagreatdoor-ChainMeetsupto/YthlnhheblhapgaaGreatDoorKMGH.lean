/- Rows of chances behind years: the statem -/
import Derived.Test.YthlnhheblhapgaaGreatDoorKMGC
import Derived.Test.YthlnhheblhapgaaGreatDoorKMGR
namespace Go.Proofs.YthlnhheblhapgaaGreatDoor
open Go.RowKit
set_option maxHeartbeats 8000000
set_option maxRecDepth 100000
set_option linter.unusedVariables false
theorem run_Gh0 (a:Act) (w:World) (d t0 t1:Nat) (u:TypeId) (ps:String) (ed:Array Edge) (gd:Option (Nat × Bool)) (z0 z1:Value) (h0:a.eval (.tmp t0)=z0) (h1:a.eval (.tmp t1)=z1) :
  (execOp a.eval { dst:=some d,op:=Op.call { callee:=Callee.value (Operand.func 46),args:=#[Operand.tmp t0,Operand.tmp t1],argTypes:=#[32,41] },type:=u,pos:=ps,after:=ed,guard:=gd }).run Tryz.prog w=.ok (.enter 46 #[z0,z1]) w:=by
 unfold execOp
 go_simp
 rw [← h0,← h1]
 simp [Act.eval]
theorem run_Gh1 (a:Act) (w:World) (d t0 t1:Nat) (u:TypeId) (ps:String) (ed:Array Edge) (gd:Option (Nat × Bool)) (q0:Option Addr) (n0 c0:Nat) (s1:Bool) (x1 y1:Int) (p1:Option Addr) (h0:a.eval (.tmp t0)=.slice q0 n0 c0) (h1:a.eval (.tmp t1)=.agg #[.bool s1,.int .u64 x1,.int .u64 y1,.pointer p1]) :
  (execOp a.eval { dst:=some d,op:=Op.build 68 #[(0,Operand.tmp t0),(1,Operand.tmp t1)],type:=u,pos:=ps,after:=ed,guard:=gd }).run Tryz.prog w=.ok (.value (.agg #[.slice q0 n0 c0,.bool s1,.int .u64 x1,.int .u64 y1,.pointer p1])) w:=by
 unfold execOp
 simp only [List.map_toArray,List.map_cons,List.map_nil,h0,h1]
 go_simp
theorem run_Gh2 (a:Act) (w:World) (t1 t2:Nat) (u:TypeId) (ps:String) (ed:Array Edge) (b o:Nat) (q0:Option Addr) (n0 c0:Nat) (s1:Bool) (x1 y1:Int) (p1:Option Addr) (h1:a.eval (.tmp t1)=.pointer (some ⟨b,o,none⟩)) (h2:a.eval (.tmp t2)=.agg #[.slice q0 n0 c0,.bool s1,.int .u64 x1,.int .u64 y1,.pointer p1]) (k0:∃ u,w.cell? ⟨b,o,none⟩=some u) (k1:∃ u,w.cell? ⟨b,o+1,none⟩=some u) (k2:∃ u,w.cell? ⟨b,o+2,none⟩=some u) (k3:∃ u,w.cell? ⟨b,o+3,none⟩=some u) (k4:∃ u,w.cell? ⟨b,o+4,none⟩=some u) (fz:∀ j,w.frozen? ⟨b,j,none⟩=false) :
  (execOp a.eval { dst:=none,op:=Op.store 68 (.tmp t1) (.tmp t2),type:=u,pos:=ps,after:=ed,guard:=none }).run Tryz.prog w=.ok .skip (w.setCells b o [.slice q0 n0 c0,.bool s1,.int .u64 x1,.int .u64 y1,.pointer p1]):=by
 obtain ⟨u0,e0⟩:=k0
 obtain ⟨u1,e1⟩:=k1
 obtain ⟨u2,e2⟩:=k2
 obtain ⟨u3,e3⟩:=k3
 obtain ⟨u4,e4⟩:=k4
 unfold execOp
 simp only [h1,h2]
 go_simp
 try rfl
def opHa0:Oper:={ dst:=some 7,op:=Op.move (Operand.tmp 0),type := 32,pos := "whole.go:23",after:=#[],guard:=none }
def opHa1:Oper:={ dst:=some 8,op:=Op.load 41 (Operand.tmp 3),type := 41,pos := "whole.go:23",after:=#[],guard:=none }
def opHa2:Oper:={ dst:=some 9,op:=Op.call { callee:=Callee.value (Operand.func 46),args:=#[Operand.tmp 7,Operand.tmp 8],argTypes:=#[32,41] },type := 32,pos := "whole.go:23",after:=#[⟨0,.data⟩,⟨1,.data⟩],guard:=none }
def opHa3:Oper:={ dst:=some 10,op:=Op.load 41 (Operand.tmp 3),type := 41,pos := "whole.go:23",after:=#[],guard:=none }
def opHa4:Oper:={ dst:=some 11,op:=Op.build 68 #[(0,Operand.tmp 9),(1,Operand.tmp 10)],type := 68,pos := "whole.go:23",after:=#[⟨2,.data⟩,⟨3,.data⟩],guard:=none }
def opHa5:Oper:={ dst:=none,op:=Op.store 68 (Operand.tmp 2) (Operand.tmp 11),type:=0,pos := "whole.go:23",after:=#[⟨4,.data⟩,⟨2,.chain⟩,⟨0,.phase⟩,⟨1,.phase⟩,⟨2,.phase⟩,⟨3,.phase⟩,⟨4,.phase⟩],guard:=none }
def opHas:Array Oper:=#[opHa0,opHa1,opHa2,opHa3,opHa4,opHa5]
structure opHaH (W0:World) (q:Option Addr) (n:Nat) (c:Nat) (g2:Nat) (g3:Nat) (F:Nat→Rat) (s1:Bool) (x1:Int) (y1:Int) (p1:Option Addr) (gr:Nat) (b2:Bool) (w:World):Prop where
 mem:But [] W0 w
 f2:b2=true→NewR W0.heap.size w gr n F
theorem opHaH.but {W0:World} {q:Option Addr} {n:Nat} {c:Nat} {g2:Nat} {g3:Nat} {F:Nat→Rat} {s1:Bool} {x1:Int} {y1:Int} {p1:Option Addr} {gr:Nat} {b2:Bool} {w w':World} (h:opHaH W0 q n c g2 g3 F s1 x1 y1 p1 gr b2 w) (hb:But [] w w'):opHaH W0 q n c g2 g3 F s1 x1 y1 p1 gr b2 w' :=
 { mem:=h.mem.trans' hb,f2:=fun e=>(h.f2 e).but hb }
theorem opHaH.s2 {W0:World} {q:Option Addr} {n:Nat} {c:Nat} {g2:Nat} {g3:Nat} {F:Nat→Rat} {s1:Bool} {x1:Int} {y1:Int} {p1:Option Addr} {gr:Nat} {b2:Bool} {w:World} (h:opHaH W0 q n c g2 g3 F s1 x1 y1 p1 gr b2 w) (gr':Nat) (hf:NewR W0.heap.size w gr' n F):opHaH W0 q n c g2 g3 F s1 x1 y1 p1 gr' true w :=
 { mem:=h.mem,f2:=fun _=>hf }
def opHaT (i:Nat):Nat:=match i with
 | 0=>7
 | 1=>8
 | 2=>9
 | 3=>10
 | 4=>11
 | _=>7
def opHaW (i:Nat):Bool:=match i with
 | 5=>false
 | _=>true
def opHaV (q:Option Addr) (n:Nat) (c:Nat) (g2:Nat) (g3:Nat) (F:Nat→Rat) (s1:Bool) (x1:Int) (y1:Int) (p1:Option Addr) (gr:Nat) (i:Nat):Value:=match i with
 | 0=>.slice q n c
 | 1=>.agg #[.bool s1,.int .u64 x1,.int .u64 y1,.pointer p1]
 | 2=>.slice (some ⟨gr,0,none⟩) n n
 | 3=>.agg #[.bool s1,.int .u64 x1,.int .u64 y1,.pointer p1]
 | 4=>.agg #[.slice (some ⟨gr,0,none⟩) n n,.bool s1,.int .u64 x1,.int .u64 y1,.pointer p1]
 | _=>undef
theorem opHa_dep:depOps opHas [(2,0),(2,1),(4,2),(4,3),(5,0),(5,1),(5,2),(5,3),(5,4)]=true:=by kernel_rfl
theorem opHaT_inj:∀ i j,i<6→j<6→opHaW i=true→opHaW j=true→opHaT i=opHaT j→i=j:=fun i j hi hj=>(by decide:∀ i,i<6→∀ j,j<6→opHaW i=true→opHaW j=true→opHaT i=opHaT j→i=j) i hi j hj
theorem rowOf_region2 (id:Nat) (Q:Exit→Act→World→Prop) (base:Act) (W0:World) (q:Option Addr) (n:Nat) (c:Nat) (g2:Nat) (g3:Nat) (F:Nat→Rat) (s1:Bool) (x1:Int) (y1:Int) (p1:Option Addr) (hs:11<base.tmps.size) (e0:base.eval (.tmp 0)=.slice q n c) (e2:base.eval (.tmp 2)=.pointer (some ⟨g2,0,none⟩)) (e3:base.eval (.tmp 3)=.pointer (some ⟨g3,0,none⟩))
  (c1:P4o W0 g3 (0) s1 x1 y1 p1) (x2:∀ k,k<5→∃ u,W0.cell? ⟨g2,k,none⟩=some u) (f2:∀ j,W0.frozen? ⟨g2,j,none⟩=false) (TI:∀ w,But [] W0 w→Calls Tryz.prog 46 #[.slice q n c,.agg #[.bool s1,.int .u64 x1,.int .u64 y1,.pointer p1]] w fun e w'=>∃ g,e=.returned (.slice (some ⟨g,0,none⟩) n n)∧NewR W0.heap.size w' g n F∧But [] w w')
  (hQ:∀ (gr:Nat) w1,opHaH W0 q n c g2 g3 F s1 x1 y1 p1 gr true w1→Q .normal (putted base [(7,.slice q n c),(8,.agg #[.bool s1,.int .u64 x1,.int .u64 y1,.pointer p1]),(9,.slice (some ⟨gr,0,none⟩) n n),(10,.agg #[.bool s1,.int .u64 x1,.int .u64 y1,.pointer p1]),(11,.agg #[.slice (some ⟨gr,0,none⟩) n n,.bool s1,.int .u64 x1,.int .u64 y1,.pointer p1])]) (w1.setCells g2 (0) [.slice (some ⟨gr,0,none⟩) n n,.bool s1,.int .u64 x1,.int .u64 y1,.pointer p1])) :
  (Code.region id opHas true).wp Tryz.prog Q base W0:=by
 have hT:∀ i,i<6→opHaW i=true→opHaT i<base.tmps.size:=fun i hi _=>by
  have h:opHaT i≤11:=by revert i;decide
  omega
 refine region_all (by kernel_rfl) (low_of (by kernel_rfl)) (bare_of (by kernel_rfl)) (fun (N:(Nat)) d w=>∃ w1,opHaH W0 q n c g2 g3 F s1 x1 y1 p1 N (d 2) w1∧(d 5=false→w=w1)∧(d 5=true→w=(w1.setCells g2 (0) [.slice (some ⟨N,0,none⟩) n n,.bool s1,.int .u64 x1,.int .u64 y1,.pointer p1]))) (fun N=>opHaV q n c g2 g3 F s1 x1 y1 p1 N) opHaT opHaW 6 (by kernel_rfl) opHaT_inj hT (0) ⟨_,{ mem:=(But.refl _ _).drew,f2:=fun h=>by simp at h },fun _=>rfl,fun h=>by simp at h⟩ ?_ ?_
 ·intro N d i o a w K hi ho hdi hcl hH he hdep hK
  have hD:=dep_is opHa_dep ho (fun j=>d j=true∧(opHaW j=true→a.eval (.tmp (opHaT j))=opHaV q n c g2 g3 F s1 x1 y1 p1 N j)) hdep
  have e0':=(he 0 (fun j hj _ _=>(by decide:∀ j,j<6→(0:Nat)≠opHaT j) j hj)).trans e0
  have e2':=(he 2 (fun j hj _ _=>(by decide:∀ j,j<6→(2:Nat)≠opHaT j) j hj)).trans e2
  have e3':=(he 3 (fun j hj _ _=>(by decide:∀ j,j<6→(3:Nat)≠opHaT j) j hj)).trans e3
  have:i=0∨i=1∨i=2∨i=3∨i=4∨i=5:=by omega
  rcases this with rfl | rfl | rfl | rfl | rfl | rfl
  ·obtain rfl:=Option.some.inj ((show opHas[0]? = some opHa0 from rfl).symm.trans ho)
   exact wp_value (run_mvK a w _ _ _ _ _ _ _ e0') (hK N _ _ (fun _=>rfl) (fun _ _ _ _=>rfl) hH)
  ·obtain rfl:=Option.some.inj ((show opHas[1]? = some opHa1 from rfl).symm.trans ho)
   have hs0:d 5=false:=(hcl.not opHa_dep (i:=5) (j:=1) (by simp) hdi)
   obtain ⟨w1,hP,h1,h2⟩:=hH
   obtain rfl:=h1 hs0
   have hW:=hP.mem
   exact wp_value (run_loadK a w _ _ _ _ _ _ g3 (0) _ _ _ _ e3' (c1.but hW (by simp))) (hK N _ _ (fun _=>rfl) (fun _ _ _ _=>rfl) ⟨_,hP,h1,h2⟩)
  ·obtain rfl:=Option.some.inj ((show opHas[2]? = some opHa2 from rfl).symm.trans ho)
   have hs0:d 5=false:=(hcl.not opHa_dep (i:=5) (j:=2) (by simp) hdi)
   obtain ⟨w1,hP,h1,h2⟩:=hH
   obtain rfl:=h1 hs0
   have hW:=hP.mem
   exact wp_enter (run_Gh0 a w _ _ _ _ _ _ _ _ _ ((hD 0 (by simp)).2 rfl) ((hD 1 (by simp)).2 rfl)) (R:=fun w' u=>∃ v,u=.slice (some ⟨v,0,none⟩) n n∧(NewR W0.heap.size w' v n F)∧But [] w w') ((TI w hW).mono fun e w' ⟨v,he,hf,hb⟩=>⟨_,he,v,rfl,hf,hb⟩) (fun u w' ⟨v,hu,hf,hb⟩=>hK (v) _ _ (fun _=>hu) (fun j hj _ hdj=>by
    have:j=0∨j=1∨j=2∨j=3∨j=4∨j=5:=by omega
    rcases this with rfl | rfl | rfl | rfl | rfl | rfl
    ·rfl
    ·rfl
    ·exact absurd (hdi.symm.trans hdj) (by simp)
    ·rfl
    ·exact absurd ((hcl.not opHa_dep (i:=4) (j:=2) (by simp) hdi).symm.trans hdj) (by simp)
    ·rfl) ⟨_,((hP.but hb).s2 v hf),fun _=>rfl,fun h=>absurd (hs0.symm.trans h) (by simp)⟩)
  ·obtain rfl:=Option.some.inj ((show opHas[3]? = some opHa3 from rfl).symm.trans ho)
   have hs0:d 5=false:=(hcl.not opHa_dep (i:=5) (j:=3) (by simp) hdi)
   obtain ⟨w1,hP,h1,h2⟩:=hH
   obtain rfl:=h1 hs0
   have hW:=hP.mem
   exact wp_value (run_loadK a w _ _ _ _ _ _ g3 (0) _ _ _ _ e3' (c1.but hW (by simp))) (hK N _ _ (fun _=>rfl) (fun _ _ _ _=>rfl) ⟨_,hP,h1,h2⟩)
  ·obtain rfl:=Option.some.inj ((show opHas[4]? = some opHa4 from rfl).symm.trans ho)
   exact wp_value (run_Gh1 a w _ _ _ _ _ _ _ _ _ _ _ _ _ _ ((hD 2 (by simp)).2 rfl) ((hD 3 (by simp)).2 rfl)) (hK N _ _ (fun _=>rfl) (fun _ _ _ _=>rfl) hH)
  ·obtain rfl:=Option.some.inj ((show opHas[5]? = some opHa5 from rfl).symm.trans ho)
   obtain ⟨w1,hP,h1,h2⟩:=hH
   obtain rfl:=h1 hdi
   have hW:=hP.mem
   have t2:d 2=true:=(hD 2 (by simp)).1
   have hx:∀ k,k<5→∃ u,w.cell? ⟨g2,k,none⟩=some u:=fun k hk=>(x2 k hk).elim fun u hu=>⟨u,hW.cell_some hu (by simp)⟩
   exact wp_skipped (run_Gh2 a w _ _ _ _ _ g2 (0) _ _ _ _ _ _ _ e2' ((hD 4 (by simp)).2 rfl) (hx 0 (by omega)) (hx 1 (by omega)) (hx 2 (by omega)) (hx 3 (by omega)) (hx 4 (by omega)) (fun j=>(hW.frozen (p:=⟨g2,j,none⟩) ((x2 0 (by omega)).elim fun u hu=>show g2<_ from lt_of_cell hu) (by simp)).trans (f2 j))) (hK N undef _ (fun h=>absurd h (by decide)) (fun _ _ _ _=>rfl) ⟨w,hP,fun h=>absurd h (by rw [came_self];simp),fun _=>rfl⟩)
 ·intro N d w hd hH
  obtain ⟨w1,hP,h1,h2⟩:=hH
  rw [h2 (hd 5 (by omega))]
  rw [hd 2 (by omega)] at hP
  exact hQ N w1 hP
theorem run_Gh3 (a:Act) (w:World) (d t:Nat) (u:TypeId) (ps:String) (ed:Array Edge) (gd:Option (Nat × Bool)) (b o o':Nat) (ho:o+0=o') (h1:a.eval (.tmp t)=.pointer (some ⟨b,o,none⟩)) :
  (execOp a.eval { dst:=some d,op:=Op.fieldAddr 68 (.tmp t) 0,type:=u,pos:=ps,after:=ed,guard:=gd }).run Tryz.prog w=.ok (.value (.pointer (some ⟨b,o',none⟩))) w:=by
 subst ho
 unfold execOp
 simp only [h1]
 go_simp
theorem run_Gh4 (a:Act) (w:World) (d t:Nat) (u:TypeId) (ps:String) (ed:Array Edge) (gd:Option (Nat × Bool)) (b o:Nat) (v:Value) (h1:a.eval (.tmp t)=.pointer (some ⟨b,o,none⟩)) (hc:w.cell? ⟨b,o,none⟩=some v) :
  (execOp a.eval { dst:=some d,op:=Op.load 32 (.tmp t),type:=u,pos:=ps,after:=ed,guard:=gd }).run Tryz.prog w=.ok (.value v) w:=by
 unfold execOp
 simp only [h1]
 go_simp
theorem run_Gh5 (a:Act) (w:World) (d t:Nat) (u:TypeId) (ps:String) (ed:Array Edge) (gd:Option (Nat × Bool)) (q:Option Addr) (n c:Nat) (h1:a.eval (.tmp t)=.slice q n c) :
  (execOp a.eval { dst:=some d,op:=Op.call { callee:=Callee.builtin Builtin.len,args:=#[Operand.tmp t],argTypes:=#[32] },type:=u,pos:=ps,after:=ed,guard:=gd }).run Tryz.prog w=.ok (.value (.int .i64 (n:Int))) w:=by
 unfold execOp
 simp only [resolve,invoke,builtin,Sem.run_bind,Sem.run_pure,Result.andThen_ok,List.map_toArray,List.map_cons,List.map_nil,h1]
 go_simp
theorem run_Gh6 (a:Act) (w:World) (d t:Nat) (u:TypeId) (ps:String) (ed:Array Edge) (gd:Option (Nat × Bool)) (n:Nat) (hn:n<1000000) (h:a.eval (.tmp t)=.int .i64 (n:Int)) :
  (execOp a.eval { dst:=some d,op:=Op.makeSlice 32 (.tmp t) (.tmp t),type:=u,pos:=ps,after:=ed,guard:=gd }).run Tryz.prog w=.ok (.value (.slice (some ⟨w.heap.size,0,none⟩) n n)) (w.alloc (.cells (madeCells #[.bool false,.int .u64 0,.int .u64 0,.pointer none] (n*4)) 41)):=by
 have hmk:=run_makeF w n hn
 unfold execOp
 simp only [h]
 go_simp
theorem run_Gh7 (a:Act) (w:World) (d t:Nat) (u:TypeId) (ps:String) (ed:Array Edge) (gd:Option (Nat × Bool)) (b o o':Nat) (ho:o+1=o') (h1:a.eval (.tmp t)=.pointer (some ⟨b,o,none⟩)) :
  (execOp a.eval { dst:=some d,op:=Op.fieldAddr 68 (.tmp t) 1,type:=u,pos:=ps,after:=ed,guard:=gd }).run Tryz.prog w=.ok (.value (.pointer (some ⟨b,o',none⟩))) w:=by
 subst ho
 unfold execOp
 simp only [h1]
 go_simp
theorem run_Gh8 (a:Act) (w:World) (d t:Nat) (u:TypeId) (ps:String) (ed:Array Edge) (gd:Option (Nat × Bool)) (b o o':Nat) (ho:o+1=o') (h1:a.eval (.tmp t)=.pointer (some ⟨b,o,none⟩)) :
  (execOp a.eval { dst:=some d,op:=Op.fieldAddr 76 (.tmp t) 1,type:=u,pos:=ps,after:=ed,guard:=gd }).run Tryz.prog w=.ok (.value (.pointer (some ⟨b,o',none⟩))) w:=by
 subst ho
 unfold execOp
 simp only [h1]
 go_simp
theorem run_Gh9 (a:Act) (w:World) (d t0 t1:Nat) (u:TypeId) (ps:String) (ed:Array Edge) (gd:Option (Nat × Bool)) (z0 z1:Value) (h0:a.eval (.tmp t0)=z0) (h1:a.eval (.tmp t1)=z1) :
  (execOp a.eval { dst:=some d,op:=Op.call { callee:=Callee.value (Operand.func 49),args:=#[Operand.tmp t0,Operand.tmp t1],argTypes:=#[41,41] },type:=u,pos:=ps,after:=ed,guard:=gd }).run Tryz.prog w=.ok (.enter 49 #[z0,z1]) w:=by
 unfold execOp
 go_simp
 rw [← h0,← h1]
 simp [Act.eval]
theorem run_Gh10 (a:Act) (w:World) (d:Nat) (u:TypeId) (ps:String) (ed:Array Edge) (gd:Option (Nat × Bool)) :
  (execOp a.eval { dst:=some d,op:=Op.alloc 68,type:=u,pos:=ps,after:=ed,guard:=gd }).run Tryz.prog w=.ok (.value (.pointer (some ⟨w.heap.size,0,none⟩))) (w.alloc (.cells #[.slice none 0 0,.bool false,.int .u64 0,.int .u64 0,.pointer none] 68)):=by
 unfold execOp
 go_simp
def opHb0:Oper:={ dst:=some 8,op:=Op.fieldAddr 68 (Operand.tmp 2) 0,type:=0,pos := "whole.go:37",after:=#[],guard:=none }
def opHb1:Oper:={ dst:=some 9,op:=Op.load 32 (Operand.tmp 8),type := 32,pos := "whole.go:37",after:=#[⟨0,.data⟩],guard:=none }
def opHb2:Oper:={ dst:=some 10,op:=Op.call { callee:=Callee.builtin Builtin.len,args:=#[Operand.tmp 9],argTypes:=#[32] },type := 3,pos := "whole.go:37",after:=#[⟨1,.data⟩],guard:=none }
def opHb3:Oper:={ dst:=some 11,op:=Op.makeSlice 32 (Operand.tmp 10) (Operand.tmp 10),type := 32,pos := "whole.go:37",after:=#[⟨2,.data⟩,⟨2,.data⟩],guard:=none }
def opHb4:Oper:={ dst:=some 12,op:=Op.fieldAddr 68 (Operand.tmp 2) 1,type:=0,pos := "whole.go:37",after:=#[],guard:=none }
def opHb5:Oper:={ dst:=some 13,op:=Op.load 41 (Operand.tmp 12),type := 41,pos := "whole.go:37",after:=#[⟨4,.data⟩],guard:=none }
def opHb6:Oper:={ dst:=some 14,op:=Op.fieldAddr 76 (Operand.tmp 3) 1,type:=0,pos := "whole.go:37",after:=#[],guard:=none }
def opHb7:Oper:={ dst:=some 15,op:=Op.load 41 (Operand.tmp 14),type := 41,pos := "whole.go:37",after:=#[⟨6,.data⟩],guard:=none }
def opHb8:Oper:={ dst:=some 16,op:=Op.call { callee:=Callee.value (Operand.func 49),args:=#[Operand.tmp 13,Operand.tmp 15],argTypes:=#[41,41] },type := 41,pos := "whole.go:37",after:=#[⟨5,.data⟩,⟨7,.data⟩],guard:=none }
def opHb9:Oper:={ dst:=some 17,op:=Op.build 68 #[(0,Operand.tmp 11),(1,Operand.tmp 16)],type := 68,pos := "whole.go:37",after:=#[⟨3,.data⟩,⟨8,.data⟩],guard:=none }
def opHb10:Oper:={ dst:=some 5,op:=Op.alloc 68,type:=0,pos := "whole.go:37",after:=#[],guard:=none }
def opHb11:Oper:={ dst:=none,op:=Op.store 68 (Operand.tmp 5) (Operand.tmp 17),type:=0,pos := "whole.go:37",after:=#[⟨10,.data⟩,⟨9,.data⟩,⟨8,.chain⟩,⟨0,.phase⟩,⟨1,.phase⟩,⟨2,.phase⟩,⟨3,.phase⟩,⟨4,.phase⟩,⟨5,.phase⟩,⟨6,.phase⟩,⟨7,.phase⟩,⟨8,.phase⟩,⟨9,.phase⟩,⟨10,.phase⟩],guard:=none }
def opHbs:Array Oper:=#[opHb0,opHb1,opHb2,opHb3,opHb4,opHb5,opHb6,opHb7,opHb8,opHb9,opHb10,opHb11]
structure opHbH (W0:World) (g2:Nat) (g3:Nat) (gR:Nat) (n:Nat) (U:Rat) (s1:Bool) (x1:Int) (y1:Int) (p1:Option Addr) (s2:Bool) (x2:Int) (y2:Int) (p2:Option Addr) (gn:Nat) (z:FZ) (g5:Nat) (b3:Bool) (b8:Bool) (b10:Bool) (w:World):Prop where
 mem:But [] W0 w
 f3:b3=true→NewR W0.heap.size w gn n (fun _=>0)
 f8:b8=true→FracAt w (.agg #[.bool z.1,.int .u64 z.2.1,.int .u64 z.2.2.1,.pointer z.2.2.2]) (U)
 f10:b10=true→NewB W0.heap.size w g5 [.slice none 0 0,.bool false,.int .u64 0,.int .u64 0,.pointer none]
 x3_10:b3=true→b10=true→gn≠g5
theorem opHbH.but {W0:World} {g2:Nat} {g3:Nat} {gR:Nat} {n:Nat} {U:Rat} {s1:Bool} {x1:Int} {y1:Int} {p1:Option Addr} {s2:Bool} {x2:Int} {y2:Int} {p2:Option Addr} {gn:Nat} {z:FZ} {g5:Nat} {b3 b8 b10:Bool} {w w':World} (h:opHbH W0 g2 g3 gR n U s1 x1 y1 p1 s2 x2 y2 p2 gn z g5 b3 b8 b10 w) (hb:But [] w w'):opHbH W0 g2 g3 gR n U s1 x1 y1 p1 s2 x2 y2 p2 gn z g5 b3 b8 b10 w' :=
 { mem:=h.mem.trans' hb,f3:=fun e=>(h.f3 e).but hb,f8:=fun e=>(h.f8 e).but hb,f10:=fun e=>(h.f10 e).but hb,x3_10:=h.x3_10 }
theorem opHbH.s3 {W0:World} {g2:Nat} {g3:Nat} {gR:Nat} {n:Nat} {U:Rat} {s1:Bool} {x1:Int} {y1:Int} {p1:Option Addr} {s2:Bool} {x2:Int} {y2:Int} {p2:Option Addr} {gn:Nat} {z:FZ} {g5:Nat} {b3 b8 b10:Bool} {w:World} (h:opHbH W0 g2 g3 gR n U s1 x1 y1 p1 s2 x2 y2 p2 gn z g5 b3 b8 b10 w) (gn':Nat) (hf:NewR W0.heap.size w gn' n (fun _=>0)) (k3_10:b10=true→gn'≠g5):opHbH W0 g2 g3 gR n U s1 x1 y1 p1 s2 x2 y2 p2 gn' z g5 true b8 b10 w :=
 { mem:=h.mem,f3:=fun _=>hf,f8:=h.f8,f10:=h.f10,x3_10:=fun _ e=>k3_10 e }
theorem opHbH.s8 {W0:World} {g2:Nat} {g3:Nat} {gR:Nat} {n:Nat} {U:Rat} {s1:Bool} {x1:Int} {y1:Int} {p1:Option Addr} {s2:Bool} {x2:Int} {y2:Int} {p2:Option Addr} {gn:Nat} {z:FZ} {g5:Nat} {b3 b8 b10:Bool} {w:World} (h:opHbH W0 g2 g3 gR n U s1 x1 y1 p1 s2 x2 y2 p2 gn z g5 b3 b8 b10 w) (z':FZ) (hf:FracAt w (.agg #[.bool z'.1,.int .u64 z'.2.1,.int .u64 z'.2.2.1,.pointer z'.2.2.2]) (U)):opHbH W0 g2 g3 gR n U s1 x1 y1 p1 s2 x2 y2 p2 gn z' g5 b3 true b10 w :=
 { mem:=h.mem,f3:=h.f3,f8:=fun _=>hf,f10:=h.f10,x3_10:=h.x3_10 }
theorem opHbH.s10 {W0:World} {g2:Nat} {g3:Nat} {gR:Nat} {n:Nat} {U:Rat} {s1:Bool} {x1:Int} {y1:Int} {p1:Option Addr} {s2:Bool} {x2:Int} {y2:Int} {p2:Option Addr} {gn:Nat} {z:FZ} {g5:Nat} {b3 b8 b10:Bool} {w:World} (h:opHbH W0 g2 g3 gR n U s1 x1 y1 p1 s2 x2 y2 p2 gn z g5 b3 b8 b10 w) (g5':Nat) (hf:NewB W0.heap.size w g5' [.slice none 0 0,.bool false,.int .u64 0,.int .u64 0,.pointer none]) (k3_10:b3=true→gn≠g5'):opHbH W0 g2 g3 gR n U s1 x1 y1 p1 s2 x2 y2 p2 gn z g5' b3 b8 true w :=
 { mem:=h.mem,f3:=h.f3,f8:=h.f8,f10:=fun _=>hf,x3_10:=fun e _=>k3_10 e }
def opHbT (i:Nat):Nat:=match i with
 | 0=>8
 | 1=>9
 | 2=>10
 | 3=>11
 | 4=>12
 | 5=>13
 | 6=>14
 | 7=>15
 | 8=>16
 | 9=>17
 | 10=>5
 | _=>8
def opHbW (i:Nat):Bool:=match i with
 | 11=>false
 | _=>true
def opHbV (g2:Nat) (g3:Nat) (gR:Nat) (n:Nat) (U:Rat) (s1:Bool) (x1:Int) (y1:Int) (p1:Option Addr) (s2:Bool) (x2:Int) (y2:Int) (p2:Option Addr) (gn:Nat) (z:FZ) (g5:Nat) (i:Nat):Value:=match i with
 | 0=>.pointer (some ⟨g2,0,none⟩)
 | 1=>.slice (some ⟨gR,0,none⟩) n n
 | 2=>.int .i64 (n:Int)
 | 3=>.slice (some ⟨gn,0,none⟩) n n
 | 4=>.pointer (some ⟨g2,1,none⟩)
 | 5=>.agg #[.bool s1,.int .u64 x1,.int .u64 y1,.pointer p1]
 | 6=>.pointer (some ⟨g3,1,none⟩)
 | 7=>.agg #[.bool s2,.int .u64 x2,.int .u64 y2,.pointer p2]
 | 8=>.agg #[.bool z.1,.int .u64 z.2.1,.int .u64 z.2.2.1,.pointer z.2.2.2]
 | 9=>.agg #[.slice (some ⟨gn,0,none⟩) n n,.bool z.1,.int .u64 z.2.1,.int .u64 z.2.2.1,.pointer z.2.2.2]
 | 10=>.pointer (some ⟨g5,0,none⟩)
 | _=>undef
theorem opHb_dep:depOps opHbs [(1,0),(2,1),(3,2),(5,4),(7,6),(8,5),(8,7),(9,3),(9,8),(11,0),(11,1),(11,2),(11,3),(11,4),(11,5),(11,6),(11,7),(11,8),(11,9),(11,10)]=true:=by kernel_rfl
theorem opHbT_inj:∀ i j,i<12→j<12→opHbW i=true→opHbW j=true→opHbT i=opHbT j→i=j:=fun i j hi hj=>(by decide:∀ i,i<12→∀ j,j<12→opHbW i=true→opHbW j=true→opHbT i=opHbT j→i=j) i hi j hj
theorem behind_region1 (id:Nat) (Q:Exit→Act→World→Prop) (base:Act) (W0:World) (g2:Nat) (g3:Nat) (gR:Nat) (n:Nat) (U:Rat) (s1:Bool) (x1:Int) (y1:Int) (p1:Option Addr) (s2:Bool) (x2:Int) (y2:Int) (p2:Option Addr) (hs:17<base.tmps.size) (e2:base.eval (.tmp 2)=.pointer (some ⟨g2,0,none⟩)) (e3:base.eval (.tmp 3)=.pointer (some ⟨g3,0,none⟩))
  (hn:n<1000000) (c0:W0.cell? ⟨g2,0,none⟩=some (.slice (some ⟨gR,0,none⟩) n n)) (c1:P4o W0 g2 (1) s1 x1 y1 p1) (c2:P4o W0 g3 (1) s2 x2 y2 p2) (MU:∀ w,But [] W0 w→Calls Tryz.prog 49 #[.agg #[.bool s1,.int .u64 x1,.int .u64 y1,.pointer p1],.agg #[.bool s2,.int .u64 x2,.int .u64 y2,.pointer p2]] w fun e w'=>∃ z:FZ,e=.returned (.agg #[.bool z.1,.int .u64 z.2.1,.int .u64 z.2.2.1,.pointer z.2.2.2])∧FracAt w' (.agg #[.bool z.1,.int .u64 z.2.1,.int .u64 z.2.2.1,.pointer z.2.2.2]) (U)∧But [] w w')
  (hQ:∀ (gn:Nat) (z:FZ) (g5:Nat) w1,opHbH W0 g2 g3 gR n U s1 x1 y1 p1 s2 x2 y2 p2 gn z g5 true true true w1→Q .normal (putted base [(8,.pointer (some ⟨g2,0,none⟩)),(9,.slice (some ⟨gR,0,none⟩) n n),(10,.int .i64 (n:Int)),(11,.slice (some ⟨gn,0,none⟩) n n),(12,.pointer (some ⟨g2,1,none⟩)),(13,.agg #[.bool s1,.int .u64 x1,.int .u64 y1,.pointer p1]),(14,.pointer (some ⟨g3,1,none⟩)),(15,.agg #[.bool s2,.int .u64 x2,.int .u64 y2,.pointer p2]),(16,.agg #[.bool z.1,.int .u64 z.2.1,.int .u64 z.2.2.1,.pointer z.2.2.2]),(17,.agg #[.slice (some ⟨gn,0,none⟩) n n,.bool z.1,.int .u64 z.2.1,.int .u64 z.2.2.1,.pointer z.2.2.2]),(5,.pointer (some ⟨g5,0,none⟩))]) (w1.setCells g5 (0) [.slice (some ⟨gn,0,none⟩) n n,.bool z.1,.int .u64 z.2.1,.int .u64 z.2.2.1,.pointer z.2.2.2])) :
  (Code.region id opHbs true).wp Tryz.prog Q base W0:=by
 have hT:∀ i,i<12→opHbW i=true→opHbT i<base.tmps.size:=fun i hi _=>by
  have h:opHbT i≤17:=by revert i;decide
  omega
 refine region_all (by kernel_rfl) (low_of (by kernel_rfl)) (bare_of (by kernel_rfl)) (fun (N:(Nat) × (FZ) × (Nat)) d w=>∃ w1,opHbH W0 g2 g3 gR n U s1 x1 y1 p1 s2 x2 y2 p2 N.1 N.2.1 N.2.2 (d 3) (d 8) (d 10) w1∧(d 11=false→w=w1)∧(d 11=true→w=(w1.setCells N.2.2 (0) [.slice (some ⟨N.1,0,none⟩) n n,.bool N.2.1.1,.int .u64 N.2.1.2.1,.int .u64 N.2.1.2.2.1,.pointer N.2.1.2.2.2]))) (fun N=>opHbV g2 g3 gR n U s1 x1 y1 p1 s2 x2 y2 p2 N.1 N.2.1 N.2.2) opHbT opHbW 12 (by kernel_rfl) opHbT_inj hT (0,(false,0,0,none),0) ⟨_,{ mem:=(But.refl _ _).drew,f3:=fun h=>by simp at h,f8:=fun h=>by simp at h,f10:=fun h=>by simp at h,x3_10:=fun h=>by simp at h },fun _=>rfl,fun h=>by simp at h⟩ ?_ ?_
 ·intro N d i o a w K hi ho hdi hcl hH he hdep hK
  have hD:=dep_is opHb_dep ho (fun j=>d j=true∧(opHbW j=true→a.eval (.tmp (opHbT j))=opHbV g2 g3 gR n U s1 x1 y1 p1 s2 x2 y2 p2 N.1 N.2.1 N.2.2 j)) hdep
  have e2':=(he 2 (fun j hj _ _=>(by decide:∀ j,j<12→(2:Nat)≠opHbT j) j hj)).trans e2
  have e3':=(he 3 (fun j hj _ _=>(by decide:∀ j,j<12→(3:Nat)≠opHbT j) j hj)).trans e3
  have:i=0∨i=1∨i=2∨i=3∨i=4∨i=5∨i=6∨i=7∨i=8∨i=9∨i=10∨i=11:=by omega
  rcases this with rfl | rfl | rfl | rfl | rfl | rfl | rfl | rfl | rfl | rfl | rfl | rfl
  ·obtain rfl:=Option.some.inj ((show opHbs[0]? = some opHb0 from rfl).symm.trans ho)
   exact wp_value (run_Gh3 a w _ _ _ _ _ _ g2 (0) (0) rfl e2') (hK N _ _ (fun _=>rfl) (fun _ _ _ _=>rfl) hH)
  ·obtain rfl:=Option.some.inj ((show opHbs[1]? = some opHb1 from rfl).symm.trans ho)
   have hs0:d 11=false:=(hcl.not opHb_dep (i:=11) (j:=1) (by simp) hdi)
   obtain ⟨w1,hP,h1,h2⟩:=hH
   obtain rfl:=h1 hs0
   have hW:=hP.mem
   exact wp_value (run_Gh4 a w _ _ _ _ _ _ g2 (0) _ ((hD 0 (by simp)).2 rfl) (hW.cell_some c0 (by simp))) (hK N _ _ (fun _=>rfl) (fun _ _ _ _=>rfl) ⟨_,hP,h1,h2⟩)
  ·obtain rfl:=Option.some.inj ((show opHbs[2]? = some opHb2 from rfl).symm.trans ho)
   exact wp_value (run_Gh5 a w _ _ _ _ _ _ _ _ _ ((hD 1 (by simp)).2 rfl)) (hK N _ _ (fun _=>rfl) (fun _ _ _ _=>rfl) hH)
  ·obtain rfl:=Option.some.inj ((show opHbs[3]? = some opHb3 from rfl).symm.trans ho)
   have hs0:d 11=false:=(hcl.not opHb_dep (i:=11) (j:=3) (by simp) hdi)
   obtain ⟨w1,hP,h1,h2⟩:=hH
   obtain rfl:=h1 hs0
   have hW:=hP.mem
   have bA:But [] w (w.alloc (.cells (madeCells #[.bool false,.int .u64 0,.int .u64 0,.pointer none] (n*4)) 41)):=(But.refl _ _).alloc _
   have hsz:=hW.size
   exact wp_value (run_Gh6 a w _ _ _ _ _ _ n hn ((hD 2 (by simp)).2 rfl)) (hK (w.heap.size,N.2.1,N.2.2) _ _ (fun _=>rfl) (fun j hj _ hdj=>by
    have:j=0∨j=1∨j=2∨j=3∨j=4∨j=5∨j=6∨j=7∨j=8∨j=9∨j=10∨j=11:=by omega
    rcases this with rfl | rfl | rfl | rfl | rfl | rfl | rfl | rfl | rfl | rfl | rfl | rfl
    ·rfl
    ·rfl
    ·rfl
    ·exact absurd (hdi.symm.trans hdj) (by simp)
    ·rfl
    ·rfl
    ·rfl
    ·rfl
    ·rfl
    ·exact absurd ((hcl.not opHb_dep (i:=9) (j:=3) (by simp) hdi).symm.trans hdj) (by simp)
    ·rfl
    ·rfl) ⟨_,((hP.but bA).s3 w.heap.size (⟨RowOf.made w n,hsz,by simp⟩) (fun e=>(Nat.ne_of_lt (hP.f10 e).lt).symm)),fun _=>rfl,fun h=>absurd (hs0.symm.trans h) (by simp)⟩)
  ·obtain rfl:=Option.some.inj ((show opHbs[4]? = some opHb4 from rfl).symm.trans ho)
   exact wp_value (run_Gh7 a w _ _ _ _ _ _ g2 (0) (1) rfl e2') (hK N _ _ (fun _=>rfl) (fun _ _ _ _=>rfl) hH)
  ·obtain rfl:=Option.some.inj ((show opHbs[5]? = some opHb5 from rfl).symm.trans ho)
   have hs0:d 11=false:=(hcl.not opHb_dep (i:=11) (j:=5) (by simp) hdi)
   obtain ⟨w1,hP,h1,h2⟩:=hH
   obtain rfl:=h1 hs0
   have hW:=hP.mem
   exact wp_value (run_loadK a w _ _ _ _ _ _ g2 (1) _ _ _ _ ((hD 4 (by simp)).2 rfl) (c1.but hW (by simp))) (hK N _ _ (fun _=>rfl) (fun _ _ _ _=>rfl) ⟨_,hP,h1,h2⟩)
  ·obtain rfl:=Option.some.inj ((show opHbs[6]? = some opHb6 from rfl).symm.trans ho)
   exact wp_value (run_Gh8 a w _ _ _ _ _ _ g3 (0) (1) rfl e3') (hK N _ _ (fun _=>rfl) (fun _ _ _ _=>rfl) hH)
  ·obtain rfl:=Option.some.inj ((show opHbs[7]? = some opHb7 from rfl).symm.trans ho)
   have hs0:d 11=false:=(hcl.not opHb_dep (i:=11) (j:=7) (by simp) hdi)
   obtain ⟨w1,hP,h1,h2⟩:=hH
   obtain rfl:=h1 hs0
   have hW:=hP.mem
   exact wp_value (run_loadK a w _ _ _ _ _ _ g3 (1) _ _ _ _ ((hD 6 (by simp)).2 rfl) (c2.but hW (by simp))) (hK N _ _ (fun _=>rfl) (fun _ _ _ _=>rfl) ⟨_,hP,h1,h2⟩)
  ·obtain rfl:=Option.some.inj ((show opHbs[8]? = some opHb8 from rfl).symm.trans ho)
   have hs0:d 11=false:=(hcl.not opHb_dep (i:=11) (j:=8) (by simp) hdi)
   obtain ⟨w1,hP,h1,h2⟩:=hH
   obtain rfl:=h1 hs0
   have hW:=hP.mem
   exact wp_enter (run_Gh9 a w _ _ _ _ _ _ _ _ _ ((hD 5 (by simp)).2 rfl) ((hD 7 (by simp)).2 rfl)) (R:=fun w' u=>∃ v,u=.agg #[.bool v.1,.int .u64 v.2.1,.int .u64 v.2.2.1,.pointer v.2.2.2]∧(FracAt w' (.agg #[.bool v.1,.int .u64 v.2.1,.int .u64 v.2.2.1,.pointer v.2.2.2]) (U))∧But [] w w') ((MU w hW).mono fun e w' ⟨v,he,hf,hb⟩=>⟨_,he,v,rfl,hf,hb⟩) (fun u w' ⟨v,hu,hf,hb⟩=>hK (N.1,v,N.2.2) _ _ (fun _=>hu) (fun j hj _ hdj=>by
    have:j=0∨j=1∨j=2∨j=3∨j=4∨j=5∨j=6∨j=7∨j=8∨j=9∨j=10∨j=11:=by omega
    rcases this with rfl | rfl | rfl | rfl | rfl | rfl | rfl | rfl | rfl | rfl | rfl | rfl
    ·rfl
    ·rfl
    ·rfl
    ·rfl
    ·rfl
    ·rfl
    ·rfl
    ·rfl
    ·exact absurd (hdi.symm.trans hdj) (by simp)
    ·exact absurd ((hcl.not opHb_dep (i:=9) (j:=8) (by simp) hdi).symm.trans hdj) (by simp)
    ·rfl
    ·rfl) ⟨_,((hP.but hb).s8 v hf),fun _=>rfl,fun h=>absurd (hs0.symm.trans h) (by simp)⟩)
  ·obtain rfl:=Option.some.inj ((show opHbs[9]? = some opHb9 from rfl).symm.trans ho)
   exact wp_value (run_Gh1 a w _ _ _ _ _ _ _ _ _ _ _ _ _ _ ((hD 3 (by simp)).2 rfl) ((hD 8 (by simp)).2 rfl)) (hK N _ _ (fun _=>rfl) (fun _ _ _ _=>rfl) hH)
  ·obtain rfl:=Option.some.inj ((show opHbs[10]? = some opHb10 from rfl).symm.trans ho)
   have hs0:d 11=false:=(hcl.not opHb_dep (i:=11) (j:=10) (by simp) hdi)
   obtain ⟨w1,hP,h1,h2⟩:=hH
   obtain rfl:=h1 hs0
   have hW:=hP.mem
   have bA:But [] w (w.alloc (.cells #[.slice none 0 0,.bool false,.int .u64 0,.int .u64 0,.pointer none] 68)):=(But.refl _ _).alloc _
   have hsz:=hW.size
   exact wp_value (run_Gh10 a w _ _ _ _ _) (hK (N.1,N.2.1,w.heap.size) _ _ (fun _=>rfl) (fun j hj _ hdj=>by
    have:j=0∨j=1∨j=2∨j=3∨j=4∨j=5∨j=6∨j=7∨j=8∨j=9∨j=10∨j=11:=by omega
    rcases this with rfl | rfl | rfl | rfl | rfl | rfl | rfl | rfl | rfl | rfl | rfl | rfl
    ·rfl
    ·rfl
    ·rfl
    ·rfl
    ·rfl
    ·rfl
    ·rfl
    ·rfl
    ·rfl
    ·rfl
    ·exact absurd (hdi.symm.trans hdj) (by simp)
    ·rfl) ⟨_,((hP.but bA).s10 w.heap.size (NewB.made _ w [.slice none 0 0,.bool false,.int .u64 0,.int .u64 0,.pointer none] _ hsz) (fun e=>Nat.ne_of_lt (hP.f3 e).lt)),fun _=>rfl,fun h=>absurd (hs0.symm.trans h) (by simp)⟩)
  ·obtain rfl:=Option.some.inj ((show opHbs[11]? = some opHb11 from rfl).symm.trans ho)
   obtain ⟨w1,hP,h1,h2⟩:=hH
   obtain rfl:=h1 hdi
   have hW:=hP.mem
   have t3:d 3=true:=(hD 3 (by simp)).1
   have t8:d 8=true:=(hD 8 (by simp)).1
   have t10:d 10=true:=(hD 10 (by simp)).1
   exact wp_skipped (run_Gh2 a w _ _ _ _ _ N.2.2 (0) _ _ _ _ _ _ _ ((hD 10 (by simp)).2 rfl) ((hD 9 (by simp)).2 rfl) (⟨_,(hP.f10 t10).cells 0 _ rfl⟩) (⟨_,(hP.f10 t10).cells 1 _ rfl⟩) (⟨_,(hP.f10 t10).cells 2 _ rfl⟩) (⟨_,(hP.f10 t10).cells 3 _ rfl⟩) (⟨_,(hP.f10 t10).cells 4 _ rfl⟩) ((hP.f10 t10).loose)) (hK N undef _ (fun h=>absurd h (by decide)) (fun _ _ _ _=>rfl) ⟨w,hP,fun h=>absurd h (by rw [came_self];simp),fun _=>rfl⟩)
 ·intro N d w hd hH
  obtain ⟨w1,hP,h1,h2⟩:=hH
  rw [h2 (hd 11 (by omega))]
  rw [hd 3 (by omega),hd 8 (by omega),hd 10 (by omega)] at hP
  exact hQ N.1 N.2.1 N.2.2 w1 hP
theorem run_Gh11 (a:Act) (w:World) (d t1 t2:Nat) (u:TypeId) (ps:String) (ed:Array Edge) (gd:Option (Nat × Bool)) (b off n c k o':Nat) (ho:off+k*4=o') (hk:k<n) (_hn:n<1000000) (h1:a.eval (.tmp t1)=.slice (some ⟨b,off,none⟩) n c) (h2:a.eval (.tmp t2)=.int .i64 (k:Int)) :
  (execOp a.eval { dst:=some d,op:=Op.indexAddr 32 (.tmp t1) (.tmp t2),type:=u,pos:=ps,after:=ed,guard:=gd }).run Tryz.prog w=.ok (.value (.pointer (some ⟨b,o',none⟩))) w:=by
 subst ho
 unfold execOp
 simp only [h1,h2]
 go_simp
theorem run_Gh12 (a:Act) (w:World) (d t:Nat) (u:TypeId) (ps:String) (ed:Array Edge) (gd:Option (Nat × Bool)) (b o o':Nat) (ho:o+0=o') (h1:a.eval (.tmp t)=.pointer (some ⟨b,o,none⟩)) :
  (execOp a.eval { dst:=some d,op:=Op.fieldAddr 76 (.tmp t) 0,type:=u,pos:=ps,after:=ed,guard:=gd }).run Tryz.prog w=.ok (.value (.pointer (some ⟨b,o',none⟩))) w:=by
 subst ho
 unfold execOp
 simp only [h1]
 go_simp
theorem run_Gh13 (a:Act) (w:World) (d t:Nat) (u:TypeId) (ps:String) (ed:Array Edge) (gd:Option (Nat × Bool)) (b o:Nat) (v:Value) (h1:a.eval (.tmp t)=.pointer (some ⟨b,o,none⟩)) (hc:w.cell? ⟨b,o,none⟩=some v) :
  (execOp a.eval { dst:=some d,op:=Op.load 53 (.tmp t),type:=u,pos:=ps,after:=ed,guard:=gd }).run Tryz.prog w=.ok (.value v) w:=by
 unfold execOp
 simp only [h1]
 go_simp
theorem run_Gh14 (a:Act) (w:World) (d t1 t2:Nat) (u:TypeId) (ps:String) (ed:Array Edge) (gd:Option (Nat × Bool)) (b off n c k o':Nat) (ho:off+k=o') (hk:k<n) (_hn:n<1000000) (h1:a.eval (.tmp t1)=.slice (some ⟨b,off,none⟩) n c) (h2:a.eval (.tmp t2)=.int .i64 (k:Int)) :
  (execOp a.eval { dst:=some d,op:=Op.indexAddr 53 (.tmp t1) (.tmp t2),type:=u,pos:=ps,after:=ed,guard:=gd }).run Tryz.prog w=.ok (.value (.pointer (some ⟨b,o',none⟩))) w:=by
 subst ho
 unfold execOp
 simp only [h1,h2]
 go_simp
theorem run_Gh15 (a:Act) (w:World) (d t0 t1:Nat) (u:TypeId) (ps:String) (ed:Array Edge) (gd:Option (Nat × Bool)) (z0 z1:Value) (h0:a.eval (.tmp t0)=z0) (h1:a.eval (.tmp t1)=z1) :
  (execOp a.eval { dst:=some d,op:=Op.call { callee:=Callee.value (Operand.func 34),args:=#[Operand.tmp t0,Operand.tmp t1],argTypes:=#[41,41] },type:=u,pos:=ps,after:=ed,guard:=gd }).run Tryz.prog w=.ok (.enter 34 #[z0,z1]) w:=by
 unfold execOp
 go_simp
 rw [← h0,← h1]
 simp [Act.eval]
theorem run_Gh16 (a:Act) (w:World) (t1 t2:Nat) (u:TypeId) (ps:String) (ed:Array Edge) (b o:Nat) (s0:Bool) (x0 y0:Int) (p0:Option Addr) (h1:a.eval (.tmp t1)=.pointer (some ⟨b,o,none⟩)) (h2:a.eval (.tmp t2)=.agg #[.bool s0,.int .u64 x0,.int .u64 y0,.pointer p0]) (k0:∃ u,w.cell? ⟨b,o,none⟩=some u) (k1:∃ u,w.cell? ⟨b,o+1,none⟩=some u) (k2:∃ u,w.cell? ⟨b,o+2,none⟩=some u) (k3:∃ u,w.cell? ⟨b,o+3,none⟩=some u) (fz:∀ j,w.frozen? ⟨b,j,none⟩=false) :
  (execOp a.eval { dst:=none,op:=Op.store 41 (.tmp t1) (.tmp t2),type:=u,pos:=ps,after:=ed,guard:=none }).run Tryz.prog w=.ok .skip (w.setCells b o [.bool s0,.int .u64 x0,.int .u64 y0,.pointer p0]):=by
 obtain ⟨u0,e0⟩:=k0
 obtain ⟨u1,e1⟩:=k1
 obtain ⟨u2,e2⟩:=k2
 obtain ⟨u3,e3⟩:=k3
 unfold execOp
 simp only [h1,h2]
 go_simp
 try rfl
def opHc0:Oper:={ dst:=some 37,op:=Op.fieldAddr 68 (Operand.tmp 5) 0,type:=0,pos := "whole.go:43",after:=#[],guard:=none }
def opHc1:Oper:={ dst:=some 38,op:=Op.load 32 (Operand.tmp 37),type := 32,pos := "whole.go:43",after:=#[⟨0,.data⟩],guard:=none }
def opHc2:Oper:={ dst:=some 39,op:=Op.move (Operand.tmp 7),type := 3,pos := "whole.go:43",after:=#[],guard:=none }
def opHc3:Oper:={ dst:=some 40,op:=Op.fieldAddr 68 (Operand.tmp 5) 0,type:=0,pos := "whole.go:43",after:=#[],guard:=none }
def opHc4:Oper:={ dst:=some 41,op:=Op.load 32 (Operand.tmp 40),type := 32,pos := "whole.go:43",after:=#[⟨3,.data⟩],guard:=none }
def opHc5:Oper:={ dst:=some 42,op:=Op.move (Operand.tmp 7),type := 3,pos := "whole.go:43",after:=#[],guard:=none }
def opHc6:Oper:={ dst:=some 43,op:=Op.indexAddr 32 (Operand.tmp 41) (Operand.tmp 42),type:=0,pos := "whole.go:43",after:=#[⟨4,.data⟩,⟨5,.data⟩],guard:=none }
def opHc7:Oper:={ dst:=some 44,op:=Op.load 41 (Operand.tmp 43),type := 41,pos := "whole.go:43",after:=#[⟨6,.data⟩],guard:=none }
def opHc8:Oper:={ dst:=some 45,op:=Op.fieldAddr 68 (Operand.tmp 2) 0,type:=0,pos := "whole.go:43",after:=#[],guard:=none }
def opHc9:Oper:={ dst:=some 46,op:=Op.load 32 (Operand.tmp 45),type := 32,pos := "whole.go:43",after:=#[⟨8,.data⟩],guard:=none }
def opHc10:Oper:={ dst:=some 47,op:=Op.move (Operand.tmp 6),type := 3,pos := "whole.go:43",after:=#[],guard:=none }
def opHc11:Oper:={ dst:=some 48,op:=Op.indexAddr 32 (Operand.tmp 46) (Operand.tmp 47),type:=0,pos := "whole.go:43",after:=#[⟨9,.data⟩,⟨10,.data⟩],guard:=none }
def opHc12:Oper:={ dst:=some 49,op:=Op.load 41 (Operand.tmp 48),type := 41,pos := "whole.go:43",after:=#[⟨11,.data⟩],guard:=none }
def opHc13:Oper:={ dst:=some 50,op:=Op.fieldAddr 76 (Operand.tmp 3) 0,type:=0,pos := "whole.go:43",after:=#[],guard:=none }
def opHc14:Oper:={ dst:=some 51,op:=Op.load 53 (Operand.tmp 50),type := 53,pos := "whole.go:43",after:=#[⟨13,.data⟩],guard:=none }
def opHc15:Oper:={ dst:=some 52,op:=Op.move (Operand.tmp 6),type := 3,pos := "whole.go:43",after:=#[],guard:=none }
def opHc16:Oper:={ dst:=some 53,op:=Op.indexAddr 53 (Operand.tmp 51) (Operand.tmp 52),type:=0,pos := "whole.go:43",after:=#[⟨14,.data⟩,⟨15,.data⟩],guard:=none }
def opHc17:Oper:={ dst:=some 54,op:=Op.load 32 (Operand.tmp 53),type := 32,pos := "whole.go:43",after:=#[⟨16,.data⟩],guard:=none }
def opHc18:Oper:={ dst:=some 55,op:=Op.move (Operand.tmp 7),type := 3,pos := "whole.go:43",after:=#[],guard:=none }
def opHc19:Oper:={ dst:=some 56,op:=Op.indexAddr 32 (Operand.tmp 54) (Operand.tmp 55),type:=0,pos := "whole.go:43",after:=#[⟨17,.data⟩,⟨18,.data⟩],guard:=none }
def opHc20:Oper:={ dst:=some 57,op:=Op.load 41 (Operand.tmp 56),type := 41,pos := "whole.go:43",after:=#[⟨19,.data⟩],guard:=none }
def opHc21:Oper:={ dst:=some 58,op:=Op.call { callee:=Callee.value (Operand.func 49),args:=#[Operand.tmp 49,Operand.tmp 57],argTypes:=#[41,41] },type := 41,pos := "whole.go:43",after:=#[⟨12,.data⟩,⟨20,.data⟩],guard:=none }
def opHc22:Oper:={ dst:=some 59,op:=Op.call { callee:=Callee.value (Operand.func 34),args:=#[Operand.tmp 44,Operand.tmp 58],argTypes:=#[41,41] },type := 41,pos := "whole.go:43",after:=#[⟨7,.data⟩,⟨21,.data⟩,⟨21,.chain⟩],guard:=none }
def opHc23:Oper:={ dst:=some 60,op:=Op.indexAddr 32 (Operand.tmp 38) (Operand.tmp 39),type:=0,pos := "whole.go:43",after:=#[⟨1,.data⟩,⟨2,.data⟩,⟨0,.phase⟩,⟨1,.phase⟩,⟨2,.phase⟩,⟨3,.phase⟩,⟨4,.phase⟩,⟨5,.phase⟩,⟨6,.phase⟩,⟨7,.phase⟩,⟨8,.phase⟩,⟨9,.phase⟩,⟨10,.phase⟩,⟨11,.phase⟩,⟨12,.phase⟩,⟨13,.phase⟩,⟨14,.phase⟩,⟨15,.phase⟩,⟨16,.phase⟩,⟨17,.phase⟩,⟨18,.phase⟩,⟨19,.phase⟩,⟨20,.phase⟩,⟨21,.phase⟩,⟨22,.phase⟩],guard:=none }
def opHc24:Oper:={ dst:=none,op:=Op.store 41 (Operand.tmp 60) (Operand.tmp 59),type:=0,pos := "whole.go:43",after:=#[⟨23,.data⟩,⟨22,.data⟩,⟨22,.chain⟩,⟨0,.phase⟩,⟨1,.phase⟩,⟨2,.phase⟩,⟨3,.phase⟩,⟨4,.phase⟩,⟨5,.phase⟩,⟨6,.phase⟩,⟨7,.phase⟩,⟨8,.phase⟩,⟨9,.phase⟩,⟨10,.phase⟩,⟨11,.phase⟩,⟨12,.phase⟩,⟨13,.phase⟩,⟨14,.phase⟩,⟨15,.phase⟩,⟨16,.phase⟩,⟨17,.phase⟩,⟨18,.phase⟩,⟨19,.phase⟩,⟨20,.phase⟩,⟨21,.phase⟩,⟨22,.phase⟩],guard:=none }
def opHcs:Array Oper:=#[opHc0,opHc1,opHc2,opHc3,opHc4,opHc5,opHc6,opHc7,opHc8,opHc9,opHc10,opHc11,opHc12,opHc13,opHc14,opHc15,opHc16,opHc17,opHc18,opHc19,opHc20,opHc21,opHc22,opHc23,opHc24]
structure opHcH (W0:World) (g2:Nat) (g3:Nat) (g5:Nat) (gn:Nat) (gR:Nat) (gY:Nat) (gi:Nat) (n:Nat) (ia:Nat) (k:Nat) (f2:Rat) (f3:Rat) (s1:Bool) (x1:Int) (y1:Int) (p1:Option Addr) (s2:Bool) (x2:Int) (y2:Int) (p2:Option Addr) (s3:Bool) (x3:Int) (y3:Int) (p3:Option Addr) (za:FZ) (zb:FZ) (b21:Bool) (b22:Bool) (w:World):Prop where
 mem:But [] W0 w
 f21:b21=true→FracAt w (.agg #[.bool za.1,.int .u64 za.2.1,.int .u64 za.2.2.1,.pointer za.2.2.2]) (f2)
 f22:b22=true→FracAt w (.agg #[.bool zb.1,.int .u64 zb.2.1,.int .u64 zb.2.2.1,.pointer zb.2.2.2]) (f3)
theorem opHcH.but {W0:World} {g2:Nat} {g3:Nat} {g5:Nat} {gn:Nat} {gR:Nat} {gY:Nat} {gi:Nat} {n:Nat} {ia:Nat} {k:Nat} {f2:Rat} {f3:Rat} {s1:Bool} {x1:Int} {y1:Int} {p1:Option Addr} {s2:Bool} {x2:Int} {y2:Int} {p2:Option Addr} {s3:Bool} {x3:Int} {y3:Int} {p3:Option Addr} {za:FZ} {zb:FZ} {b21 b22:Bool} {w w':World} (h:opHcH W0 g2 g3 g5 gn gR gY gi n ia k f2 f3 s1 x1 y1 p1 s2 x2 y2 p2 s3 x3 y3 p3 za zb b21 b22 w) (hb:But [] w w'):opHcH W0 g2 g3 g5 gn gR gY gi n ia k f2 f3 s1 x1 y1 p1 s2 x2 y2 p2 s3 x3 y3 p3 za zb b21 b22 w' :=
 { mem:=h.mem.trans' hb,f21:=fun e=>(h.f21 e).but hb,f22:=fun e=>(h.f22 e).but hb }
theorem opHcH.s21 {W0:World} {g2:Nat} {g3:Nat} {g5:Nat} {gn:Nat} {gR:Nat} {gY:Nat} {gi:Nat} {n:Nat} {ia:Nat} {k:Nat} {f2:Rat} {f3:Rat} {s1:Bool} {x1:Int} {y1:Int} {p1:Option Addr} {s2:Bool} {x2:Int} {y2:Int} {p2:Option Addr} {s3:Bool} {x3:Int} {y3:Int} {p3:Option Addr} {za:FZ} {zb:FZ} {b21 b22:Bool} {w:World} (h:opHcH W0 g2 g3 g5 gn gR gY gi n ia k f2 f3 s1 x1 y1 p1 s2 x2 y2 p2 s3 x3 y3 p3 za zb b21 b22 w) (za':FZ) (hf:FracAt w (.agg #[.bool za'.1,.int .u64 za'.2.1,.int .u64 za'.2.2.1,.pointer za'.2.2.2]) (f2)):opHcH W0 g2 g3 g5 gn gR gY gi n ia k f2 f3 s1 x1 y1 p1 s2 x2 y2 p2 s3 x3 y3 p3 za' zb true b22 w :=
 { mem:=h.mem,f21:=fun _=>hf,f22:=h.f22 }
theorem opHcH.s22 {W0:World} {g2:Nat} {g3:Nat} {g5:Nat} {gn:Nat} {gR:Nat} {gY:Nat} {gi:Nat} {n:Nat} {ia:Nat} {k:Nat} {f2:Rat} {f3:Rat} {s1:Bool} {x1:Int} {y1:Int} {p1:Option Addr} {s2:Bool} {x2:Int} {y2:Int} {p2:Option Addr} {s3:Bool} {x3:Int} {y3:Int} {p3:Option Addr} {za:FZ} {zb:FZ} {b21 b22:Bool} {w:World} (h:opHcH W0 g2 g3 g5 gn gR gY gi n ia k f2 f3 s1 x1 y1 p1 s2 x2 y2 p2 s3 x3 y3 p3 za zb b21 b22 w) (zb':FZ) (hf:FracAt w (.agg #[.bool zb'.1,.int .u64 zb'.2.1,.int .u64 zb'.2.2.1,.pointer zb'.2.2.2]) (f3)):opHcH W0 g2 g3 g5 gn gR gY gi n ia k f2 f3 s1 x1 y1 p1 s2 x2 y2 p2 s3 x3 y3 p3 za zb' b21 true w :=
 { mem:=h.mem,f21:=h.f21,f22:=fun _=>hf }
def opHcT (i:Nat):Nat:=match i with
 | 0=>37
 | 1=>38
 | 2=>39
 | 3=>40
 | 4=>41
 | 5=>42
 | 6=>43
 | 7=>44
 | 8=>45
 | 9=>46
 | 10=>47
 | 11=>48
 | 12=>49
 | 13=>50
 | 14=>51
 | 15=>52
 | 16=>53
 | 17=>54
 | 18=>55
 | 19=>56
 | 20=>57
 | 21=>58
 | 22=>59
 | 23=>60
 | _=>37
def opHcW (i:Nat):Bool:=match i with
 | 24=>false
 | _=>true
def opHcV (g2:Nat) (g3:Nat) (g5:Nat) (gn:Nat) (gR:Nat) (gY:Nat) (gi:Nat) (n:Nat) (ia:Nat) (k:Nat) (f2:Rat) (f3:Rat) (s1:Bool) (x1:Int) (y1:Int) (p1:Option Addr) (s2:Bool) (x2:Int) (y2:Int) (p2:Option Addr) (s3:Bool) (x3:Int) (y3:Int) (p3:Option Addr) (za:FZ) (zb:FZ) (i:Nat):Value:=match i with
 | 0=>.pointer (some ⟨g5,0,none⟩)
 | 1=>.slice (some ⟨gn,0,none⟩) n n
 | 2=>.int .i64 (k:Int)
 | 3=>.pointer (some ⟨g5,0,none⟩)
 | 4=>.slice (some ⟨gn,0,none⟩) n n
 | 5=>.int .i64 (k:Int)
 | 6=>.pointer (some ⟨gn,k*4,none⟩)
 | 7=>.agg #[.bool s1,.int .u64 x1,.int .u64 y1,.pointer p1]
 | 8=>.pointer (some ⟨g2,0,none⟩)
 | 9=>.slice (some ⟨gR,0,none⟩) n n
 | 10=>.int .i64 (ia:Int)
 | 11=>.pointer (some ⟨gR,ia*4,none⟩)
 | 12=>.agg #[.bool s2,.int .u64 x2,.int .u64 y2,.pointer p2]
 | 13=>.pointer (some ⟨g3,0,none⟩)
 | 14=>.slice (some ⟨gY,0,none⟩) n n
 | 15=>.int .i64 (ia:Int)
 | 16=>.pointer (some ⟨gY,ia,none⟩)
 | 17=>.slice (some ⟨gi,0,none⟩) n n
 | 18=>.int .i64 (k:Int)
 | 19=>.pointer (some ⟨gi,k*4,none⟩)
 | 20=>.agg #[.bool s3,.int .u64 x3,.int .u64 y3,.pointer p3]
 | 21=>.agg #[.bool za.1,.int .u64 za.2.1,.int .u64 za.2.2.1,.pointer za.2.2.2]
 | 22=>.agg #[.bool zb.1,.int .u64 zb.2.1,.int .u64 zb.2.2.1,.pointer zb.2.2.2]
 | 23=>.pointer (some ⟨gn,k*4,none⟩)
 | _=>undef
theorem opHc_dep:depOps opHcs [(1,0),(4,3),(6,4),(6,5),(7,6),(9,8),(11,9),(11,10),(12,11),(14,13),(16,14),(16,15),(17,16),(19,17),(19,18),(20,19),(21,12),(21,20),(22,7),(22,21),(23,0),(23,1),(23,2),(23,3),(23,4),(23,5),(23,6),(23,7),(23,8),(23,9),(23,10),(23,11),(23,12),(23,13),(23,14),(23,15),(23,16),(23,17),(23,18),(23,19),(23,20),(23,21),(23,22),(24,0),(24,1),(24,2),(24,3),(24,4),(24,5),(24,6),(24,7),(24,8),(24,9),(24,10),(24,11),(24,12),(24,13),(24,14),(24,15),(24,16),(24,17),(24,18),(24,19),(24,20),(24,21),(24,22),(24,23)]=true:=by kernel_rfl
theorem opHcT_inj:∀ i j,i<25→j<25→opHcW i=true→opHcW j=true→opHcT i=opHcT j→i=j:=fun i j hi hj=>(by decide:∀ i,i<25→∀ j,j<25→opHcW i=true→opHcW j=true→opHcT i=opHcT j→i=j) i hi j hj
theorem behind_region9 (id:Nat) (Q:Exit→Act→World→Prop) (base:Act) (W0:World) (g2:Nat) (g3:Nat) (g5:Nat) (gn:Nat) (gR:Nat) (gY:Nat) (gi:Nat) (n:Nat) (ia:Nat) (k:Nat) (f2:Rat) (f3:Rat) (s1:Bool) (x1:Int) (y1:Int) (p1:Option Addr) (s2:Bool) (x2:Int) (y2:Int) (p2:Option Addr) (s3:Bool) (x3:Int) (y3:Int) (p3:Option Addr) (hs:60<base.tmps.size) (e2:base.eval (.tmp 2)=.pointer (some ⟨g2,0,none⟩)) (e3:base.eval (.tmp 3)=.pointer (some ⟨g3,0,none⟩)) (e5:base.eval (.tmp 5)=.pointer (some ⟨g5,0,none⟩)) (e6:base.eval (.tmp 6)=.int .i64 (ia:Int)) (e7:base.eval (.tmp 7)=.int .i64 (k:Int))
  (hia:ia<n) (hk:k<n) (hn:n<1000000) (c5:W0.cell? ⟨g5,0,none⟩=some (.slice (some ⟨gn,0,none⟩) n n)) (c0:W0.cell? ⟨g2,0,none⟩=some (.slice (some ⟨gR,0,none⟩) n n)) (c3:W0.cell? ⟨g3,0,none⟩=some (.slice (some ⟨gY,0,none⟩) n n)) (cy:W0.cell? ⟨gY,ia,none⟩=some (.slice (some ⟨gi,0,none⟩) n n)) (cz:P4o W0 gn (k*4) s1 x1 y1 p1) (cr:P4o W0 gR (ia*4) s2 x2 y2 p2) (ci:P4o W0 gi (k*4) s3 x3 y3 p3) (fz:∀ j,W0.frozen? ⟨gn,j,none⟩=false) (MU:∀ w,But [] W0 w→Calls Tryz.prog 49 #[.agg #[.bool s2,.int .u64 x2,.int .u64 y2,.pointer p2],.agg #[.bool s3,.int .u64 x3,.int .u64 y3,.pointer p3]] w fun e w'=>∃ z:FZ,e=.returned (.agg #[.bool z.1,.int .u64 z.2.1,.int .u64 z.2.2.1,.pointer z.2.2.2])∧FracAt w' (.agg #[.bool z.1,.int .u64 z.2.1,.int .u64 z.2.2.1,.pointer z.2.2.2]) (f2)∧But [] w w') (AD:∀ w (y:FZ),But [] W0 w→FracAt w (.agg #[.bool y.1,.int .u64 y.2.1,.int .u64 y.2.2.1,.pointer y.2.2.2]) f2→Calls Tryz.prog 34 #[.agg #[.bool s1,.int .u64 x1,.int .u64 y1,.pointer p1],.agg #[.bool y.1,.int .u64 y.2.1,.int .u64 y.2.2.1,.pointer y.2.2.2]] w fun e w'=>∃ z:FZ,e=.returned (.agg #[.bool z.1,.int .u64 z.2.1,.int .u64 z.2.2.1,.pointer z.2.2.2])∧FracAt w' (.agg #[.bool z.1,.int .u64 z.2.1,.int .u64 z.2.2.1,.pointer z.2.2.2]) (f3)∧But [] w w')
  (hQ:∀ (za:FZ) (zb:FZ) w1,opHcH W0 g2 g3 g5 gn gR gY gi n ia k f2 f3 s1 x1 y1 p1 s2 x2 y2 p2 s3 x3 y3 p3 za zb true true w1→Q .normal (putted base [(37,.pointer (some ⟨g5,0,none⟩)),(38,.slice (some ⟨gn,0,none⟩) n n),(39,.int .i64 (k:Int)),(40,.pointer (some ⟨g5,0,none⟩)),(41,.slice (some ⟨gn,0,none⟩) n n),(42,.int .i64 (k:Int)),(43,.pointer (some ⟨gn,k*4,none⟩)),(44,.agg #[.bool s1,.int .u64 x1,.int .u64 y1,.pointer p1]),(45,.pointer (some ⟨g2,0,none⟩)),(46,.slice (some ⟨gR,0,none⟩) n n),(47,.int .i64 (ia:Int)),(48,.pointer (some ⟨gR,ia*4,none⟩)),(49,.agg #[.bool s2,.int .u64 x2,.int .u64 y2,.pointer p2]),(50,.pointer (some ⟨g3,0,none⟩)),(51,.slice (some ⟨gY,0,none⟩) n n),(52,.int .i64 (ia:Int)),(53,.pointer (some ⟨gY,ia,none⟩)),(54,.slice (some ⟨gi,0,none⟩) n n),(55,.int .i64 (k:Int)),(56,.pointer (some ⟨gi,k*4,none⟩)),(57,.agg #[.bool s3,.int .u64 x3,.int .u64 y3,.pointer p3]),(58,.agg #[.bool za.1,.int .u64 za.2.1,.int .u64 za.2.2.1,.pointer za.2.2.2]),(59,.agg #[.bool zb.1,.int .u64 zb.2.1,.int .u64 zb.2.2.1,.pointer zb.2.2.2]),(60,.pointer (some ⟨gn,k*4,none⟩))]) (w1.setCells gn (k*4) [.bool zb.1,.int .u64 zb.2.1,.int .u64 zb.2.2.1,.pointer zb.2.2.2])) :
  (Code.region id opHcs true).wp Tryz.prog Q base W0:=by
 have hT:∀ i,i<25→opHcW i=true→opHcT i<base.tmps.size:=fun i hi _=>by
  have h:opHcT i≤60:=by revert i;decide
  omega
 refine region_all (by kernel_rfl) (low_of (by kernel_rfl)) (bare_of (by kernel_rfl)) (fun (N:(FZ) × (FZ)) d w=>∃ w1,opHcH W0 g2 g3 g5 gn gR gY gi n ia k f2 f3 s1 x1 y1 p1 s2 x2 y2 p2 s3 x3 y3 p3 N.1 N.2 (d 21) (d 22) w1∧(d 24=false→w=w1)∧(d 24=true→w=(w1.setCells gn (k*4) [.bool N.2.1,.int .u64 N.2.2.1,.int .u64 N.2.2.2.1,.pointer N.2.2.2.2]))) (fun N=>opHcV g2 g3 g5 gn gR gY gi n ia k f2 f3 s1 x1 y1 p1 s2 x2 y2 p2 s3 x3 y3 p3 N.1 N.2) opHcT opHcW 25 (by kernel_rfl) opHcT_inj hT ((false,0,0,none),(false,0,0,none)) ⟨_,{ mem:=(But.refl _ _).drew,f21:=fun h=>by simp at h,f22:=fun h=>by simp at h },fun _=>rfl,fun h=>by simp at h⟩ ?_ ?_
 ·intro N d i o a w K hi ho hdi hcl hH he hdep hK
  have hD:=dep_is opHc_dep ho (fun j=>d j=true∧(opHcW j=true→a.eval (.tmp (opHcT j))=opHcV g2 g3 g5 gn gR gY gi n ia k f2 f3 s1 x1 y1 p1 s2 x2 y2 p2 s3 x3 y3 p3 N.1 N.2 j)) hdep
  have e2':=(he 2 (fun j hj _ _=>(by decide:∀ j,j<25→(2:Nat)≠opHcT j) j hj)).trans e2
  have e3':=(he 3 (fun j hj _ _=>(by decide:∀ j,j<25→(3:Nat)≠opHcT j) j hj)).trans e3
  have e5':=(he 5 (fun j hj _ _=>(by decide:∀ j,j<25→(5:Nat)≠opHcT j) j hj)).trans e5
  have e6':=(he 6 (fun j hj _ _=>(by decide:∀ j,j<25→(6:Nat)≠opHcT j) j hj)).trans e6
  have e7':=(he 7 (fun j hj _ _=>(by decide:∀ j,j<25→(7:Nat)≠opHcT j) j hj)).trans e7
  have:i=0∨i=1∨i=2∨i=3∨i=4∨i=5∨i=6∨i=7∨i=8∨i=9∨i=10∨i=11∨i=12∨i=13∨i=14∨i=15∨i=16∨i=17∨i=18∨i=19∨i=20∨i=21∨i=22∨i=23∨i=24:=by omega
  rcases this with rfl | rfl | rfl | rfl | rfl | rfl | rfl | rfl | rfl | rfl | rfl | rfl | rfl | rfl | rfl | rfl | rfl | rfl | rfl | rfl | rfl | rfl | rfl | rfl | rfl
  ·obtain rfl:=Option.some.inj ((show opHcs[0]? = some opHc0 from rfl).symm.trans ho)
   exact wp_value (run_Gh3 a w _ _ _ _ _ _ g5 (0) (0) rfl e5') (hK N _ _ (fun _=>rfl) (fun _ _ _ _=>rfl) hH)
  ·obtain rfl:=Option.some.inj ((show opHcs[1]? = some opHc1 from rfl).symm.trans ho)
   have hs0:d 24=false:=(hcl.not opHc_dep (i:=24) (j:=1) (by simp) hdi)
   obtain ⟨w1,hP,h1,h2⟩:=hH
   obtain rfl:=h1 hs0
   have hW:=hP.mem
   exact wp_value (run_Gh4 a w _ _ _ _ _ _ g5 (0) _ ((hD 0 (by simp)).2 rfl) (hW.cell_some c5 (by simp))) (hK N _ _ (fun _=>rfl) (fun _ _ _ _=>rfl) ⟨_,hP,h1,h2⟩)
  ·obtain rfl:=Option.some.inj ((show opHcs[2]? = some opHc2 from rfl).symm.trans ho)
   exact wp_value (run_mvK a w _ _ _ _ _ _ _ e7') (hK N _ _ (fun _=>rfl) (fun _ _ _ _=>rfl) hH)
  ·obtain rfl:=Option.some.inj ((show opHcs[3]? = some opHc3 from rfl).symm.trans ho)
   exact wp_value (run_Gh3 a w _ _ _ _ _ _ g5 (0) (0) rfl e5') (hK N _ _ (fun _=>rfl) (fun _ _ _ _=>rfl) hH)
  ·obtain rfl:=Option.some.inj ((show opHcs[4]? = some opHc4 from rfl).symm.trans ho)
   have hs0:d 24=false:=(hcl.not opHc_dep (i:=24) (j:=4) (by simp) hdi)
   obtain ⟨w1,hP,h1,h2⟩:=hH
   obtain rfl:=h1 hs0
   have hW:=hP.mem
   exact wp_value (run_Gh4 a w _ _ _ _ _ _ g5 (0) _ ((hD 3 (by simp)).2 rfl) (hW.cell_some c5 (by simp))) (hK N _ _ (fun _=>rfl) (fun _ _ _ _=>rfl) ⟨_,hP,h1,h2⟩)
  ·obtain rfl:=Option.some.inj ((show opHcs[5]? = some opHc5 from rfl).symm.trans ho)
   exact wp_value (run_mvK a w _ _ _ _ _ _ _ e7') (hK N _ _ (fun _=>rfl) (fun _ _ _ _=>rfl) hH)
  ·obtain rfl:=Option.some.inj ((show opHcs[6]? = some opHc6 from rfl).symm.trans ho)
   exact wp_value (run_Gh11 a w _ _ _ _ _ _ _ gn (0) (n) (n) (k) (k*4) (by omega) hk hn ((hD 4 (by simp)).2 rfl) ((hD 5 (by simp)).2 rfl)) (hK N _ _ (fun _=>rfl) (fun _ _ _ _=>rfl) hH)
  ·obtain rfl:=Option.some.inj ((show opHcs[7]? = some opHc7 from rfl).symm.trans ho)
   have hs0:d 24=false:=(hcl.not opHc_dep (i:=24) (j:=7) (by simp) hdi)
   obtain ⟨w1,hP,h1,h2⟩:=hH
   obtain rfl:=h1 hs0
   have hW:=hP.mem
   exact wp_value (run_loadK a w _ _ _ _ _ _ gn (k*4) _ _ _ _ ((hD 6 (by simp)).2 rfl) (cz.but hW (by simp))) (hK N _ _ (fun _=>rfl) (fun _ _ _ _=>rfl) ⟨_,hP,h1,h2⟩)
  ·obtain rfl:=Option.some.inj ((show opHcs[8]? = some opHc8 from rfl).symm.trans ho)
   exact wp_value (run_Gh3 a w _ _ _ _ _ _ g2 (0) (0) rfl e2') (hK N _ _ (fun _=>rfl) (fun _ _ _ _=>rfl) hH)
  ·obtain rfl:=Option.some.inj ((show opHcs[9]? = some opHc9 from rfl).symm.trans ho)
   have hs0:d 24=false:=(hcl.not opHc_dep (i:=24) (j:=9) (by simp) hdi)
   obtain ⟨w1,hP,h1,h2⟩:=hH
   obtain rfl:=h1 hs0
   have hW:=hP.mem
   exact wp_value (run_Gh4 a w _ _ _ _ _ _ g2 (0) _ ((hD 8 (by simp)).2 rfl) (hW.cell_some c0 (by simp))) (hK N _ _ (fun _=>rfl) (fun _ _ _ _=>rfl) ⟨_,hP,h1,h2⟩)
  ·obtain rfl:=Option.some.inj ((show opHcs[10]? = some opHc10 from rfl).symm.trans ho)
   exact wp_value (run_mvK a w _ _ _ _ _ _ _ e6') (hK N _ _ (fun _=>rfl) (fun _ _ _ _=>rfl) hH)
  ·obtain rfl:=Option.some.inj ((show opHcs[11]? = some opHc11 from rfl).symm.trans ho)
   exact wp_value (run_Gh11 a w _ _ _ _ _ _ _ gR (0) (n) (n) (ia) (ia*4) (by omega) hia hn ((hD 9 (by simp)).2 rfl) ((hD 10 (by simp)).2 rfl)) (hK N _ _ (fun _=>rfl) (fun _ _ _ _=>rfl) hH)
  ·obtain rfl:=Option.some.inj ((show opHcs[12]? = some opHc12 from rfl).symm.trans ho)
   have hs0:d 24=false:=(hcl.not opHc_dep (i:=24) (j:=12) (by simp) hdi)
   obtain ⟨w1,hP,h1,h2⟩:=hH
   obtain rfl:=h1 hs0
   have hW:=hP.mem
   exact wp_value (run_loadK a w _ _ _ _ _ _ gR (ia*4) _ _ _ _ ((hD 11 (by simp)).2 rfl) (cr.but hW (by simp))) (hK N _ _ (fun _=>rfl) (fun _ _ _ _=>rfl) ⟨_,hP,h1,h2⟩)
  ·obtain rfl:=Option.some.inj ((show opHcs[13]? = some opHc13 from rfl).symm.trans ho)
   exact wp_value (run_Gh12 a w _ _ _ _ _ _ g3 (0) (0) rfl e3') (hK N _ _ (fun _=>rfl) (fun _ _ _ _=>rfl) hH)
  ·obtain rfl:=Option.some.inj ((show opHcs[14]? = some opHc14 from rfl).symm.trans ho)
   have hs0:d 24=false:=(hcl.not opHc_dep (i:=24) (j:=14) (by simp) hdi)
   obtain ⟨w1,hP,h1,h2⟩:=hH
   obtain rfl:=h1 hs0
   have hW:=hP.mem
   exact wp_value (run_Gh13 a w _ _ _ _ _ _ g3 (0) _ ((hD 13 (by simp)).2 rfl) (hW.cell_some c3 (by simp))) (hK N _ _ (fun _=>rfl) (fun _ _ _ _=>rfl) ⟨_,hP,h1,h2⟩)
  ·obtain rfl:=Option.some.inj ((show opHcs[15]? = some opHc15 from rfl).symm.trans ho)
   exact wp_value (run_mvK a w _ _ _ _ _ _ _ e6') (hK N _ _ (fun _=>rfl) (fun _ _ _ _=>rfl) hH)
  ·obtain rfl:=Option.some.inj ((show opHcs[16]? = some opHc16 from rfl).symm.trans ho)
   exact wp_value (run_Gh14 a w _ _ _ _ _ _ _ gY (0) (n) (n) (ia) (ia) (by omega) hia hn ((hD 14 (by simp)).2 rfl) ((hD 15 (by simp)).2 rfl)) (hK N _ _ (fun _=>rfl) (fun _ _ _ _=>rfl) hH)
  ·obtain rfl:=Option.some.inj ((show opHcs[17]? = some opHc17 from rfl).symm.trans ho)
   have hs0:d 24=false:=(hcl.not opHc_dep (i:=24) (j:=17) (by simp) hdi)
   obtain ⟨w1,hP,h1,h2⟩:=hH
   obtain rfl:=h1 hs0
   have hW:=hP.mem
   exact wp_value (run_Gh4 a w _ _ _ _ _ _ gY (ia) _ ((hD 16 (by simp)).2 rfl) (hW.cell_some cy (by simp))) (hK N _ _ (fun _=>rfl) (fun _ _ _ _=>rfl) ⟨_,hP,h1,h2⟩)
  ·obtain rfl:=Option.some.inj ((show opHcs[18]? = some opHc18 from rfl).symm.trans ho)
   exact wp_value (run_mvK a w _ _ _ _ _ _ _ e7') (hK N _ _ (fun _=>rfl) (fun _ _ _ _=>rfl) hH)
  ·obtain rfl:=Option.some.inj ((show opHcs[19]? = some opHc19 from rfl).symm.trans ho)
   exact wp_value (run_Gh11 a w _ _ _ _ _ _ _ gi (0) (n) (n) (k) (k*4) (by omega) hk hn ((hD 17 (by simp)).2 rfl) ((hD 18 (by simp)).2 rfl)) (hK N _ _ (fun _=>rfl) (fun _ _ _ _=>rfl) hH)
  ·obtain rfl:=Option.some.inj ((show opHcs[20]? = some opHc20 from rfl).symm.trans ho)
   have hs0:d 24=false:=(hcl.not opHc_dep (i:=24) (j:=20) (by simp) hdi)
   obtain ⟨w1,hP,h1,h2⟩:=hH
   obtain rfl:=h1 hs0
   have hW:=hP.mem
   exact wp_value (run_loadK a w _ _ _ _ _ _ gi (k*4) _ _ _ _ ((hD 19 (by simp)).2 rfl) (ci.but hW (by simp))) (hK N _ _ (fun _=>rfl) (fun _ _ _ _=>rfl) ⟨_,hP,h1,h2⟩)
  ·obtain rfl:=Option.some.inj ((show opHcs[21]? = some opHc21 from rfl).symm.trans ho)
   have hs0:d 24=false:=(hcl.not opHc_dep (i:=24) (j:=21) (by simp) hdi)
   obtain ⟨w1,hP,h1,h2⟩:=hH
   obtain rfl:=h1 hs0
   have hW:=hP.mem
   exact wp_enter (run_Gh9 a w _ _ _ _ _ _ _ _ _ ((hD 12 (by simp)).2 rfl) ((hD 20 (by simp)).2 rfl)) (R:=fun w' u=>∃ v,u=.agg #[.bool v.1,.int .u64 v.2.1,.int .u64 v.2.2.1,.pointer v.2.2.2]∧(FracAt w' (.agg #[.bool v.1,.int .u64 v.2.1,.int .u64 v.2.2.1,.pointer v.2.2.2]) (f2))∧But [] w w') ((MU w hW).mono fun e w' ⟨v,he,hf,hb⟩=>⟨_,he,v,rfl,hf,hb⟩) (fun u w' ⟨v,hu,hf,hb⟩=>hK (v,N.2) _ _ (fun _=>hu) (fun j hj _ hdj=>by
    have:j=0∨j=1∨j=2∨j=3∨j=4∨j=5∨j=6∨j=7∨j=8∨j=9∨j=10∨j=11∨j=12∨j=13∨j=14∨j=15∨j=16∨j=17∨j=18∨j=19∨j=20∨j=21∨j=22∨j=23∨j=24:=by omega
    rcases this with rfl | rfl | rfl | rfl | rfl | rfl | rfl | rfl | rfl | rfl | rfl | rfl | rfl | rfl | rfl | rfl | rfl | rfl | rfl | rfl | rfl | rfl | rfl | rfl | rfl
    ·rfl
    ·rfl
    ·rfl
    ·rfl
    ·rfl
    ·rfl
    ·rfl
    ·rfl
    ·rfl
    ·rfl
    ·rfl
    ·rfl
    ·rfl
    ·rfl
    ·rfl
    ·rfl
    ·rfl
    ·rfl
    ·rfl
    ·rfl
    ·rfl
    ·exact absurd (hdi.symm.trans hdj) (by simp)
    ·rfl
    ·rfl
    ·rfl) ⟨_,((hP.but hb).s21 v hf),fun _=>rfl,fun h=>absurd (hs0.symm.trans h) (by simp)⟩)
  ·obtain rfl:=Option.some.inj ((show opHcs[22]? = some opHc22 from rfl).symm.trans ho)
   have hs0:d 24=false:=(hcl.not opHc_dep (i:=24) (j:=22) (by simp) hdi)
   obtain ⟨w1,hP,h1,h2⟩:=hH
   obtain rfl:=h1 hs0
   have hW:=hP.mem
   have t21:d 21=true:=(hD 21 (by simp)).1
   exact wp_enter (run_Gh15 a w _ _ _ _ _ _ _ _ _ ((hD 7 (by simp)).2 rfl) ((hD 21 (by simp)).2 rfl)) (R:=fun w' u=>∃ v,u=.agg #[.bool v.1,.int .u64 v.2.1,.int .u64 v.2.2.1,.pointer v.2.2.2]∧(FracAt w' (.agg #[.bool v.1,.int .u64 v.2.1,.int .u64 v.2.2.1,.pointer v.2.2.2]) (f3))∧But [] w w') ((AD w N.1 hW (hP.f21 t21)).mono fun e w' ⟨v,he,hf,hb⟩=>⟨_,he,v,rfl,hf,hb⟩) (fun u w' ⟨v,hu,hf,hb⟩=>hK (N.1,v) _ _ (fun _=>hu) (fun j hj _ hdj=>by
    have:j=0∨j=1∨j=2∨j=3∨j=4∨j=5∨j=6∨j=7∨j=8∨j=9∨j=10∨j=11∨j=12∨j=13∨j=14∨j=15∨j=16∨j=17∨j=18∨j=19∨j=20∨j=21∨j=22∨j=23∨j=24:=by omega
    rcases this with rfl | rfl | rfl | rfl | rfl | rfl | rfl | rfl | rfl | rfl | rfl | rfl | rfl | rfl | rfl | rfl | rfl | rfl | rfl | rfl | rfl | rfl | rfl | rfl | rfl
    ·rfl
    ·rfl
    ·rfl
    ·rfl
    ·rfl
    ·rfl
    ·rfl
    ·rfl
    ·rfl
    ·rfl
    ·rfl
    ·rfl
    ·rfl
    ·rfl
    ·rfl
    ·rfl
    ·rfl
    ·rfl
    ·rfl
    ·rfl
    ·rfl
    ·rfl
    ·exact absurd (hdi.symm.trans hdj) (by simp)
    ·rfl
    ·rfl) ⟨_,((hP.but hb).s22 v hf),fun _=>rfl,fun h=>absurd (hs0.symm.trans h) (by simp)⟩)
  ·obtain rfl:=Option.some.inj ((show opHcs[23]? = some opHc23 from rfl).symm.trans ho)
   exact wp_value (run_Gh11 a w _ _ _ _ _ _ _ gn (0) (n) (n) (k) (k*4) (by omega) hk hn ((hD 1 (by simp)).2 rfl) ((hD 2 (by simp)).2 rfl)) (hK N _ _ (fun _=>rfl) (fun _ _ _ _=>rfl) hH)
  ·obtain rfl:=Option.some.inj ((show opHcs[24]? = some opHc24 from rfl).symm.trans ho)
   obtain ⟨w1,hP,h1,h2⟩:=hH
   obtain rfl:=h1 hdi
   have hW:=hP.mem
   have t21:d 21=true:=(hD 21 (by simp)).1
   have t22:d 22=true:=(hD 22 (by simp)).1
   exact wp_skipped (run_Gh16 a w _ _ _ _ _ gn (k*4) _ _ _ _ ((hD 23 (by simp)).2 rfl) ((hD 22 (by simp)).2 rfl) (⟨_,hW.cell_some cz.1 (by simp)⟩) (⟨_,hW.cell_some cz.2.1 (by simp)⟩) (⟨_,hW.cell_some cz.2.2.1 (by simp)⟩) (⟨_,hW.cell_some cz.2.2.2 (by simp)⟩) (fun j=>(hW.frozen (p:=⟨gn,j,none⟩) (show gn<_ from lt_of_cell cz.1) (by simp)).trans (fz j))) (hK N undef _ (fun h=>absurd h (by decide)) (fun _ _ _ _=>rfl) ⟨w,hP,fun h=>absurd h (by rw [came_self];simp),fun _=>rfl⟩)
 ·intro N d w hd hH
  obtain ⟨w1,hP,h1,h2⟩:=hH
  rw [h2 (hd 24 (by omega))]
  rw [hd 21 (by omega),hd 22 (by omega)] at hP
  exact hQ N.1 N.2 w1 hP
theorem run_Gh17 (a:Act) (w:World) (d t0 t1:Nat) (u:TypeId) (ps:String) (ed:Array Edge) (gd:Option (Nat × Bool)) (z0 z1:Value) (h0:a.eval (.tmp t0)=z0) (h1:a.eval (.tmp t1)=z1) :
  (execOp a.eval { dst:=some d,op:=Op.call { callee:=Callee.value (Operand.func 27),args:=#[Operand.tmp t0,Operand.tmp t1],argTypes:=#[41,41] },type:=u,pos:=ps,after:=ed,guard:=gd }).run Tryz.prog w=.ok (.enter 27 #[z0,z1]) w:=by
 unfold execOp
 go_simp
 rw [← h0,← h1]
 simp [Act.eval]
def opHd0:Oper:={ dst:=some 47,op:=Op.move (Operand.tmp 12),type := 32,pos := "spread.go:19",after:=#[],guard:=none }
def opHd1:Oper:={ dst:=some 48,op:=Op.move (Operand.tmp 13),type := 3,pos := "spread.go:19",after:=#[],guard:=none }
def opHd2:Oper:={ dst:=some 49,op:=Op.fieldAddr 68 (Operand.tmp 11) 0,type:=0,pos := "spread.go:19",after:=#[],guard:=none }
def opHd3:Oper:={ dst:=some 50,op:=Op.load 32 (Operand.tmp 49),type := 32,pos := "spread.go:19",after:=#[⟨2,.data⟩],guard:=none }
def opHd4:Oper:={ dst:=some 51,op:=Op.move (Operand.tmp 13),type := 3,pos := "spread.go:19",after:=#[],guard:=none }
def opHd5:Oper:={ dst:=some 52,op:=Op.indexAddr 32 (Operand.tmp 50) (Operand.tmp 51),type:=0,pos := "spread.go:19",after:=#[⟨3,.data⟩,⟨4,.data⟩],guard:=none }
def opHd6:Oper:={ dst:=some 53,op:=Op.load 41 (Operand.tmp 52),type := 41,pos := "spread.go:19",after:=#[⟨5,.data⟩],guard:=none }
def opHd7:Oper:={ dst:=some 54,op:=Op.fieldAddr 68 (Operand.tmp 11) 1,type:=0,pos := "spread.go:19",after:=#[],guard:=none }
def opHd8:Oper:={ dst:=some 55,op:=Op.load 41 (Operand.tmp 54),type := 41,pos := "spread.go:19",after:=#[⟨7,.data⟩],guard:=none }
def opHd9:Oper:={ dst:=some 56,op:=Op.call { callee:=Callee.value (Operand.func 27),args:=#[Operand.tmp 53,Operand.tmp 55],argTypes:=#[41,41] },type := 41,pos := "spread.go:19",after:=#[⟨6,.data⟩,⟨8,.data⟩],guard:=none }
def opHd10:Oper:={ dst:=some 57,op:=Op.indexAddr 32 (Operand.tmp 47) (Operand.tmp 48),type:=0,pos := "spread.go:19",after:=#[⟨0,.data⟩,⟨1,.data⟩,⟨0,.phase⟩,⟨1,.phase⟩,⟨2,.phase⟩,⟨3,.phase⟩,⟨4,.phase⟩,⟨5,.phase⟩,⟨6,.phase⟩,⟨7,.phase⟩,⟨8,.phase⟩,⟨9,.phase⟩],guard:=none }
def opHd11:Oper:={ dst:=none,op:=Op.store 41 (Operand.tmp 57) (Operand.tmp 56),type:=0,pos := "spread.go:19",after:=#[⟨10,.data⟩,⟨9,.data⟩,⟨9,.chain⟩,⟨0,.phase⟩,⟨1,.phase⟩,⟨2,.phase⟩,⟨3,.phase⟩,⟨4,.phase⟩,⟨5,.phase⟩,⟨6,.phase⟩,⟨7,.phase⟩,⟨8,.phase⟩,⟨9,.phase⟩],guard:=none }
def opHds:Array Oper:=#[opHd0,opHd1,opHd2,opHd3,opHd4,opHd5,opHd6,opHd7,opHd8,opHd9,opHd10,opHd11]
structure opHdH (W0:World) (g11:Nat) (gc:Nat) (gR:Nat) (n:Nat) (k:Nat) (f:Rat) (s1:Bool) (x1:Int) (y1:Int) (p1:Option Addr) (s2:Bool) (x2:Int) (y2:Int) (p2:Option Addr) (s0:Bool) (x0:Int) (y0:Int) (p0:Option Addr) (z:FZ) (b9:Bool) (w:World):Prop where
 mem:But [] W0 w
 f9:b9=true→FracAt w (.agg #[.bool z.1,.int .u64 z.2.1,.int .u64 z.2.2.1,.pointer z.2.2.2]) (f)
theorem opHdH.but {W0:World} {g11:Nat} {gc:Nat} {gR:Nat} {n:Nat} {k:Nat} {f:Rat} {s1:Bool} {x1:Int} {y1:Int} {p1:Option Addr} {s2:Bool} {x2:Int} {y2:Int} {p2:Option Addr} {s0:Bool} {x0:Int} {y0:Int} {p0:Option Addr} {z:FZ} {b9:Bool} {w w':World} (h:opHdH W0 g11 gc gR n k f s1 x1 y1 p1 s2 x2 y2 p2 s0 x0 y0 p0 z b9 w) (hb:But [] w w'):opHdH W0 g11 gc gR n k f s1 x1 y1 p1 s2 x2 y2 p2 s0 x0 y0 p0 z b9 w' :=
 { mem:=h.mem.trans' hb,f9:=fun e=>(h.f9 e).but hb }
theorem opHdH.s9 {W0:World} {g11:Nat} {gc:Nat} {gR:Nat} {n:Nat} {k:Nat} {f:Rat} {s1:Bool} {x1:Int} {y1:Int} {p1:Option Addr} {s2:Bool} {x2:Int} {y2:Int} {p2:Option Addr} {s0:Bool} {x0:Int} {y0:Int} {p0:Option Addr} {z:FZ} {b9:Bool} {w:World} (h:opHdH W0 g11 gc gR n k f s1 x1 y1 p1 s2 x2 y2 p2 s0 x0 y0 p0 z b9 w) (z':FZ) (hf:FracAt w (.agg #[.bool z'.1,.int .u64 z'.2.1,.int .u64 z'.2.2.1,.pointer z'.2.2.2]) (f)):opHdH W0 g11 gc gR n k f s1 x1 y1 p1 s2 x2 y2 p2 s0 x0 y0 p0 z' true w :=
 { mem:=h.mem,f9:=fun _=>hf }
def opHdT (i:Nat):Nat:=match i with
 | 0=>47
 | 1=>48
 | 2=>49
 | 3=>50
 | 4=>51
 | 5=>52
 | 6=>53
 | 7=>54
 | 8=>55
 | 9=>56
 | 10=>57
 | _=>47
def opHdW (i:Nat):Bool:=match i with
 | 11=>false
 | _=>true
def opHdV (g11:Nat) (gc:Nat) (gR:Nat) (n:Nat) (k:Nat) (f:Rat) (s1:Bool) (x1:Int) (y1:Int) (p1:Option Addr) (s2:Bool) (x2:Int) (y2:Int) (p2:Option Addr) (s0:Bool) (x0:Int) (y0:Int) (p0:Option Addr) (z:FZ) (i:Nat):Value:=match i with
 | 0=>.slice (some ⟨gc,0,none⟩) n n
 | 1=>.int .i64 (k:Int)
 | 2=>.pointer (some ⟨g11,0,none⟩)
 | 3=>.slice (some ⟨gR,0,none⟩) n n
 | 4=>.int .i64 (k:Int)
 | 5=>.pointer (some ⟨gR,k*4,none⟩)
 | 6=>.agg #[.bool s1,.int .u64 x1,.int .u64 y1,.pointer p1]
 | 7=>.pointer (some ⟨g11,1,none⟩)
 | 8=>.agg #[.bool s2,.int .u64 x2,.int .u64 y2,.pointer p2]
 | 9=>.agg #[.bool z.1,.int .u64 z.2.1,.int .u64 z.2.2.1,.pointer z.2.2.2]
 | 10=>.pointer (some ⟨gc,k*4,none⟩)
 | _=>undef
theorem opHd_dep:depOps opHds [(3,2),(5,3),(5,4),(6,5),(8,7),(9,6),(9,8),(10,0),(10,1),(10,2),(10,3),(10,4),(10,5),(10,6),(10,7),(10,8),(10,9),(11,0),(11,1),(11,2),(11,3),(11,4),(11,5),(11,6),(11,7),(11,8),(11,9),(11,10)]=true:=by kernel_rfl
theorem opHdT_inj:∀ i j,i<12→j<12→opHdW i=true→opHdW j=true→opHdT i=opHdT j→i=j:=fun i j hi hj=>(by decide:∀ i,i<12→∀ j,j<12→opHdW i=true→opHdW j=true→opHdT i=opHdT j→i=j) i hi j hj
theorem spread_region11 (id:Nat) (Q:Exit→Act→World→Prop) (base:Act) (W0:World) (g11:Nat) (gc:Nat) (gR:Nat) (n:Nat) (k:Nat) (f:Rat) (s1:Bool) (x1:Int) (y1:Int) (p1:Option Addr) (s2:Bool) (x2:Int) (y2:Int) (p2:Option Addr) (s0:Bool) (x0:Int) (y0:Int) (p0:Option Addr) (hs:57<base.tmps.size) (e12:base.eval (.tmp 12)=.slice (some ⟨gc,0,none⟩) n n) (e13:base.eval (.tmp 13)=.int .i64 (k:Int)) (e11:base.eval (.tmp 11)=.pointer (some ⟨g11,0,none⟩))
  (hk:k<n) (hn:n<1000000) (c0:W0.cell? ⟨g11,0,none⟩=some (.slice (some ⟨gR,0,none⟩) n n)) (cr:P4o W0 gR (k*4) s1 x1 y1 p1) (cu:P4o W0 g11 (1) s2 x2 y2 p2) (cz:P4o W0 gc (k*4) s0 x0 y0 p0) (fz:∀ j,W0.frozen? ⟨gc,j,none⟩=false) (DI:∀ w,But [] W0 w→Calls Tryz.prog 27 #[.agg #[.bool s1,.int .u64 x1,.int .u64 y1,.pointer p1],.agg #[.bool s2,.int .u64 x2,.int .u64 y2,.pointer p2]] w fun e w'=>∃ z:FZ,e=.returned (.agg #[.bool z.1,.int .u64 z.2.1,.int .u64 z.2.2.1,.pointer z.2.2.2])∧FracAt w' (.agg #[.bool z.1,.int .u64 z.2.1,.int .u64 z.2.2.1,.pointer z.2.2.2]) (f)∧But [] w w')
  (hQ:∀ (z:FZ) w1,opHdH W0 g11 gc gR n k f s1 x1 y1 p1 s2 x2 y2 p2 s0 x0 y0 p0 z true w1→Q .normal (putted base [(47,.slice (some ⟨gc,0,none⟩) n n),(48,.int .i64 (k:Int)),(49,.pointer (some ⟨g11,0,none⟩)),(50,.slice (some ⟨gR,0,none⟩) n n),(51,.int .i64 (k:Int)),(52,.pointer (some ⟨gR,k*4,none⟩)),(53,.agg #[.bool s1,.int .u64 x1,.int .u64 y1,.pointer p1]),(54,.pointer (some ⟨g11,1,none⟩)),(55,.agg #[.bool s2,.int .u64 x2,.int .u64 y2,.pointer p2]),(56,.agg #[.bool z.1,.int .u64 z.2.1,.int .u64 z.2.2.1,.pointer z.2.2.2]),(57,.pointer (some ⟨gc,k*4,none⟩))]) (w1.setCells gc (k*4) [.bool z.1,.int .u64 z.2.1,.int .u64 z.2.2.1,.pointer z.2.2.2])) :
  (Code.region id opHds true).wp Tryz.prog Q base W0:=by
 have hT:∀ i,i<12→opHdW i=true→opHdT i<base.tmps.size:=fun i hi _=>by
  have h:opHdT i≤57:=by revert i;decide
  omega
 refine region_all (by kernel_rfl) (low_of (by kernel_rfl)) (bare_of (by kernel_rfl)) (fun (N:(FZ)) d w=>∃ w1,opHdH W0 g11 gc gR n k f s1 x1 y1 p1 s2 x2 y2 p2 s0 x0 y0 p0 N (d 9) w1∧(d 11=false→w=w1)∧(d 11=true→w=(w1.setCells gc (k*4) [.bool N.1,.int .u64 N.2.1,.int .u64 N.2.2.1,.pointer N.2.2.2]))) (fun N=>opHdV g11 gc gR n k f s1 x1 y1 p1 s2 x2 y2 p2 s0 x0 y0 p0 N) opHdT opHdW 12 (by kernel_rfl) opHdT_inj hT ((false,0,0,none)) ⟨_,{ mem:=(But.refl _ _).drew,f9:=fun h=>by simp at h },fun _=>rfl,fun h=>by simp at h⟩ ?_ ?_
 ·intro N d i o a w K hi ho hdi hcl hH he hdep hK
  have hD:=dep_is opHd_dep ho (fun j=>d j=true∧(opHdW j=true→a.eval (.tmp (opHdT j))=opHdV g11 gc gR n k f s1 x1 y1 p1 s2 x2 y2 p2 s0 x0 y0 p0 N j)) hdep
  have e12':=(he 12 (fun j hj _ _=>(by decide:∀ j,j<12→(12:Nat)≠opHdT j) j hj)).trans e12
  have e13':=(he 13 (fun j hj _ _=>(by decide:∀ j,j<12→(13:Nat)≠opHdT j) j hj)).trans e13
  have e11':=(he 11 (fun j hj _ _=>(by decide:∀ j,j<12→(11:Nat)≠opHdT j) j hj)).trans e11
  have:i=0∨i=1∨i=2∨i=3∨i=4∨i=5∨i=6∨i=7∨i=8∨i=9∨i=10∨i=11:=by omega
  rcases this with rfl | rfl | rfl | rfl | rfl | rfl | rfl | rfl | rfl | rfl | rfl | rfl
  ·obtain rfl:=Option.some.inj ((show opHds[0]? = some opHd0 from rfl).symm.trans ho)
   exact wp_value (run_mvK a w _ _ _ _ _ _ _ e12') (hK N _ _ (fun _=>rfl) (fun _ _ _ _=>rfl) hH)
  ·obtain rfl:=Option.some.inj ((show opHds[1]? = some opHd1 from rfl).symm.trans ho)
   exact wp_value (run_mvK a w _ _ _ _ _ _ _ e13') (hK N _ _ (fun _=>rfl) (fun _ _ _ _=>rfl) hH)
  ·obtain rfl:=Option.some.inj ((show opHds[2]? = some opHd2 from rfl).symm.trans ho)
   exact wp_value (run_Gh3 a w _ _ _ _ _ _ g11 (0) (0) rfl e11') (hK N _ _ (fun _=>rfl) (fun _ _ _ _=>rfl) hH)
  ·obtain rfl:=Option.some.inj ((show opHds[3]? = some opHd3 from rfl).symm.trans ho)
   have hs0:d 11=false:=(hcl.not opHd_dep (i:=11) (j:=3) (by simp) hdi)
   obtain ⟨w1,hP,h1,h2⟩:=hH
   obtain rfl:=h1 hs0
   have hW:=hP.mem
   exact wp_value (run_Gh4 a w _ _ _ _ _ _ g11 (0) _ ((hD 2 (by simp)).2 rfl) (hW.cell_some c0 (by simp))) (hK N _ _ (fun _=>rfl) (fun _ _ _ _=>rfl) ⟨_,hP,h1,h2⟩)
  ·obtain rfl:=Option.some.inj ((show opHds[4]? = some opHd4 from rfl).symm.trans ho)
   exact wp_value (run_mvK a w _ _ _ _ _ _ _ e13') (hK N _ _ (fun _=>rfl) (fun _ _ _ _=>rfl) hH)
  ·obtain rfl:=Option.some.inj ((show opHds[5]? = some opHd5 from rfl).symm.trans ho)
   exact wp_value (run_Gh11 a w _ _ _ _ _ _ _ gR (0) (n) (n) (k) (k*4) (by omega) hk hn ((hD 3 (by simp)).2 rfl) ((hD 4 (by simp)).2 rfl)) (hK N _ _ (fun _=>rfl) (fun _ _ _ _=>rfl) hH)
  ·obtain rfl:=Option.some.inj ((show opHds[6]? = some opHd6 from rfl).symm.trans ho)
   have hs0:d 11=false:=(hcl.not opHd_dep (i:=11) (j:=6) (by simp) hdi)
   obtain ⟨w1,hP,h1,h2⟩:=hH
   obtain rfl:=h1 hs0
   have hW:=hP.mem
   exact wp_value (run_loadK a w _ _ _ _ _ _ gR (k*4) _ _ _ _ ((hD 5 (by simp)).2 rfl) (cr.but hW (by simp))) (hK N _ _ (fun _=>rfl) (fun _ _ _ _=>rfl) ⟨_,hP,h1,h2⟩)
  ·obtain rfl:=Option.some.inj ((show opHds[7]? = some opHd7 from rfl).symm.trans ho)
   exact wp_value (run_Gh7 a w _ _ _ _ _ _ g11 (0) (1) rfl e11') (hK N _ _ (fun _=>rfl) (fun _ _ _ _=>rfl) hH)
  ·obtain rfl:=Option.some.inj ((show opHds[8]? = some opHd8 from rfl).symm.trans ho)
   have hs0:d 11=false:=(hcl.not opHd_dep (i:=11) (j:=8) (by simp) hdi)
   obtain ⟨w1,hP,h1,h2⟩:=hH
   obtain rfl:=h1 hs0
   have hW:=hP.mem
   exact wp_value (run_loadK a w _ _ _ _ _ _ g11 (1) _ _ _ _ ((hD 7 (by simp)).2 rfl) (cu.but hW (by simp))) (hK N _ _ (fun _=>rfl) (fun _ _ _ _=>rfl) ⟨_,hP,h1,h2⟩)
  ·obtain rfl:=Option.some.inj ((show opHds[9]? = some opHd9 from rfl).symm.trans ho)
   have hs0:d 11=false:=(hcl.not opHd_dep (i:=11) (j:=9) (by simp) hdi)
   obtain ⟨w1,hP,h1,h2⟩:=hH
   obtain rfl:=h1 hs0
   have hW:=hP.mem
   exact wp_enter (run_Gh17 a w _ _ _ _ _ _ _ _ _ ((hD 6 (by simp)).2 rfl) ((hD 8 (by simp)).2 rfl)) (R:=fun w' u=>∃ v,u=.agg #[.bool v.1,.int .u64 v.2.1,.int .u64 v.2.2.1,.pointer v.2.2.2]∧(FracAt w' (.agg #[.bool v.1,.int .u64 v.2.1,.int .u64 v.2.2.1,.pointer v.2.2.2]) (f))∧But [] w w') ((DI w hW).mono fun e w' ⟨v,he,hf,hb⟩=>⟨_,he,v,rfl,hf,hb⟩) (fun u w' ⟨v,hu,hf,hb⟩=>hK (v) _ _ (fun _=>hu) (fun j hj _ hdj=>by
    have:j=0∨j=1∨j=2∨j=3∨j=4∨j=5∨j=6∨j=7∨j=8∨j=9∨j=10∨j=11:=by omega
    rcases this with rfl | rfl | rfl | rfl | rfl | rfl | rfl | rfl | rfl | rfl | rfl | rfl
    ·rfl
    ·rfl
    ·rfl
    ·rfl
    ·rfl
    ·rfl
    ·rfl
    ·rfl
    ·rfl
    ·exact absurd (hdi.symm.trans hdj) (by simp)
    ·rfl
    ·rfl) ⟨_,((hP.but hb).s9 v hf),fun _=>rfl,fun h=>absurd (hs0.symm.trans h) (by simp)⟩)
  ·obtain rfl:=Option.some.inj ((show opHds[10]? = some opHd10 from rfl).symm.trans ho)
   exact wp_value (run_Gh11 a w _ _ _ _ _ _ _ gc (0) (n) (n) (k) (k*4) (by omega) hk hn ((hD 0 (by simp)).2 rfl) ((hD 1 (by simp)).2 rfl)) (hK N _ _ (fun _=>rfl) (fun _ _ _ _=>rfl) hH)
  ·obtain rfl:=Option.some.inj ((show opHds[11]? = some opHd11 from rfl).symm.trans ho)
   obtain ⟨w1,hP,h1,h2⟩:=hH
   obtain rfl:=h1 hdi
   have hW:=hP.mem
   have t9:d 9=true:=(hD 9 (by simp)).1
   exact wp_skipped (run_Gh16 a w _ _ _ _ _ gc (k*4) _ _ _ _ ((hD 10 (by simp)).2 rfl) ((hD 9 (by simp)).2 rfl) (⟨_,hW.cell_some cz.1 (by simp)⟩) (⟨_,hW.cell_some cz.2.1 (by simp)⟩) (⟨_,hW.cell_some cz.2.2.1 (by simp)⟩) (⟨_,hW.cell_some cz.2.2.2 (by simp)⟩) (fun j=>(hW.frozen (p:=⟨gc,j,none⟩) (show gc<_ from lt_of_cell cz.1) (by simp)).trans (fz j))) (hK N undef _ (fun h=>absurd h (by decide)) (fun _ _ _ _=>rfl) ⟨w,hP,fun h=>absurd h (by rw [came_self];simp),fun _=>rfl⟩)
 ·intro N d w hd hH
  obtain ⟨w1,hP,h1,h2⟩:=hH
  rw [h2 (hd 11 (by omega))]
  rw [hd 9 (by omega)] at hP
  exact hQ N w1 hP
theorem run_Gh18 (a:Act) (w:World) (d:Nat) (u:TypeId) (ps:String) (ed:Array Edge) (gd:Option (Nat × Bool)) (c:Value) :
  (execOp a.eval { dst:=some d,op:=Op.assign (Operand.const c),type:=u,pos:=ps,after:=ed,guard:=gd }).run Tryz.prog w=.ok (.value c) w:=by
 unfold execOp
 go_simp
 try rfl
def opHe0:Oper:={ dst:=some 39,op:=Op.fieldAddr 68 (Operand.tmp 12) 0,type:=0,pos := "spread.go:45",after:=#[],guard:=none }
def opHe1:Oper:={ dst:=some 40,op:=Op.load 32 (Operand.tmp 39),type := 32,pos := "spread.go:45",after:=#[⟨0,.data⟩],guard:=none }
def opHe2:Oper:={ dst:=some 41,op:=Op.move (Operand.tmp 2),type := 3,pos := "spread.go:45",after:=#[],guard:=none }
def opHe3:Oper:={ dst:=some 42,op:=Op.indexAddr 32 (Operand.tmp 40) (Operand.tmp 41),type:=0,pos := "spread.go:45",after:=#[⟨1,.data⟩,⟨2,.data⟩],guard:=none }
def opHe4:Oper:={ dst:=some 43,op:=Op.load 41 (Operand.tmp 42),type := 41,pos := "spread.go:45",after:=#[⟨3,.data⟩],guard:=none }
def opHe5:Oper:={ dst:=some 44,op:=Op.fieldAddr 68 (Operand.tmp 12) 1,type:=0,pos := "spread.go:45",after:=#[],guard:=none }
def opHe6:Oper:={ dst:=some 45,op:=Op.load 41 (Operand.tmp 44),type := 41,pos := "spread.go:45",after:=#[⟨5,.data⟩],guard:=none }
def opHe7:Oper:={ dst:=some 46,op:=Op.call { callee:=Callee.value (Operand.func 27),args:=#[Operand.tmp 43,Operand.tmp 45],argTypes:=#[41,41] },type := 41,pos := "spread.go:45",after:=#[⟨4,.data⟩,⟨6,.data⟩],guard:=none }
def opHe8:Oper:={ dst:=none,op:=Op.store 41 (Operand.tmp 10) (Operand.tmp 46),type:=0,pos := "spread.go:45",after:=#[⟨7,.data⟩,⟨7,.chain⟩,⟨0,.phase⟩,⟨1,.phase⟩,⟨2,.phase⟩,⟨3,.phase⟩,⟨4,.phase⟩,⟨5,.phase⟩,⟨6,.phase⟩,⟨7,.phase⟩],guard:=none }
def opHe9:Oper:={ dst:=some 11,op:=Op.assign (Operand.const Value.nilIface),type := 34,pos := "spread.go:45",after:=#[⟨8,.chain⟩,⟨0,.phase⟩,⟨1,.phase⟩,⟨2,.phase⟩,⟨3,.phase⟩,⟨4,.phase⟩,⟨5,.phase⟩,⟨6,.phase⟩,⟨7,.phase⟩,⟨8,.phase⟩],guard:=none }
def opHes:Array Oper:=#[opHe0,opHe1,opHe2,opHe3,opHe4,opHe5,opHe6,opHe7,opHe8,opHe9]
structure opHeH (W0:World) (g12:Nat) (g10:Nat) (gR:Nat) (n:Nat) (k:Nat) (f:Rat) (s1:Bool) (x1:Int) (y1:Int) (p1:Option Addr) (s2:Bool) (x2:Int) (y2:Int) (p2:Option Addr) (s0:Bool) (x0:Int) (y0:Int) (p0:Option Addr) (z:FZ) (b7:Bool) (w:World):Prop where
 mem:But [] W0 w
 f7:b7=true→FracAt w (.agg #[.bool z.1,.int .u64 z.2.1,.int .u64 z.2.2.1,.pointer z.2.2.2]) (f)
theorem opHeH.but {W0:World} {g12:Nat} {g10:Nat} {gR:Nat} {n:Nat} {k:Nat} {f:Rat} {s1:Bool} {x1:Int} {y1:Int} {p1:Option Addr} {s2:Bool} {x2:Int} {y2:Int} {p2:Option Addr} {s0:Bool} {x0:Int} {y0:Int} {p0:Option Addr} {z:FZ} {b7:Bool} {w w':World} (h:opHeH W0 g12 g10 gR n k f s1 x1 y1 p1 s2 x2 y2 p2 s0 x0 y0 p0 z b7 w) (hb:But [] w w'):opHeH W0 g12 g10 gR n k f s1 x1 y1 p1 s2 x2 y2 p2 s0 x0 y0 p0 z b7 w' :=
 { mem:=h.mem.trans' hb,f7:=fun e=>(h.f7 e).but hb }
theorem opHeH.s7 {W0:World} {g12:Nat} {g10:Nat} {gR:Nat} {n:Nat} {k:Nat} {f:Rat} {s1:Bool} {x1:Int} {y1:Int} {p1:Option Addr} {s2:Bool} {x2:Int} {y2:Int} {p2:Option Addr} {s0:Bool} {x0:Int} {y0:Int} {p0:Option Addr} {z:FZ} {b7:Bool} {w:World} (h:opHeH W0 g12 g10 gR n k f s1 x1 y1 p1 s2 x2 y2 p2 s0 x0 y0 p0 z b7 w) (z':FZ) (hf:FracAt w (.agg #[.bool z'.1,.int .u64 z'.2.1,.int .u64 z'.2.2.1,.pointer z'.2.2.2]) (f)):opHeH W0 g12 g10 gR n k f s1 x1 y1 p1 s2 x2 y2 p2 s0 x0 y0 p0 z' true w :=
 { mem:=h.mem,f7:=fun _=>hf }
def opHeT (i:Nat):Nat:=match i with
 | 0=>39
 | 1=>40
 | 2=>41
 | 3=>42
 | 4=>43
 | 5=>44
 | 6=>45
 | 7=>46
 | 8=>39
 | _=>11
def opHeW (i:Nat):Bool:=match i with
 | 8=>false
 | _=>true
def opHeV (g12:Nat) (g10:Nat) (gR:Nat) (n:Nat) (k:Nat) (f:Rat) (s1:Bool) (x1:Int) (y1:Int) (p1:Option Addr) (s2:Bool) (x2:Int) (y2:Int) (p2:Option Addr) (s0:Bool) (x0:Int) (y0:Int) (p0:Option Addr) (z:FZ) (i:Nat):Value:=match i with
 | 0=>.pointer (some ⟨g12,0,none⟩)
 | 1=>.slice (some ⟨gR,0,none⟩) n n
 | 2=>.int .i64 (k:Int)
 | 3=>.pointer (some ⟨gR,k*4,none⟩)
 | 4=>.agg #[.bool s1,.int .u64 x1,.int .u64 y1,.pointer p1]
 | 5=>.pointer (some ⟨g12,1,none⟩)
 | 6=>.agg #[.bool s2,.int .u64 x2,.int .u64 y2,.pointer p2]
 | 7=>.agg #[.bool z.1,.int .u64 z.2.1,.int .u64 z.2.2.1,.pointer z.2.2.2]
 | 8=>undef
 | _=>.nilIface
theorem opHe_dep:depOps opHes [(1,0),(3,1),(3,2),(4,3),(6,5),(7,4),(7,6),(8,0),(8,1),(8,2),(8,3),(8,4),(8,5),(8,6),(8,7),(9,0),(9,1),(9,2),(9,3),(9,4),(9,5),(9,6),(9,7),(9,8)]=true:=by kernel_rfl
theorem opHeT_inj:∀ i j,i<10→j<10→opHeW i=true→opHeW j=true→opHeT i=opHeT j→i=j:=fun i j hi hj=>(by decide:∀ i,i<10→∀ j,j<10→opHeW i=true→opHeW j=true→opHeT i=opHeT j→i=j) i hi j hj
theorem prob_region4 (id:Nat) (Q:Exit→Act→World→Prop) (base:Act) (W0:World) (g12:Nat) (g10:Nat) (gR:Nat) (n:Nat) (k:Nat) (f:Rat) (s1:Bool) (x1:Int) (y1:Int) (p1:Option Addr) (s2:Bool) (x2:Int) (y2:Int) (p2:Option Addr) (s0:Bool) (x0:Int) (y0:Int) (p0:Option Addr) (hs:46<base.tmps.size) (e12:base.eval (.tmp 12)=.pointer (some ⟨g12,0,none⟩)) (e2:base.eval (.tmp 2)=.int .i64 (k:Int)) (e10:base.eval (.tmp 10)=.pointer (some ⟨g10,0,none⟩))
  (hk:k<n) (hn:n<1000000) (c0:W0.cell? ⟨g12,0,none⟩=some (.slice (some ⟨gR,0,none⟩) n n)) (cr:P4o W0 gR (k*4) s1 x1 y1 p1) (cu:P4o W0 g12 (1) s2 x2 y2 p2) (cz:P4o W0 g10 0 s0 x0 y0 p0) (fz:∀ j,W0.frozen? ⟨g10,j,none⟩=false) (DI:∀ w,But [] W0 w→Calls Tryz.prog 27 #[.agg #[.bool s1,.int .u64 x1,.int .u64 y1,.pointer p1],.agg #[.bool s2,.int .u64 x2,.int .u64 y2,.pointer p2]] w fun e w'=>∃ z:FZ,e=.returned (.agg #[.bool z.1,.int .u64 z.2.1,.int .u64 z.2.2.1,.pointer z.2.2.2])∧FracAt w' (.agg #[.bool z.1,.int .u64 z.2.1,.int .u64 z.2.2.1,.pointer z.2.2.2]) (f)∧But [] w w')
  (hQ:∀ (z:FZ) w1,opHeH W0 g12 g10 gR n k f s1 x1 y1 p1 s2 x2 y2 p2 s0 x0 y0 p0 z true w1→Q .normal (putted base [(39,.pointer (some ⟨g12,0,none⟩)),(40,.slice (some ⟨gR,0,none⟩) n n),(41,.int .i64 (k:Int)),(42,.pointer (some ⟨gR,k*4,none⟩)),(43,.agg #[.bool s1,.int .u64 x1,.int .u64 y1,.pointer p1]),(44,.pointer (some ⟨g12,1,none⟩)),(45,.agg #[.bool s2,.int .u64 x2,.int .u64 y2,.pointer p2]),(46,.agg #[.bool z.1,.int .u64 z.2.1,.int .u64 z.2.2.1,.pointer z.2.2.2]),(11,.nilIface)]) (w1.setCells g10 (0) [.bool z.1,.int .u64 z.2.1,.int .u64 z.2.2.1,.pointer z.2.2.2])) :
  (Code.region id opHes true).wp Tryz.prog Q base W0:=by
 have hT:∀ i,i<10→opHeW i=true→opHeT i<base.tmps.size:=fun i hi _=>by
  have h:opHeT i≤46:=by revert i;decide
  omega
 refine region_all (by kernel_rfl) (low_of (by kernel_rfl)) (bare_of (by kernel_rfl)) (fun (N:(FZ)) d w=>∃ w1,opHeH W0 g12 g10 gR n k f s1 x1 y1 p1 s2 x2 y2 p2 s0 x0 y0 p0 N (d 7) w1∧(d 8=false→w=w1)∧(d 8=true→w=(w1.setCells g10 (0) [.bool N.1,.int .u64 N.2.1,.int .u64 N.2.2.1,.pointer N.2.2.2]))) (fun N=>opHeV g12 g10 gR n k f s1 x1 y1 p1 s2 x2 y2 p2 s0 x0 y0 p0 N) opHeT opHeW 10 (by kernel_rfl) opHeT_inj hT ((false,0,0,none)) ⟨_,{ mem:=(But.refl _ _).drew,f7:=fun h=>by simp at h },fun _=>rfl,fun h=>by simp at h⟩ ?_ ?_
 ·intro N d i o a w K hi ho hdi hcl hH he hdep hK
  have hD:=dep_is opHe_dep ho (fun j=>d j=true∧(opHeW j=true→a.eval (.tmp (opHeT j))=opHeV g12 g10 gR n k f s1 x1 y1 p1 s2 x2 y2 p2 s0 x0 y0 p0 N j)) hdep
  have e12':=(he 12 (fun j hj _ _=>(by decide:∀ j,j<10→(12:Nat)≠opHeT j) j hj)).trans e12
  have e2':=(he 2 (fun j hj _ _=>(by decide:∀ j,j<10→(2:Nat)≠opHeT j) j hj)).trans e2
  have e10':=(he 10 (fun j hj _ _=>(by decide:∀ j,j<10→(10:Nat)≠opHeT j) j hj)).trans e10
  have:i=0∨i=1∨i=2∨i=3∨i=4∨i=5∨i=6∨i=7∨i=8∨i=9:=by omega
  rcases this with rfl | rfl | rfl | rfl | rfl | rfl | rfl | rfl | rfl | rfl
  ·obtain rfl:=Option.some.inj ((show opHes[0]? = some opHe0 from rfl).symm.trans ho)
   exact wp_value (run_Gh3 a w _ _ _ _ _ _ g12 (0) (0) rfl e12') (hK N _ _ (fun _=>rfl) (fun _ _ _ _=>rfl) hH)
  ·obtain rfl:=Option.some.inj ((show opHes[1]? = some opHe1 from rfl).symm.trans ho)
   have hs0:d 8=false:=(hcl.not opHe_dep (i:=8) (j:=1) (by simp) hdi)
   obtain ⟨w1,hP,h1,h2⟩:=hH
   obtain rfl:=h1 hs0
   have hW:=hP.mem
   exact wp_value (run_Gh4 a w _ _ _ _ _ _ g12 (0) _ ((hD 0 (by simp)).2 rfl) (hW.cell_some c0 (by simp))) (hK N _ _ (fun _=>rfl) (fun _ _ _ _=>rfl) ⟨_,hP,h1,h2⟩)
  ·obtain rfl:=Option.some.inj ((show opHes[2]? = some opHe2 from rfl).symm.trans ho)
   exact wp_value (run_mvK a w _ _ _ _ _ _ _ e2') (hK N _ _ (fun _=>rfl) (fun _ _ _ _=>rfl) hH)
  ·obtain rfl:=Option.some.inj ((show opHes[3]? = some opHe3 from rfl).symm.trans ho)
   exact wp_value (run_Gh11 a w _ _ _ _ _ _ _ gR (0) (n) (n) (k) (k*4) (by omega) hk hn ((hD 1 (by simp)).2 rfl) ((hD 2 (by simp)).2 rfl)) (hK N _ _ (fun _=>rfl) (fun _ _ _ _=>rfl) hH)
  ·obtain rfl:=Option.some.inj ((show opHes[4]? = some opHe4 from rfl).symm.trans ho)
   have hs0:d 8=false:=(hcl.not opHe_dep (i:=8) (j:=4) (by simp) hdi)
   obtain ⟨w1,hP,h1,h2⟩:=hH
   obtain rfl:=h1 hs0
   have hW:=hP.mem
   exact wp_value (run_loadK a w _ _ _ _ _ _ gR (k*4) _ _ _ _ ((hD 3 (by simp)).2 rfl) (cr.but hW (by simp))) (hK N _ _ (fun _=>rfl) (fun _ _ _ _=>rfl) ⟨_,hP,h1,h2⟩)
  ·obtain rfl:=Option.some.inj ((show opHes[5]? = some opHe5 from rfl).symm.trans ho)
   exact wp_value (run_Gh7 a w _ _ _ _ _ _ g12 (0) (1) rfl e12') (hK N _ _ (fun _=>rfl) (fun _ _ _ _=>rfl) hH)
  ·obtain rfl:=Option.some.inj ((show opHes[6]? = some opHe6 from rfl).symm.trans ho)
   have hs0:d 8=false:=(hcl.not opHe_dep (i:=8) (j:=6) (by simp) hdi)
   obtain ⟨w1,hP,h1,h2⟩:=hH
   obtain rfl:=h1 hs0
   have hW:=hP.mem
   exact wp_value (run_loadK a w _ _ _ _ _ _ g12 (1) _ _ _ _ ((hD 5 (by simp)).2 rfl) (cu.but hW (by simp))) (hK N _ _ (fun _=>rfl) (fun _ _ _ _=>rfl) ⟨_,hP,h1,h2⟩)
  ·obtain rfl:=Option.some.inj ((show opHes[7]? = some opHe7 from rfl).symm.trans ho)
   have hs0:d 8=false:=(hcl.not opHe_dep (i:=8) (j:=7) (by simp) hdi)
   obtain ⟨w1,hP,h1,h2⟩:=hH
   obtain rfl:=h1 hs0
   have hW:=hP.mem
   exact wp_enter (run_Gh17 a w _ _ _ _ _ _ _ _ _ ((hD 4 (by simp)).2 rfl) ((hD 6 (by simp)).2 rfl)) (R:=fun w' u=>∃ v,u=.agg #[.bool v.1,.int .u64 v.2.1,.int .u64 v.2.2.1,.pointer v.2.2.2]∧(FracAt w' (.agg #[.bool v.1,.int .u64 v.2.1,.int .u64 v.2.2.1,.pointer v.2.2.2]) (f))∧But [] w w') ((DI w hW).mono fun e w' ⟨v,he,hf,hb⟩=>⟨_,he,v,rfl,hf,hb⟩) (fun u w' ⟨v,hu,hf,hb⟩=>hK (v) _ _ (fun _=>hu) (fun j hj _ hdj=>by
    have:j=0∨j=1∨j=2∨j=3∨j=4∨j=5∨j=6∨j=7∨j=8∨j=9:=by omega
    rcases this with rfl | rfl | rfl | rfl | rfl | rfl | rfl | rfl | rfl | rfl
    ·rfl
    ·rfl
    ·rfl
    ·rfl
    ·rfl
    ·rfl
    ·rfl
    ·exact absurd (hdi.symm.trans hdj) (by simp)
    ·rfl
    ·rfl) ⟨_,((hP.but hb).s7 v hf),fun _=>rfl,fun h=>absurd (hs0.symm.trans h) (by simp)⟩)
  ·obtain rfl:=Option.some.inj ((show opHes[8]? = some opHe8 from rfl).symm.trans ho)
   obtain ⟨w1,hP,h1,h2⟩:=hH
   obtain rfl:=h1 hdi
   have hW:=hP.mem
   have t7:d 7=true:=(hD 7 (by simp)).1
   exact wp_skipped (run_Gh16 a w _ _ _ _ _ g10 (0) _ _ _ _ e10' ((hD 7 (by simp)).2 rfl) (⟨_,hW.cell_some cz.1 (by simp)⟩) (⟨_,hW.cell_some cz.2.1 (by simp)⟩) (⟨_,hW.cell_some cz.2.2.1 (by simp)⟩) (⟨_,hW.cell_some cz.2.2.2 (by simp)⟩) (fun j=>(hW.frozen (p:=⟨g10,j,none⟩) (show g10<_ from lt_of_cell cz.1) (by simp)).trans (fz j))) (hK N undef _ (fun h=>absurd h (by decide)) (fun _ _ _ _=>rfl) ⟨w,hP,fun h=>absurd h (by rw [came_self];simp),fun _=>rfl⟩)
  ·obtain rfl:=Option.some.inj ((show opHes[9]? = some opHe9 from rfl).symm.trans ho)
   exact wp_value (run_Gh18 a w _ _ _ _ _ _) (hK N _ _ (fun _=>rfl) (fun _ _ _ _=>rfl) hH)
 ·intro N d w hd hH
  obtain ⟨w1,hP,h1,h2⟩:=hH
  rw [h2 (hd 8 (by omega))]
  rw [hd 7 (by omega)] at hP
  exact hQ N w1 hP
theorem run_Gh19 (a:Act) (w:World) (d:Nat) (u:TypeId) (ps:String) (ed:Array Edge) (gd:Option (Nat × Bool))  :
  (execOp a.eval { dst:=some d,op:=Op.call { callee:=Callee.value (Operand.func 17),args:=#[Operand.const (Value.int IntKind.i64 1)],argTypes:=#[3] },type:=u,pos:=ps,after:=ed,guard:=gd }).run Tryz.prog w=.ok (.enter 17 #[(Value.int IntKind.i64 1)]) w:=by
 unfold execOp
 go_simp
theorem run_Gh20 (a:Act) (w:World) (d t0:Nat) (u:TypeId) (ps:String) (ed:Array Edge) (gd:Option (Nat × Bool)) (z0:Value) (h0:a.eval (.tmp t0)=z0) :
  (execOp a.eval { dst:=some d,op:=Op.call { callee:=Callee.value (Operand.func 33),args:=#[Operand.tmp t0],argTypes:=#[32] },type:=u,pos:=ps,after:=ed,guard:=gd }).run Tryz.prog w=.ok (.enter 33 #[z0]) w:=by
 unfold execOp
 go_simp
 rw [← h0]
 simp [Act.eval]
theorem run_Gh21 (a:Act) (w:World) (d t0 t1:Nat) (u:TypeId) (ps:String) (ed:Array Edge) (gd:Option (Nat × Bool)) (z0 z1:Value) (h0:a.eval (.tmp t0)=z0) (h1:a.eval (.tmp t1)=z1) :
  (execOp a.eval { dst:=some d,op:=Op.call { callee:=Callee.value (Operand.func 32),args:=#[Operand.tmp t0,Operand.tmp t1],argTypes:=#[41,41] },type:=u,pos:=ps,after:=ed,guard:=gd }).run Tryz.prog w=.ok (.enter 32 #[z0,z1]) w:=by
 unfold execOp
 go_simp
 rw [← h0,← h1]
 simp [Act.eval]
def opHf0:Oper:={ dst:=some 63,op:=Op.call { callee:=Callee.value (Operand.func 17),args:=#[Operand.const (Value.int IntKind.i64 1)],argTypes:=#[3] },type := 41,pos := "spread.go:74",after:=#[],guard:=none }
def opHf1:Oper:={ dst:=some 64,op:=Op.fieldAddr 68 (Operand.tmp 12) 0,type:=0,pos := "spread.go:74",after:=#[],guard:=none }
def opHf2:Oper:={ dst:=some 65,op:=Op.load 32 (Operand.tmp 64),type := 32,pos := "spread.go:74",after:=#[⟨1,.data⟩],guard:=none }
def opHf3:Oper:={ dst:=some 66,op:=Op.call { callee:=Callee.value (Operand.func 33),args:=#[Operand.tmp 65],argTypes:=#[32] },type := 41,pos := "spread.go:74",after:=#[⟨2,.data⟩,⟨0,.chain⟩],guard:=none }
def opHf4:Oper:={ dst:=some 67,op:=Op.fieldAddr 68 (Operand.tmp 12) 1,type:=0,pos := "spread.go:74",after:=#[],guard:=none }
def opHf5:Oper:={ dst:=some 68,op:=Op.load 41 (Operand.tmp 67),type := 41,pos := "spread.go:74",after:=#[⟨4,.data⟩],guard:=none }
def opHf6:Oper:={ dst:=some 69,op:=Op.call { callee:=Callee.value (Operand.func 27),args:=#[Operand.tmp 66,Operand.tmp 68],argTypes:=#[41,41] },type := 41,pos := "spread.go:74",after:=#[⟨3,.data⟩,⟨5,.data⟩,⟨3,.chain⟩],guard:=none }
def opHf7:Oper:={ dst:=some 70,op:=Op.call { callee:=Callee.value (Operand.func 32),args:=#[Operand.tmp 63,Operand.tmp 69],argTypes:=#[41,41] },type := 41,pos := "spread.go:74",after:=#[⟨0,.data⟩,⟨6,.data⟩,⟨6,.chain⟩],guard:=none }
def opHf8:Oper:={ dst:=none,op:=Op.store 41 (Operand.tmp 10) (Operand.tmp 70),type:=0,pos := "spread.go:74",after:=#[⟨7,.data⟩,⟨7,.chain⟩,⟨0,.phase⟩,⟨1,.phase⟩,⟨2,.phase⟩,⟨3,.phase⟩,⟨4,.phase⟩,⟨5,.phase⟩,⟨6,.phase⟩,⟨7,.phase⟩],guard:=none }
def opHf9:Oper:={ dst:=some 11,op:=Op.assign (Operand.const Value.nilIface),type := 34,pos := "spread.go:74",after:=#[⟨8,.chain⟩,⟨0,.phase⟩,⟨1,.phase⟩,⟨2,.phase⟩,⟨3,.phase⟩,⟨4,.phase⟩,⟨5,.phase⟩,⟨6,.phase⟩,⟨7,.phase⟩,⟨8,.phase⟩],guard:=none }
def opHfs:Array Oper:=#[opHf0,opHf1,opHf2,opHf3,opHf4,opHf5,opHf6,opHf7,opHf8,opHf9]
structure opHfH (W0:World) (g12:Nat) (g10:Nat) (gR:Nat) (n:Nat) (r1:Rat) (r2:Rat) (r3:Rat) (s1:Bool) (x1:Int) (y1:Int) (p1:Option Addr) (s2:Bool) (x2:Int) (y2:Int) (p2:Option Addr) (s0:Bool) (x0:Int) (y0:Int) (p0:Option Addr) (za:FZ) (zb:FZ) (zc:FZ) (b3:Bool) (b6:Bool) (b7:Bool) (w:World):Prop where
 mem:But [] W0 w
 f3:b3=true→FracAt w (.agg #[.bool za.1,.int .u64 za.2.1,.int .u64 za.2.2.1,.pointer za.2.2.2]) (r1)
 f6:b6=true→FracAt w (.agg #[.bool zb.1,.int .u64 zb.2.1,.int .u64 zb.2.2.1,.pointer zb.2.2.2]) (r2)
 f7:b7=true→FracAt w (.agg #[.bool zc.1,.int .u64 zc.2.1,.int .u64 zc.2.2.1,.pointer zc.2.2.2]) (r3)
theorem opHfH.but {W0:World} {g12:Nat} {g10:Nat} {gR:Nat} {n:Nat} {r1:Rat} {r2:Rat} {r3:Rat} {s1:Bool} {x1:Int} {y1:Int} {p1:Option Addr} {s2:Bool} {x2:Int} {y2:Int} {p2:Option Addr} {s0:Bool} {x0:Int} {y0:Int} {p0:Option Addr} {za:FZ} {zb:FZ} {zc:FZ} {b3 b6 b7:Bool} {w w':World} (h:opHfH W0 g12 g10 gR n r1 r2 r3 s1 x1 y1 p1 s2 x2 y2 p2 s0 x0 y0 p0 za zb zc b3 b6 b7 w) (hb:But [] w w'):opHfH W0 g12 g10 gR n r1 r2 r3 s1 x1 y1 p1 s2 x2 y2 p2 s0 x0 y0 p0 za zb zc b3 b6 b7 w' :=
 { mem:=h.mem.trans' hb,f3:=fun e=>(h.f3 e).but hb,f6:=fun e=>(h.f6 e).but hb,f7:=fun e=>(h.f7 e).but hb }
theorem opHfH.s3 {W0:World} {g12:Nat} {g10:Nat} {gR:Nat} {n:Nat} {r1:Rat} {r2:Rat} {r3:Rat} {s1:Bool} {x1:Int} {y1:Int} {p1:Option Addr} {s2:Bool} {x2:Int} {y2:Int} {p2:Option Addr} {s0:Bool} {x0:Int} {y0:Int} {p0:Option Addr} {za:FZ} {zb:FZ} {zc:FZ} {b3 b6 b7:Bool} {w:World} (h:opHfH W0 g12 g10 gR n r1 r2 r3 s1 x1 y1 p1 s2 x2 y2 p2 s0 x0 y0 p0 za zb zc b3 b6 b7 w) (za':FZ) (hf:FracAt w (.agg #[.bool za'.1,.int .u64 za'.2.1,.int .u64 za'.2.2.1,.pointer za'.2.2.2]) (r1)):opHfH W0 g12 g10 gR n r1 r2 r3 s1 x1 y1 p1 s2 x2 y2 p2 s0 x0 y0 p0 za' zb zc true b6 b7 w :=
 { mem:=h.mem,f3:=fun _=>hf,f6:=h.f6,f7:=h.f7 }
theorem opHfH.s6 {W0:World} {g12:Nat} {g10:Nat} {gR:Nat} {n:Nat} {r1:Rat} {r2:Rat} {r3:Rat} {s1:Bool} {x1:Int} {y1:Int} {p1:Option Addr} {s2:Bool} {x2:Int} {y2:Int} {p2:Option Addr} {s0:Bool} {x0:Int} {y0:Int} {p0:Option Addr} {za:FZ} {zb:FZ} {zc:FZ} {b3 b6 b7:Bool} {w:World} (h:opHfH W0 g12 g10 gR n r1 r2 r3 s1 x1 y1 p1 s2 x2 y2 p2 s0 x0 y0 p0 za zb zc b3 b6 b7 w) (zb':FZ) (hf:FracAt w (.agg #[.bool zb'.1,.int .u64 zb'.2.1,.int .u64 zb'.2.2.1,.pointer zb'.2.2.2]) (r2)):opHfH W0 g12 g10 gR n r1 r2 r3 s1 x1 y1 p1 s2 x2 y2 p2 s0 x0 y0 p0 za zb' zc b3 true b7 w :=
 { mem:=h.mem,f3:=h.f3,f6:=fun _=>hf,f7:=h.f7 }
theorem opHfH.s7 {W0:World} {g12:Nat} {g10:Nat} {gR:Nat} {n:Nat} {r1:Rat} {r2:Rat} {r3:Rat} {s1:Bool} {x1:Int} {y1:Int} {p1:Option Addr} {s2:Bool} {x2:Int} {y2:Int} {p2:Option Addr} {s0:Bool} {x0:Int} {y0:Int} {p0:Option Addr} {za:FZ} {zb:FZ} {zc:FZ} {b3 b6 b7:Bool} {w:World} (h:opHfH W0 g12 g10 gR n r1 r2 r3 s1 x1 y1 p1 s2 x2 y2 p2 s0 x0 y0 p0 za zb zc b3 b6 b7 w) (zc':FZ) (hf:FracAt w (.agg #[.bool zc'.1,.int .u64 zc'.2.1,.int .u64 zc'.2.2.1,.pointer zc'.2.2.2]) (r3)):opHfH W0 g12 g10 gR n r1 r2 r3 s1 x1 y1 p1 s2 x2 y2 p2 s0 x0 y0 p0 za zb zc' b3 b6 true w :=
 { mem:=h.mem,f3:=h.f3,f6:=h.f6,f7:=fun _=>hf }
def opHfT (i:Nat):Nat:=match i with
 | 0=>63
 | 1=>64
 | 2=>65
 | 3=>66
 | 4=>67
 | 5=>68
 | 6=>69
 | 7=>70
 | 8=>63
 | _=>11
def opHfW (i:Nat):Bool:=match i with
 | 8=>false
 | _=>true
def opHfV (g12:Nat) (g10:Nat) (gR:Nat) (n:Nat) (r1:Rat) (r2:Rat) (r3:Rat) (s1:Bool) (x1:Int) (y1:Int) (p1:Option Addr) (s2:Bool) (x2:Int) (y2:Int) (p2:Option Addr) (s0:Bool) (x0:Int) (y0:Int) (p0:Option Addr) (za:FZ) (zb:FZ) (zc:FZ) (i:Nat):Value:=match i with
 | 0=>.agg #[.bool s1,.int .u64 x1,.int .u64 y1,.pointer p1]
 | 1=>.pointer (some ⟨g12,0,none⟩)
 | 2=>.slice (some ⟨gR,0,none⟩) n n
 | 3=>.agg #[.bool za.1,.int .u64 za.2.1,.int .u64 za.2.2.1,.pointer za.2.2.2]
 | 4=>.pointer (some ⟨g12,1,none⟩)
 | 5=>.agg #[.bool s2,.int .u64 x2,.int .u64 y2,.pointer p2]
 | 6=>.agg #[.bool zb.1,.int .u64 zb.2.1,.int .u64 zb.2.2.1,.pointer zb.2.2.2]
 | 7=>.agg #[.bool zc.1,.int .u64 zc.2.1,.int .u64 zc.2.2.1,.pointer zc.2.2.2]
 | 8=>undef
 | _=>.nilIface
theorem opHf_dep:depOps opHfs [(2,1),(3,0),(3,2),(5,4),(6,3),(6,5),(7,0),(7,6),(8,0),(8,1),(8,2),(8,3),(8,4),(8,5),(8,6),(8,7),(9,0),(9,1),(9,2),(9,3),(9,4),(9,5),(9,6),(9,7),(9,8)]=true:=by kernel_rfl
theorem opHfT_inj:∀ i j,i<10→j<10→opHfW i=true→opHfW j=true→opHfT i=opHfT j→i=j:=fun i j hi hj=>(by decide:∀ i,i<10→∀ j,j<10→opHfW i=true→opHfW j=true→opHfT i=opHfT j→i=j) i hi j hj
theorem hits_region11 (id:Nat) (Q:Exit→Act→World→Prop) (base:Act) (W0:World) (g12:Nat) (g10:Nat) (gR:Nat) (n:Nat) (r1:Rat) (r2:Rat) (r3:Rat) (s1:Bool) (x1:Int) (y1:Int) (p1:Option Addr) (s2:Bool) (x2:Int) (y2:Int) (p2:Option Addr) (s0:Bool) (x0:Int) (y0:Int) (p0:Option Addr) (hs:70<base.tmps.size) (e12:base.eval (.tmp 12)=.pointer (some ⟨g12,0,none⟩)) (e10:base.eval (.tmp 10)=.pointer (some ⟨g10,0,none⟩))
  (c0:W0.cell? ⟨g12,0,none⟩=some (.slice (some ⟨gR,0,none⟩) n n)) (cu:P4o W0 g12 (1) s2 x2 y2 p2) (cz:P4o W0 g10 0 s0 x0 y0 p0) (fz:∀ j,W0.frozen? ⟨g10,j,none⟩=false) (WH:∀ w,Calls Tryz.prog 17 #[.int .i64 1] w fun e w'=>e=.returned (.agg #[.bool s1,.int .u64 x1,.int .u64 y1,.pointer p1])∧But [] w w') (SU:∀ w,But [] W0 w→Calls Tryz.prog 33 #[.slice (some ⟨gR,0,none⟩) n n] w fun e w'=>∃ z:FZ,e=.returned (.agg #[.bool z.1,.int .u64 z.2.1,.int .u64 z.2.2.1,.pointer z.2.2.2])∧FracAt w' (.agg #[.bool z.1,.int .u64 z.2.1,.int .u64 z.2.2.1,.pointer z.2.2.2]) (r1)∧But [] w w') (DI:∀ w (y:FZ),But [] W0 w→FracAt w (.agg #[.bool y.1,.int .u64 y.2.1,.int .u64 y.2.2.1,.pointer y.2.2.2]) r1→Calls Tryz.prog 27 #[.agg #[.bool y.1,.int .u64 y.2.1,.int .u64 y.2.2.1,.pointer y.2.2.2],.agg #[.bool s2,.int .u64 x2,.int .u64 y2,.pointer p2]] w fun e w'=>∃ z:FZ,e=.returned (.agg #[.bool z.1,.int .u64 z.2.1,.int .u64 z.2.2.1,.pointer z.2.2.2])∧FracAt w' (.agg #[.bool z.1,.int .u64 z.2.1,.int .u64 z.2.2.1,.pointer z.2.2.2]) (r2)∧But [] w w') (SB:∀ w (y:FZ),But [] W0 w→FracAt w (.agg #[.bool y.1,.int .u64 y.2.1,.int .u64 y.2.2.1,.pointer y.2.2.2]) r2→Calls Tryz.prog 32 #[.agg #[.bool s1,.int .u64 x1,.int .u64 y1,.pointer p1],.agg #[.bool y.1,.int .u64 y.2.1,.int .u64 y.2.2.1,.pointer y.2.2.2]] w fun e w'=>∃ z:FZ,e=.returned (.agg #[.bool z.1,.int .u64 z.2.1,.int .u64 z.2.2.1,.pointer z.2.2.2])∧FracAt w' (.agg #[.bool z.1,.int .u64 z.2.1,.int .u64 z.2.2.1,.pointer z.2.2.2]) (r3)∧But [] w w')
  (hQ:∀ (za:FZ) (zb:FZ) (zc:FZ) w1,opHfH W0 g12 g10 gR n r1 r2 r3 s1 x1 y1 p1 s2 x2 y2 p2 s0 x0 y0 p0 za zb zc true true true w1→Q .normal (putted base [(63,.agg #[.bool s1,.int .u64 x1,.int .u64 y1,.pointer p1]),(64,.pointer (some ⟨g12,0,none⟩)),(65,.slice (some ⟨gR,0,none⟩) n n),(66,.agg #[.bool za.1,.int .u64 za.2.1,.int .u64 za.2.2.1,.pointer za.2.2.2]),(67,.pointer (some ⟨g12,1,none⟩)),(68,.agg #[.bool s2,.int .u64 x2,.int .u64 y2,.pointer p2]),(69,.agg #[.bool zb.1,.int .u64 zb.2.1,.int .u64 zb.2.2.1,.pointer zb.2.2.2]),(70,.agg #[.bool zc.1,.int .u64 zc.2.1,.int .u64 zc.2.2.1,.pointer zc.2.2.2]),(11,.nilIface)]) (w1.setCells g10 (0) [.bool zc.1,.int .u64 zc.2.1,.int .u64 zc.2.2.1,.pointer zc.2.2.2])) :
  (Code.region id opHfs true).wp Tryz.prog Q base W0:=by
 have hT:∀ i,i<10→opHfW i=true→opHfT i<base.tmps.size:=fun i hi _=>by
  have h:opHfT i≤70:=by revert i;decide
  omega
 refine region_all (by kernel_rfl) (low_of (by kernel_rfl)) (bare_of (by kernel_rfl)) (fun (N:(FZ) × (FZ) × (FZ)) d w=>∃ w1,opHfH W0 g12 g10 gR n r1 r2 r3 s1 x1 y1 p1 s2 x2 y2 p2 s0 x0 y0 p0 N.1 N.2.1 N.2.2 (d 3) (d 6) (d 7) w1∧(d 8=false→w=w1)∧(d 8=true→w=(w1.setCells g10 (0) [.bool N.2.2.1,.int .u64 N.2.2.2.1,.int .u64 N.2.2.2.2.1,.pointer N.2.2.2.2.2]))) (fun N=>opHfV g12 g10 gR n r1 r2 r3 s1 x1 y1 p1 s2 x2 y2 p2 s0 x0 y0 p0 N.1 N.2.1 N.2.2) opHfT opHfW 10 (by kernel_rfl) opHfT_inj hT ((false,0,0,none),(false,0,0,none),(false,0,0,none)) ⟨_,{ mem:=(But.refl _ _).drew,f3:=fun h=>by simp at h,f6:=fun h=>by simp at h,f7:=fun h=>by simp at h },fun _=>rfl,fun h=>by simp at h⟩ ?_ ?_
 ·intro N d i o a w K hi ho hdi hcl hH he hdep hK
  have hD:=dep_is opHf_dep ho (fun j=>d j=true∧(opHfW j=true→a.eval (.tmp (opHfT j))=opHfV g12 g10 gR n r1 r2 r3 s1 x1 y1 p1 s2 x2 y2 p2 s0 x0 y0 p0 N.1 N.2.1 N.2.2 j)) hdep
  have e12':=(he 12 (fun j hj _ _=>(by decide:∀ j,j<10→(12:Nat)≠opHfT j) j hj)).trans e12
  have e10':=(he 10 (fun j hj _ _=>(by decide:∀ j,j<10→(10:Nat)≠opHfT j) j hj)).trans e10
  have:i=0∨i=1∨i=2∨i=3∨i=4∨i=5∨i=6∨i=7∨i=8∨i=9:=by omega
  rcases this with rfl | rfl | rfl | rfl | rfl | rfl | rfl | rfl | rfl | rfl
  ·obtain rfl:=Option.some.inj ((show opHfs[0]? = some opHf0 from rfl).symm.trans ho)
   have hs0:d 8=false:=(hcl.not opHf_dep (i:=8) (j:=0) (by simp) hdi)
   obtain ⟨w1,hP,h1,h2⟩:=hH
   obtain rfl:=h1 hs0
   have hW:=hP.mem
   exact wp_enter (run_Gh19 a w _ _ _ _ _ ) (R:=fun w' v=>v=opHfV g12 g10 gR n r1 r2 r3 s1 x1 y1 p1 s2 x2 y2 p2 s0 x0 y0 p0 N.1 N.2.1 N.2.2 0∧But [] w w') ((WH w).mono fun e w' ⟨he,hb⟩=>⟨_,he,rfl,hb⟩) (fun v w' hv=>hK N _ _ (fun _=>hv.1) (fun _ _ _ _=>rfl) ⟨_,(hP.but hv.2),fun _=>rfl,fun h=>absurd (hs0.symm.trans h) (by simp)⟩)
  ·obtain rfl:=Option.some.inj ((show opHfs[1]? = some opHf1 from rfl).symm.trans ho)
   exact wp_value (run_Gh3 a w _ _ _ _ _ _ g12 (0) (0) rfl e12') (hK N _ _ (fun _=>rfl) (fun _ _ _ _=>rfl) hH)
  ·obtain rfl:=Option.some.inj ((show opHfs[2]? = some opHf2 from rfl).symm.trans ho)
   have hs0:d 8=false:=(hcl.not opHf_dep (i:=8) (j:=2) (by simp) hdi)
   obtain ⟨w1,hP,h1,h2⟩:=hH
   obtain rfl:=h1 hs0
   have hW:=hP.mem
   exact wp_value (run_Gh4 a w _ _ _ _ _ _ g12 (0) _ ((hD 1 (by simp)).2 rfl) (hW.cell_some c0 (by simp))) (hK N _ _ (fun _=>rfl) (fun _ _ _ _=>rfl) ⟨_,hP,h1,h2⟩)
  ·obtain rfl:=Option.some.inj ((show opHfs[3]? = some opHf3 from rfl).symm.trans ho)
   have hs0:d 8=false:=(hcl.not opHf_dep (i:=8) (j:=3) (by simp) hdi)
   obtain ⟨w1,hP,h1,h2⟩:=hH
   obtain rfl:=h1 hs0
   have hW:=hP.mem
   exact wp_enter (run_Gh20 a w _ _ _ _ _ _ _ ((hD 2 (by simp)).2 rfl)) (R:=fun w' u=>∃ v,u=.agg #[.bool v.1,.int .u64 v.2.1,.int .u64 v.2.2.1,.pointer v.2.2.2]∧(FracAt w' (.agg #[.bool v.1,.int .u64 v.2.1,.int .u64 v.2.2.1,.pointer v.2.2.2]) (r1))∧But [] w w') ((SU w hW).mono fun e w' ⟨v,he,hf,hb⟩=>⟨_,he,v,rfl,hf,hb⟩) (fun u w' ⟨v,hu,hf,hb⟩=>hK (v,N.2.1,N.2.2) _ _ (fun _=>hu) (fun j hj _ hdj=>by
    have:j=0∨j=1∨j=2∨j=3∨j=4∨j=5∨j=6∨j=7∨j=8∨j=9:=by omega
    rcases this with rfl | rfl | rfl | rfl | rfl | rfl | rfl | rfl | rfl | rfl
    ·rfl
    ·rfl
    ·rfl
    ·exact absurd (hdi.symm.trans hdj) (by simp)
    ·rfl
    ·rfl
    ·rfl
    ·rfl
    ·rfl
    ·rfl) ⟨_,((hP.but hb).s3 v hf),fun _=>rfl,fun h=>absurd (hs0.symm.trans h) (by simp)⟩)
  ·obtain rfl:=Option.some.inj ((show opHfs[4]? = some opHf4 from rfl).symm.trans ho)
   exact wp_value (run_Gh7 a w _ _ _ _ _ _ g12 (0) (1) rfl e12') (hK N _ _ (fun _=>rfl) (fun _ _ _ _=>rfl) hH)
  ·obtain rfl:=Option.some.inj ((show opHfs[5]? = some opHf5 from rfl).symm.trans ho)
   have hs0:d 8=false:=(hcl.not opHf_dep (i:=8) (j:=5) (by simp) hdi)
   obtain ⟨w1,hP,h1,h2⟩:=hH
   obtain rfl:=h1 hs0
   have hW:=hP.mem
   exact wp_value (run_loadK a w _ _ _ _ _ _ g12 (1) _ _ _ _ ((hD 4 (by simp)).2 rfl) (cu.but hW (by simp))) (hK N _ _ (fun _=>rfl) (fun _ _ _ _=>rfl) ⟨_,hP,h1,h2⟩)
  ·obtain rfl:=Option.some.inj ((show opHfs[6]? = some opHf6 from rfl).symm.trans ho)
   have hs0:d 8=false:=(hcl.not opHf_dep (i:=8) (j:=6) (by simp) hdi)
   obtain ⟨w1,hP,h1,h2⟩:=hH
   obtain rfl:=h1 hs0
   have hW:=hP.mem
   have t3:d 3=true:=(hD 3 (by simp)).1
   exact wp_enter (run_Gh17 a w _ _ _ _ _ _ _ _ _ ((hD 3 (by simp)).2 rfl) ((hD 5 (by simp)).2 rfl)) (R:=fun w' u=>∃ v,u=.agg #[.bool v.1,.int .u64 v.2.1,.int .u64 v.2.2.1,.pointer v.2.2.2]∧(FracAt w' (.agg #[.bool v.1,.int .u64 v.2.1,.int .u64 v.2.2.1,.pointer v.2.2.2]) (r2))∧But [] w w') ((DI w N.1 hW (hP.f3 t3)).mono fun e w' ⟨v,he,hf,hb⟩=>⟨_,he,v,rfl,hf,hb⟩) (fun u w' ⟨v,hu,hf,hb⟩=>hK (N.1,v,N.2.2) _ _ (fun _=>hu) (fun j hj _ hdj=>by
    have:j=0∨j=1∨j=2∨j=3∨j=4∨j=5∨j=6∨j=7∨j=8∨j=9:=by omega
    rcases this with rfl | rfl | rfl | rfl | rfl | rfl | rfl | rfl | rfl | rfl
    ·rfl
    ·rfl
    ·rfl
    ·rfl
    ·rfl
    ·rfl
    ·exact absurd (hdi.symm.trans hdj) (by simp)
    ·rfl
    ·rfl
    ·rfl) ⟨_,((hP.but hb).s6 v hf),fun _=>rfl,fun h=>absurd (hs0.symm.trans h) (by simp)⟩)
  ·obtain rfl:=Option.some.inj ((show opHfs[7]? = some opHf7 from rfl).symm.trans ho)
   have hs0:d 8=false:=(hcl.not opHf_dep (i:=8) (j:=7) (by simp) hdi)
   obtain ⟨w1,hP,h1,h2⟩:=hH
   obtain rfl:=h1 hs0
   have hW:=hP.mem
   have t6:d 6=true:=(hD 6 (by simp)).1
   exact wp_enter (run_Gh21 a w _ _ _ _ _ _ _ _ _ ((hD 0 (by simp)).2 rfl) ((hD 6 (by simp)).2 rfl)) (R:=fun w' u=>∃ v,u=.agg #[.bool v.1,.int .u64 v.2.1,.int .u64 v.2.2.1,.pointer v.2.2.2]∧(FracAt w' (.agg #[.bool v.1,.int .u64 v.2.1,.int .u64 v.2.2.1,.pointer v.2.2.2]) (r3))∧But [] w w') ((SB w N.2.1 hW (hP.f6 t6)).mono fun e w' ⟨v,he,hf,hb⟩=>⟨_,he,v,rfl,hf,hb⟩) (fun u w' ⟨v,hu,hf,hb⟩=>hK (N.1,N.2.1,v) _ _ (fun _=>hu) (fun j hj _ hdj=>by
    have:j=0∨j=1∨j=2∨j=3∨j=4∨j=5∨j=6∨j=7∨j=8∨j=9:=by omega
    rcases this with rfl | rfl | rfl | rfl | rfl | rfl | rfl | rfl | rfl | rfl
    ·rfl
    ·rfl
    ·rfl
    ·rfl
    ·rfl
    ·rfl
    ·rfl
    ·exact absurd (hdi.symm.trans hdj) (by simp)
    ·rfl
    ·rfl) ⟨_,((hP.but hb).s7 v hf),fun _=>rfl,fun h=>absurd (hs0.symm.trans h) (by simp)⟩)
  ·obtain rfl:=Option.some.inj ((show opHfs[8]? = some opHf8 from rfl).symm.trans ho)
   obtain ⟨w1,hP,h1,h2⟩:=hH
   obtain rfl:=h1 hdi
   have hW:=hP.mem
   have t3:d 3=true:=(hD 3 (by simp)).1
   have t6:d 6=true:=(hD 6 (by simp)).1
   have t7:d 7=true:=(hD 7 (by simp)).1
   exact wp_skipped (run_Gh16 a w _ _ _ _ _ g10 (0) _ _ _ _ e10' ((hD 7 (by simp)).2 rfl) (⟨_,hW.cell_some cz.1 (by simp)⟩) (⟨_,hW.cell_some cz.2.1 (by simp)⟩) (⟨_,hW.cell_some cz.2.2.1 (by simp)⟩) (⟨_,hW.cell_some cz.2.2.2 (by simp)⟩) (fun j=>(hW.frozen (p:=⟨g10,j,none⟩) (show g10<_ from lt_of_cell cz.1) (by simp)).trans (fz j))) (hK N undef _ (fun h=>absurd h (by decide)) (fun _ _ _ _=>rfl) ⟨w,hP,fun h=>absurd h (by rw [came_self];simp),fun _=>rfl⟩)
  ·obtain rfl:=Option.some.inj ((show opHfs[9]? = some opHf9 from rfl).symm.trans ho)
   exact wp_value (run_Gh18 a w _ _ _ _ _ _) (hK N _ _ (fun _=>rfl) (fun _ _ _ _=>rfl) hH)
 ·intro N d w hd hH
  obtain ⟨w1,hP,h1,h2⟩:=hH
  rw [h2 (hd 8 (by omega))]
  rw [hd 3 (by omega),hd 6 (by omega),hd 7 (by omega)] at hP
  exact hQ N.1 N.2.1 N.2.2 w1 hP
end Go.Proofs.YthlnhheblhapgaaGreatDoor
