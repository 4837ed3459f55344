/- Package match: the statements of worth,  -/
import Derived.Test.YtpfnnhjnakmnoaaGreatDoorKMVE
namespace Go.Proofs.YtpfnnhjnakmnoaaGreatDoor
open Go.RowKit
set_option maxHeartbeats 8000000
set_option maxRecDepth 100000
set_option linter.unusedVariables false
theorem run_Vs5 (a:Act) (w:World) (t1 t2:Nat) (u:TypeId) (ps:String) (ed:Array Edge) (b o:Nat) (s0:Bool) (x0 y0:Int) (p0:Option Addr) (h1:a.eval (.tmp t1)=.pointer (some ⟨b,o,none⟩)) (h2:a.eval (.tmp t2)=.agg #[.bool s0,.int .u64 x0,.int .u64 y0,.pointer p0]) (k0:∃ u,w.cell? ⟨b,o,none⟩=some u) (k1:∃ u,w.cell? ⟨b,o+1,none⟩=some u) (k2:∃ u,w.cell? ⟨b,o+2,none⟩=some u) (k3:∃ u,w.cell? ⟨b,o+3,none⟩=some u) (fz:∀ j,w.frozen? ⟨b,j,none⟩=false) :
  (execOp a.eval { dst:=none,op:=Op.store 27 (.tmp t1) (.tmp t2),type:=u,pos:=ps,after:=ed,guard:=none }).run Tryz.prog w=.ok .skip (w.setCells b o [.bool s0,.int .u64 x0,.int .u64 y0,.pointer p0]):=by
 obtain ⟨u0,e0⟩:=k0
 obtain ⟨u1,e1⟩:=k1
 obtain ⟨u2,e2⟩:=k2
 obtain ⟨u3,e3⟩:=k3
 unfold execOp
 simp only [h1,h2]
 go_simp
 try rfl
theorem run_Vs9 (a:Act) (w:World) (d:Nat) (u:TypeId) (ps:String) (ed:Array Edge) (gd:Option (Nat × Bool)) (c:Value) :
  (execOp a.eval { dst:=some d,op:=Op.assign (Operand.const c),type:=u,pos:=ps,after:=ed,guard:=gd }).run Tryz.prog w=.ok (.value c) w:=by
 unfold execOp
 go_simp
 try rfl
theorem run_Vs11 (a:Act) (w:World) (d t0 t1 t2 t3 t4:Nat) (u:TypeId) (ps:String) (ed:Array Edge) (gd:Option (Nat × Bool)) (z0 z1 z2 z3 z4:Value) (h0:a.eval (.tmp t0)=z0) (h1:a.eval (.tmp t1)=z1) (h2:a.eval (.tmp t2)=z2) (h3:a.eval (.tmp t3)=z3) (h4:a.eval (.tmp t4)=z4) :
  (execOp a.eval { dst:=some d,op:=Op.call { callee:=Callee.value (Operand.func 46),args:=#[Operand.tmp t0,Operand.tmp t1,Operand.tmp t2,Operand.tmp t3,Operand.tmp t4],argTypes:=#[27,3,3,3,27] },type:=u,pos:=ps,after:=ed,guard:=gd }).run Tryz.prog w=.ok (.enter 46 #[z0,z1,z2,z3,z4]) w:=by
 unfold execOp
 go_simp
 rw [← h0,← h1,← h2,← h3,← h4]
 simp [Act.eval]
def opVk0:Oper:={ dst:=some 42,op:=Op.load 27 (Operand.tmp 5),type := 27,pos := "shape.go:69",after:=#[],guard:=none }
def opVk1:Oper:={ dst:=some 43,op:=Op.move (Operand.tmp 1),type := 3,pos := "shape.go:69",after:=#[],guard:=none }
def opVk2:Oper:={ dst:=some 44,op:=Op.move (Operand.tmp 2),type := 3,pos := "shape.go:69",after:=#[],guard:=none }
def opVk3:Oper:={ dst:=some 45,op:=Op.move (Operand.tmp 3),type := 3,pos := "shape.go:69",after:=#[],guard:=none }
def opVk4:Oper:={ dst:=some 46,op:=Op.load 27 (Operand.tmp 9),type := 27,pos := "shape.go:69",after:=#[],guard:=none }
def opVk5:Oper:={ dst:=some 47,op:=Op.call { callee:=Callee.value (Operand.func 46),args:=#[Operand.tmp 42,Operand.tmp 43,Operand.tmp 44,Operand.tmp 45,Operand.tmp 46],argTypes:=#[27,3,3,3,27] },type := 27,pos := "shape.go:69",after:=#[⟨0,.data⟩,⟨1,.data⟩,⟨2,.data⟩,⟨3,.data⟩,⟨4,.data⟩],guard:=none }
def opVk6:Oper:={ dst:=some 48,op:=Op.load 27 (Operand.tmp 5),type := 27,pos := "shape.go:69",after:=#[],guard:=none }
def opVk7:Oper:={ dst:=some 49,op:=Op.move (Operand.tmp 1),type := 3,pos := "shape.go:69",after:=#[],guard:=none }
def opVk8:Oper:={ dst:=some 50,op:=Op.move (Operand.tmp 3),type := 3,pos := "shape.go:69",after:=#[],guard:=none }
def opVk9:Oper:={ dst:=some 51,op:=Op.move (Operand.tmp 2),type := 3,pos := "shape.go:69",after:=#[],guard:=none }
def opVk10:Oper:={ dst:=some 52,op:=Op.load 27 (Operand.tmp 9),type := 27,pos := "shape.go:69",after:=#[],guard:=none }
def opVk11:Oper:={ dst:=some 53,op:=Op.call { callee:=Callee.value (Operand.func 46),args:=#[Operand.tmp 48,Operand.tmp 49,Operand.tmp 50,Operand.tmp 51,Operand.tmp 52],argTypes:=#[27,3,3,3,27] },type := 27,pos := "shape.go:69",after:=#[⟨6,.data⟩,⟨7,.data⟩,⟨8,.data⟩,⟨9,.data⟩,⟨10,.data⟩,⟨5,.chain⟩],guard:=none }
def opVk12:Oper:={ dst:=none,op:=Op.store 27 (Operand.tmp 10) (Operand.tmp 47),type:=0,pos := "shape.go:69",after:=#[⟨5,.data⟩,⟨11,.chain⟩,⟨0,.phase⟩,⟨1,.phase⟩,⟨2,.phase⟩,⟨3,.phase⟩,⟨4,.phase⟩,⟨5,.phase⟩,{ on:=6,ground:=Ground.textOnly Departure.lateStores },{ on:=7,ground:=Ground.textOnly Departure.lateStores },{ on:=8,ground:=Ground.textOnly Departure.lateStores },{ on:=9,ground:=Ground.textOnly Departure.lateStores },{ on:=10,ground:=Ground.textOnly Departure.lateStores },{ on:=11,ground:=Ground.textOnly Departure.lateStoresUnsure }],guard:=none }
def opVk13:Oper:={ dst:=none,op:=Op.store 27 (Operand.tmp 11) (Operand.tmp 53),type:=0,pos := "shape.go:69",after:=#[⟨11,.data⟩,⟨12,.chain⟩,⟨0,.phase⟩,⟨1,.phase⟩,⟨2,.phase⟩,⟨3,.phase⟩,⟨4,.phase⟩,⟨5,.phase⟩,⟨6,.phase⟩,⟨7,.phase⟩,⟨8,.phase⟩,⟨9,.phase⟩,⟨10,.phase⟩,⟨11,.phase⟩,⟨12,.phase⟩],guard:=none }
def opVk14:Oper:={ dst:=some 12,op:=Op.assign (Operand.const Value.nilIface),type := 29,pos := "shape.go:69",after:=#[⟨13,.chain⟩,⟨0,.phase⟩,⟨1,.phase⟩,⟨2,.phase⟩,⟨3,.phase⟩,⟨4,.phase⟩,⟨5,.phase⟩,⟨6,.phase⟩,⟨7,.phase⟩,⟨8,.phase⟩,⟨9,.phase⟩,⟨10,.phase⟩,⟨11,.phase⟩,⟨12,.phase⟩,⟨13,.phase⟩],guard:=none }
def opVks:Array Oper:=#[opVk0,opVk1,opVk2,opVk3,opVk4,opVk5,opVk6,opVk7,opVk8,opVk9,opVk10,opVk11,opVk12,opVk13,opVk14]
structure opVkH (W0:World) (g5:Nat) (g9:Nat) (g10:Nat) (g11:Nat) (ta:Int) (th:Int) (tb:Int) (r1:Rat) (r2:Rat) (s1:Bool) (x1:Int) (y1:Int) (p1:Option Addr) (s2:Bool) (x2:Int) (y2:Int) (p2:Option Addr) (za:FZ) (zb:FZ) (b5:Bool) (b11:Bool) (w:World):Prop where
 mem:But [] W0 w
 f5:b5=true→FracAt w (.agg #[.bool za.1,.int .u64 za.2.1,.int .u64 za.2.2.1,.pointer za.2.2.2]) (r1)
 f11:b11=true→FracAt w (.agg #[.bool zb.1,.int .u64 zb.2.1,.int .u64 zb.2.2.1,.pointer zb.2.2.2]) (r2)
theorem opVkH.but {W0:World} {g5:Nat} {g9:Nat} {g10:Nat} {g11:Nat} {ta:Int} {th:Int} {tb:Int} {r1:Rat} {r2:Rat} {s1:Bool} {x1:Int} {y1:Int} {p1:Option Addr} {s2:Bool} {x2:Int} {y2:Int} {p2:Option Addr} {za:FZ} {zb:FZ} {b5 b11:Bool} {w w':World} (h:opVkH W0 g5 g9 g10 g11 ta th tb r1 r2 s1 x1 y1 p1 s2 x2 y2 p2 za zb b5 b11 w) (hb:But [] w w'):opVkH W0 g5 g9 g10 g11 ta th tb r1 r2 s1 x1 y1 p1 s2 x2 y2 p2 za zb b5 b11 w' :=
 { mem:=h.mem.trans' hb,f5:=fun e=>(h.f5 e).but hb,f11:=fun e=>(h.f11 e).but hb }
theorem opVkH.s5 {W0:World} {g5:Nat} {g9:Nat} {g10:Nat} {g11:Nat} {ta:Int} {th:Int} {tb:Int} {r1:Rat} {r2:Rat} {s1:Bool} {x1:Int} {y1:Int} {p1:Option Addr} {s2:Bool} {x2:Int} {y2:Int} {p2:Option Addr} {za:FZ} {zb:FZ} {b5 b11:Bool} {w:World} (h:opVkH W0 g5 g9 g10 g11 ta th tb r1 r2 s1 x1 y1 p1 s2 x2 y2 p2 za zb b5 b11 w) (za':FZ) (hf:FracAt w (.agg #[.bool za'.1,.int .u64 za'.2.1,.int .u64 za'.2.2.1,.pointer za'.2.2.2]) (r1)):opVkH W0 g5 g9 g10 g11 ta th tb r1 r2 s1 x1 y1 p1 s2 x2 y2 p2 za' zb true b11 w :=
 { mem:=h.mem,f5:=fun _=>hf,f11:=h.f11 }
theorem opVkH.s11 {W0:World} {g5:Nat} {g9:Nat} {g10:Nat} {g11:Nat} {ta:Int} {th:Int} {tb:Int} {r1:Rat} {r2:Rat} {s1:Bool} {x1:Int} {y1:Int} {p1:Option Addr} {s2:Bool} {x2:Int} {y2:Int} {p2:Option Addr} {za:FZ} {zb:FZ} {b5 b11:Bool} {w:World} (h:opVkH W0 g5 g9 g10 g11 ta th tb r1 r2 s1 x1 y1 p1 s2 x2 y2 p2 za zb b5 b11 w) (zb':FZ) (hf:FracAt w (.agg #[.bool zb'.1,.int .u64 zb'.2.1,.int .u64 zb'.2.2.1,.pointer zb'.2.2.2]) (r2)):opVkH W0 g5 g9 g10 g11 ta th tb r1 r2 s1 x1 y1 p1 s2 x2 y2 p2 za zb' b5 true w :=
 { mem:=h.mem,f5:=h.f5,f11:=fun _=>hf }
def opVkT (i:Nat):Nat:=match i with
 | 0=>42
 | 1=>43
 | 2=>44
 | 3=>45
 | 4=>46
 | 5=>47
 | 6=>48
 | 7=>49
 | 8=>50
 | 9=>51
 | 10=>52
 | 11=>53
 | 12=>42
 | 13=>42
 | _=>12
def opVkW (i:Nat):Bool:=match i with
 | 12=>false
 | 13=>false
 | _=>true
def opVkV (g5:Nat) (g9:Nat) (g10:Nat) (g11:Nat) (ta:Int) (th:Int) (tb:Int) (r1:Rat) (r2:Rat) (s1:Bool) (x1:Int) (y1:Int) (p1:Option Addr) (s2:Bool) (x2:Int) (y2:Int) (p2:Option Addr) (za:FZ) (zb:FZ) (i:Nat):Value:=match i with
 | 0=>.agg #[.bool s1,.int .u64 x1,.int .u64 y1,.pointer p1]
 | 1=>.int .i64 ta
 | 2=>.int .i64 th
 | 3=>.int .i64 tb
 | 4=>.agg #[.bool s2,.int .u64 x2,.int .u64 y2,.pointer p2]
 | 5=>.agg #[.bool za.1,.int .u64 za.2.1,.int .u64 za.2.2.1,.pointer za.2.2.2]
 | 6=>.agg #[.bool s1,.int .u64 x1,.int .u64 y1,.pointer p1]
 | 7=>.int .i64 ta
 | 8=>.int .i64 tb
 | 9=>.int .i64 th
 | 10=>.agg #[.bool s2,.int .u64 x2,.int .u64 y2,.pointer p2]
 | 11=>.agg #[.bool zb.1,.int .u64 zb.2.1,.int .u64 zb.2.2.1,.pointer zb.2.2.2]
 | 12=>undef
 | 13=>undef
 | _=>.nilIface
theorem opVk_dep:depOps opVks [(5,0),(5,1),(5,2),(5,3),(5,4),(11,5),(11,6),(11,7),(11,8),(11,9),(11,10),(12,0),(12,1),(12,2),(12,3),(12,4),(12,5),(12,11),(13,0),(13,1),(13,2),(13,3),(13,4),(13,5),(13,6),(13,7),(13,8),(13,9),(13,10),(13,11),(13,12),(14,0),(14,1),(14,2),(14,3),(14,4),(14,5),(14,6),(14,7),(14,8),(14,9),(14,10),(14,11),(14,12),(14,13)]=true:=by kernel_rfl
theorem opVkT_inj:∀ i j,i<15→j<15→opVkW i=true→opVkW j=true→opVkT i=opVkT j→i=j:=fun i j hi hj=>(by decide:∀ i,i<15→∀ j,j<15→opVkW i=true→opVkW j=true→opVkT i=opVkT j→i=j) i hi j hj
theorem pair_region5 (id:Nat) (Q:Exit→Act→World→Prop) (base:Act) (W0:World) (g5:Nat) (g9:Nat) (g10:Nat) (g11:Nat) (ta:Int) (th:Int) (tb:Int) (r1:Rat) (r2:Rat) (s1:Bool) (x1:Int) (y1:Int) (p1:Option Addr) (s2:Bool) (x2:Int) (y2:Int) (p2:Option Addr) (hs:53<base.tmps.size) (e5:base.eval (.tmp 5)=.pointer (some ⟨g5,0,none⟩)) (e9:base.eval (.tmp 9)=.pointer (some ⟨g9,0,none⟩)) (e10:base.eval (.tmp 10)=.pointer (some ⟨g10,0,none⟩)) (e11:base.eval (.tmp 11)=.pointer (some ⟨g11,0,none⟩)) (e1:base.eval (.tmp 1)=.int .i64 ta) (e2:base.eval (.tmp 2)=.int .i64 th) (e3:base.eval (.tmp 3)=.int .i64 tb)
  (c1:P4o W0 g5 (0) s1 x1 y1 p1) (c2:P4o W0 g9 (0) s2 x2 y2 p2) (cx:∀ k,k<4→∃ u,W0.cell? ⟨g10,k,none⟩=some u) (fx:∀ j,W0.frozen? ⟨g10,j,none⟩=false) (cy:∀ k,k<4→∃ u,W0.cell? ⟨g11,k,none⟩=some u) (fy:∀ j,W0.frozen? ⟨g11,j,none⟩=false) (hne:g11≠g10) (MA:∀ w,But [] W0 w→Calls Tryz.prog 46 #[.agg #[.bool s1,.int .u64 x1,.int .u64 y1,.pointer p1],.int .i64 ta,.int .i64 th,.int .i64 tb,.agg #[.bool s2,.int .u64 x2,.int .u64 y2,.pointer p2]] w fun e w'=>∃ z:FZ,e=.returned (.agg #[.bool z.1,.int .u64 z.2.1,.int .u64 z.2.2.1,.pointer z.2.2.2])∧FracAt w' (.agg #[.bool z.1,.int .u64 z.2.1,.int .u64 z.2.2.1,.pointer z.2.2.2]) (r1)∧But [] w w') (MB:∀ w,But [] W0 w→Calls Tryz.prog 46 #[.agg #[.bool s1,.int .u64 x1,.int .u64 y1,.pointer p1],.int .i64 ta,.int .i64 tb,.int .i64 th,.agg #[.bool s2,.int .u64 x2,.int .u64 y2,.pointer p2]] w fun e w'=>∃ z:FZ,e=.returned (.agg #[.bool z.1,.int .u64 z.2.1,.int .u64 z.2.2.1,.pointer z.2.2.2])∧FracAt w' (.agg #[.bool z.1,.int .u64 z.2.1,.int .u64 z.2.2.1,.pointer z.2.2.2]) (r2)∧But [] w w')
  (hQ:∀ (za:FZ) (zb:FZ) w1,opVkH W0 g5 g9 g10 g11 ta th tb r1 r2 s1 x1 y1 p1 s2 x2 y2 p2 za zb true true w1→Q .normal (putted base [(42,.agg #[.bool s1,.int .u64 x1,.int .u64 y1,.pointer p1]),(43,.int .i64 ta),(44,.int .i64 th),(45,.int .i64 tb),(46,.agg #[.bool s2,.int .u64 x2,.int .u64 y2,.pointer p2]),(47,.agg #[.bool za.1,.int .u64 za.2.1,.int .u64 za.2.2.1,.pointer za.2.2.2]),(48,.agg #[.bool s1,.int .u64 x1,.int .u64 y1,.pointer p1]),(49,.int .i64 ta),(50,.int .i64 tb),(51,.int .i64 th),(52,.agg #[.bool s2,.int .u64 x2,.int .u64 y2,.pointer p2]),(53,.agg #[.bool zb.1,.int .u64 zb.2.1,.int .u64 zb.2.2.1,.pointer zb.2.2.2]),(12,.nilIface)]) ((w1.setCells g10 (0) [.bool za.1,.int .u64 za.2.1,.int .u64 za.2.2.1,.pointer za.2.2.2]).setCells g11 (0) [.bool zb.1,.int .u64 zb.2.1,.int .u64 zb.2.2.1,.pointer zb.2.2.2])) :
  (Code.region id opVks true).wp Tryz.prog Q base W0:=by
 have hT:∀ i,i<15→opVkW i=true→opVkT i<base.tmps.size:=fun i hi _=>by
  have h:opVkT i≤53:=by revert i;decide
  omega
 refine region_all (by kernel_rfl) (low_of (by kernel_rfl)) (bare_of (by kernel_rfl)) (fun (N:(FZ) × (FZ)) d w=>∃ w1,opVkH W0 g5 g9 g10 g11 ta th tb r1 r2 s1 x1 y1 p1 s2 x2 y2 p2 N.1 N.2 (d 5) (d 11) w1∧(d 12=false→w=w1)∧(d 12=true→d 13=false→w=(w1.setCells g10 (0) [.bool N.1.1,.int .u64 N.1.2.1,.int .u64 N.1.2.2.1,.pointer N.1.2.2.2]))∧(d 13=true→w=((w1.setCells g10 (0) [.bool N.1.1,.int .u64 N.1.2.1,.int .u64 N.1.2.2.1,.pointer N.1.2.2.2]).setCells g11 (0) [.bool N.2.1,.int .u64 N.2.2.1,.int .u64 N.2.2.2.1,.pointer N.2.2.2.2]))) (fun N=>opVkV g5 g9 g10 g11 ta th tb r1 r2 s1 x1 y1 p1 s2 x2 y2 p2 N.1 N.2) opVkT opVkW 15 (by kernel_rfl) opVkT_inj hT ((false,0,0,none),(false,0,0,none)) ⟨_,{ mem:=(But.refl _ _).drew,f5:=fun h=>by simp at h,f11:=fun h=>by simp at h },fun _=>rfl,fun h=>by simp at h,fun h=>by simp at h⟩ ?_ ?_
 ·intro N d i o a w K hi ho hdi hcl hH he hdep hK
  have hD:=dep_is opVk_dep ho (fun j=>d j=true∧(opVkW j=true→a.eval (.tmp (opVkT j))=opVkV g5 g9 g10 g11 ta th tb r1 r2 s1 x1 y1 p1 s2 x2 y2 p2 N.1 N.2 j)) hdep
  have e5':=(he 5 (fun j hj _ _=>(by decide:∀ j,j<15→(5:Nat)≠opVkT j) j hj)).trans e5
  have e9':=(he 9 (fun j hj _ _=>(by decide:∀ j,j<15→(9:Nat)≠opVkT j) j hj)).trans e9
  have e10':=(he 10 (fun j hj _ _=>(by decide:∀ j,j<15→(10:Nat)≠opVkT j) j hj)).trans e10
  have e11':=(he 11 (fun j hj _ _=>(by decide:∀ j,j<15→(11:Nat)≠opVkT j) j hj)).trans e11
  have e1':=(he 1 (fun j hj _ _=>(by decide:∀ j,j<15→(1:Nat)≠opVkT j) j hj)).trans e1
  have e2':=(he 2 (fun j hj _ _=>(by decide:∀ j,j<15→(2:Nat)≠opVkT j) j hj)).trans e2
  have e3':=(he 3 (fun j hj _ _=>(by decide:∀ j,j<15→(3:Nat)≠opVkT j) j hj)).trans e3
  have:i=0∨i=1∨i=2∨i=3∨i=4∨i=5∨i=6∨i=7∨i=8∨i=9∨i=10∨i=11∨i=12∨i=13∨i=14:=by omega
  rcases this with rfl | rfl | rfl | rfl | rfl | rfl | rfl | rfl | rfl | rfl | rfl | rfl | rfl | rfl | rfl
  ·obtain rfl:=Option.some.inj ((show opVks[0]? = some opVk0 from rfl).symm.trans ho)
   have hs0:d 12=false:=(hcl.not opVk_dep (i:=12) (j:=0) (by simp) hdi)
   have hs1:d 13=false:=(hcl.not opVk_dep (i:=13) (j:=0) (by simp) hdi)
   obtain ⟨w1,hP,h1,h2,h3⟩:=hH
   obtain rfl:=h1 hs0
   have hW:=hP.mem
   exact wp_value (run_loadK a w _ _ _ _ _ _ g5 (0) _ _ _ _ e5' (c1.but hW (by simp))) (hK N _ _ (fun _=>rfl) (fun _ _ _ _=>rfl) ⟨_,hP,h1,h2,h3⟩)
  ·obtain rfl:=Option.some.inj ((show opVks[1]? = some opVk1 from rfl).symm.trans ho)
   exact wp_value (run_mvK a w _ _ _ _ _ _ _ e1') (hK N _ _ (fun _=>rfl) (fun _ _ _ _=>rfl) hH)
  ·obtain rfl:=Option.some.inj ((show opVks[2]? = some opVk2 from rfl).symm.trans ho)
   exact wp_value (run_mvK a w _ _ _ _ _ _ _ e2') (hK N _ _ (fun _=>rfl) (fun _ _ _ _=>rfl) hH)
  ·obtain rfl:=Option.some.inj ((show opVks[3]? = some opVk3 from rfl).symm.trans ho)
   exact wp_value (run_mvK a w _ _ _ _ _ _ _ e3') (hK N _ _ (fun _=>rfl) (fun _ _ _ _=>rfl) hH)
  ·obtain rfl:=Option.some.inj ((show opVks[4]? = some opVk4 from rfl).symm.trans ho)
   have hs0:d 12=false:=(hcl.not opVk_dep (i:=12) (j:=4) (by simp) hdi)
   have hs1:d 13=false:=(hcl.not opVk_dep (i:=13) (j:=4) (by simp) hdi)
   obtain ⟨w1,hP,h1,h2,h3⟩:=hH
   obtain rfl:=h1 hs0
   have hW:=hP.mem
   exact wp_value (run_loadK a w _ _ _ _ _ _ g9 (0) _ _ _ _ e9' (c2.but hW (by simp))) (hK N _ _ (fun _=>rfl) (fun _ _ _ _=>rfl) ⟨_,hP,h1,h2,h3⟩)
  ·obtain rfl:=Option.some.inj ((show opVks[5]? = some opVk5 from rfl).symm.trans ho)
   have hs0:d 12=false:=(hcl.not opVk_dep (i:=12) (j:=5) (by simp) hdi)
   have hs1:d 13=false:=(hcl.not opVk_dep (i:=13) (j:=5) (by simp) hdi)
   obtain ⟨w1,hP,h1,h2,h3⟩:=hH
   obtain rfl:=h1 hs0
   have hW:=hP.mem
   exact wp_enter (run_Vs11 a w _ _ _ _ _ _ _ _ _ _ _ _ _ _ _ ((hD 0 (by simp)).2 rfl) ((hD 1 (by simp)).2 rfl) ((hD 2 (by simp)).2 rfl) ((hD 3 (by simp)).2 rfl) ((hD 4 (by simp)).2 rfl)) (R:=fun w' u=>∃ v,u=.agg #[.bool v.1,.int .u64 v.2.1,.int .u64 v.2.2.1,.pointer v.2.2.2]∧(FracAt w' (.agg #[.bool v.1,.int .u64 v.2.1,.int .u64 v.2.2.1,.pointer v.2.2.2]) (r1))∧But [] w w') ((MA w hW).mono fun e w' ⟨v,he,hf,hb⟩=>⟨_,he,v,rfl,hf,hb⟩) (fun u w' ⟨v,hu,hf,hb⟩=>hK (v,N.2) _ _ (fun _=>hu) (fun j hj _ hdj=>by
    have:j=0∨j=1∨j=2∨j=3∨j=4∨j=5∨j=6∨j=7∨j=8∨j=9∨j=10∨j=11∨j=12∨j=13∨j=14:=by omega
    rcases this with rfl | rfl | rfl | rfl | rfl | rfl | rfl | rfl | rfl | rfl | rfl | rfl | rfl | rfl | rfl
    ·rfl
    ·rfl
    ·rfl
    ·rfl
    ·rfl
    ·exact absurd (hdi.symm.trans hdj) (by simp)
    ·rfl
    ·rfl
    ·rfl
    ·rfl
    ·rfl
    ·rfl
    ·rfl
    ·rfl
    ·rfl) ⟨_,((hP.but hb).s5 v hf),fun _=>rfl,fun h=>absurd (hs0.symm.trans h) (by simp),fun h=>absurd (hs1.symm.trans h) (by simp)⟩)
  ·obtain rfl:=Option.some.inj ((show opVks[6]? = some opVk6 from rfl).symm.trans ho)
   have hs0:d 12=false:=(hcl.not opVk_dep (i:=12) (j:=11) (by simp) (hcl.not opVk_dep (i:=11) (j:=6) (by simp) hdi))
   have hs1:d 13=false:=(hcl.not opVk_dep (i:=13) (j:=6) (by simp) hdi)
   obtain ⟨w1,hP,h1,h2,h3⟩:=hH
   obtain rfl:=h1 hs0
   have hW:=hP.mem
   exact wp_value (run_loadK a w _ _ _ _ _ _ g5 (0) _ _ _ _ e5' (c1.but hW (by simp))) (hK N _ _ (fun _=>rfl) (fun _ _ _ _=>rfl) ⟨_,hP,h1,h2,h3⟩)
  ·obtain rfl:=Option.some.inj ((show opVks[7]? = some opVk7 from rfl).symm.trans ho)
   exact wp_value (run_mvK a w _ _ _ _ _ _ _ e1') (hK N _ _ (fun _=>rfl) (fun _ _ _ _=>rfl) hH)
  ·obtain rfl:=Option.some.inj ((show opVks[8]? = some opVk8 from rfl).symm.trans ho)
   exact wp_value (run_mvK a w _ _ _ _ _ _ _ e3') (hK N _ _ (fun _=>rfl) (fun _ _ _ _=>rfl) hH)
  ·obtain rfl:=Option.some.inj ((show opVks[9]? = some opVk9 from rfl).symm.trans ho)
   exact wp_value (run_mvK a w _ _ _ _ _ _ _ e2') (hK N _ _ (fun _=>rfl) (fun _ _ _ _=>rfl) hH)
  ·obtain rfl:=Option.some.inj ((show opVks[10]? = some opVk10 from rfl).symm.trans ho)
   have hs0:d 12=false:=(hcl.not opVk_dep (i:=12) (j:=11) (by simp) (hcl.not opVk_dep (i:=11) (j:=10) (by simp) hdi))
   have hs1:d 13=false:=(hcl.not opVk_dep (i:=13) (j:=10) (by simp) hdi)
   obtain ⟨w1,hP,h1,h2,h3⟩:=hH
   obtain rfl:=h1 hs0
   have hW:=hP.mem
   exact wp_value (run_loadK a w _ _ _ _ _ _ g9 (0) _ _ _ _ e9' (c2.but hW (by simp))) (hK N _ _ (fun _=>rfl) (fun _ _ _ _=>rfl) ⟨_,hP,h1,h2,h3⟩)
  ·obtain rfl:=Option.some.inj ((show opVks[11]? = some opVk11 from rfl).symm.trans ho)
   have hs0:d 12=false:=(hcl.not opVk_dep (i:=12) (j:=11) (by simp) hdi)
   have hs1:d 13=false:=(hcl.not opVk_dep (i:=13) (j:=11) (by simp) hdi)
   obtain ⟨w1,hP,h1,h2,h3⟩:=hH
   obtain rfl:=h1 hs0
   have hW:=hP.mem
   exact wp_enter (run_Vs11 a w _ _ _ _ _ _ _ _ _ _ _ _ _ _ _ ((hD 6 (by simp)).2 rfl) ((hD 7 (by simp)).2 rfl) ((hD 8 (by simp)).2 rfl) ((hD 9 (by simp)).2 rfl) ((hD 10 (by simp)).2 rfl)) (R:=fun w' u=>∃ v,u=.agg #[.bool v.1,.int .u64 v.2.1,.int .u64 v.2.2.1,.pointer v.2.2.2]∧(FracAt w' (.agg #[.bool v.1,.int .u64 v.2.1,.int .u64 v.2.2.1,.pointer v.2.2.2]) (r2))∧But [] w w') ((MB w hW).mono fun e w' ⟨v,he,hf,hb⟩=>⟨_,he,v,rfl,hf,hb⟩) (fun u w' ⟨v,hu,hf,hb⟩=>hK (N.1,v) _ _ (fun _=>hu) (fun j hj _ hdj=>by
    have:j=0∨j=1∨j=2∨j=3∨j=4∨j=5∨j=6∨j=7∨j=8∨j=9∨j=10∨j=11∨j=12∨j=13∨j=14:=by omega
    rcases this with rfl | rfl | rfl | rfl | rfl | rfl | rfl | rfl | rfl | rfl | rfl | rfl | rfl | rfl | rfl
    ·rfl
    ·rfl
    ·rfl
    ·rfl
    ·rfl
    ·rfl
    ·rfl
    ·rfl
    ·rfl
    ·rfl
    ·rfl
    ·exact absurd (hdi.symm.trans hdj) (by simp)
    ·rfl
    ·rfl
    ·rfl) ⟨_,((hP.but hb).s11 v hf),fun _=>rfl,fun h=>absurd (hs0.symm.trans h) (by simp),fun h=>absurd (hs1.symm.trans h) (by simp)⟩)
  ·obtain rfl:=Option.some.inj ((show opVks[12]? = some opVk12 from rfl).symm.trans ho)
   obtain ⟨w1,hP,h1,h2,h3⟩:=hH
   obtain rfl:=h1 hdi
   have hW:=hP.mem
   have t5:d 5=true:=(hD 5 (by simp)).1
   have t11:d 11=true:=(hD 11 (by simp)).1
   have hx:∀ k,k<4→∃ u,w.cell? ⟨g10,k,none⟩=some u:=fun k hk=>(cx k hk).elim fun u hu=>⟨u,hW.cell_some hu (by simp)⟩
   exact wp_skipped (run_Vs5 a w _ _ _ _ _ g10 (0) _ _ _ _ e10' ((hD 5 (by simp)).2 rfl) (hx 0 (by omega)) (hx 1 (by omega)) (hx 2 (by omega)) (hx 3 (by omega)) (fun j=>(hW.frozen (p:=⟨g10,j,none⟩) ((cx 0 (by omega)).elim fun u hu=>show g10<_ from lt_of_cell hu) (by simp)).trans (fx j))) (hK N undef _ (fun h=>absurd h (by decide)) (fun _ _ _ _=>rfl) ⟨w,hP,fun h=>absurd h (by rw [came_self];simp),fun _ _=>rfl,fun h=>absurd ((hcl.not opVk_dep (i:=13) (j:=12) (by simp) hdi).symm.trans h) (by simp)⟩)
  ·obtain rfl:=Option.some.inj ((show opVks[13]? = some opVk13 from rfl).symm.trans ho)
   obtain ⟨w1,hP,h1,h2,h3⟩:=hH
   have ta_:d 12=true:=(hD 12 (by simp)).1
   have hW:=hP.mem
   obtain rfl:=h2 ta_ hdi
   have bs:=but_setCells w1 g10 [.bool N.1.1,.int .u64 N.1.2.1,.int .u64 N.1.2.2.1,.pointer N.1.2.2.2] 0
   have hx:∀ k,k<4→∃ u,(w1.setCells g10 0 [.bool N.1.1,.int .u64 N.1.2.1,.int .u64 N.1.2.2.1,.pointer N.1.2.2.2]).cell? ⟨g11,k,none⟩=some u:=fun k hk=>(cy k hk).elim fun u hu=>⟨u,bs.cell_some (hW.cell_some hu (by simp)) (by simp;exact hne)⟩
   have hl:g11<w1.heap.size:=(cy 0 (by omega)).elim fun u hu=>lt_of_cell (hW.cell_some hu (by simp))
   exact wp_skipped (run_Vs5 a _ _ _ _ _ _ g11 (0) _ _ _ _ e11' ((hD 11 (by simp)).2 rfl) (hx 0 (by omega)) (hx 1 (by omega)) (hx 2 (by omega)) (hx 3 (by omega)) (fun j=>(bs.frozen (p:=⟨g11,j,none⟩) hl (by simp;exact hne)).trans ((hW.frozen (p:=⟨g11,j,none⟩) ((cy 0 (by omega)).elim fun u hu=>show g11<_ from lt_of_cell hu) (by simp)).trans (fy j)))) (hK N undef _ (fun h=>absurd h (by decide)) (fun _ _ _ _=>rfl) ⟨w1,hP,fun h=>absurd (ta_.symm.trans h) (by simp),fun _ h=>absurd h (by rw [came_self];simp),fun _=>rfl⟩)
  ·obtain rfl:=Option.some.inj ((show opVks[14]? = some opVk14 from rfl).symm.trans ho)
   exact wp_value (run_Vs9 a w _ _ _ _ _ _) (hK N _ _ (fun _=>rfl) (fun _ _ _ _=>rfl) hH)
 ·intro N d w hd hH
  obtain ⟨w1,hP,h1,h2,h3⟩:=hH
  rw [h3 (hd 13 (by omega))]
  rw [hd 5 (by omega),hd 11 (by omega)] at hP
  exact hQ N.1 N.2 w1 hP
end Go.Proofs.YtpfnnhjnakmnoaaGreatDoor
