/- Package flow: the statements of Discount -/
import Derived.Test.YtollloafckcogaaGreatDoorKYLX
namespace Go.Proofs.YtollloafckcogaaGreatDoor
open Go.RowKit
set_option maxHeartbeats 8000000
set_option maxRecDepth 100000
set_option linter.unusedVariables false
theorem run_Fd0 (a:Act) (w:World) (d t:Nat) (u:TypeId) (ps:String) (ed:Array Edge) (gd:Option (Nat × Bool)) (x z:Int) (hz:x+1=z) (hb:-9223372036854775808≤z∧z<9223372036854775808) (h1:a.eval (.tmp t)=.int .i64 x) :
  (execOp a.eval { dst:=some d,op:=Op.binOp BinOp.add 3 (.tmp t) (Operand.const (Value.int IntKind.i64 1)) 3,type:=u,pos:=ps,after:=ed,guard:=gd }).run Tryz.prog w=.ok (.value (.int .i64 z)) w:=by
 unfold execOp
 simp only [h1]
 go_simp
 rw [IntKind.wrap_i64]
 omega
theorem run_Fd1 (a:Act) (w:World) (d t1 t2:Nat) (u:TypeId) (ps:String) (ed:Array Edge) (gd:Option (Nat × Bool)) (b off n c k o':Nat) (ho:off+k*4=o') (hk:k<n) (_hn:n<1000000) (h1:a.eval (.tmp t1)=.slice (some ⟨b,off,none⟩) n c) (h2:a.eval (.tmp t2)=.int .i64 (k:Int)) :
  (execOp a.eval { dst:=some d,op:=Op.indexAddr 42 (.tmp t1) (.tmp t2),type:=u,pos:=ps,after:=ed,guard:=gd }).run Tryz.prog w=.ok (.value (.pointer (some ⟨b,o',none⟩))) w:=by
 subst ho
 unfold execOp
 simp only [h1,h2]
 go_simp
theorem run_Fd2 (a:Act) (w:World) (d t0:Nat) (u:TypeId) (ps:String) (ed:Array Edge) (gd:Option (Nat × Bool)) (z0:Value) (h0:a.eval (.tmp t0)=z0) :
  (execOp a.eval { dst:=some d,op:=Op.call { callee:=Callee.value (Operand.func 52),args:=#[Operand.tmp t0],argTypes:=#[27] },type:=u,pos:=ps,after:=ed,guard:=gd }).run Tryz.prog w=.ok (.enter 52 #[z0]) w:=by
 unfold execOp
 go_simp
 rw [← h0]
 simp [Act.eval]
theorem run_Fd3 (a:Act) (w:World) (d t0 t1:Nat) (u:TypeId) (ps:String) (ed:Array Edge) (gd:Option (Nat × Bool)) (z0 z1:Value) (h0:a.eval (.tmp t0)=z0) (h1:a.eval (.tmp t1)=z1) :
  (execOp a.eval { dst:=some d,op:=Op.call { callee:=Callee.value (Operand.func 51),args:=#[Operand.tmp t0,Operand.tmp t1],argTypes:=#[27,27] },type:=u,pos:=ps,after:=ed,guard:=gd }).run Tryz.prog w=.ok (.enter 51 #[z0,z1]) w:=by
 unfold execOp
 go_simp
 rw [← h0,← h1]
 simp [Act.eval]
theorem run_Fd4 (a:Act) (w:World) (t1 t2:Nat) (u:TypeId) (ps:String) (ed:Array Edge) (b o:Nat) (s0:Bool) (x0 y0:Int) (p0:Option Addr) (h1:a.eval (.tmp t1)=.pointer (some ⟨b,o,none⟩)) (h2:a.eval (.tmp t2)=.agg #[.bool s0,.int .u64 x0,.int .u64 y0,.pointer p0]) (k0:∃ u,w.cell? ⟨b,o,none⟩=some u) (k1:∃ u,w.cell? ⟨b,o+1,none⟩=some u) (k2:∃ u,w.cell? ⟨b,o+2,none⟩=some u) (k3:∃ u,w.cell? ⟨b,o+3,none⟩=some u) (fz:∀ j,w.frozen? ⟨b,j,none⟩=false) :
  (execOp a.eval { dst:=none,op:=Op.store 27 (.tmp t1) (.tmp t2),type:=u,pos:=ps,after:=ed,guard:=none }).run Tryz.prog w=.ok .skip (w.setCells b o [.bool s0,.int .u64 x0,.int .u64 y0,.pointer p0]):=by
 obtain ⟨u0,e0⟩:=k0
 obtain ⟨u1,e1⟩:=k1
 obtain ⟨u2,e2⟩:=k2
 obtain ⟨u3,e3⟩:=k3
 unfold execOp
 simp only [h1,h2]
 go_simp
 try rfl
def opDa0:Oper:={ dst:=some 27,op:=Op.move (Operand.tmp 5),type := 42,pos := "flow.go:19",after:=#[],guard:=none }
def opDa1:Oper:={ dst:=some 28,op:=Op.move (Operand.tmp 6),type := 3,pos := "flow.go:19",after:=#[],guard:=none }
def opDa2:Oper:={ dst:=some 29,op:=Op.binOp BinOp.add 3 (Operand.tmp 28) (Operand.const (Value.int IntKind.i64 1)) 3,type := 3,pos := "flow.go:19",after:=#[⟨1,.data⟩],guard:=none }
def opDa3:Oper:={ dst:=some 30,op:=Op.move (Operand.tmp 5),type := 42,pos := "flow.go:19",after:=#[],guard:=none }
def opDa4:Oper:={ dst:=some 31,op:=Op.move (Operand.tmp 6),type := 3,pos := "flow.go:19",after:=#[],guard:=none }
def opDa5:Oper:={ dst:=some 32,op:=Op.indexAddr 42 (Operand.tmp 30) (Operand.tmp 31),type:=0,pos := "flow.go:19",after:=#[⟨3,.data⟩,⟨4,.data⟩],guard:=none }
def opDa6:Oper:={ dst:=some 33,op:=Op.load 27 (Operand.tmp 32),type := 27,pos := "flow.go:19",after:=#[⟨5,.data⟩],guard:=none }
def opDa7:Oper:={ dst:=some 34,op:=Op.load 27 (Operand.tmp 7),type := 27,pos := "flow.go:19",after:=#[],guard:=none }
def opDa8:Oper:={ dst:=some 35,op:=Op.call { callee:=Callee.value (Operand.func 52),args:=#[Operand.tmp 34],argTypes:=#[27] },type := 27,pos := "flow.go:19",after:=#[⟨7,.data⟩],guard:=none }
def opDa9:Oper:={ dst:=some 36,op:=Op.call { callee:=Callee.value (Operand.func 51),args:=#[Operand.tmp 33,Operand.tmp 35],argTypes:=#[27,27] },type := 27,pos := "flow.go:19",after:=#[⟨6,.data⟩,⟨8,.data⟩,⟨8,.chain⟩],guard:=none }
def opDa10:Oper:={ dst:=some 37,op:=Op.indexAddr 42 (Operand.tmp 27) (Operand.tmp 29),type:=0,pos := "flow.go:19",after:=#[⟨0,.data⟩,⟨2,.data⟩,⟨0,.phase⟩,⟨1,.phase⟩,⟨2,.phase⟩,⟨3,.phase⟩,⟨4,.phase⟩,⟨5,.phase⟩,⟨6,.phase⟩,⟨7,.phase⟩,⟨8,.phase⟩,⟨9,.phase⟩],guard:=none }
def opDa11:Oper:={ dst:=none,op:=Op.store 27 (Operand.tmp 37) (Operand.tmp 36),type:=0,pos := "flow.go:19",after:=#[⟨10,.data⟩,⟨9,.data⟩,⟨9,.chain⟩,⟨0,.phase⟩,⟨1,.phase⟩,⟨2,.phase⟩,⟨3,.phase⟩,⟨4,.phase⟩,⟨5,.phase⟩,⟨6,.phase⟩,⟨7,.phase⟩,⟨8,.phase⟩,⟨9,.phase⟩],guard:=none }
def opDas:Array Oper:=#[opDa0,opDa1,opDa2,opDa3,opDa4,opDa5,opDa6,opDa7,opDa8,opDa9,opDa10,opDa11]
structure opDaH (W0:World) (gd:Nat) (g7:Nat) (n:Nat) (k:Nat) (kk:Nat) (r1:Rat) (r2:Rat) (s1:Bool) (x1:Int) (y1:Int) (p1:Option Addr) (s2:Bool) (x2:Int) (y2:Int) (p2:Option Addr) (s0:Bool) (x0:Int) (y0:Int) (p0:Option Addr) (za:FZ) (zb:FZ) (b8:Bool) (b9:Bool) (w:World):Prop where
 mem:But [] W0 w
 f8:b8=true→FracAt w (.agg #[.bool za.1,.int .u64 za.2.1,.int .u64 za.2.2.1,.pointer za.2.2.2]) (r1)
 f9:b9=true→FracAt w (.agg #[.bool zb.1,.int .u64 zb.2.1,.int .u64 zb.2.2.1,.pointer zb.2.2.2]) (r2)
theorem opDaH.but {W0:World} {gd:Nat} {g7:Nat} {n:Nat} {k:Nat} {kk:Nat} {r1:Rat} {r2:Rat} {s1:Bool} {x1:Int} {y1:Int} {p1:Option Addr} {s2:Bool} {x2:Int} {y2:Int} {p2:Option Addr} {s0:Bool} {x0:Int} {y0:Int} {p0:Option Addr} {za:FZ} {zb:FZ} {b8 b9:Bool} {w w':World} (h:opDaH W0 gd g7 n k kk r1 r2 s1 x1 y1 p1 s2 x2 y2 p2 s0 x0 y0 p0 za zb b8 b9 w) (hb:But [] w w'):opDaH W0 gd g7 n k kk r1 r2 s1 x1 y1 p1 s2 x2 y2 p2 s0 x0 y0 p0 za zb b8 b9 w' :=
 { mem:=h.mem.trans' hb,f8:=fun e=>(h.f8 e).but hb,f9:=fun e=>(h.f9 e).but hb }
theorem opDaH.s8 {W0:World} {gd:Nat} {g7:Nat} {n:Nat} {k:Nat} {kk:Nat} {r1:Rat} {r2:Rat} {s1:Bool} {x1:Int} {y1:Int} {p1:Option Addr} {s2:Bool} {x2:Int} {y2:Int} {p2:Option Addr} {s0:Bool} {x0:Int} {y0:Int} {p0:Option Addr} {za:FZ} {zb:FZ} {b8 b9:Bool} {w:World} (h:opDaH W0 gd g7 n k kk r1 r2 s1 x1 y1 p1 s2 x2 y2 p2 s0 x0 y0 p0 za zb b8 b9 w) (za':FZ) (hf:FracAt w (.agg #[.bool za'.1,.int .u64 za'.2.1,.int .u64 za'.2.2.1,.pointer za'.2.2.2]) (r1)):opDaH W0 gd g7 n k kk r1 r2 s1 x1 y1 p1 s2 x2 y2 p2 s0 x0 y0 p0 za' zb true b9 w :=
 { mem:=h.mem,f8:=fun _=>hf,f9:=h.f9 }
theorem opDaH.s9 {W0:World} {gd:Nat} {g7:Nat} {n:Nat} {k:Nat} {kk:Nat} {r1:Rat} {r2:Rat} {s1:Bool} {x1:Int} {y1:Int} {p1:Option Addr} {s2:Bool} {x2:Int} {y2:Int} {p2:Option Addr} {s0:Bool} {x0:Int} {y0:Int} {p0:Option Addr} {za:FZ} {zb:FZ} {b8 b9:Bool} {w:World} (h:opDaH W0 gd g7 n k kk r1 r2 s1 x1 y1 p1 s2 x2 y2 p2 s0 x0 y0 p0 za zb b8 b9 w) (zb':FZ) (hf:FracAt w (.agg #[.bool zb'.1,.int .u64 zb'.2.1,.int .u64 zb'.2.2.1,.pointer zb'.2.2.2]) (r2)):opDaH W0 gd g7 n k kk r1 r2 s1 x1 y1 p1 s2 x2 y2 p2 s0 x0 y0 p0 za zb' b8 true w :=
 { mem:=h.mem,f8:=h.f8,f9:=fun _=>hf }
def opDaT (i:Nat):Nat:=match i with
 | 0=>27
 | 1=>28
 | 2=>29
 | 3=>30
 | 4=>31
 | 5=>32
 | 6=>33
 | 7=>34
 | 8=>35
 | 9=>36
 | 10=>37
 | _=>27
def opDaW (i:Nat):Bool:=match i with
 | 11=>false
 | _=>true
def opDaV (gd:Nat) (g7:Nat) (n:Nat) (k:Nat) (kk:Nat) (r1:Rat) (r2:Rat) (s1:Bool) (x1:Int) (y1:Int) (p1:Option Addr) (s2:Bool) (x2:Int) (y2:Int) (p2:Option Addr) (s0:Bool) (x0:Int) (y0:Int) (p0:Option Addr) (za:FZ) (zb:FZ) (i:Nat):Value:=match i with
 | 0=>.slice (some ⟨gd,0,none⟩) n n
 | 1=>.int .i64 (k:Int)
 | 2=>.int .i64 (kk:Int)
 | 3=>.slice (some ⟨gd,0,none⟩) n n
 | 4=>.int .i64 (k:Int)
 | 5=>.pointer (some ⟨gd,k*4,none⟩)
 | 6=>.agg #[.bool s1,.int .u64 x1,.int .u64 y1,.pointer p1]
 | 7=>.agg #[.bool s2,.int .u64 x2,.int .u64 y2,.pointer p2]
 | 8=>.agg #[.bool za.1,.int .u64 za.2.1,.int .u64 za.2.2.1,.pointer za.2.2.2]
 | 9=>.agg #[.bool zb.1,.int .u64 zb.2.1,.int .u64 zb.2.2.1,.pointer zb.2.2.2]
 | 10=>.pointer (some ⟨gd,kk*4,none⟩)
 | _=>undef
theorem opDa_dep:depOps opDas [(2,1),(5,3),(5,4),(6,5),(8,7),(9,6),(9,8),(10,0),(10,1),(10,2),(10,3),(10,4),(10,5),(10,6),(10,7),(10,8),(10,9),(11,0),(11,1),(11,2),(11,3),(11,4),(11,5),(11,6),(11,7),(11,8),(11,9),(11,10)]=true:=by kernel_rfl
theorem opDaT_inj:∀ i j,i<12→j<12→opDaW i=true→opDaW j=true→opDaT i=opDaT j→i=j:=fun i j hi hj=>(by decide:∀ i,i<12→∀ j,j<12→opDaW i=true→opDaW j=true→opDaT i=opDaT j→i=j) i hi j hj
theorem disc_region9 (id:Nat) (Q:Exit→Act→World→Prop) (base:Act) (W0:World) (gd:Nat) (g7:Nat) (n:Nat) (k:Nat) (kk:Nat) (r1:Rat) (r2:Rat) (s1:Bool) (x1:Int) (y1:Int) (p1:Option Addr) (s2:Bool) (x2:Int) (y2:Int) (p2:Option Addr) (s0:Bool) (x0:Int) (y0:Int) (p0:Option Addr) (hs:37<base.tmps.size) (e5:base.eval (.tmp 5)=.slice (some ⟨gd,0,none⟩) n n) (e6:base.eval (.tmp 6)=.int .i64 (k:Int)) (e7:base.eval (.tmp 7)=.pointer (some ⟨g7,0,none⟩))
  (hk:k<n) (hk1:kk<n) (hkk:kk=k+1) (hn:n<1000000)  (c1:P4o W0 gd (k*4) s1 x1 y1 p1) (c2:P4o W0 g7 (0) s2 x2 y2 p2) (cz:P4o W0 gd (kk*4) s0 x0 y0 p0) (fz:∀ j,W0.frozen? ⟨gd,j,none⟩=false) (GR:∀ w,But [] W0 w→Calls Tryz.prog 52 #[.agg #[.bool s2,.int .u64 x2,.int .u64 y2,.pointer p2]] w fun e w'=>∃ z:FZ,e=.returned (.agg #[.bool z.1,.int .u64 z.2.1,.int .u64 z.2.2.1,.pointer z.2.2.2])∧FracAt w' (.agg #[.bool z.1,.int .u64 z.2.1,.int .u64 z.2.2.1,.pointer z.2.2.2]) (r1)∧But [] w w') (DV:∀ w (z:FZ),But [] W0 w→FracAt w (.agg #[.bool z.1,.int .u64 z.2.1,.int .u64 z.2.2.1,.pointer z.2.2.2]) r1→Calls Tryz.prog 51 #[.agg #[.bool s1,.int .u64 x1,.int .u64 y1,.pointer p1],.agg #[.bool z.1,.int .u64 z.2.1,.int .u64 z.2.2.1,.pointer z.2.2.2]] w fun e w'=>∃ z:FZ,e=.returned (.agg #[.bool z.1,.int .u64 z.2.1,.int .u64 z.2.2.1,.pointer z.2.2.2])∧FracAt w' (.agg #[.bool z.1,.int .u64 z.2.1,.int .u64 z.2.2.1,.pointer z.2.2.2]) (r2)∧But [] w w')
  (hQ:∀ (za:FZ) (zb:FZ) w1,opDaH W0 gd g7 n k kk r1 r2 s1 x1 y1 p1 s2 x2 y2 p2 s0 x0 y0 p0 za zb true true w1→Q .normal (putted base [(27,.slice (some ⟨gd,0,none⟩) n n),(28,.int .i64 (k:Int)),(29,.int .i64 (kk:Int)),(30,.slice (some ⟨gd,0,none⟩) n n),(31,.int .i64 (k:Int)),(32,.pointer (some ⟨gd,k*4,none⟩)),(33,.agg #[.bool s1,.int .u64 x1,.int .u64 y1,.pointer p1]),(34,.agg #[.bool s2,.int .u64 x2,.int .u64 y2,.pointer p2]),(35,.agg #[.bool za.1,.int .u64 za.2.1,.int .u64 za.2.2.1,.pointer za.2.2.2]),(36,.agg #[.bool zb.1,.int .u64 zb.2.1,.int .u64 zb.2.2.1,.pointer zb.2.2.2]),(37,.pointer (some ⟨gd,kk*4,none⟩))]) (w1.setCells gd (kk*4) [.bool zb.1,.int .u64 zb.2.1,.int .u64 zb.2.2.1,.pointer zb.2.2.2])) :
  (Code.region id opDas true).wp Tryz.prog Q base W0:=by
 have hT:∀ i,i<12→opDaW i=true→opDaT i<base.tmps.size:=fun i hi _=>by
  have h:opDaT i≤37:=by revert i;decide
  omega
 refine region_all (by kernel_rfl) (low_of (by kernel_rfl)) (bare_of (by kernel_rfl)) (fun (N:(FZ) × (FZ)) d w=>∃ w1,opDaH W0 gd g7 n k kk r1 r2 s1 x1 y1 p1 s2 x2 y2 p2 s0 x0 y0 p0 N.1 N.2 (d 8) (d 9) w1∧(d 11=false→w=w1)∧(d 11=true→w=(w1.setCells gd (kk*4) [.bool N.2.1,.int .u64 N.2.2.1,.int .u64 N.2.2.2.1,.pointer N.2.2.2.2]))) (fun N=>opDaV gd g7 n k kk r1 r2 s1 x1 y1 p1 s2 x2 y2 p2 s0 x0 y0 p0 N.1 N.2) opDaT opDaW 12 (by kernel_rfl) opDaT_inj hT ((false,0,0,none),(false,0,0,none)) ⟨_,{ mem:=(But.refl _ _).drew,f8:=fun h=>by simp at h,f9:=fun h=>by simp at h },fun _=>rfl,fun h=>by simp at h⟩ ?_ ?_
 ·intro N d i o a w K hi ho hdi hcl hH he hdep hK
  have hD:=dep_is opDa_dep ho (fun j=>d j=true∧(opDaW j=true→a.eval (.tmp (opDaT j))=opDaV gd g7 n k kk r1 r2 s1 x1 y1 p1 s2 x2 y2 p2 s0 x0 y0 p0 N.1 N.2 j)) hdep
  have e5':=(he 5 (fun j hj _ _=>(by decide:∀ j,j<12→(5:Nat)≠opDaT j) j hj)).trans e5
  have e6':=(he 6 (fun j hj _ _=>(by decide:∀ j,j<12→(6:Nat)≠opDaT j) j hj)).trans e6
  have e7':=(he 7 (fun j hj _ _=>(by decide:∀ j,j<12→(7:Nat)≠opDaT j) j hj)).trans e7
  have:i=0∨i=1∨i=2∨i=3∨i=4∨i=5∨i=6∨i=7∨i=8∨i=9∨i=10∨i=11:=by omega
  rcases this with rfl | rfl | rfl | rfl | rfl | rfl | rfl | rfl | rfl | rfl | rfl | rfl
  ·obtain rfl:=Option.some.inj ((show opDas[0]? = some opDa0 from rfl).symm.trans ho)
   exact wp_value (run_mvK a w _ _ _ _ _ _ _ e5') (hK N _ _ (fun _=>rfl) (fun _ _ _ _=>rfl) hH)
  ·obtain rfl:=Option.some.inj ((show opDas[1]? = some opDa1 from rfl).symm.trans ho)
   exact wp_value (run_mvK a w _ _ _ _ _ _ _ e6') (hK N _ _ (fun _=>rfl) (fun _ _ _ _=>rfl) hH)
  ·obtain rfl:=Option.some.inj ((show opDas[2]? = some opDa2 from rfl).symm.trans ho)
   exact wp_value (run_Fd0 a w _ _ _ _ _ _ _ _ (by rw [hkk];omega) (by omega) ((hD 1 (by simp)).2 rfl)) (hK N _ _ (fun _=>rfl) (fun _ _ _ _=>rfl) hH)
  ·obtain rfl:=Option.some.inj ((show opDas[3]? = some opDa3 from rfl).symm.trans ho)
   exact wp_value (run_mvK a w _ _ _ _ _ _ _ e5') (hK N _ _ (fun _=>rfl) (fun _ _ _ _=>rfl) hH)
  ·obtain rfl:=Option.some.inj ((show opDas[4]? = some opDa4 from rfl).symm.trans ho)
   exact wp_value (run_mvK a w _ _ _ _ _ _ _ e6') (hK N _ _ (fun _=>rfl) (fun _ _ _ _=>rfl) hH)
  ·obtain rfl:=Option.some.inj ((show opDas[5]? = some opDa5 from rfl).symm.trans ho)
   exact wp_value (run_Fd1 a w _ _ _ _ _ _ _ gd (0) (n) (n) (k) (k*4) (by omega) hk hn ((hD 3 (by simp)).2 rfl) ((hD 4 (by simp)).2 rfl)) (hK N _ _ (fun _=>rfl) (fun _ _ _ _=>rfl) hH)
  ·obtain rfl:=Option.some.inj ((show opDas[6]? = some opDa6 from rfl).symm.trans ho)
   have hs0:d 11=false:=(hcl.not opDa_dep (i:=11) (j:=6) (by simp) hdi)
   obtain ⟨w1,hP,h1,h2⟩:=hH
   obtain rfl:=h1 hs0
   have hW:=hP.mem
   exact wp_value (run_loadK a w _ _ _ _ _ _ gd (k*4) _ _ _ _ ((hD 5 (by simp)).2 rfl) (c1.but hW (by simp))) (hK N _ _ (fun _=>rfl) (fun _ _ _ _=>rfl) ⟨_,hP,h1,h2⟩)
  ·obtain rfl:=Option.some.inj ((show opDas[7]? = some opDa7 from rfl).symm.trans ho)
   have hs0:d 11=false:=(hcl.not opDa_dep (i:=11) (j:=7) (by simp) hdi)
   obtain ⟨w1,hP,h1,h2⟩:=hH
   obtain rfl:=h1 hs0
   have hW:=hP.mem
   exact wp_value (run_loadK a w _ _ _ _ _ _ g7 (0) _ _ _ _ e7' (c2.but hW (by simp))) (hK N _ _ (fun _=>rfl) (fun _ _ _ _=>rfl) ⟨_,hP,h1,h2⟩)
  ·obtain rfl:=Option.some.inj ((show opDas[8]? = some opDa8 from rfl).symm.trans ho)
   have hs0:d 11=false:=(hcl.not opDa_dep (i:=11) (j:=8) (by simp) hdi)
   obtain ⟨w1,hP,h1,h2⟩:=hH
   obtain rfl:=h1 hs0
   have hW:=hP.mem
   exact wp_enter (run_Fd2 a w _ _ _ _ _ _ _ ((hD 7 (by simp)).2 rfl)) (R:=fun w' u=>∃ v,u=.agg #[.bool v.1,.int .u64 v.2.1,.int .u64 v.2.2.1,.pointer v.2.2.2]∧(FracAt w' (.agg #[.bool v.1,.int .u64 v.2.1,.int .u64 v.2.2.1,.pointer v.2.2.2]) (r1))∧But [] w w') ((GR w hW).mono fun e w' ⟨v,he,hf,hb⟩=>⟨_,he,v,rfl,hf,hb⟩) (fun u w' ⟨v,hu,hf,hb⟩=>hK (v,N.2) _ _ (fun _=>hu) (fun j hj _ hdj=>by
    have:j=0∨j=1∨j=2∨j=3∨j=4∨j=5∨j=6∨j=7∨j=8∨j=9∨j=10∨j=11:=by omega
    rcases this with rfl | rfl | rfl | rfl | rfl | rfl | rfl | rfl | rfl | rfl | rfl | rfl
    ·rfl
    ·rfl
    ·rfl
    ·rfl
    ·rfl
    ·rfl
    ·rfl
    ·rfl
    ·exact absurd (hdi.symm.trans hdj) (by simp)
    ·rfl
    ·rfl
    ·rfl) ⟨_,((hP.but hb).s8 v hf),fun _=>rfl,fun h=>absurd (hs0.symm.trans h) (by simp)⟩)
  ·obtain rfl:=Option.some.inj ((show opDas[9]? = some opDa9 from rfl).symm.trans ho)
   have hs0:d 11=false:=(hcl.not opDa_dep (i:=11) (j:=9) (by simp) hdi)
   obtain ⟨w1,hP,h1,h2⟩:=hH
   obtain rfl:=h1 hs0
   have hW:=hP.mem
   have t8:d 8=true:=(hD 8 (by simp)).1
   exact wp_enter (run_Fd3 a w _ _ _ _ _ _ _ _ _ ((hD 6 (by simp)).2 rfl) ((hD 8 (by simp)).2 rfl)) (R:=fun w' u=>∃ v,u=.agg #[.bool v.1,.int .u64 v.2.1,.int .u64 v.2.2.1,.pointer v.2.2.2]∧(FracAt w' (.agg #[.bool v.1,.int .u64 v.2.1,.int .u64 v.2.2.1,.pointer v.2.2.2]) (r2))∧But [] w w') ((DV w N.1 hW (hP.f8 t8)).mono fun e w' ⟨v,he,hf,hb⟩=>⟨_,he,v,rfl,hf,hb⟩) (fun u w' ⟨v,hu,hf,hb⟩=>hK (N.1,v) _ _ (fun _=>hu) (fun j hj _ hdj=>by
    have:j=0∨j=1∨j=2∨j=3∨j=4∨j=5∨j=6∨j=7∨j=8∨j=9∨j=10∨j=11:=by omega
    rcases this with rfl | rfl | rfl | rfl | rfl | rfl | rfl | rfl | rfl | rfl | rfl | rfl
    ·rfl
    ·rfl
    ·rfl
    ·rfl
    ·rfl
    ·rfl
    ·rfl
    ·rfl
    ·rfl
    ·exact absurd (hdi.symm.trans hdj) (by simp)
    ·rfl
    ·rfl) ⟨_,((hP.but hb).s9 v hf),fun _=>rfl,fun h=>absurd (hs0.symm.trans h) (by simp)⟩)
  ·obtain rfl:=Option.some.inj ((show opDas[10]? = some opDa10 from rfl).symm.trans ho)
   exact wp_value (run_Fd1 a w _ _ _ _ _ _ _ gd (0) (n) (n) (kk) (kk*4) (by omega) hk1 hn ((hD 0 (by simp)).2 rfl) ((hD 2 (by simp)).2 rfl)) (hK N _ _ (fun _=>rfl) (fun _ _ _ _=>rfl) hH)
  ·obtain rfl:=Option.some.inj ((show opDas[11]? = some opDa11 from rfl).symm.trans ho)
   obtain ⟨w1,hP,h1,h2⟩:=hH
   obtain rfl:=h1 hdi
   have hW:=hP.mem
   have t8:d 8=true:=(hD 8 (by simp)).1
   have t9:d 9=true:=(hD 9 (by simp)).1
   exact wp_skipped (run_Fd4 a w _ _ _ _ _ gd (kk*4) _ _ _ _ ((hD 10 (by simp)).2 rfl) ((hD 9 (by simp)).2 rfl) (⟨_,hW.cell_some cz.1 (by simp)⟩) (⟨_,hW.cell_some cz.2.1 (by simp)⟩) (⟨_,hW.cell_some cz.2.2.1 (by simp)⟩) (⟨_,hW.cell_some cz.2.2.2 (by simp)⟩) (fun j=>(hW.frozen (p:=⟨gd,j,none⟩) (show gd<_ from lt_of_cell cz.1) (by simp)).trans (fz j))) (hK N undef _ (fun h=>absurd h (by decide)) (fun _ _ _ _=>rfl) ⟨w,hP,fun h=>absurd h (by rw [came_self];simp),fun _=>rfl⟩)
 ·intro N d w hd hH
  obtain ⟨w1,hP,h1,h2⟩:=hH
  rw [h2 (hd 11 (by omega))]
  rw [hd 8 (by omega),hd 9 (by omega)] at hP
  exact hQ N.1 N.2 w1 hP
theorem run_Fd5 (a:Act) (w:World) (d t:Nat) (u:TypeId) (ps:String) (ed:Array Edge) (gd:Option (Nat × Bool)) (x z:Int) (hz:x-1=z) (hb:-9223372036854775808≤z∧z<9223372036854775808) (h1:a.eval (.tmp t)=.int .i64 x) :
  (execOp a.eval { dst:=some d,op:=Op.binOp BinOp.sub 3 (.tmp t) (Operand.const (Value.int IntKind.i64 1)) 3,type:=u,pos:=ps,after:=ed,guard:=gd }).run Tryz.prog w=.ok (.value (.int .i64 z)) w:=by
 unfold execOp
 simp only [h1]
 go_simp
 rw [IntKind.wrap_i64]
 omega
theorem run_Fd6 (a:Act) (w:World) (d t0 t1:Nat) (u:TypeId) (ps:String) (ed:Array Edge) (gd:Option (Nat × Bool)) (z0 z1:Value) (h0:a.eval (.tmp t0)=z0) (h1:a.eval (.tmp t1)=z1) :
  (execOp a.eval { dst:=some d,op:=Op.call { callee:=Callee.value (Operand.func 58),args:=#[Operand.tmp t0,Operand.tmp t1],argTypes:=#[27,27] },type:=u,pos:=ps,after:=ed,guard:=gd }).run Tryz.prog w=.ok (.enter 58 #[z0,z1]) w:=by
 unfold execOp
 go_simp
 rw [← h0,← h1]
 simp [Act.eval]
def opDb0:Oper:={ dst:=some 24,op:=Op.load 27 (Operand.tmp 7),type := 27,pos := "flow.go:85",after:=#[],guard:=none }
def opDb1:Oper:={ dst:=some 25,op:=Op.move (Operand.tmp 1),type := 42,pos := "flow.go:85",after:=#[],guard:=none }
def opDb2:Oper:={ dst:=some 26,op:=Op.move (Operand.tmp 8),type := 3,pos := "flow.go:85",after:=#[],guard:=none }
def opDb3:Oper:={ dst:=some 27,op:=Op.binOp BinOp.sub 3 (Operand.tmp 26) (Operand.const (Value.int IntKind.i64 1)) 3,type := 3,pos := "flow.go:85",after:=#[⟨2,.data⟩],guard:=none }
def opDb4:Oper:={ dst:=some 28,op:=Op.indexAddr 42 (Operand.tmp 25) (Operand.tmp 27),type:=0,pos := "flow.go:85",after:=#[⟨1,.data⟩,⟨3,.data⟩],guard:=none }
def opDb5:Oper:={ dst:=some 29,op:=Op.load 27 (Operand.tmp 28),type := 27,pos := "flow.go:85",after:=#[⟨4,.data⟩],guard:=none }
def opDb6:Oper:={ dst:=some 30,op:=Op.call { callee:=Callee.value (Operand.func 52),args:=#[Operand.tmp 29],argTypes:=#[27] },type := 27,pos := "flow.go:85",after:=#[⟨5,.data⟩],guard:=none }
def opDb7:Oper:={ dst:=some 31,op:=Op.call { callee:=Callee.value (Operand.func 58),args:=#[Operand.tmp 24,Operand.tmp 30],argTypes:=#[27,27] },type := 27,pos := "flow.go:85",after:=#[⟨0,.data⟩,⟨6,.data⟩,⟨6,.chain⟩],guard:=none }
def opDb8:Oper:={ dst:=none,op:=Op.store 27 (Operand.tmp 7) (Operand.tmp 31),type:=0,pos := "flow.go:85",after:=#[⟨7,.data⟩,⟨7,.chain⟩,⟨0,.phase⟩,⟨1,.phase⟩,⟨2,.phase⟩,⟨3,.phase⟩,⟨4,.phase⟩,⟨5,.phase⟩,⟨6,.phase⟩,⟨7,.phase⟩],guard:=none }
def opDbs:Array Oper:=#[opDb0,opDb1,opDb2,opDb3,opDb4,opDb5,opDb6,opDb7,opDb8]
structure opDbH (W0:World) (g7:Nat) (b:Nat) (off:Nat) (n:Nat) (cap:Nat) (k:Nat) (kk:Nat) (r1:Rat) (r2:Rat) (s1:Bool) (x1:Int) (y1:Int) (p1:Option Addr) (s2:Bool) (x2:Int) (y2:Int) (p2:Option Addr) (za:FZ) (zb:FZ) (b6:Bool) (b7:Bool) (w:World):Prop where
 mem:But [] W0 w
 f6:b6=true→FracAt w (.agg #[.bool za.1,.int .u64 za.2.1,.int .u64 za.2.2.1,.pointer za.2.2.2]) (r1)
 f7:b7=true→FracAt w (.agg #[.bool zb.1,.int .u64 zb.2.1,.int .u64 zb.2.2.1,.pointer zb.2.2.2]) (r2)
theorem opDbH.but {W0:World} {g7:Nat} {b:Nat} {off:Nat} {n:Nat} {cap:Nat} {k:Nat} {kk:Nat} {r1:Rat} {r2:Rat} {s1:Bool} {x1:Int} {y1:Int} {p1:Option Addr} {s2:Bool} {x2:Int} {y2:Int} {p2:Option Addr} {za:FZ} {zb:FZ} {b6 b7:Bool} {w w':World} (h:opDbH W0 g7 b off n cap k kk r1 r2 s1 x1 y1 p1 s2 x2 y2 p2 za zb b6 b7 w) (hb:But [] w w'):opDbH W0 g7 b off n cap k kk r1 r2 s1 x1 y1 p1 s2 x2 y2 p2 za zb b6 b7 w' :=
 { mem:=h.mem.trans' hb,f6:=fun e=>(h.f6 e).but hb,f7:=fun e=>(h.f7 e).but hb }
theorem opDbH.s6 {W0:World} {g7:Nat} {b:Nat} {off:Nat} {n:Nat} {cap:Nat} {k:Nat} {kk:Nat} {r1:Rat} {r2:Rat} {s1:Bool} {x1:Int} {y1:Int} {p1:Option Addr} {s2:Bool} {x2:Int} {y2:Int} {p2:Option Addr} {za:FZ} {zb:FZ} {b6 b7:Bool} {w:World} (h:opDbH W0 g7 b off n cap k kk r1 r2 s1 x1 y1 p1 s2 x2 y2 p2 za zb b6 b7 w) (za':FZ) (hf:FracAt w (.agg #[.bool za'.1,.int .u64 za'.2.1,.int .u64 za'.2.2.1,.pointer za'.2.2.2]) (r1)):opDbH W0 g7 b off n cap k kk r1 r2 s1 x1 y1 p1 s2 x2 y2 p2 za' zb true b7 w :=
 { mem:=h.mem,f6:=fun _=>hf,f7:=h.f7 }
theorem opDbH.s7 {W0:World} {g7:Nat} {b:Nat} {off:Nat} {n:Nat} {cap:Nat} {k:Nat} {kk:Nat} {r1:Rat} {r2:Rat} {s1:Bool} {x1:Int} {y1:Int} {p1:Option Addr} {s2:Bool} {x2:Int} {y2:Int} {p2:Option Addr} {za:FZ} {zb:FZ} {b6 b7:Bool} {w:World} (h:opDbH W0 g7 b off n cap k kk r1 r2 s1 x1 y1 p1 s2 x2 y2 p2 za zb b6 b7 w) (zb':FZ) (hf:FracAt w (.agg #[.bool zb'.1,.int .u64 zb'.2.1,.int .u64 zb'.2.2.1,.pointer zb'.2.2.2]) (r2)):opDbH W0 g7 b off n cap k kk r1 r2 s1 x1 y1 p1 s2 x2 y2 p2 za zb' b6 true w :=
 { mem:=h.mem,f6:=h.f6,f7:=fun _=>hf }
def opDbT (i:Nat):Nat:=match i with
 | 0=>24
 | 1=>25
 | 2=>26
 | 3=>27
 | 4=>28
 | 5=>29
 | 6=>30
 | 7=>31
 | _=>24
def opDbW (i:Nat):Bool:=match i with
 | 8=>false
 | _=>true
def opDbV (g7:Nat) (b:Nat) (off:Nat) (n:Nat) (cap:Nat) (k:Nat) (kk:Nat) (r1:Rat) (r2:Rat) (s1:Bool) (x1:Int) (y1:Int) (p1:Option Addr) (s2:Bool) (x2:Int) (y2:Int) (p2:Option Addr) (za:FZ) (zb:FZ) (i:Nat):Value:=match i with
 | 0=>.agg #[.bool s1,.int .u64 x1,.int .u64 y1,.pointer p1]
 | 1=>.slice (some ⟨b,off,none⟩) n cap
 | 2=>.int .i64 (k:Int)
 | 3=>.int .i64 (kk:Int)
 | 4=>.pointer (some ⟨b,off+kk*4,none⟩)
 | 5=>.agg #[.bool s2,.int .u64 x2,.int .u64 y2,.pointer p2]
 | 6=>.agg #[.bool za.1,.int .u64 za.2.1,.int .u64 za.2.2.1,.pointer za.2.2.2]
 | 7=>.agg #[.bool zb.1,.int .u64 zb.2.1,.int .u64 zb.2.2.1,.pointer zb.2.2.2]
 | _=>undef
theorem opDb_dep:depOps opDbs [(3,2),(4,1),(4,3),(5,4),(6,5),(7,0),(7,6),(8,0),(8,1),(8,2),(8,3),(8,4),(8,5),(8,6),(8,7)]=true:=by kernel_rfl
theorem opDbT_inj:∀ i j,i<9→j<9→opDbW i=true→opDbW j=true→opDbT i=opDbT j→i=j:=fun i j hi hj=>(by decide:∀ i,i<9→∀ j,j<9→opDbW i=true→opDbW j=true→opDbT i=opDbT j→i=j) i hi j hj
theorem grown_region9 (id:Nat) (Q:Exit→Act→World→Prop) (base:Act) (W0:World) (g7:Nat) (b:Nat) (off:Nat) (n:Nat) (cap:Nat) (k:Nat) (kk:Nat) (r1:Rat) (r2:Rat) (s1:Bool) (x1:Int) (y1:Int) (p1:Option Addr) (s2:Bool) (x2:Int) (y2:Int) (p2:Option Addr) (hs:31<base.tmps.size) (e7:base.eval (.tmp 7)=.pointer (some ⟨g7,0,none⟩)) (e1:base.eval (.tmp 1)=.slice (some ⟨b,off,none⟩) n cap) (e8:base.eval (.tmp 8)=.int .i64 (k:Int))
  (hk:kk<n) (hkk:k=kk+1) (hn:n<1000000)  (c1:P4o W0 g7 (0) s1 x1 y1 p1) (c2:P4o W0 b (off+kk*4) s2 x2 y2 p2) (fz:∀ j,W0.frozen? ⟨g7,j,none⟩=false) (GR:∀ w,But [] W0 w→Calls Tryz.prog 52 #[.agg #[.bool s2,.int .u64 x2,.int .u64 y2,.pointer p2]] w fun e w'=>∃ z:FZ,e=.returned (.agg #[.bool z.1,.int .u64 z.2.1,.int .u64 z.2.2.1,.pointer z.2.2.2])∧FracAt w' (.agg #[.bool z.1,.int .u64 z.2.1,.int .u64 z.2.2.1,.pointer z.2.2.2]) (r1)∧But [] w w') (MU:∀ w (z:FZ),But [] W0 w→FracAt w (.agg #[.bool z.1,.int .u64 z.2.1,.int .u64 z.2.2.1,.pointer z.2.2.2]) r1→Calls Tryz.prog 58 #[.agg #[.bool s1,.int .u64 x1,.int .u64 y1,.pointer p1],.agg #[.bool z.1,.int .u64 z.2.1,.int .u64 z.2.2.1,.pointer z.2.2.2]] w fun e w'=>∃ z:FZ,e=.returned (.agg #[.bool z.1,.int .u64 z.2.1,.int .u64 z.2.2.1,.pointer z.2.2.2])∧FracAt w' (.agg #[.bool z.1,.int .u64 z.2.1,.int .u64 z.2.2.1,.pointer z.2.2.2]) (r2)∧But [] w w')
  (hQ:∀ (za:FZ) (zb:FZ) w1,opDbH W0 g7 b off n cap k kk r1 r2 s1 x1 y1 p1 s2 x2 y2 p2 za zb true true w1→Q .normal (putted base [(24,.agg #[.bool s1,.int .u64 x1,.int .u64 y1,.pointer p1]),(25,.slice (some ⟨b,off,none⟩) n cap),(26,.int .i64 (k:Int)),(27,.int .i64 (kk:Int)),(28,.pointer (some ⟨b,off+kk*4,none⟩)),(29,.agg #[.bool s2,.int .u64 x2,.int .u64 y2,.pointer p2]),(30,.agg #[.bool za.1,.int .u64 za.2.1,.int .u64 za.2.2.1,.pointer za.2.2.2]),(31,.agg #[.bool zb.1,.int .u64 zb.2.1,.int .u64 zb.2.2.1,.pointer zb.2.2.2])]) (w1.setCells g7 (0) [.bool zb.1,.int .u64 zb.2.1,.int .u64 zb.2.2.1,.pointer zb.2.2.2])) :
  (Code.region id opDbs true).wp Tryz.prog Q base W0:=by
 have hT:∀ i,i<9→opDbW i=true→opDbT i<base.tmps.size:=fun i hi _=>by
  have h:opDbT i≤31:=by revert i;decide
  omega
 refine region_all (by kernel_rfl) (low_of (by kernel_rfl)) (bare_of (by kernel_rfl)) (fun (N:(FZ) × (FZ)) d w=>∃ w1,opDbH W0 g7 b off n cap k kk r1 r2 s1 x1 y1 p1 s2 x2 y2 p2 N.1 N.2 (d 6) (d 7) w1∧(d 8=false→w=w1)∧(d 8=true→w=(w1.setCells g7 (0) [.bool N.2.1,.int .u64 N.2.2.1,.int .u64 N.2.2.2.1,.pointer N.2.2.2.2]))) (fun N=>opDbV g7 b off n cap k kk r1 r2 s1 x1 y1 p1 s2 x2 y2 p2 N.1 N.2) opDbT opDbW 9 (by kernel_rfl) opDbT_inj hT ((false,0,0,none),(false,0,0,none)) ⟨_,{ mem:=(But.refl _ _).drew,f6:=fun h=>by simp at h,f7:=fun h=>by simp at h },fun _=>rfl,fun h=>by simp at h⟩ ?_ ?_
 ·intro N d i o a w K hi ho hdi hcl hH he hdep hK
  have hD:=dep_is opDb_dep ho (fun j=>d j=true∧(opDbW j=true→a.eval (.tmp (opDbT j))=opDbV g7 b off n cap k kk r1 r2 s1 x1 y1 p1 s2 x2 y2 p2 N.1 N.2 j)) hdep
  have e7':=(he 7 (fun j hj _ _=>(by decide:∀ j,j<9→(7:Nat)≠opDbT j) j hj)).trans e7
  have e1':=(he 1 (fun j hj _ _=>(by decide:∀ j,j<9→(1:Nat)≠opDbT j) j hj)).trans e1
  have e8':=(he 8 (fun j hj _ _=>(by decide:∀ j,j<9→(8:Nat)≠opDbT j) j hj)).trans e8
  have:i=0∨i=1∨i=2∨i=3∨i=4∨i=5∨i=6∨i=7∨i=8:=by omega
  rcases this with rfl | rfl | rfl | rfl | rfl | rfl | rfl | rfl | rfl
  ·obtain rfl:=Option.some.inj ((show opDbs[0]? = some opDb0 from rfl).symm.trans ho)
   have hs0:d 8=false:=(hcl.not opDb_dep (i:=8) (j:=0) (by simp) hdi)
   obtain ⟨w1,hP,h1,h2⟩:=hH
   obtain rfl:=h1 hs0
   have hW:=hP.mem
   exact wp_value (run_loadK a w _ _ _ _ _ _ g7 (0) _ _ _ _ e7' (c1.but hW (by simp))) (hK N _ _ (fun _=>rfl) (fun _ _ _ _=>rfl) ⟨_,hP,h1,h2⟩)
  ·obtain rfl:=Option.some.inj ((show opDbs[1]? = some opDb1 from rfl).symm.trans ho)
   exact wp_value (run_mvK a w _ _ _ _ _ _ _ e1') (hK N _ _ (fun _=>rfl) (fun _ _ _ _=>rfl) hH)
  ·obtain rfl:=Option.some.inj ((show opDbs[2]? = some opDb2 from rfl).symm.trans ho)
   exact wp_value (run_mvK a w _ _ _ _ _ _ _ e8') (hK N _ _ (fun _=>rfl) (fun _ _ _ _=>rfl) hH)
  ·obtain rfl:=Option.some.inj ((show opDbs[3]? = some opDb3 from rfl).symm.trans ho)
   exact wp_value (run_Fd5 a w _ _ _ _ _ _ _ _ (by rw [hkk];omega) (by omega) ((hD 2 (by simp)).2 rfl)) (hK N _ _ (fun _=>rfl) (fun _ _ _ _=>rfl) hH)
  ·obtain rfl:=Option.some.inj ((show opDbs[4]? = some opDb4 from rfl).symm.trans ho)
   exact wp_value (run_Fd1 a w _ _ _ _ _ _ _ b (off) (n) (cap) (kk) (off+kk*4) (by omega) hk hn ((hD 1 (by simp)).2 rfl) ((hD 3 (by simp)).2 rfl)) (hK N _ _ (fun _=>rfl) (fun _ _ _ _=>rfl) hH)
  ·obtain rfl:=Option.some.inj ((show opDbs[5]? = some opDb5 from rfl).symm.trans ho)
   have hs0:d 8=false:=(hcl.not opDb_dep (i:=8) (j:=5) (by simp) hdi)
   obtain ⟨w1,hP,h1,h2⟩:=hH
   obtain rfl:=h1 hs0
   have hW:=hP.mem
   exact wp_value (run_loadK a w _ _ _ _ _ _ b (off+kk*4) _ _ _ _ ((hD 4 (by simp)).2 rfl) (c2.but hW (by simp))) (hK N _ _ (fun _=>rfl) (fun _ _ _ _=>rfl) ⟨_,hP,h1,h2⟩)
  ·obtain rfl:=Option.some.inj ((show opDbs[6]? = some opDb6 from rfl).symm.trans ho)
   have hs0:d 8=false:=(hcl.not opDb_dep (i:=8) (j:=6) (by simp) hdi)
   obtain ⟨w1,hP,h1,h2⟩:=hH
   obtain rfl:=h1 hs0
   have hW:=hP.mem
   exact wp_enter (run_Fd2 a w _ _ _ _ _ _ _ ((hD 5 (by simp)).2 rfl)) (R:=fun w' u=>∃ v,u=.agg #[.bool v.1,.int .u64 v.2.1,.int .u64 v.2.2.1,.pointer v.2.2.2]∧(FracAt w' (.agg #[.bool v.1,.int .u64 v.2.1,.int .u64 v.2.2.1,.pointer v.2.2.2]) (r1))∧But [] w w') ((GR w hW).mono fun e w' ⟨v,he,hf,hb⟩=>⟨_,he,v,rfl,hf,hb⟩) (fun u w' ⟨v,hu,hf,hb⟩=>hK (v,N.2) _ _ (fun _=>hu) (fun j hj _ hdj=>by
    have:j=0∨j=1∨j=2∨j=3∨j=4∨j=5∨j=6∨j=7∨j=8:=by omega
    rcases this with rfl | rfl | rfl | rfl | rfl | rfl | rfl | rfl | rfl
    ·rfl
    ·rfl
    ·rfl
    ·rfl
    ·rfl
    ·rfl
    ·exact absurd (hdi.symm.trans hdj) (by simp)
    ·rfl
    ·rfl) ⟨_,((hP.but hb).s6 v hf),fun _=>rfl,fun h=>absurd (hs0.symm.trans h) (by simp)⟩)
  ·obtain rfl:=Option.some.inj ((show opDbs[7]? = some opDb7 from rfl).symm.trans ho)
   have hs0:d 8=false:=(hcl.not opDb_dep (i:=8) (j:=7) (by simp) hdi)
   obtain ⟨w1,hP,h1,h2⟩:=hH
   obtain rfl:=h1 hs0
   have hW:=hP.mem
   have t6:d 6=true:=(hD 6 (by simp)).1
   exact wp_enter (run_Fd6 a w _ _ _ _ _ _ _ _ _ ((hD 0 (by simp)).2 rfl) ((hD 6 (by simp)).2 rfl)) (R:=fun w' u=>∃ v,u=.agg #[.bool v.1,.int .u64 v.2.1,.int .u64 v.2.2.1,.pointer v.2.2.2]∧(FracAt w' (.agg #[.bool v.1,.int .u64 v.2.1,.int .u64 v.2.2.1,.pointer v.2.2.2]) (r2))∧But [] w w') ((MU w N.1 hW (hP.f6 t6)).mono fun e w' ⟨v,he,hf,hb⟩=>⟨_,he,v,rfl,hf,hb⟩) (fun u w' ⟨v,hu,hf,hb⟩=>hK (N.1,v) _ _ (fun _=>hu) (fun j hj _ hdj=>by
    have:j=0∨j=1∨j=2∨j=3∨j=4∨j=5∨j=6∨j=7∨j=8:=by omega
    rcases this with rfl | rfl | rfl | rfl | rfl | rfl | rfl | rfl | rfl
    ·rfl
    ·rfl
    ·rfl
    ·rfl
    ·rfl
    ·rfl
    ·rfl
    ·exact absurd (hdi.symm.trans hdj) (by simp)
    ·rfl) ⟨_,((hP.but hb).s7 v hf),fun _=>rfl,fun h=>absurd (hs0.symm.trans h) (by simp)⟩)
  ·obtain rfl:=Option.some.inj ((show opDbs[8]? = some opDb8 from rfl).symm.trans ho)
   obtain ⟨w1,hP,h1,h2⟩:=hH
   obtain rfl:=h1 hdi
   have hW:=hP.mem
   have t6:d 6=true:=(hD 6 (by simp)).1
   have t7:d 7=true:=(hD 7 (by simp)).1
   exact wp_skipped (run_Fd4 a w _ _ _ _ _ g7 (0) _ _ _ _ e7' ((hD 7 (by simp)).2 rfl) (⟨_,hW.cell_some c1.1 (by simp)⟩) (⟨_,hW.cell_some c1.2.1 (by simp)⟩) (⟨_,hW.cell_some c1.2.2.1 (by simp)⟩) (⟨_,hW.cell_some c1.2.2.2 (by simp)⟩) (fun j=>(hW.frozen (p:=⟨g7,j,none⟩) (show g7<_ from lt_of_cell c1.1) (by simp)).trans (fz j))) (hK N undef _ (fun h=>absurd h (by decide)) (fun _ _ _ _=>rfl) ⟨w,hP,fun h=>absurd h (by rw [came_self];simp),fun _=>rfl⟩)
 ·intro N d w hd hH
  obtain ⟨w1,hP,h1,h2⟩:=hH
  rw [h2 (hd 8 (by omega))]
  rw [hd 6 (by omega),hd 7 (by omega)] at hP
  exact hQ N.1 N.2 w1 hP
theorem run_Fd7 (a:Act) (w:World) (d t0 t1:Nat) (u:TypeId) (ps:String) (ed:Array Edge) (gd:Option (Nat × Bool)) (z0 z1:Value) (h0:a.eval (.tmp t0)=z0) (h1:a.eval (.tmp t1)=z1) :
  (execOp a.eval { dst:=some d,op:=Op.call { callee:=Callee.value (Operand.func 59),args:=#[Operand.tmp t0,Operand.tmp t1],argTypes:=#[27,27] },type:=u,pos:=ps,after:=ed,guard:=gd }).run Tryz.prog w=.ok (.enter 59 #[z0,z1]) w:=by
 unfold execOp
 go_simp
 rw [← h0,← h1]
 simp [Act.eval]
def opDc0:Oper:={ dst:=some 36,op:=Op.load 27 (Operand.tmp 7),type := 27,pos := "flow.go:88",after:=#[],guard:=none }
def opDc1:Oper:={ dst:=some 37,op:=Op.move (Operand.tmp 0),type := 42,pos := "flow.go:88",after:=#[],guard:=none }
def opDc2:Oper:={ dst:=some 38,op:=Op.move (Operand.tmp 8),type := 3,pos := "flow.go:88",after:=#[],guard:=none }
def opDc3:Oper:={ dst:=some 39,op:=Op.indexAddr 42 (Operand.tmp 37) (Operand.tmp 38),type:=0,pos := "flow.go:88",after:=#[⟨1,.data⟩,⟨2,.data⟩],guard:=none }
def opDc4:Oper:={ dst:=some 40,op:=Op.load 27 (Operand.tmp 39),type := 27,pos := "flow.go:88",after:=#[⟨3,.data⟩],guard:=none }
def opDc5:Oper:={ dst:=some 41,op:=Op.call { callee:=Callee.value (Operand.func 59),args:=#[Operand.tmp 36,Operand.tmp 40],argTypes:=#[27,27] },type := 27,pos := "flow.go:88",after:=#[⟨0,.data⟩,⟨4,.data⟩],guard:=none }
def opDc6:Oper:={ dst:=none,op:=Op.store 27 (Operand.tmp 7) (Operand.tmp 41),type:=0,pos := "flow.go:88",after:=#[⟨5,.data⟩,⟨5,.chain⟩,⟨0,.phase⟩,⟨1,.phase⟩,⟨2,.phase⟩,⟨3,.phase⟩,⟨4,.phase⟩,⟨5,.phase⟩],guard:=none }
def opDcs:Array Oper:=#[opDc0,opDc1,opDc2,opDc3,opDc4,opDc5,opDc6]
structure opDcH (W0:World) (g7:Nat) (b:Nat) (off:Nat) (n:Nat) (cap:Nat) (k:Nat) (r1:Rat) (s1:Bool) (x1:Int) (y1:Int) (p1:Option Addr) (s2:Bool) (x2:Int) (y2:Int) (p2:Option Addr) (za:FZ) (b5:Bool) (w:World):Prop where
 mem:But [] W0 w
 f5:b5=true→FracAt w (.agg #[.bool za.1,.int .u64 za.2.1,.int .u64 za.2.2.1,.pointer za.2.2.2]) (r1)
theorem opDcH.but {W0:World} {g7:Nat} {b:Nat} {off:Nat} {n:Nat} {cap:Nat} {k:Nat} {r1:Rat} {s1:Bool} {x1:Int} {y1:Int} {p1:Option Addr} {s2:Bool} {x2:Int} {y2:Int} {p2:Option Addr} {za:FZ} {b5:Bool} {w w':World} (h:opDcH W0 g7 b off n cap k r1 s1 x1 y1 p1 s2 x2 y2 p2 za b5 w) (hb:But [] w w'):opDcH W0 g7 b off n cap k r1 s1 x1 y1 p1 s2 x2 y2 p2 za b5 w' :=
 { mem:=h.mem.trans' hb,f5:=fun e=>(h.f5 e).but hb }
theorem opDcH.s5 {W0:World} {g7:Nat} {b:Nat} {off:Nat} {n:Nat} {cap:Nat} {k:Nat} {r1:Rat} {s1:Bool} {x1:Int} {y1:Int} {p1:Option Addr} {s2:Bool} {x2:Int} {y2:Int} {p2:Option Addr} {za:FZ} {b5:Bool} {w:World} (h:opDcH W0 g7 b off n cap k r1 s1 x1 y1 p1 s2 x2 y2 p2 za b5 w) (za':FZ) (hf:FracAt w (.agg #[.bool za'.1,.int .u64 za'.2.1,.int .u64 za'.2.2.1,.pointer za'.2.2.2]) (r1)):opDcH W0 g7 b off n cap k r1 s1 x1 y1 p1 s2 x2 y2 p2 za' true w :=
 { mem:=h.mem,f5:=fun _=>hf }
def opDcT (i:Nat):Nat:=match i with
 | 0=>36
 | 1=>37
 | 2=>38
 | 3=>39
 | 4=>40
 | 5=>41
 | _=>36
def opDcW (i:Nat):Bool:=match i with
 | 6=>false
 | _=>true
def opDcV (g7:Nat) (b:Nat) (off:Nat) (n:Nat) (cap:Nat) (k:Nat) (r1:Rat) (s1:Bool) (x1:Int) (y1:Int) (p1:Option Addr) (s2:Bool) (x2:Int) (y2:Int) (p2:Option Addr) (za:FZ) (i:Nat):Value:=match i with
 | 0=>.agg #[.bool s1,.int .u64 x1,.int .u64 y1,.pointer p1]
 | 1=>.slice (some ⟨b,off,none⟩) n cap
 | 2=>.int .i64 (k:Int)
 | 3=>.pointer (some ⟨b,off+k*4,none⟩)
 | 4=>.agg #[.bool s2,.int .u64 x2,.int .u64 y2,.pointer p2]
 | 5=>.agg #[.bool za.1,.int .u64 za.2.1,.int .u64 za.2.2.1,.pointer za.2.2.2]
 | _=>undef
theorem opDc_dep:depOps opDcs [(3,1),(3,2),(4,3),(5,0),(5,4),(6,0),(6,1),(6,2),(6,3),(6,4),(6,5)]=true:=by kernel_rfl
theorem opDcT_inj:∀ i j,i<7→j<7→opDcW i=true→opDcW j=true→opDcT i=opDcT j→i=j:=fun i j hi hj=>(by decide:∀ i,i<7→∀ j,j<7→opDcW i=true→opDcW j=true→opDcT i=opDcT j→i=j) i hi j hj
theorem grown_region11 (id:Nat) (Q:Exit→Act→World→Prop) (base:Act) (W0:World) (g7:Nat) (b:Nat) (off:Nat) (n:Nat) (cap:Nat) (k:Nat) (r1:Rat) (s1:Bool) (x1:Int) (y1:Int) (p1:Option Addr) (s2:Bool) (x2:Int) (y2:Int) (p2:Option Addr) (hs:41<base.tmps.size) (e7:base.eval (.tmp 7)=.pointer (some ⟨g7,0,none⟩)) (e0:base.eval (.tmp 0)=.slice (some ⟨b,off,none⟩) n cap) (e8:base.eval (.tmp 8)=.int .i64 (k:Int))
  (hk:k<n) (hn:n<1000000)  (c1:P4o W0 g7 (0) s1 x1 y1 p1) (c2:P4o W0 b (off+k*4) s2 x2 y2 p2) (fz:∀ j,W0.frozen? ⟨g7,j,none⟩=false) (AD:∀ w,But [] W0 w→Calls Tryz.prog 59 #[.agg #[.bool s1,.int .u64 x1,.int .u64 y1,.pointer p1],.agg #[.bool s2,.int .u64 x2,.int .u64 y2,.pointer p2]] w fun e w'=>∃ z:FZ,e=.returned (.agg #[.bool z.1,.int .u64 z.2.1,.int .u64 z.2.2.1,.pointer z.2.2.2])∧FracAt w' (.agg #[.bool z.1,.int .u64 z.2.1,.int .u64 z.2.2.1,.pointer z.2.2.2]) (r1)∧But [] w w')
  (hQ:∀ (za:FZ) w1,opDcH W0 g7 b off n cap k r1 s1 x1 y1 p1 s2 x2 y2 p2 za true w1→Q .normal (putted base [(36,.agg #[.bool s1,.int .u64 x1,.int .u64 y1,.pointer p1]),(37,.slice (some ⟨b,off,none⟩) n cap),(38,.int .i64 (k:Int)),(39,.pointer (some ⟨b,off+k*4,none⟩)),(40,.agg #[.bool s2,.int .u64 x2,.int .u64 y2,.pointer p2]),(41,.agg #[.bool za.1,.int .u64 za.2.1,.int .u64 za.2.2.1,.pointer za.2.2.2])]) (w1.setCells g7 (0) [.bool za.1,.int .u64 za.2.1,.int .u64 za.2.2.1,.pointer za.2.2.2])) :
  (Code.region id opDcs true).wp Tryz.prog Q base W0:=by
 have hT:∀ i,i<7→opDcW i=true→opDcT i<base.tmps.size:=fun i hi _=>by
  have h:opDcT i≤41:=by revert i;decide
  omega
 refine region_all (by kernel_rfl) (low_of (by kernel_rfl)) (bare_of (by kernel_rfl)) (fun (N:(FZ)) d w=>∃ w1,opDcH W0 g7 b off n cap k r1 s1 x1 y1 p1 s2 x2 y2 p2 N (d 5) w1∧(d 6=false→w=w1)∧(d 6=true→w=(w1.setCells g7 (0) [.bool N.1,.int .u64 N.2.1,.int .u64 N.2.2.1,.pointer N.2.2.2]))) (fun N=>opDcV g7 b off n cap k r1 s1 x1 y1 p1 s2 x2 y2 p2 N) opDcT opDcW 7 (by kernel_rfl) opDcT_inj hT ((false,0,0,none)) ⟨_,{ mem:=(But.refl _ _).drew,f5:=fun h=>by simp at h },fun _=>rfl,fun h=>by simp at h⟩ ?_ ?_
 ·intro N d i o a w K hi ho hdi hcl hH he hdep hK
  have hD:=dep_is opDc_dep ho (fun j=>d j=true∧(opDcW j=true→a.eval (.tmp (opDcT j))=opDcV g7 b off n cap k r1 s1 x1 y1 p1 s2 x2 y2 p2 N j)) hdep
  have e7':=(he 7 (fun j hj _ _=>(by decide:∀ j,j<7→(7:Nat)≠opDcT j) j hj)).trans e7
  have e0':=(he 0 (fun j hj _ _=>(by decide:∀ j,j<7→(0:Nat)≠opDcT j) j hj)).trans e0
  have e8':=(he 8 (fun j hj _ _=>(by decide:∀ j,j<7→(8:Nat)≠opDcT j) j hj)).trans e8
  have:i=0∨i=1∨i=2∨i=3∨i=4∨i=5∨i=6:=by omega
  rcases this with rfl | rfl | rfl | rfl | rfl | rfl | rfl
  ·obtain rfl:=Option.some.inj ((show opDcs[0]? = some opDc0 from rfl).symm.trans ho)
   have hs0:d 6=false:=(hcl.not opDc_dep (i:=6) (j:=0) (by simp) hdi)
   obtain ⟨w1,hP,h1,h2⟩:=hH
   obtain rfl:=h1 hs0
   have hW:=hP.mem
   exact wp_value (run_loadK a w _ _ _ _ _ _ g7 (0) _ _ _ _ e7' (c1.but hW (by simp))) (hK N _ _ (fun _=>rfl) (fun _ _ _ _=>rfl) ⟨_,hP,h1,h2⟩)
  ·obtain rfl:=Option.some.inj ((show opDcs[1]? = some opDc1 from rfl).symm.trans ho)
   exact wp_value (run_mvK a w _ _ _ _ _ _ _ e0') (hK N _ _ (fun _=>rfl) (fun _ _ _ _=>rfl) hH)
  ·obtain rfl:=Option.some.inj ((show opDcs[2]? = some opDc2 from rfl).symm.trans ho)
   exact wp_value (run_mvK a w _ _ _ _ _ _ _ e8') (hK N _ _ (fun _=>rfl) (fun _ _ _ _=>rfl) hH)
  ·obtain rfl:=Option.some.inj ((show opDcs[3]? = some opDc3 from rfl).symm.trans ho)
   exact wp_value (run_Fd1 a w _ _ _ _ _ _ _ b (off) (n) (cap) (k) (off+k*4) (by omega) hk hn ((hD 1 (by simp)).2 rfl) ((hD 2 (by simp)).2 rfl)) (hK N _ _ (fun _=>rfl) (fun _ _ _ _=>rfl) hH)
  ·obtain rfl:=Option.some.inj ((show opDcs[4]? = some opDc4 from rfl).symm.trans ho)
   have hs0:d 6=false:=(hcl.not opDc_dep (i:=6) (j:=4) (by simp) hdi)
   obtain ⟨w1,hP,h1,h2⟩:=hH
   obtain rfl:=h1 hs0
   have hW:=hP.mem
   exact wp_value (run_loadK a w _ _ _ _ _ _ b (off+k*4) _ _ _ _ ((hD 3 (by simp)).2 rfl) (c2.but hW (by simp))) (hK N _ _ (fun _=>rfl) (fun _ _ _ _=>rfl) ⟨_,hP,h1,h2⟩)
  ·obtain rfl:=Option.some.inj ((show opDcs[5]? = some opDc5 from rfl).symm.trans ho)
   have hs0:d 6=false:=(hcl.not opDc_dep (i:=6) (j:=5) (by simp) hdi)
   obtain ⟨w1,hP,h1,h2⟩:=hH
   obtain rfl:=h1 hs0
   have hW:=hP.mem
   exact wp_enter (run_Fd7 a w _ _ _ _ _ _ _ _ _ ((hD 0 (by simp)).2 rfl) ((hD 4 (by simp)).2 rfl)) (R:=fun w' u=>∃ v,u=.agg #[.bool v.1,.int .u64 v.2.1,.int .u64 v.2.2.1,.pointer v.2.2.2]∧(FracAt w' (.agg #[.bool v.1,.int .u64 v.2.1,.int .u64 v.2.2.1,.pointer v.2.2.2]) (r1))∧But [] w w') ((AD w hW).mono fun e w' ⟨v,he,hf,hb⟩=>⟨_,he,v,rfl,hf,hb⟩) (fun u w' ⟨v,hu,hf,hb⟩=>hK (v) _ _ (fun _=>hu) (fun j hj _ hdj=>by
    have:j=0∨j=1∨j=2∨j=3∨j=4∨j=5∨j=6:=by omega
    rcases this with rfl | rfl | rfl | rfl | rfl | rfl | rfl
    ·rfl
    ·rfl
    ·rfl
    ·rfl
    ·rfl
    ·exact absurd (hdi.symm.trans hdj) (by simp)
    ·rfl) ⟨_,((hP.but hb).s5 v hf),fun _=>rfl,fun h=>absurd (hs0.symm.trans h) (by simp)⟩)
  ·obtain rfl:=Option.some.inj ((show opDcs[6]? = some opDc6 from rfl).symm.trans ho)
   obtain ⟨w1,hP,h1,h2⟩:=hH
   obtain rfl:=h1 hdi
   have hW:=hP.mem
   have t5:d 5=true:=(hD 5 (by simp)).1
   exact wp_skipped (run_Fd4 a w _ _ _ _ _ g7 (0) _ _ _ _ e7' ((hD 5 (by simp)).2 rfl) (⟨_,hW.cell_some c1.1 (by simp)⟩) (⟨_,hW.cell_some c1.2.1 (by simp)⟩) (⟨_,hW.cell_some c1.2.2.1 (by simp)⟩) (⟨_,hW.cell_some c1.2.2.2 (by simp)⟩) (fun j=>(hW.frozen (p:=⟨g7,j,none⟩) (show g7<_ from lt_of_cell c1.1) (by simp)).trans (fz j))) (hK N undef _ (fun h=>absurd h (by decide)) (fun _ _ _ _=>rfl) ⟨w,hP,fun h=>absurd h (by rw [came_self];simp),fun _=>rfl⟩)
 ·intro N d w hd hH
  obtain ⟨w1,hP,h1,h2⟩:=hH
  rw [h2 (hd 6 (by omega))]
  rw [hd 5 (by omega)] at hP
  exact hQ N w1 hP
end Go.Proofs.YtollloafckcogaaGreatDoor
