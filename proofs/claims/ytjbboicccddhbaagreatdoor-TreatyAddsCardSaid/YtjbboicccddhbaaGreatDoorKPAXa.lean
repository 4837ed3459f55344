/- What is left of all claims, stops and pr -/
import Derived.Test.YtjbboicccddhbaaGreatDoorKPAI
import Derived.Test.YtjbboicccddhbaaGreatDoorKPXO
namespace Go.Proofs.YtjbboicccddhbaaGreatDoor
open Go.RowKit
set_option maxHeartbeats 8000000
set_option maxRecDepth 100000
theorem run_A0 (a:Act) (w:World) (d t:Nat) (u:TypeId) (ps:String) (ed:Array Edge) (gd:Option (Nat × Bool)) (b o o':Nat) (ho:o+3=o') (h1:a.eval (.tmp t)=.pointer (some ⟨b,o,none⟩)) :
  (execOp a.eval { dst:=some d,op:=Op.fieldAddr 55 (.tmp t) 3,type:=u,pos:=ps,after:=ed,guard:=gd }).run Tryz.prog w=.ok (.value (.pointer (some ⟨b,o',none⟩))) w:=by
 subst ho
 unfold execOp
 simp only [h1]
 go_simp
theorem run_A1 (a:Act) (w:World) (d t:Nat) (u:TypeId) (ps:String) (ed:Array Edge) (gd:Option (Nat × Bool)) (b o:Nat) (v:Value) (h1:a.eval (.tmp t)=.pointer (some ⟨b,o,none⟩)) (hc:w.cell? ⟨b,o,none⟩=some v) :
  (execOp a.eval { dst:=some d,op:=Op.load 3 (.tmp t),type:=u,pos:=ps,after:=ed,guard:=gd }).run Tryz.prog w=.ok (.value v) w:=by
 unfold execOp
 simp only [h1]
 go_simp
theorem run_A2 (a:Act) (w:World) (d t:Nat) (u:TypeId) (ps:String) (ed:Array Edge) (gd:Option (Nat × Bool)) (b o o':Nat) (ho:o+0=o') (h1:a.eval (.tmp t)=.pointer (some ⟨b,o,none⟩)) :
  (execOp a.eval { dst:=some d,op:=Op.fieldAddr 55 (.tmp t) 0,type:=u,pos:=ps,after:=ed,guard:=gd }).run Tryz.prog w=.ok (.value (.pointer (some ⟨b,o',none⟩))) w:=by
 subst ho
 unfold execOp
 simp only [h1]
 go_simp
theorem run_A3 (a:Act) (w:World) (d t:Nat) (u:TypeId) (ps:String) (ed:Array Edge) (gd:Option (Nat × Bool)) (b o:Nat) (v:Value) (h1:a.eval (.tmp t)=.pointer (some ⟨b,o,none⟩)) (hc:w.cell? ⟨b,o,none⟩=some v) :
  (execOp a.eval { dst:=some d,op:=Op.load 52 (.tmp t),type:=u,pos:=ps,after:=ed,guard:=gd }).run Tryz.prog w=.ok (.value v) w:=by
 unfold execOp
 simp only [h1]
 go_simp
theorem run_A4 (a:Act) (w:World) (d t1 t2:Nat) (u:TypeId) (ps:String) (ed:Array Edge) (gd:Option (Nat × Bool)) (b off n c k o':Nat) (ho:off+k*2=o') (hk:k<n) (_hn:n<1000000) (h1:a.eval (.tmp t1)=.slice (some ⟨b,off,none⟩) n c) (h2:a.eval (.tmp t2)=.int .i64 (k:Int)) :
  (execOp a.eval { dst:=some d,op:=Op.indexAddr 52 (.tmp t1) (.tmp t2),type:=u,pos:=ps,after:=ed,guard:=gd }).run Tryz.prog w=.ok (.value (.pointer (some ⟨b,o',none⟩))) w:=by
 subst ho
 unfold execOp
 simp only [h1,h2]
 go_simp
theorem run_A5 (a:Act) (w:World) (d t:Nat) (u:TypeId) (ps:String) (ed:Array Edge) (gd:Option (Nat × Bool)) (b o o':Nat) (ho:o+1=o') (h1:a.eval (.tmp t)=.pointer (some ⟨b,o,none⟩)) :
  (execOp a.eval { dst:=some d,op:=Op.fieldAddr 61 (.tmp t) 1,type:=u,pos:=ps,after:=ed,guard:=gd }).run Tryz.prog w=.ok (.value (.pointer (some ⟨b,o',none⟩))) w:=by
 subst ho
 unfold execOp
 simp only [h1]
 go_simp
theorem run_A6 (a:Act) (w:World) (d t1 t2:Nat) (u:TypeId) (ps:String) (ed:Array Edge) (gd:Option (Nat × Bool)) (x y z:Int) (hz:x+y=z) (hb:-9223372036854775808≤z∧z<9223372036854775808) (h1:a.eval (.tmp t1)=.int .i64 x) (h2:a.eval (.tmp t2)=.int .i64 y) :
  (execOp a.eval { dst:=some d,op:=Op.binOp BinOp.add 3 (.tmp t1) (.tmp t2) 3,type:=u,pos:=ps,after:=ed,guard:=gd }).run Tryz.prog w=.ok (.value (.int .i64 z)) w:=by
 unfold execOp
 simp only [h1,h2]
 go_simp
 rw [IntKind.wrap_i64]
 omega
theorem run_A7 (a:Act) (w:World) (t1 t2:Nat) (u:TypeId) (ps:String) (ed:Array Edge) (b o:Nat) (z:Int) (u0:Value) (h1:a.eval (.tmp t1)=.pointer (some ⟨b,o,none⟩)) (h2:a.eval (.tmp t2)=.int .i64 z) (hc:w.cell? ⟨b,o,none⟩=some u0) (fz:w.frozen? ⟨b,o,none⟩=false) :
  (execOp a.eval { dst:=none,op:=Op.store 3 (.tmp t1) (.tmp t2),type:=u,pos:=ps,after:=ed,guard:=none }).run Tryz.prog w=.ok .skip (w.setCell ⟨b,o,none⟩ (.int .i64 z)):=by
 unfold execOp
 simp only [h1,h2]
 go_simp
def opAa0:Oper:={ dst:=some 54,op:=Op.fieldAddr 55 (Operand.tmp 8) 3,type:=0,pos := "apply.go:41",after:=#[],guard:=none }
def opAa1:Oper:={ dst:=some 55,op:=Op.load 3 (Operand.tmp 54),type := 3,pos := "apply.go:41",after:=#[⟨0,.data⟩],guard:=none }
def opAa2:Oper:={ dst:=some 56,op:=Op.fieldAddr 55 (Operand.tmp 8) 0,type:=0,pos := "apply.go:41",after:=#[],guard:=none }
def opAa3:Oper:={ dst:=some 57,op:=Op.load 52 (Operand.tmp 56),type := 52,pos := "apply.go:41",after:=#[⟨2,.data⟩],guard:=none }
def opAa4:Oper:={ dst:=some 58,op:=Op.move (Operand.tmp 10),type := 3,pos := "apply.go:41",after:=#[],guard:=none }
def opAa5:Oper:={ dst:=some 59,op:=Op.indexAddr 52 (Operand.tmp 57) (Operand.tmp 58),type:=0,pos := "apply.go:41",after:=#[⟨3,.data⟩,⟨4,.data⟩],guard:=none }
def opAa6:Oper:={ dst:=some 60,op:=Op.fieldAddr 61 (Operand.tmp 59) 1,type:=0,pos := "apply.go:41",after:=#[⟨5,.data⟩],guard:=none }
def opAa7:Oper:={ dst:=some 61,op:=Op.load 3 (Operand.tmp 60),type := 3,pos := "apply.go:41",after:=#[⟨6,.data⟩],guard:=none }
def opAa8:Oper:={ dst:=some 62,op:=Op.binOp BinOp.add 3 (Operand.tmp 55) (Operand.tmp 61) 3,type := 3,pos := "apply.go:41",after:=#[⟨1,.data⟩,⟨7,.data⟩],guard:=none }
def opAa9:Oper:={ dst:=some 63,op:=Op.fieldAddr 55 (Operand.tmp 8) 3,type:=0,pos := "apply.go:41",after:=#[⟨0,.phase⟩,⟨1,.phase⟩,⟨2,.phase⟩,⟨3,.phase⟩,⟨4,.phase⟩,⟨5,.phase⟩,⟨6,.phase⟩,⟨7,.phase⟩,⟨8,.phase⟩],guard:=none }
def opAa10:Oper:={ dst:=none,op:=Op.store 3 (Operand.tmp 63) (Operand.tmp 62),type:=0,pos := "apply.go:41",after:=#[⟨9,.data⟩,⟨8,.data⟩,⟨0,.phase⟩,⟨1,.phase⟩,⟨2,.phase⟩,⟨3,.phase⟩,⟨4,.phase⟩,⟨5,.phase⟩,⟨6,.phase⟩,⟨7,.phase⟩,⟨8,.phase⟩],guard:=none }
def opAas:Array Oper:=#[opAa0,opAa1,opAa2,opAa3,opAa4,opAa5,opAa6,opAa7,opAa8,opAa9,opAa10]
structure opAaH (W0:World) (g8:Nat) (gC:Nat) (nc:Nat) (k:Nat) (nt:Int) (y:Int) (z:Int)   (w:World):Prop where
 mem:But [] W0 w
def opAaT (i:Nat):Nat:=match i with
 | 0=>54
 | 1=>55
 | 2=>56
 | 3=>57
 | 4=>58
 | 5=>59
 | 6=>60
 | 7=>61
 | 8=>62
 | 9=>63
 | _=>54
def opAaW (i:Nat):Bool:=match i with
 | 10=>false
 | _=>true
def opAaV (g8:Nat) (gC:Nat) (nc:Nat) (k:Nat) (nt:Int) (y:Int) (z:Int)  (i:Nat):Value:=match i with
 | 0=>.pointer (some ⟨g8,3,none⟩)
 | 1=>.int .i64 nt
 | 2=>.pointer (some ⟨g8,0,none⟩)
 | 3=>.slice (some ⟨gC,0,none⟩) nc nc
 | 4=>.int .i64 (k:Int)
 | 5=>.pointer (some ⟨gC,k*2,none⟩)
 | 6=>.pointer (some ⟨gC,k*2+1,none⟩)
 | 7=>.int .i64 y
 | 8=>.int .i64 z
 | 9=>.pointer (some ⟨g8,3,none⟩)
 | _=>undef
theorem opAa_dep:depOps opAas [(1,0),(3,2),(5,3),(5,4),(6,5),(7,6),(8,1),(8,7),(9,0),(9,1),(9,2),(9,3),(9,4),(9,5),(9,6),(9,7),(9,8),(10,0),(10,1),(10,2),(10,3),(10,4),(10,5),(10,6),(10,7),(10,8),(10,9)]=true:=by kernel_rfl
theorem opAaT_inj:∀ i j,i<11→j<11→opAaW i=true→opAaW j=true→opAaT i=opAaT j→i=j:=fun i j hi hj=>(by decide:∀ i,i<11→∀ j,j<11→opAaW i=true→opAaW j=true→opAaT i=opAaT j→i=j) i hi j hj
theorem apply_region13 (id:Nat) (Q:Exit→Act→World→Prop) (base:Act) (W0:World) (g8:Nat) (gC:Nat) (nc:Nat) (k:Nat) (nt:Int) (y:Int) (z:Int) (hs:63<base.tmps.size) (e8:base.eval (.tmp 8)=.pointer (some ⟨g8,0,none⟩)) (e10:base.eval (.tmp 10)=.int .i64 (k:Int))
  (hk:k<nc) (hn:nc<1000000) (hz:nt+y=z) (hb:-9223372036854775808≤z∧z<9223372036854775808) (c3:W0.cell? ⟨g8,3,none⟩=some (.int .i64 nt)) (c0:W0.cell? ⟨g8,0,none⟩=some (.slice (some ⟨gC,0,none⟩) nc nc)) (cy:W0.cell? ⟨gC,k*2+1,none⟩=some (.int .i64 y)) (fz:W0.frozen? ⟨g8,3,none⟩=false)
  (hQ:∀  w1,opAaH W0 g8 gC nc k nt y z  w1→Q .normal (putted base [(54,.pointer (some ⟨g8,3,none⟩)),(55,.int .i64 nt),(56,.pointer (some ⟨g8,0,none⟩)),(57,.slice (some ⟨gC,0,none⟩) nc nc),(58,.int .i64 (k:Int)),(59,.pointer (some ⟨gC,k*2,none⟩)),(60,.pointer (some ⟨gC,k*2+1,none⟩)),(61,.int .i64 y),(62,.int .i64 z),(63,.pointer (some ⟨g8,3,none⟩))]) (w1.setCell ⟨g8,3,none⟩ (.int .i64 z))) :
  (Code.region id opAas true).wp Tryz.prog Q base W0:=by
 have hT:∀ i,i<11→opAaW i=true→opAaT i<base.tmps.size:=fun i hi _=>by
  have h:opAaT i≤63:=by revert i;decide
  omega
 refine region_all (by kernel_rfl) (low_of (by kernel_rfl)) (bare_of (by kernel_rfl)) (fun (N:Unit) d w=>∃ w1,opAaH W0 g8 gC nc k nt y z  w1∧(d 10=false→w=w1)∧(d 10=true→w=(w1.setCell ⟨g8,3,none⟩ (.int .i64 z)))) (fun N=>opAaV g8 gC nc k nt y z ) opAaT opAaW 11 (by kernel_rfl) opAaT_inj hT () ⟨_,{ mem:=(But.refl _ _).drew },fun _=>rfl,fun h=>by simp at h⟩ ?_ ?_
 ·intro N d i o a w K hi ho hdi hcl hH he hdep hK
  have hD:=dep_is opAa_dep ho (fun j=>d j=true∧(opAaW j=true→a.eval (.tmp (opAaT j))=opAaV g8 gC nc k nt y z  j)) hdep
  have e8':=(he 8 (fun j hj _ _=>(by decide:∀ j,j<11→(8:Nat)≠opAaT j) j hj)).trans e8
  have e10':=(he 10 (fun j hj _ _=>(by decide:∀ j,j<11→(10:Nat)≠opAaT j) j hj)).trans e10
  have:i=0∨i=1∨i=2∨i=3∨i=4∨i=5∨i=6∨i=7∨i=8∨i=9∨i=10:=by omega
  rcases this with rfl | rfl | rfl | rfl | rfl | rfl | rfl | rfl | rfl | rfl | rfl
  ·obtain rfl:=Option.some.inj ((show opAas[0]? = some opAa0 from rfl).symm.trans ho)
   exact wp_value (run_A0 a w _ _ _ _ _ _ g8 (0) (3) rfl e8') (hK N _ _ (fun _=>rfl) (fun _ _ _ _=>rfl) hH)
  ·obtain rfl:=Option.some.inj ((show opAas[1]? = some opAa1 from rfl).symm.trans ho)
   have hs0:d 10=false:=(hcl.not opAa_dep (i:=10) (j:=1) (by simp) hdi)
   obtain ⟨w1,hP,h1,h2⟩:=hH
   obtain rfl:=h1 hs0
   have hW:=hP.mem
   exact wp_value (run_A1 a w _ _ _ _ _ _ g8 (3) _ ((hD 0 (by simp)).2 rfl) (hW.cell_some c3 (by simp))) (hK N _ _ (fun _=>rfl) (fun _ _ _ _=>rfl) ⟨_,hP,h1,h2⟩)
  ·obtain rfl:=Option.some.inj ((show opAas[2]? = some opAa2 from rfl).symm.trans ho)
   exact wp_value (run_A2 a w _ _ _ _ _ _ g8 (0) (0) rfl e8') (hK N _ _ (fun _=>rfl) (fun _ _ _ _=>rfl) hH)
  ·obtain rfl:=Option.some.inj ((show opAas[3]? = some opAa3 from rfl).symm.trans ho)
   have hs0:d 10=false:=(hcl.not opAa_dep (i:=10) (j:=3) (by simp) hdi)
   obtain ⟨w1,hP,h1,h2⟩:=hH
   obtain rfl:=h1 hs0
   have hW:=hP.mem
   exact wp_value (run_A3 a w _ _ _ _ _ _ g8 (0) _ ((hD 2 (by simp)).2 rfl) (hW.cell_some c0 (by simp))) (hK N _ _ (fun _=>rfl) (fun _ _ _ _=>rfl) ⟨_,hP,h1,h2⟩)
  ·obtain rfl:=Option.some.inj ((show opAas[4]? = some opAa4 from rfl).symm.trans ho)
   exact wp_value (run_mvK a w _ _ _ _ _ _ _ e10') (hK N _ _ (fun _=>rfl) (fun _ _ _ _=>rfl) hH)
  ·obtain rfl:=Option.some.inj ((show opAas[5]? = some opAa5 from rfl).symm.trans ho)
   exact wp_value (run_A4 a w _ _ _ _ _ _ _ gC (0) (nc) (nc) (k) (k*2) (by omega) hk hn ((hD 3 (by simp)).2 rfl) ((hD 4 (by simp)).2 rfl)) (hK N _ _ (fun _=>rfl) (fun _ _ _ _=>rfl) hH)
  ·obtain rfl:=Option.some.inj ((show opAas[6]? = some opAa6 from rfl).symm.trans ho)
   exact wp_value (run_A5 a w _ _ _ _ _ _ gC (k*2) (k*2+1) rfl ((hD 5 (by simp)).2 rfl)) (hK N _ _ (fun _=>rfl) (fun _ _ _ _=>rfl) hH)
  ·obtain rfl:=Option.some.inj ((show opAas[7]? = some opAa7 from rfl).symm.trans ho)
   have hs0:d 10=false:=(hcl.not opAa_dep (i:=10) (j:=7) (by simp) hdi)
   obtain ⟨w1,hP,h1,h2⟩:=hH
   obtain rfl:=h1 hs0
   have hW:=hP.mem
   exact wp_value (run_A1 a w _ _ _ _ _ _ gC (k*2+1) _ ((hD 6 (by simp)).2 rfl) (hW.cell_some cy (by simp))) (hK N _ _ (fun _=>rfl) (fun _ _ _ _=>rfl) ⟨_,hP,h1,h2⟩)
  ·obtain rfl:=Option.some.inj ((show opAas[8]? = some opAa8 from rfl).symm.trans ho)
   exact wp_value (run_A6 a w _ _ _ _ _ _ _ _ _ _ hz hb ((hD 1 (by simp)).2 rfl) ((hD 7 (by simp)).2 rfl)) (hK N _ _ (fun _=>rfl) (fun _ _ _ _=>rfl) hH)
  ·obtain rfl:=Option.some.inj ((show opAas[9]? = some opAa9 from rfl).symm.trans ho)
   exact wp_value (run_A0 a w _ _ _ _ _ _ g8 (0) (3) rfl e8') (hK N _ _ (fun _=>rfl) (fun _ _ _ _=>rfl) hH)
  ·obtain rfl:=Option.some.inj ((show opAas[10]? = some opAa10 from rfl).symm.trans ho)
   obtain ⟨w1,hP,h1,h2⟩:=hH
   obtain rfl:=h1 hdi
   have hW:=hP.mem
   exact wp_skipped (run_A7 a w _ _ _ _ _ g8 (3) _ _ ((hD 9 (by simp)).2 rfl) ((hD 8 (by simp)).2 rfl) (hW.cell_some c3 (by simp)) ((hW.frozen (p:=⟨g8,3,none⟩) (lt_of_cell c3) (by simp)).trans fz)) (hK N undef _ (fun h=>absurd h (by decide)) (fun _ _ _ _=>rfl) ⟨w,hP,fun h=>absurd h (by rw [came_self];simp),fun _=>rfl⟩)
 ·intro N d w hd hH
  obtain ⟨w1,hP,h1,h2⟩:=hH
  rw [h2 (hd 10 (by omega))]
  exact hQ  w1 hP
theorem run_A8 (a:Act) (w:World) (d t:Nat) (u:TypeId) (ps:String) (ed:Array Edge) (gd:Option (Nat × Bool)) (b o o':Nat) (ho:o+1=o') (h1:a.eval (.tmp t)=.pointer (some ⟨b,o,none⟩)) :
  (execOp a.eval { dst:=some d,op:=Op.fieldAddr 55 (.tmp t) 1,type:=u,pos:=ps,after:=ed,guard:=gd }).run Tryz.prog w=.ok (.value (.pointer (some ⟨b,o',none⟩))) w:=by
 subst ho
 unfold execOp
 simp only [h1]
 go_simp
theorem run_A9 (a:Act) (w:World) (d t:Nat) (u:TypeId) (ps:String) (ed:Array Edge) (gd:Option (Nat × Bool)) (b o:Nat) (v:Value) (h1:a.eval (.tmp t)=.pointer (some ⟨b,o,none⟩)) (hc:w.cell? ⟨b,o,none⟩=some v) :
  (execOp a.eval { dst:=some d,op:=Op.load 53 (.tmp t),type:=u,pos:=ps,after:=ed,guard:=gd }).run Tryz.prog w=.ok (.value v) w:=by
 unfold execOp
 simp only [h1]
 go_simp
theorem run_A10 (a:Act) (w:World) (d t1 t2:Nat) (u:TypeId) (ps:String) (ed:Array Edge) (gd:Option (Nat × Bool)) (b off n c k o':Nat) (ho:off+k=o') (hk:k<n) (_hn:n<1000000) (h1:a.eval (.tmp t1)=.slice (some ⟨b,off,none⟩) n c) (h2:a.eval (.tmp t2)=.int .i64 (k:Int)) :
  (execOp a.eval { dst:=some d,op:=Op.indexAddr 53 (.tmp t1) (.tmp t2),type:=u,pos:=ps,after:=ed,guard:=gd }).run Tryz.prog w=.ok (.value (.pointer (some ⟨b,o',none⟩))) w:=by
 subst ho
 unfold execOp
 simp only [h1,h2]
 go_simp
theorem run_A11 (a:Act) (w:World) (d t1 t2:Nat) (u:TypeId) (ps:String) (ed:Array Edge) (gd:Option (Nat × Bool)) (x y z:Int) (hz:x-y=z) (hb:-9223372036854775808≤z∧z<9223372036854775808) (h1:a.eval (.tmp t1)=.int .i64 x) (h2:a.eval (.tmp t2)=.int .i64 y) :
  (execOp a.eval { dst:=some d,op:=Op.binOp BinOp.sub 3 (.tmp t1) (.tmp t2) 3,type:=u,pos:=ps,after:=ed,guard:=gd }).run Tryz.prog w=.ok (.value (.int .i64 z)) w:=by
 unfold execOp
 simp only [h1,h2]
 go_simp
 rw [IntKind.wrap_i64]
 omega
def opAb0:Oper:={ dst:=some 96,op:=Op.fieldAddr 55 (Operand.tmp 8) 3,type:=0,pos := "apply.go:49",after:=#[],guard:=none }
def opAb1:Oper:={ dst:=some 97,op:=Op.load 3 (Operand.tmp 96),type := 3,pos := "apply.go:49",after:=#[⟨0,.data⟩],guard:=none }
def opAb2:Oper:={ dst:=some 98,op:=Op.fieldAddr 55 (Operand.tmp 8) 1,type:=0,pos := "apply.go:49",after:=#[],guard:=none }
def opAb3:Oper:={ dst:=some 99,op:=Op.load 53 (Operand.tmp 98),type := 53,pos := "apply.go:49",after:=#[⟨2,.data⟩],guard:=none }
def opAb4:Oper:={ dst:=some 100,op:=Op.move (Operand.tmp 12),type := 3,pos := "apply.go:49",after:=#[],guard:=none }
def opAb5:Oper:={ dst:=some 101,op:=Op.indexAddr 53 (Operand.tmp 99) (Operand.tmp 100),type:=0,pos := "apply.go:49",after:=#[⟨3,.data⟩,⟨4,.data⟩],guard:=none }
def opAb6:Oper:={ dst:=some 102,op:=Op.load 3 (Operand.tmp 101),type := 3,pos := "apply.go:49",after:=#[⟨5,.data⟩],guard:=none }
def opAb7:Oper:={ dst:=some 103,op:=Op.binOp BinOp.sub 3 (Operand.tmp 97) (Operand.tmp 102) 3,type := 3,pos := "apply.go:49",after:=#[⟨1,.data⟩,⟨6,.data⟩],guard:=none }
def opAb8:Oper:={ dst:=some 104,op:=Op.fieldAddr 55 (Operand.tmp 8) 3,type:=0,pos := "apply.go:49",after:=#[⟨0,.phase⟩,⟨1,.phase⟩,⟨2,.phase⟩,⟨3,.phase⟩,⟨4,.phase⟩,⟨5,.phase⟩,⟨6,.phase⟩,⟨7,.phase⟩],guard:=none }
def opAb9:Oper:={ dst:=none,op:=Op.store 3 (Operand.tmp 104) (Operand.tmp 103),type:=0,pos := "apply.go:49",after:=#[⟨8,.data⟩,⟨7,.data⟩,⟨0,.phase⟩,⟨1,.phase⟩,⟨2,.phase⟩,⟨3,.phase⟩,⟨4,.phase⟩,⟨5,.phase⟩,⟨6,.phase⟩,⟨7,.phase⟩],guard:=none }
def opAbs:Array Oper:=#[opAb0,opAb1,opAb2,opAb3,opAb4,opAb5,opAb6,opAb7,opAb8,opAb9]
structure opAbH (W0:World) (g8:Nat) (gS:Nat) (n:Nat) (k:Nat) (nt:Int) (y:Int) (z:Int)   (w:World):Prop where
 mem:But [] W0 w
def opAbT (i:Nat):Nat:=match i with
 | 0=>96
 | 1=>97
 | 2=>98
 | 3=>99
 | 4=>100
 | 5=>101
 | 6=>102
 | 7=>103
 | 8=>104
 | _=>96
def opAbW (i:Nat):Bool:=match i with
 | 9=>false
 | _=>true
def opAbV (g8:Nat) (gS:Nat) (n:Nat) (k:Nat) (nt:Int) (y:Int) (z:Int)  (i:Nat):Value:=match i with
 | 0=>.pointer (some ⟨g8,3,none⟩)
 | 1=>.int .i64 nt
 | 2=>.pointer (some ⟨g8,1,none⟩)
 | 3=>.slice (some ⟨gS,0,none⟩) n n
 | 4=>.int .i64 (k:Int)
 | 5=>.pointer (some ⟨gS,k,none⟩)
 | 6=>.int .i64 y
 | 7=>.int .i64 z
 | 8=>.pointer (some ⟨g8,3,none⟩)
 | _=>undef
theorem opAb_dep:depOps opAbs [(1,0),(3,2),(5,3),(5,4),(6,5),(7,1),(7,6),(8,0),(8,1),(8,2),(8,3),(8,4),(8,5),(8,6),(8,7),(9,0),(9,1),(9,2),(9,3),(9,4),(9,5),(9,6),(9,7),(9,8)]=true:=by kernel_rfl
theorem opAbT_inj:∀ i j,i<10→j<10→opAbW i=true→opAbW j=true→opAbT i=opAbT j→i=j:=fun i j hi hj=>(by decide:∀ i,i<10→∀ j,j<10→opAbW i=true→opAbW j=true→opAbT i=opAbT j→i=j) i hi j hj
theorem apply_region23 (id:Nat) (Q:Exit→Act→World→Prop) (base:Act) (W0:World) (g8:Nat) (gS:Nat) (n:Nat) (k:Nat) (nt:Int) (y:Int) (z:Int) (hs:104<base.tmps.size) (e8:base.eval (.tmp 8)=.pointer (some ⟨g8,0,none⟩)) (e12:base.eval (.tmp 12)=.int .i64 (k:Int))
  (hk:k<n) (hn:n<1000000) (hz:nt-y=z) (hb:-9223372036854775808≤z∧z<9223372036854775808) (c3:W0.cell? ⟨g8,3,none⟩=some (.int .i64 nt)) (c1:W0.cell? ⟨g8,1,none⟩=some (.slice (some ⟨gS,0,none⟩) n n)) (cy:W0.cell? ⟨gS,k,none⟩=some (.int .i64 y)) (fz:W0.frozen? ⟨g8,3,none⟩=false)
  (hQ:∀  w1,opAbH W0 g8 gS n k nt y z  w1→Q .normal (putted base [(96,.pointer (some ⟨g8,3,none⟩)),(97,.int .i64 nt),(98,.pointer (some ⟨g8,1,none⟩)),(99,.slice (some ⟨gS,0,none⟩) n n),(100,.int .i64 (k:Int)),(101,.pointer (some ⟨gS,k,none⟩)),(102,.int .i64 y),(103,.int .i64 z),(104,.pointer (some ⟨g8,3,none⟩))]) (w1.setCell ⟨g8,3,none⟩ (.int .i64 z))) :
  (Code.region id opAbs true).wp Tryz.prog Q base W0:=by
 have hT:∀ i,i<10→opAbW i=true→opAbT i<base.tmps.size:=fun i hi _=>by
  have h:opAbT i≤104:=by revert i;decide
  omega
 refine region_all (by kernel_rfl) (low_of (by kernel_rfl)) (bare_of (by kernel_rfl)) (fun (N:Unit) d w=>∃ w1,opAbH W0 g8 gS n k nt y z  w1∧(d 9=false→w=w1)∧(d 9=true→w=(w1.setCell ⟨g8,3,none⟩ (.int .i64 z)))) (fun N=>opAbV g8 gS n k nt y z ) opAbT opAbW 10 (by kernel_rfl) opAbT_inj hT () ⟨_,{ mem:=(But.refl _ _).drew },fun _=>rfl,fun h=>by simp at h⟩ ?_ ?_
 ·intro N d i o a w K hi ho hdi hcl hH he hdep hK
  have hD:=dep_is opAb_dep ho (fun j=>d j=true∧(opAbW j=true→a.eval (.tmp (opAbT j))=opAbV g8 gS n k nt y z  j)) hdep
  have e8':=(he 8 (fun j hj _ _=>(by decide:∀ j,j<10→(8:Nat)≠opAbT j) j hj)).trans e8
  have e12':=(he 12 (fun j hj _ _=>(by decide:∀ j,j<10→(12:Nat)≠opAbT j) j hj)).trans e12
  have:i=0∨i=1∨i=2∨i=3∨i=4∨i=5∨i=6∨i=7∨i=8∨i=9:=by omega
  rcases this with rfl | rfl | rfl | rfl | rfl | rfl | rfl | rfl | rfl | rfl
  ·obtain rfl:=Option.some.inj ((show opAbs[0]? = some opAb0 from rfl).symm.trans ho)
   exact wp_value (run_A0 a w _ _ _ _ _ _ g8 (0) (3) rfl e8') (hK N _ _ (fun _=>rfl) (fun _ _ _ _=>rfl) hH)
  ·obtain rfl:=Option.some.inj ((show opAbs[1]? = some opAb1 from rfl).symm.trans ho)
   have hs0:d 9=false:=(hcl.not opAb_dep (i:=9) (j:=1) (by simp) hdi)
   obtain ⟨w1,hP,h1,h2⟩:=hH
   obtain rfl:=h1 hs0
   have hW:=hP.mem
   exact wp_value (run_A1 a w _ _ _ _ _ _ g8 (3) _ ((hD 0 (by simp)).2 rfl) (hW.cell_some c3 (by simp))) (hK N _ _ (fun _=>rfl) (fun _ _ _ _=>rfl) ⟨_,hP,h1,h2⟩)
  ·obtain rfl:=Option.some.inj ((show opAbs[2]? = some opAb2 from rfl).symm.trans ho)
   exact wp_value (run_A8 a w _ _ _ _ _ _ g8 (0) (1) rfl e8') (hK N _ _ (fun _=>rfl) (fun _ _ _ _=>rfl) hH)
  ·obtain rfl:=Option.some.inj ((show opAbs[3]? = some opAb3 from rfl).symm.trans ho)
   have hs0:d 9=false:=(hcl.not opAb_dep (i:=9) (j:=3) (by simp) hdi)
   obtain ⟨w1,hP,h1,h2⟩:=hH
   obtain rfl:=h1 hs0
   have hW:=hP.mem
   exact wp_value (run_A9 a w _ _ _ _ _ _ g8 (1) _ ((hD 2 (by simp)).2 rfl) (hW.cell_some c1 (by simp))) (hK N _ _ (fun _=>rfl) (fun _ _ _ _=>rfl) ⟨_,hP,h1,h2⟩)
  ·obtain rfl:=Option.some.inj ((show opAbs[4]? = some opAb4 from rfl).symm.trans ho)
   exact wp_value (run_mvK a w _ _ _ _ _ _ _ e12') (hK N _ _ (fun _=>rfl) (fun _ _ _ _=>rfl) hH)
  ·obtain rfl:=Option.some.inj ((show opAbs[5]? = some opAb5 from rfl).symm.trans ho)
   exact wp_value (run_A10 a w _ _ _ _ _ _ _ gS (0) (n) (n) (k) (k) (by omega) hk hn ((hD 3 (by simp)).2 rfl) ((hD 4 (by simp)).2 rfl)) (hK N _ _ (fun _=>rfl) (fun _ _ _ _=>rfl) hH)
  ·obtain rfl:=Option.some.inj ((show opAbs[6]? = some opAb6 from rfl).symm.trans ho)
   have hs0:d 9=false:=(hcl.not opAb_dep (i:=9) (j:=6) (by simp) hdi)
   obtain ⟨w1,hP,h1,h2⟩:=hH
   obtain rfl:=h1 hs0
   have hW:=hP.mem
   exact wp_value (run_A1 a w _ _ _ _ _ _ gS (k) _ ((hD 5 (by simp)).2 rfl) (hW.cell_some cy (by simp))) (hK N _ _ (fun _=>rfl) (fun _ _ _ _=>rfl) ⟨_,hP,h1,h2⟩)
  ·obtain rfl:=Option.some.inj ((show opAbs[7]? = some opAb7 from rfl).symm.trans ho)
   exact wp_value (run_A11 a w _ _ _ _ _ _ _ _ _ _ hz hb ((hD 1 (by simp)).2 rfl) ((hD 6 (by simp)).2 rfl)) (hK N _ _ (fun _=>rfl) (fun _ _ _ _=>rfl) hH)
  ·obtain rfl:=Option.some.inj ((show opAbs[8]? = some opAb8 from rfl).symm.trans ho)
   exact wp_value (run_A0 a w _ _ _ _ _ _ g8 (0) (3) rfl e8') (hK N _ _ (fun _=>rfl) (fun _ _ _ _=>rfl) hH)
  ·obtain rfl:=Option.some.inj ((show opAbs[9]? = some opAb9 from rfl).symm.trans ho)
   obtain ⟨w1,hP,h1,h2⟩:=hH
   obtain rfl:=h1 hdi
   have hW:=hP.mem
   exact wp_skipped (run_A7 a w _ _ _ _ _ g8 (3) _ _ ((hD 8 (by simp)).2 rfl) ((hD 7 (by simp)).2 rfl) (hW.cell_some c3 (by simp)) ((hW.frozen (p:=⟨g8,3,none⟩) (lt_of_cell c3) (by simp)).trans fz)) (hK N undef _ (fun h=>absurd h (by decide)) (fun _ _ _ _=>rfl) ⟨w,hP,fun h=>absurd h (by rw [came_self];simp),fun _=>rfl⟩)
 ·intro N d w hd hH
  obtain ⟨w1,hP,h1,h2⟩:=hH
  rw [h2 (hd 9 (by omega))]
  exact hQ  w1 hP
theorem run_A12 (a:Act) (w:World) (d t0 t1:Nat) (u:TypeId) (ps:String) (ed:Array Edge) (gd:Option (Nat × Bool)) (z0 z1:Value) (h0:a.eval (.tmp t0)=z0) (h1:a.eval (.tmp t1)=z1) :
  (execOp a.eval { dst:=some d,op:=Op.call { callee:=Callee.value (Operand.func 72),args:=#[Operand.tmp t0,Operand.tmp t1],argTypes:=#[71,3] },type:=u,pos:=ps,after:=ed,guard:=gd }).run Tryz.prog w=.ok (.enter 72 #[z0,z1]) w:=by
 unfold execOp
 go_simp
 rw [← h0,← h1]
 simp [Act.eval]
def opAc0:Oper:={ dst:=some 88,op:=Op.fieldAddr 55 (Operand.tmp 8) 1,type:=0,pos := "apply.go:48",after:=#[],guard:=none }
def opAc1:Oper:={ dst:=some 89,op:=Op.load 53 (Operand.tmp 88),type := 53,pos := "apply.go:48",after:=#[⟨0,.data⟩],guard:=none }
def opAc2:Oper:={ dst:=some 90,op:=Op.move (Operand.tmp 12),type := 3,pos := "apply.go:48",after:=#[],guard:=none }
def opAc3:Oper:={ dst:=some 91,op:=Op.load 71 (Operand.tmp 13),type := 71,pos := "apply.go:48",after:=#[],guard:=none }
def opAc4:Oper:={ dst:=some 92,op:=Op.fieldAddr 55 (Operand.tmp 8) 3,type:=0,pos := "apply.go:48",after:=#[],guard:=none }
def opAc5:Oper:={ dst:=some 93,op:=Op.load 3 (Operand.tmp 92),type := 3,pos := "apply.go:48",after:=#[⟨4,.data⟩],guard:=none }
def opAc6:Oper:={ dst:=some 94,op:=Op.call { callee:=Callee.value (Operand.func 72),args:=#[Operand.tmp 91,Operand.tmp 93],argTypes:=#[71,3] },type := 3,pos := "apply.go:48",after:=#[⟨3,.data⟩,⟨5,.data⟩],guard:=none }
def opAc7:Oper:={ dst:=some 95,op:=Op.indexAddr 53 (Operand.tmp 89) (Operand.tmp 90),type:=0,pos := "apply.go:48",after:=#[⟨1,.data⟩,⟨2,.data⟩,⟨0,.phase⟩,⟨1,.phase⟩,⟨2,.phase⟩,⟨3,.phase⟩,⟨4,.phase⟩,⟨5,.phase⟩,⟨6,.phase⟩],guard:=none }
def opAc8:Oper:={ dst:=none,op:=Op.store 3 (Operand.tmp 95) (Operand.tmp 94),type:=0,pos := "apply.go:48",after:=#[⟨7,.data⟩,⟨6,.data⟩,⟨6,.chain⟩,⟨0,.phase⟩,⟨1,.phase⟩,⟨2,.phase⟩,⟨3,.phase⟩,⟨4,.phase⟩,⟨5,.phase⟩,⟨6,.phase⟩],guard:=none }
def opAcs:Array Oper:=#[opAc0,opAc1,opAc2,opAc3,opAc4,opAc5,opAc6,opAc7,opAc8]
structure opAcH (W0:World) (g8:Nat) (g13:Nat) (gS:Nat) (n:Nat) (k:Nat) (kd:Int) (s1:Bool) (x1:Int) (y1:Int) (p1:Option Addr) (fq:Int) (li:Int) (ti:Int) (pq:Int) (tof:ByteArray) (nt:Int) (z:Int) (u0:Value)   (w:World):Prop where
 mem:But [] W0 w
theorem opAcH.but {W0:World} {g8:Nat} {g13:Nat} {gS:Nat} {n:Nat} {k:Nat} {kd:Int} {s1:Bool} {x1:Int} {y1:Int} {p1:Option Addr} {fq:Int} {li:Int} {ti:Int} {pq:Int} {tof:ByteArray} {nt:Int} {z:Int} {u0:Value}  {w w':World} (h:opAcH W0 g8 g13 gS n k kd s1 x1 y1 p1 fq li ti pq tof nt z u0  w) (hb:But [] w w'):opAcH W0 g8 g13 gS n k kd s1 x1 y1 p1 fq li ti pq tof nt z u0  w' :=
 { mem:=h.mem.trans' hb }
def opAcT (i:Nat):Nat:=match i with
 | 0=>88
 | 1=>89
 | 2=>90
 | 3=>91
 | 4=>92
 | 5=>93
 | 6=>94
 | 7=>95
 | _=>88
def opAcW (i:Nat):Bool:=match i with
 | 8=>false
 | _=>true
def opAcV (g8:Nat) (_g13:Nat) (gS:Nat) (n:Nat) (k:Nat) (kd:Int) (s1:Bool) (x1:Int) (y1:Int) (p1:Option Addr) (fq:Int) (li:Int) (ti:Int) (pq:Int) (tof:ByteArray) (nt:Int) (z:Int) (_u0:Value)  (i:Nat):Value:=match i with
 | 0=>.pointer (some ⟨g8,1,none⟩)
 | 1=>.slice (some ⟨gS,0,none⟩) n n
 | 2=>.int .i64 (k:Int)
 | 3=>.agg #[.int .i64 kd,.bool s1,.int .u64 x1,.int .u64 y1,.pointer p1,.int .i64 fq,.int .i64 li,.int .i64 ti,.int .i64 pq,.string tof]
 | 4=>.pointer (some ⟨g8,3,none⟩)
 | 5=>.int .i64 nt
 | 6=>.int .i64 z
 | 7=>.pointer (some ⟨gS,k,none⟩)
 | _=>undef
theorem opAc_dep:depOps opAcs [(1,0),(5,4),(6,3),(6,5),(7,0),(7,1),(7,2),(7,3),(7,4),(7,5),(7,6),(8,0),(8,1),(8,2),(8,3),(8,4),(8,5),(8,6),(8,7)]=true:=by kernel_rfl
theorem opAcT_inj:∀ i j,i<9→j<9→opAcW i=true→opAcW j=true→opAcT i=opAcT j→i=j:=fun i j hi hj=>(by decide:∀ i,i<9→∀ j,j<9→opAcW i=true→opAcW j=true→opAcT i=opAcT j→i=j) i hi j hj
theorem apply_region22 (id:Nat) (Q:Exit→Act→World→Prop) (base:Act) (W0:World) (g8:Nat) (g13:Nat) (gS:Nat) (n:Nat) (k:Nat) (kd:Int) (s1:Bool) (x1:Int) (y1:Int) (p1:Option Addr) (fq:Int) (li:Int) (ti:Int) (pq:Int) (tof:ByteArray) (nt:Int) (z:Int) (u0:Value) (hs:95<base.tmps.size) (e8:base.eval (.tmp 8)=.pointer (some ⟨g8,0,none⟩)) (e12:base.eval (.tmp 12)=.int .i64 (k:Int)) (e13:base.eval (.tmp 13)=.pointer (some ⟨g13,0,none⟩))
  (hk:k<n) (hn:n<1000000) (c3:W0.cell? ⟨g8,3,none⟩=some (.int .i64 nt)) (c1:W0.cell? ⟨g8,1,none⟩=some (.slice (some ⟨gS,0,none⟩) n n)) (x13:LBox W0 g13 kd s1 x1 y1 p1 fq li ti pq tof) (cz:W0.cell? ⟨gS,k,none⟩=some u0) (fz:W0.frozen? ⟨gS,k,none⟩=false)
  (AB:∀ w,But [] W0 w→Calls Tryz.prog 72 #[.agg #[.int .i64 kd,.bool s1,.int .u64 x1,.int .u64 y1,.pointer p1,.int .i64 fq,.int .i64 li,.int .i64 ti,.int .i64 pq,.string tof],.int .i64 nt] w fun e w'=>e=.returned (.int .i64 z)∧But [] w w')
  (hQ:∀  w1,opAcH W0 g8 g13 gS n k kd s1 x1 y1 p1 fq li ti pq tof nt z u0  w1→Q .normal (putted base [(88,.pointer (some ⟨g8,1,none⟩)),(89,.slice (some ⟨gS,0,none⟩) n n),(90,.int .i64 (k:Int)),(91,.agg #[.int .i64 kd,.bool s1,.int .u64 x1,.int .u64 y1,.pointer p1,.int .i64 fq,.int .i64 li,.int .i64 ti,.int .i64 pq,.string tof]),(92,.pointer (some ⟨g8,3,none⟩)),(93,.int .i64 nt),(94,.int .i64 z),(95,.pointer (some ⟨gS,k,none⟩))]) (w1.setCell ⟨gS,k,none⟩ (.int .i64 z))) :
  (Code.region id opAcs true).wp Tryz.prog Q base W0:=by
 have hT:∀ i,i<9→opAcW i=true→opAcT i<base.tmps.size:=fun i hi _=>by
  have h:opAcT i≤95:=by revert i;decide
  omega
 refine region_all (by kernel_rfl) (low_of (by kernel_rfl)) (bare_of (by kernel_rfl)) (fun (N:Unit) d w=>∃ w1,opAcH W0 g8 g13 gS n k kd s1 x1 y1 p1 fq li ti pq tof nt z u0  w1∧(d 8=false→w=w1)∧(d 8=true→w=(w1.setCell ⟨gS,k,none⟩ (.int .i64 z)))) (fun N=>opAcV g8 g13 gS n k kd s1 x1 y1 p1 fq li ti pq tof nt z u0 ) opAcT opAcW 9 (by kernel_rfl) opAcT_inj hT () ⟨_,{ mem:=(But.refl _ _).drew },fun _=>rfl,fun h=>by simp at h⟩ ?_ ?_
 ·intro N d i o a w K hi ho hdi hcl hH he hdep hK
  have hD:=dep_is opAc_dep ho (fun j=>d j=true∧(opAcW j=true→a.eval (.tmp (opAcT j))=opAcV g8 g13 gS n k kd s1 x1 y1 p1 fq li ti pq tof nt z u0  j)) hdep
  have e8':=(he 8 (fun j hj _ _=>(by decide:∀ j,j<9→(8:Nat)≠opAcT j) j hj)).trans e8
  have e12':=(he 12 (fun j hj _ _=>(by decide:∀ j,j<9→(12:Nat)≠opAcT j) j hj)).trans e12
  have e13':=(he 13 (fun j hj _ _=>(by decide:∀ j,j<9→(13:Nat)≠opAcT j) j hj)).trans e13
  have:i=0∨i=1∨i=2∨i=3∨i=4∨i=5∨i=6∨i=7∨i=8:=by omega
  rcases this with rfl | rfl | rfl | rfl | rfl | rfl | rfl | rfl | rfl
  ·obtain rfl:=Option.some.inj ((show opAcs[0]? = some opAc0 from rfl).symm.trans ho)
   exact wp_value (run_A8 a w _ _ _ _ _ _ g8 (0) (1) rfl e8') (hK N _ _ (fun _=>rfl) (fun _ _ _ _=>rfl) hH)
  ·obtain rfl:=Option.some.inj ((show opAcs[1]? = some opAc1 from rfl).symm.trans ho)
   have hs0:d 8=false:=(hcl.not opAc_dep (i:=8) (j:=1) (by simp) hdi)
   obtain ⟨w1,hP,h1,h2⟩:=hH
   obtain rfl:=h1 hs0
   have hW:=hP.mem
   exact wp_value (run_A9 a w _ _ _ _ _ _ g8 (1) _ ((hD 0 (by simp)).2 rfl) (hW.cell_some c1 (by simp))) (hK N _ _ (fun _=>rfl) (fun _ _ _ _=>rfl) ⟨_,hP,h1,h2⟩)
  ·obtain rfl:=Option.some.inj ((show opAcs[2]? = some opAc2 from rfl).symm.trans ho)
   exact wp_value (run_mvK a w _ _ _ _ _ _ _ e12') (hK N _ _ (fun _=>rfl) (fun _ _ _ _=>rfl) hH)
  ·obtain rfl:=Option.some.inj ((show opAcs[3]? = some opAc3 from rfl).symm.trans ho)
   have hs0:d 8=false:=(hcl.not opAc_dep (i:=8) (j:=3) (by simp) hdi)
   obtain ⟨w1,hP,h1,h2⟩:=hH
   obtain rfl:=h1 hs0
   have hW:=hP.mem
   exact wp_value (run_ldLineX a w _ _ _ _ _ _ g13 _ _ _ _ _ _ _ _ _ _ e13' (x13.but hW (by simp))) (hK N _ _ (fun _=>rfl) (fun _ _ _ _=>rfl) ⟨_,hP,h1,h2⟩)
  ·obtain rfl:=Option.some.inj ((show opAcs[4]? = some opAc4 from rfl).symm.trans ho)
   exact wp_value (run_A0 a w _ _ _ _ _ _ g8 (0) (3) rfl e8') (hK N _ _ (fun _=>rfl) (fun _ _ _ _=>rfl) hH)
  ·obtain rfl:=Option.some.inj ((show opAcs[5]? = some opAc5 from rfl).symm.trans ho)
   have hs0:d 8=false:=(hcl.not opAc_dep (i:=8) (j:=5) (by simp) hdi)
   obtain ⟨w1,hP,h1,h2⟩:=hH
   obtain rfl:=h1 hs0
   have hW:=hP.mem
   exact wp_value (run_A1 a w _ _ _ _ _ _ g8 (3) _ ((hD 4 (by simp)).2 rfl) (hW.cell_some c3 (by simp))) (hK N _ _ (fun _=>rfl) (fun _ _ _ _=>rfl) ⟨_,hP,h1,h2⟩)
  ·obtain rfl:=Option.some.inj ((show opAcs[6]? = some opAc6 from rfl).symm.trans ho)
   have hs0:d 8=false:=(hcl.not opAc_dep (i:=8) (j:=6) (by simp) hdi)
   obtain ⟨w1,hP,h1,h2⟩:=hH
   obtain rfl:=h1 hs0
   have hW:=hP.mem
   exact wp_enter (run_A12 a w _ _ _ _ _ _ _ _ _ ((hD 3 (by simp)).2 rfl) ((hD 5 (by simp)).2 rfl)) (R:=fun w' v=>v=opAcV g8 g13 gS n k kd s1 x1 y1 p1 fq li ti pq tof nt z u0  6∧But [] w w') ((AB w hW).mono fun e w' ⟨he,hb⟩=>⟨_,he,rfl,hb⟩) (fun v w' hv=>hK N _ _ (fun _=>hv.1) (fun _ _ _ _=>rfl) ⟨_,(hP.but hv.2),fun _=>rfl,fun h=>absurd (hs0.symm.trans h) (by simp)⟩)
  ·obtain rfl:=Option.some.inj ((show opAcs[7]? = some opAc7 from rfl).symm.trans ho)
   exact wp_value (run_A10 a w _ _ _ _ _ _ _ gS (0) (n) (n) (k) (k) (by omega) hk hn ((hD 1 (by simp)).2 rfl) ((hD 2 (by simp)).2 rfl)) (hK N _ _ (fun _=>rfl) (fun _ _ _ _=>rfl) hH)
  ·obtain rfl:=Option.some.inj ((show opAcs[8]? = some opAc8 from rfl).symm.trans ho)
   obtain ⟨w1,hP,h1,h2⟩:=hH
   obtain rfl:=h1 hdi
   have hW:=hP.mem
   exact wp_skipped (run_A7 a w _ _ _ _ _ gS (k) _ _ ((hD 7 (by simp)).2 rfl) ((hD 6 (by simp)).2 rfl) (hW.cell_some cz (by simp)) ((hW.frozen (p:=⟨gS,k,none⟩) (lt_of_cell cz) (by simp)).trans fz)) (hK N undef _ (fun h=>absurd h (by decide)) (fun _ _ _ _=>rfl) ⟨w,hP,fun h=>absurd h (by rw [came_self];simp),fun _=>rfl⟩)
 ·intro N d w hd hH
  obtain ⟨w1,hP,h1,h2⟩:=hH
  rw [h2 (hd 8 (by omega))]
  exact hQ  w1 hP
theorem run_A13 (a:Act) (w:World) (d t:Nat) (u:TypeId) (ps:String) (ed:Array Edge) (gd:Option (Nat × Bool)) (b o o':Nat) (ho:o+2=o') (h1:a.eval (.tmp t)=.pointer (some ⟨b,o,none⟩)) :
  (execOp a.eval { dst:=some d,op:=Op.fieldAddr 55 (.tmp t) 2,type:=u,pos:=ps,after:=ed,guard:=gd }).run Tryz.prog w=.ok (.value (.pointer (some ⟨b,o',none⟩))) w:=by
 subst ho
 unfold execOp
 simp only [h1]
 go_simp
theorem run_A14 (a:Act) (w:World) (d t0 t1:Nat) (u:TypeId) (ps:String) (ed:Array Edge) (gd:Option (Nat × Bool)) (z0 z1:Value) (h0:a.eval (.tmp t0)=z0) (h1:a.eval (.tmp t1)=z1) :
  (execOp a.eval { dst:=some d,op:=Op.call { callee:=Callee.value (Operand.func 71),args:=#[Operand.tmp t0,Operand.tmp t1],argTypes:=#[71,3] },type:=u,pos:=ps,after:=ed,guard:=gd }).run Tryz.prog w=.ok (.enter 71 #[z0,z1]) w:=by
 unfold execOp
 go_simp
 rw [← h0,← h1]
 simp [Act.eval]
def opAd0:Oper:={ dst:=some 76,op:=Op.fieldAddr 55 (Operand.tmp 8) 2,type:=0,pos := "apply.go:46",after:=#[],guard:=none }
def opAd1:Oper:={ dst:=some 77,op:=Op.load 53 (Operand.tmp 76),type := 53,pos := "apply.go:46",after:=#[⟨0,.data⟩],guard:=none }
def opAd2:Oper:={ dst:=some 78,op:=Op.move (Operand.tmp 12),type := 3,pos := "apply.go:46",after:=#[],guard:=none }
def opAd3:Oper:={ dst:=some 79,op:=Op.load 71 (Operand.tmp 13),type := 71,pos := "apply.go:46",after:=#[],guard:=none }
def opAd4:Oper:={ dst:=some 80,op:=Op.move (Operand.tmp 9),type := 53,pos := "apply.go:46",after:=#[],guard:=none }
def opAd5:Oper:={ dst:=some 81,op:=Op.move (Operand.tmp 12),type := 3,pos := "apply.go:46",after:=#[],guard:=none }
def opAd6:Oper:={ dst:=some 82,op:=Op.indexAddr 53 (Operand.tmp 80) (Operand.tmp 81),type:=0,pos := "apply.go:46",after:=#[⟨4,.data⟩,⟨5,.data⟩],guard:=none }
def opAd7:Oper:={ dst:=some 83,op:=Op.load 3 (Operand.tmp 82),type := 3,pos := "apply.go:46",after:=#[⟨6,.data⟩],guard:=none }
def opAd8:Oper:={ dst:=some 84,op:=Op.call { callee:=Callee.value (Operand.func 71),args:=#[Operand.tmp 79,Operand.tmp 83],argTypes:=#[71,3] },type := 3,pos := "apply.go:46",after:=#[⟨3,.data⟩,⟨7,.data⟩],guard:=none }
def opAd9:Oper:={ dst:=some 85,op:=Op.indexAddr 53 (Operand.tmp 77) (Operand.tmp 78),type:=0,pos := "apply.go:46",after:=#[⟨1,.data⟩,⟨2,.data⟩,⟨0,.phase⟩,⟨1,.phase⟩,⟨2,.phase⟩,⟨3,.phase⟩,⟨4,.phase⟩,⟨5,.phase⟩,⟨6,.phase⟩,⟨7,.phase⟩,⟨8,.phase⟩],guard:=none }
def opAd10:Oper:={ dst:=none,op:=Op.store 3 (Operand.tmp 85) (Operand.tmp 84),type:=0,pos := "apply.go:46",after:=#[⟨9,.data⟩,⟨8,.data⟩,⟨8,.chain⟩,⟨0,.phase⟩,⟨1,.phase⟩,⟨2,.phase⟩,⟨3,.phase⟩,⟨4,.phase⟩,⟨5,.phase⟩,⟨6,.phase⟩,⟨7,.phase⟩,⟨8,.phase⟩],guard:=none }
def opAds:Array Oper:=#[opAd0,opAd1,opAd2,opAd3,opAd4,opAd5,opAd6,opAd7,opAd8,opAd9,opAd10]
structure opAdH (W0:World) (g8:Nat) (g13:Nat) (gP:Nat) (gb:Nat) (n:Nat) (k:Nat) (kd:Int) (s1:Bool) (x1:Int) (y1:Int) (p1:Option Addr) (fq:Int) (li:Int) (ti:Int) (pq:Int) (tof:ByteArray) (bo:Int) (z:Int) (u0:Value)   (w:World):Prop where
 mem:But [] W0 w
theorem opAdH.but {W0:World} {g8:Nat} {g13:Nat} {gP:Nat} {gb:Nat} {n:Nat} {k:Nat} {kd:Int} {s1:Bool} {x1:Int} {y1:Int} {p1:Option Addr} {fq:Int} {li:Int} {ti:Int} {pq:Int} {tof:ByteArray} {bo:Int} {z:Int} {u0:Value}  {w w':World} (h:opAdH W0 g8 g13 gP gb n k kd s1 x1 y1 p1 fq li ti pq tof bo z u0  w) (hb:But [] w w'):opAdH W0 g8 g13 gP gb n k kd s1 x1 y1 p1 fq li ti pq tof bo z u0  w' :=
 { mem:=h.mem.trans' hb }
def opAdT (i:Nat):Nat:=match i with
 | 0=>76
 | 1=>77
 | 2=>78
 | 3=>79
 | 4=>80
 | 5=>81
 | 6=>82
 | 7=>83
 | 8=>84
 | 9=>85
 | _=>76
def opAdW (i:Nat):Bool:=match i with
 | 10=>false
 | _=>true
def opAdV (g8:Nat) (_g13:Nat) (gP:Nat) (gb:Nat) (n:Nat) (k:Nat) (kd:Int) (s1:Bool) (x1:Int) (y1:Int) (p1:Option Addr) (fq:Int) (li:Int) (ti:Int) (pq:Int) (tof:ByteArray) (bo:Int) (z:Int) (_u0:Value)  (i:Nat):Value:=match i with
 | 0=>.pointer (some ⟨g8,2,none⟩)
 | 1=>.slice (some ⟨gP,0,none⟩) n n
 | 2=>.int .i64 (k:Int)
 | 3=>.agg #[.int .i64 kd,.bool s1,.int .u64 x1,.int .u64 y1,.pointer p1,.int .i64 fq,.int .i64 li,.int .i64 ti,.int .i64 pq,.string tof]
 | 4=>.slice (some ⟨gb,0,none⟩) n n
 | 5=>.int .i64 (k:Int)
 | 6=>.pointer (some ⟨gb,k,none⟩)
 | 7=>.int .i64 bo
 | 8=>.int .i64 z
 | 9=>.pointer (some ⟨gP,k,none⟩)
 | _=>undef
theorem opAd_dep:depOps opAds [(1,0),(6,4),(6,5),(7,6),(8,3),(8,7),(9,0),(9,1),(9,2),(9,3),(9,4),(9,5),(9,6),(9,7),(9,8),(10,0),(10,1),(10,2),(10,3),(10,4),(10,5),(10,6),(10,7),(10,8),(10,9)]=true:=by kernel_rfl
theorem opAdT_inj:∀ i j,i<11→j<11→opAdW i=true→opAdW j=true→opAdT i=opAdT j→i=j:=fun i j hi hj=>(by decide:∀ i,i<11→∀ j,j<11→opAdW i=true→opAdW j=true→opAdT i=opAdT j→i=j) i hi j hj
theorem apply_region20 (id:Nat) (Q:Exit→Act→World→Prop) (base:Act) (W0:World) (g8:Nat) (g13:Nat) (gP:Nat) (gb:Nat) (n:Nat) (k:Nat) (kd:Int) (s1:Bool) (x1:Int) (y1:Int) (p1:Option Addr) (fq:Int) (li:Int) (ti:Int) (pq:Int) (tof:ByteArray) (bo:Int) (z:Int) (u0:Value) (hs:85<base.tmps.size) (e8:base.eval (.tmp 8)=.pointer (some ⟨g8,0,none⟩)) (e12:base.eval (.tmp 12)=.int .i64 (k:Int)) (e13:base.eval (.tmp 13)=.pointer (some ⟨g13,0,none⟩)) (e9:base.eval (.tmp 9)=.slice (some ⟨gb,0,none⟩) n n)
  (hk:k<n) (hn:n<1000000) (c2:W0.cell? ⟨g8,2,none⟩=some (.slice (some ⟨gP,0,none⟩) n n)) (cb:W0.cell? ⟨gb,k,none⟩=some (.int .i64 bo)) (x13:LBox W0 g13 kd s1 x1 y1 p1 fq li ti pq tof) (cz:W0.cell? ⟨gP,k,none⟩=some u0) (fz:W0.frozen? ⟨gP,k,none⟩=false)
  (PR:∀ w,But [] W0 w→Calls Tryz.prog 71 #[.agg #[.int .i64 kd,.bool s1,.int .u64 x1,.int .u64 y1,.pointer p1,.int .i64 fq,.int .i64 li,.int .i64 ti,.int .i64 pq,.string tof],.int .i64 bo] w fun e w'=>e=.returned (.int .i64 z)∧But [] w w')
  (hQ:∀  w1,opAdH W0 g8 g13 gP gb n k kd s1 x1 y1 p1 fq li ti pq tof bo z u0  w1→Q .normal (putted base [(76,.pointer (some ⟨g8,2,none⟩)),(77,.slice (some ⟨gP,0,none⟩) n n),(78,.int .i64 (k:Int)),(79,.agg #[.int .i64 kd,.bool s1,.int .u64 x1,.int .u64 y1,.pointer p1,.int .i64 fq,.int .i64 li,.int .i64 ti,.int .i64 pq,.string tof]),(80,.slice (some ⟨gb,0,none⟩) n n),(81,.int .i64 (k:Int)),(82,.pointer (some ⟨gb,k,none⟩)),(83,.int .i64 bo),(84,.int .i64 z),(85,.pointer (some ⟨gP,k,none⟩))]) (w1.setCell ⟨gP,k,none⟩ (.int .i64 z))) :
  (Code.region id opAds true).wp Tryz.prog Q base W0:=by
 have hT:∀ i,i<11→opAdW i=true→opAdT i<base.tmps.size:=fun i hi _=>by
  have h:opAdT i≤85:=by revert i;decide
  omega
 refine region_all (by kernel_rfl) (low_of (by kernel_rfl)) (bare_of (by kernel_rfl)) (fun (N:Unit) d w=>∃ w1,opAdH W0 g8 g13 gP gb n k kd s1 x1 y1 p1 fq li ti pq tof bo z u0  w1∧(d 10=false→w=w1)∧(d 10=true→w=(w1.setCell ⟨gP,k,none⟩ (.int .i64 z)))) (fun N=>opAdV g8 g13 gP gb n k kd s1 x1 y1 p1 fq li ti pq tof bo z u0 ) opAdT opAdW 11 (by kernel_rfl) opAdT_inj hT () ⟨_,{ mem:=(But.refl _ _).drew },fun _=>rfl,fun h=>by simp at h⟩ ?_ ?_
 ·intro N d i o a w K hi ho hdi hcl hH he hdep hK
  have hD:=dep_is opAd_dep ho (fun j=>d j=true∧(opAdW j=true→a.eval (.tmp (opAdT j))=opAdV g8 g13 gP gb n k kd s1 x1 y1 p1 fq li ti pq tof bo z u0  j)) hdep
  have e8':=(he 8 (fun j hj _ _=>(by decide:∀ j,j<11→(8:Nat)≠opAdT j) j hj)).trans e8
  have e12':=(he 12 (fun j hj _ _=>(by decide:∀ j,j<11→(12:Nat)≠opAdT j) j hj)).trans e12
  have e13':=(he 13 (fun j hj _ _=>(by decide:∀ j,j<11→(13:Nat)≠opAdT j) j hj)).trans e13
  have e9':=(he 9 (fun j hj _ _=>(by decide:∀ j,j<11→(9:Nat)≠opAdT j) j hj)).trans e9
  have:i=0∨i=1∨i=2∨i=3∨i=4∨i=5∨i=6∨i=7∨i=8∨i=9∨i=10:=by omega
  rcases this with rfl | rfl | rfl | rfl | rfl | rfl | rfl | rfl | rfl | rfl | rfl
  ·obtain rfl:=Option.some.inj ((show opAds[0]? = some opAd0 from rfl).symm.trans ho)
   exact wp_value (run_A13 a w _ _ _ _ _ _ g8 (0) (2) rfl e8') (hK N _ _ (fun _=>rfl) (fun _ _ _ _=>rfl) hH)
  ·obtain rfl:=Option.some.inj ((show opAds[1]? = some opAd1 from rfl).symm.trans ho)
   have hs0:d 10=false:=(hcl.not opAd_dep (i:=10) (j:=1) (by simp) hdi)
   obtain ⟨w1,hP,h1,h2⟩:=hH
   obtain rfl:=h1 hs0
   have hW:=hP.mem
   exact wp_value (run_A9 a w _ _ _ _ _ _ g8 (2) _ ((hD 0 (by simp)).2 rfl) (hW.cell_some c2 (by simp))) (hK N _ _ (fun _=>rfl) (fun _ _ _ _=>rfl) ⟨_,hP,h1,h2⟩)
  ·obtain rfl:=Option.some.inj ((show opAds[2]? = some opAd2 from rfl).symm.trans ho)
   exact wp_value (run_mvK a w _ _ _ _ _ _ _ e12') (hK N _ _ (fun _=>rfl) (fun _ _ _ _=>rfl) hH)
  ·obtain rfl:=Option.some.inj ((show opAds[3]? = some opAd3 from rfl).symm.trans ho)
   have hs0:d 10=false:=(hcl.not opAd_dep (i:=10) (j:=3) (by simp) hdi)
   obtain ⟨w1,hP,h1,h2⟩:=hH
   obtain rfl:=h1 hs0
   have hW:=hP.mem
   exact wp_value (run_ldLineX a w _ _ _ _ _ _ g13 _ _ _ _ _ _ _ _ _ _ e13' (x13.but hW (by simp))) (hK N _ _ (fun _=>rfl) (fun _ _ _ _=>rfl) ⟨_,hP,h1,h2⟩)
  ·obtain rfl:=Option.some.inj ((show opAds[4]? = some opAd4 from rfl).symm.trans ho)
   exact wp_value (run_mvK a w _ _ _ _ _ _ _ e9') (hK N _ _ (fun _=>rfl) (fun _ _ _ _=>rfl) hH)
  ·obtain rfl:=Option.some.inj ((show opAds[5]? = some opAd5 from rfl).symm.trans ho)
   exact wp_value (run_mvK a w _ _ _ _ _ _ _ e12') (hK N _ _ (fun _=>rfl) (fun _ _ _ _=>rfl) hH)
  ·obtain rfl:=Option.some.inj ((show opAds[6]? = some opAd6 from rfl).symm.trans ho)
   exact wp_value (run_A10 a w _ _ _ _ _ _ _ gb (0) (n) (n) (k) (k) (by omega) hk hn ((hD 4 (by simp)).2 rfl) ((hD 5 (by simp)).2 rfl)) (hK N _ _ (fun _=>rfl) (fun _ _ _ _=>rfl) hH)
  ·obtain rfl:=Option.some.inj ((show opAds[7]? = some opAd7 from rfl).symm.trans ho)
   have hs0:d 10=false:=(hcl.not opAd_dep (i:=10) (j:=7) (by simp) hdi)
   obtain ⟨w1,hP,h1,h2⟩:=hH
   obtain rfl:=h1 hs0
   have hW:=hP.mem
   exact wp_value (run_A1 a w _ _ _ _ _ _ gb (k) _ ((hD 6 (by simp)).2 rfl) (hW.cell_some cb (by simp))) (hK N _ _ (fun _=>rfl) (fun _ _ _ _=>rfl) ⟨_,hP,h1,h2⟩)
  ·obtain rfl:=Option.some.inj ((show opAds[8]? = some opAd8 from rfl).symm.trans ho)
   have hs0:d 10=false:=(hcl.not opAd_dep (i:=10) (j:=8) (by simp) hdi)
   obtain ⟨w1,hP,h1,h2⟩:=hH
   obtain rfl:=h1 hs0
   have hW:=hP.mem
   exact wp_enter (run_A14 a w _ _ _ _ _ _ _ _ _ ((hD 3 (by simp)).2 rfl) ((hD 7 (by simp)).2 rfl)) (R:=fun w' v=>v=opAdV g8 g13 gP gb n k kd s1 x1 y1 p1 fq li ti pq tof bo z u0  8∧But [] w w') ((PR w hW).mono fun e w' ⟨he,hb⟩=>⟨_,he,rfl,hb⟩) (fun v w' hv=>hK N _ _ (fun _=>hv.1) (fun _ _ _ _=>rfl) ⟨_,(hP.but hv.2),fun _=>rfl,fun h=>absurd (hs0.symm.trans h) (by simp)⟩)
  ·obtain rfl:=Option.some.inj ((show opAds[9]? = some opAd9 from rfl).symm.trans ho)
   exact wp_value (run_A10 a w _ _ _ _ _ _ _ gP (0) (n) (n) (k) (k) (by omega) hk hn ((hD 1 (by simp)).2 rfl) ((hD 2 (by simp)).2 rfl)) (hK N _ _ (fun _=>rfl) (fun _ _ _ _=>rfl) hH)
  ·obtain rfl:=Option.some.inj ((show opAds[10]? = some opAd10 from rfl).symm.trans ho)
   obtain ⟨w1,hP,h1,h2⟩:=hH
   obtain rfl:=h1 hdi
   have hW:=hP.mem
   exact wp_skipped (run_A7 a w _ _ _ _ _ gP (k) _ _ ((hD 9 (by simp)).2 rfl) ((hD 8 (by simp)).2 rfl) (hW.cell_some cz (by simp)) ((hW.frozen (p:=⟨gP,k,none⟩) (lt_of_cell cz) (by simp)).trans fz)) (hK N undef _ (fun h=>absurd h (by decide)) (fun _ _ _ _=>rfl) ⟨w,hP,fun h=>absurd h (by rw [came_self];simp),fun _=>rfl⟩)
 ·intro N d w hd hH
  obtain ⟨w1,hP,h1,h2⟩:=hH
  rw [h2 (hd 10 (by omega))]
  exact hQ  w1 hP
end Go.Proofs.YtjbboicccddhbaaGreatDoor
