/- Differences of ratios, as the Go text of -/
import Derived.Test.YtollloafckcogaaGreatDoorKFF8
import Derived.Test.YtollloafckcogaaGreatDoorKFHD
import Derived.Test.YtollloafckcogaaGreatDoorKFHP
namespace Go.Proofs.YtollloafckcogaaGreatDoor
open Go.RowKit
set_option maxHeartbeats 8000000
set_option maxRecDepth 100000
def subO0:Oper:={ dst:=some 8,op:=Op.alloc 90,type := 86,pos := "rat.go:124",after:=#[],guard:=none }
def subO1:Oper:={ dst:=some 9,op:=Op.alloc 90,type := 86,pos := "rat.go:124",after:=#[],guard:=none }
def subO2:Oper:={ dst:=some 10,op:=Op.move (Operand.tmp 1),type := 37,pos := "rat.go:124",after:=#[],guard:=none }
def subO3:Oper:={ dst:=some 11,op:=Op.nilCheck (Operand.tmp 10),type:=0,pos := "rat.go:124",after:=#[⟨2,.data⟩],guard:=none }
def subO4:Oper:={ dst:=some 12,op:=Op.fieldAddr 92 (Operand.tmp 11) 0,type:=0,pos := "rat.go:124",after:=#[⟨3,.data⟩],guard:=none }
def subO5:Oper:={ dst:=some 13,op:=Op.move (Operand.tmp 2),type := 37,pos := "rat.go:124",after:=#[],guard:=none }
def subO6:Oper:={ dst:=some 14,op:=Op.call { callee:=Callee.value (Operand.func 100),args:=#[Operand.tmp 13],argTypes:=#[37] },type := 86,pos := "rat.go:124",after:=#[⟨5,.data⟩],guard:=none }
def subO7:Oper:={ dst:=some 15,op:=Op.call { callee:=Callee.value (Operand.func 102),args:=#[Operand.tmp 9,Operand.tmp 12,Operand.tmp 14],argTypes:=#[86,86,86] },type := 86,pos := "rat.go:124",after:=#[⟨1,.data⟩,⟨4,.data⟩,⟨6,.data⟩,⟨6,.chain⟩],guard:=none }
def subO8:Oper:={ dst:=some 16,op:=Op.alloc 90,type := 86,pos := "rat.go:124",after:=#[],guard:=none }
def subO9:Oper:={ dst:=some 17,op:=Op.move (Operand.tmp 2),type := 37,pos := "rat.go:124",after:=#[],guard:=none }
def subO10:Oper:={ dst:=some 18,op:=Op.nilCheck (Operand.tmp 17),type:=0,pos := "rat.go:124",after:=#[⟨9,.data⟩],guard:=none }
def subO11:Oper:={ dst:=some 19,op:=Op.fieldAddr 92 (Operand.tmp 18) 0,type:=0,pos := "rat.go:124",after:=#[⟨10,.data⟩],guard:=none }
def subO12:Oper:={ dst:=some 20,op:=Op.move (Operand.tmp 1),type := 37,pos := "rat.go:124",after:=#[],guard:=none }
def subO13:Oper:={ dst:=some 21,op:=Op.call { callee:=Callee.value (Operand.func 100),args:=#[Operand.tmp 20],argTypes:=#[37] },type := 86,pos := "rat.go:124",after:=#[⟨12,.data⟩,⟨7,.chain⟩],guard:=none }
def subO14:Oper:={ dst:=some 22,op:=Op.call { callee:=Callee.value (Operand.func 102),args:=#[Operand.tmp 16,Operand.tmp 19,Operand.tmp 21],argTypes:=#[86,86,86] },type := 86,pos := "rat.go:124",after:=#[⟨8,.data⟩,⟨11,.data⟩,⟨13,.data⟩,⟨13,.chain⟩],guard:=none }
def subO15:Oper:={ dst:=some 23,op:=Op.call { callee:=Callee.value (Operand.func 132),args:=#[Operand.tmp 8,Operand.tmp 15,Operand.tmp 22],argTypes:=#[86,86,86] },type := 86,pos := "rat.go:124",after:=#[⟨0,.data⟩,⟨7,.data⟩,⟨14,.data⟩,⟨14,.chain⟩],guard:=none }
def subO16:Oper:={ dst:=some 7,op:=Op.assign (Operand.tmp 23),type := 86,pos := "rat.go:124",after:=#[⟨15,.data⟩,⟨15,.chain⟩,⟨0,.phase⟩,⟨1,.phase⟩,⟨2,.phase⟩,⟨3,.phase⟩,⟨4,.phase⟩,⟨5,.phase⟩,⟨6,.phase⟩,⟨7,.phase⟩,⟨8,.phase⟩,⟨9,.phase⟩,⟨10,.phase⟩,⟨11,.phase⟩,⟨12,.phase⟩,⟨13,.phase⟩,⟨14,.phase⟩,⟨15,.phase⟩],guard:=none }
def subOs:Array Oper:=#[subO0,subO1,subO2,subO3,subO4,subO5,subO6,subO7,subO8,subO9,subO10,subO11,subO12,subO13,subO14,subO15,subO16]
def subOT (i:Nat):Nat:=match i with
 | 0=>8
 | 1=>9
 | 2=>10
 | 3=>11
 | 4=>12
 | 5=>13
 | 6=>14
 | 7=>15
 | 8=>16
 | 9=>17
 | 10=>18
 | 11=>19
 | 12=>20
 | 13=>21
 | 14=>22
 | 15=>23
 | _=>7
def subOV (xb yb:Nat) (N:Nat × Nat × Nat) (i:Nat):Value:=match i with
 | 0=>.pointer (some ⟨N.1,0,none⟩)
 | 1=>.pointer (some ⟨N.2.1,0,none⟩)
 | 2=>.pointer (some ⟨xb,0,none⟩)
 | 3=>.pointer (some ⟨xb,0,none⟩)
 | 4=>.pointer (some ⟨xb,0,none⟩)
 | 5=>.pointer (some ⟨yb,0,none⟩)
 | 6=>.pointer (some ⟨yb,2,none⟩)
 | 7=>.pointer (some ⟨N.2.1,0,none⟩)
 | 8=>.pointer (some ⟨N.2.2,0,none⟩)
 | 9=>.pointer (some ⟨yb,0,none⟩)
 | 10=>.pointer (some ⟨yb,0,none⟩)
 | 11=>.pointer (some ⟨yb,0,none⟩)
 | 12=>.pointer (some ⟨xb,0,none⟩)
 | 13=>.pointer (some ⟨xb,2,none⟩)
 | 14=>.pointer (some ⟨N.2.2,0,none⟩)
 | 15=>.pointer (some ⟨N.1,0,none⟩)
 | _=>.pointer (some ⟨N.1,0,none⟩)
theorem subOT_inj:∀ i j,i<17→j<17→subOT i=subOT j→i=j:=fun i j hi hj=>(by decide:∀ i,i<17→∀ j,j<17→subOT i=subOT j→i=j) i hi j hj
theorem sub_region (id:Nat) (Q:Exit→Act→World→Prop) (base:Act) (W0:World) (xb yb:Nat) (x y P Z R:Int) (nx ny:Nat) (hs:23<base.tmps.size) (e1:base.eval (.tmp 1)=.pointer (some ⟨xb,0,none⟩)) (e2:base.eval (.tmp 2)=.pointer (some ⟨yb,0,none⟩))
  (hx:RatAt W0 xb x (nx:Int)) (hy:RatAt W0 yb y (ny:Int)) (hnx:0<nx) (hny:0<ny) (hxl:(wd 4294967296 x.natAbs).length<8388608) (hyl:(wd 4294967296 y.natAbs).length<8388608) (hnxl:(wd 4294967296 nx).length<8388608) (hnyl:(wd 4294967296 ny).length<8388608) (hP:x*(ny:Int)=P) (hZ:y*(nx:Int)=Z) (hR:R=P-Z) (hPl:(wd 4294967296 P.natAbs).length<8388608) (hZl:(wd 4294967296 Z.natAbs).length<8388608) (hRl:(wd 4294967296 R.natAbs).length<8388608)
  (hQ:∀ w b0 b1 b8,But [] W0 w→W0.heap.size≤b0→IntAt w b0 0 R→Q .normal (putted base [(8,.pointer (some ⟨b0,0,none⟩)),(9,.pointer (some ⟨b1,0,none⟩)),(10,.pointer (some ⟨xb,0,none⟩)),(11,.pointer (some ⟨xb,0,none⟩)),(12,.pointer (some ⟨xb,0,none⟩)),(13,.pointer (some ⟨yb,0,none⟩)),(14,.pointer (some ⟨yb,2,none⟩)),(15,.pointer (some ⟨b1,0,none⟩)),(16,.pointer (some ⟨b8,0,none⟩)),(17,.pointer (some ⟨yb,0,none⟩)),(18,.pointer (some ⟨yb,0,none⟩)),(19,.pointer (some ⟨yb,0,none⟩)),(20,.pointer (some ⟨xb,0,none⟩)),(21,.pointer (some ⟨xb,2,none⟩)),(22,.pointer (some ⟨b8,0,none⟩)),(23,.pointer (some ⟨b0,0,none⟩)),(7,.pointer (some ⟨b0,0,none⟩))]) w) :
  (Code.region id subOs true).wp Tryz.prog Q base W0:=by
 have hdr:∀ {w},But [] W0.drew w→But [] W0 w:=fun h=>(But.refl _ _).drew.trans' h
 have hT:∀ i,i<17→subOT i<base.tmps.size:=fun i hi=>by
  have h:subOT i≤23:=by revert i;decide
  omega
 have lx:=hx.lt
 have ly:=hy.lt
 refine region_names (by kernel_rfl) (low_of (by kernel_rfl)) (bare_of (by kernel_rfl)) (α:=Nat × Nat × Nat) (fun N d w=>SumH W0.drew P Z R N.1 N.2.1 N.2.2 (d 0) (d 1) (d 8) (d 7) (d 14) (d 15) (d 16) w) (subOV xb yb) subOT 17 (by kernel_rfl) subOT_inj hT (0,0,0) ?_ ?_ ?_
 ·exact ⟨But.refl _ _,by simp,by simp,by simp,by simp,by simp,by simp,by simp,by simp,by simp,by simp⟩
 ·rintro ⟨b0,b1,b8⟩ d i o a w K hi ho hdi hCl hH he hdep hk
  have hH':SumH W0.drew P Z R b0 b1 b8 (d 0) (d 1) (d 8) (d 7) (d 14) (d 15) (d 16) w:=hH
  have hD:=dep_is (ps:=[(3,2),(4,3),(6,5),(7,1),(7,4),(7,6),(10,9),(11,10),(13,7),(13,12),(14,8),(14,11),(14,13),(15,0),(15,7),(15,14),(16,0),(16,1),(16,2),(16,3),(16,4),(16,5),(16,6),(16,7),(16,8),(16,9),(16,10),(16,11),(16,12),(16,13),(16,14),(16,15)]) (by kernel_rfl) ho (fun j=>d j=true∧a.eval (.tmp (subOT j))=subOV xb yb (b0,b1,b8) j) hdep
  have e1':=(he 1 (fun j hj e=>absurd e.symm (by revert j;decide))).trans e1
  have e2':=(he 2 (fun j hj e=>absurd e.symm (by revert j;decide))).trans e2
  have hB:=hdr hH'.but
  have hlw:=hB.size
  have:i=0∨i=1∨i=2∨i=3∨i=4∨i=5∨i=6∨i=7∨i=8∨i=9∨i=10∨i=11∨i=12∨i=13∨i=14∨i=15∨i=16:=by omega
  rcases this with rfl | rfl | rfl | rfl | rfl | rfl | rfl | rfl | rfl | rfl | rfl | rfl | rfl | rfl | rfl | rfl | rfl
  ·obtain rfl:=Option.some.inj ((show subOs[0]? = some subO0 from rfl).symm.trans ho)
   rw [hdi] at hH'
   refine does_value (run_allocI a w _ _ _ _) (hk (w.heap.size,b1,b8) _ _ rfl (fun j hj hdj=>?_) (hH'.alloc0 _))
   have:j=0∨j=1∨j=2∨j=3∨j=4∨j=5∨j=6∨j=7∨j=8∨j=9∨j=10∨j=11∨j=12∨j=13∨j=14∨j=15∨j=16:=by omega
   rcases this with rfl | rfl | rfl | rfl | rfl | rfl | rfl | rfl | rfl | rfl | rfl | rfl | rfl | rfl | rfl | rfl | rfl
   all_goals first
    | rfl
    | (rw [hdi] at hdj;simp at hdj)
    | (exfalso;first | (have:=(hH'.hr hdj).1;simp at this) | (have:=(hH'.hr (hH'.hz hdj)).1;simp at this))
  ·obtain rfl:=Option.some.inj ((show subOs[1]? = some subO1 from rfl).symm.trans ho)
   rw [hdi] at hH'
   refine does_value (run_allocI a w _ _ _ _) (hk (b0,w.heap.size,b8) _ _ rfl (fun j hj hdj=>?_) (hH'.alloc1 _))
   have:j=0∨j=1∨j=2∨j=3∨j=4∨j=5∨j=6∨j=7∨j=8∨j=9∨j=10∨j=11∨j=12∨j=13∨j=14∨j=15∨j=16:=by omega
   rcases this with rfl | rfl | rfl | rfl | rfl | rfl | rfl | rfl | rfl | rfl | rfl | rfl | rfl | rfl | rfl | rfl | rfl
   all_goals first
    | rfl
    | (rw [hdi] at hdj;simp at hdj)
    | (exfalso;have:=(hH'.hp hdj).1;simp at this)
  ·obtain rfl:=Option.some.inj ((show subOs[2]? = some subO2 from rfl).symm.trans ho)
   exact does_value (run_moveP a w _ _ _ _ _ _ e1') (hk (b0,b1,b8) _ _ rfl (fun _ _ _=>rfl) hH)
  ·obtain rfl:=Option.some.inj ((show subOs[3]? = some subO3 from rfl).symm.trans ho)
   exact does_value (run_nilP a w _ _ _ _ _ _ 0 (hD 2 (by simp)).2) (hk (b0,b1,b8) _ _ rfl (fun _ _ _=>rfl) hH)
  ·obtain rfl:=Option.some.inj ((show subOs[4]? = some subO4 from rfl).symm.trans ho)
   exact does_value (run_fieldR a w _ _ _ _ _ _ (hD 3 (by simp)).2 (by omega)) (hk (b0,b1,b8) _ _ rfl (fun _ _ _=>rfl) hH)
  ·obtain rfl:=Option.some.inj ((show subOs[5]? = some subO5 from rfl).symm.trans ho)
   exact does_value (run_moveP a w _ _ _ _ _ _ e2') (hk (b0,b1,b8) _ _ rfl (fun _ _ _=>rfl) hH)
  ·obtain rfl:=Option.some.inj ((show subOs[6]? = some subO6 from rfl).symm.trans ho)
   refine does_enter (run_callDen a w _ _ _ _ _ _ (hD 5 (by simp)).2) (R:=fun w' v=>v=.pointer (some ⟨yb,2,none⟩)∧w'=w) ((den_any yb y ny w (hy.but hB) hny).mono (fun e w' h=>⟨_,h.1,rfl,h.2⟩)) ?_
   rintro v w' ⟨rfl,rfl⟩
   exact hk (b0,b1,b8) _ _ rfl (fun _ _ _=>rfl) hH
  ·obtain rfl:=Option.some.inj ((show subOs[7]? = some subO7 from rfl).symm.trans ho)
   have hs1:=hH'.s1 (hD 1 (by simp)).1
   rw [hdi] at hs1
   refine does_enter (run_callMulI a w _ _ _ _ _ _ _ _ _ _ (hD 1 (by simp)).2 (hD 4 (by simp)).2 (hD 6 (by simp)).2) (R:=fun w' v=>v=.pointer (some ⟨b1,0,none⟩)∧But [] W0.drew w'∧IntAt w' b1 0 P∧(∀ B,B≠b1→Slot w B 0→Slot w' B 0)∧(∀ b o z',b≠b1→IntAt w b o z'→IntAt w' b o z')∧w.heap.size≤w'.heap.size) ((intMul_newU b1 xb 0 yb 2 x (ny:Int) P hP W0.drew w (hs1.2.2 rfl) hH'.but hs1.1 hx.drew.up hy.drew.low hxl (by rw [Int.natAbs_natCast];exact hnyl) hPl).mono (fun e w' h=>⟨_,h.1,rfl,h.2⟩)) ?_
   rintro v w' ⟨rfl,k1,k2,k3,k4,k5⟩
   rw [hdi,(hD 1 (by simp)).1] at hH'
   refine hk (b0,b1,b8) _ _ rfl (fun _ _ _=>rfl) ?_
   show SumH W0.drew P Z R b0 b1 b8 (d 0) (d 1) (d 8) true (d 14) (d 15) (d 16) w'
   rw [(hD 1 (by simp)).1]
   exact hH'.mulP k1 k2 k3 k4 k5
  ·obtain rfl:=Option.some.inj ((show subOs[8]? = some subO8 from rfl).symm.trans ho)
   rw [hdi] at hH'
   refine does_value (run_allocI a w _ _ _ _) (hk (b0,b1,w.heap.size) _ _ rfl (fun j hj hdj=>?_) (hH'.alloc8 _))
   have:j=0∨j=1∨j=2∨j=3∨j=4∨j=5∨j=6∨j=7∨j=8∨j=9∨j=10∨j=11∨j=12∨j=13∨j=14∨j=15∨j=16:=by omega
   rcases this with rfl | rfl | rfl | rfl | rfl | rfl | rfl | rfl | rfl | rfl | rfl | rfl | rfl | rfl | rfl | rfl | rfl
   all_goals first
    | rfl
    | (rw [hdi] at hdj;simp at hdj)
    | (exfalso;have:=(hH'.hq hdj).1;simp at this)
  ·obtain rfl:=Option.some.inj ((show subOs[9]? = some subO9 from rfl).symm.trans ho)
   exact does_value (run_moveP a w _ _ _ _ _ _ e2') (hk (b0,b1,b8) _ _ rfl (fun _ _ _=>rfl) hH)
  ·obtain rfl:=Option.some.inj ((show subOs[10]? = some subO10 from rfl).symm.trans ho)
   exact does_value (run_nilP a w _ _ _ _ _ _ 0 (hD 9 (by simp)).2) (hk (b0,b1,b8) _ _ rfl (fun _ _ _=>rfl) hH)
  ·obtain rfl:=Option.some.inj ((show subOs[11]? = some subO11 from rfl).symm.trans ho)
   exact does_value (run_fieldR a w _ _ _ _ _ _ (hD 10 (by simp)).2 (by omega)) (hk (b0,b1,b8) _ _ rfl (fun _ _ _=>rfl) hH)
  ·obtain rfl:=Option.some.inj ((show subOs[12]? = some subO12 from rfl).symm.trans ho)
   exact does_value (run_moveP a w _ _ _ _ _ _ e1') (hk (b0,b1,b8) _ _ rfl (fun _ _ _=>rfl) hH)
  ·obtain rfl:=Option.some.inj ((show subOs[13]? = some subO13 from rfl).symm.trans ho)
   refine does_enter (run_callDen a w _ _ _ _ _ _ (hD 12 (by simp)).2) (R:=fun w' v=>v=.pointer (some ⟨xb,2,none⟩)∧w'=w) ((den_any xb x nx w (hx.but hB) hnx).mono (fun e w' h=>⟨_,h.1,rfl,h.2⟩)) ?_
   rintro v w' ⟨rfl,rfl⟩
   exact hk (b0,b1,b8) _ _ rfl (fun _ _ _=>rfl) hH
  ·obtain rfl:=Option.some.inj ((show subOs[14]? = some subO14 from rfl).symm.trans ho)
   have hs1:=hH'.s8 (hD 8 (by simp)).1
   rw [hdi] at hs1
   refine does_enter (run_callMulI a w _ _ _ _ _ _ _ _ _ _ (hD 8 (by simp)).2 (hD 11 (by simp)).2 (hD 13 (by simp)).2) (R:=fun w' v=>v=.pointer (some ⟨b8,0,none⟩)∧But [] W0.drew w'∧IntAt w' b8 0 Z∧(∀ B,B≠b8→Slot w B 0→Slot w' B 0)∧(∀ b o z',b≠b8→IntAt w b o z'→IntAt w' b o z')∧w.heap.size≤w'.heap.size) ((intMul_newU b8 yb 0 xb 2 y (nx:Int) Z hZ W0.drew w (hs1.2.2 rfl) hH'.but hs1.1 hy.drew.up hx.drew.low hyl (by rw [Int.natAbs_natCast];exact hnxl) hZl).mono (fun e w' h=>⟨_,h.1,rfl,h.2⟩)) ?_
   rintro v w' ⟨rfl,k1,k2,k3,k4,k5⟩
   rw [hdi,(hD 8 (by simp)).1] at hH'
   refine hk (b0,b1,b8) _ _ rfl (fun _ _ _=>rfl) ?_
   show SumH W0.drew P Z R b0 b1 b8 (d 0) (d 1) (d 8) (d 7) true (d 15) (d 16) w'
   rw [(hD 8 (by simp)).1]
   exact hH'.mulQ k1 k2 k3 k4 k5
  ·obtain rfl:=Option.some.inj ((show subOs[15]? = some subO15 from rfl).symm.trans ho)
   have d0:=(hD 0 (by simp)).1
   have hs1:=hH'.s0 d0
   rw [hdi] at hs1
   have hp7:=hH'.hp (hD 7 (by simp)).1
   have hq14:=hH'.hq (hD 14 (by simp)).1
   refine does_enter (run_callSubI a w _ _ _ _ _ _ _ _ _ _ (hD 0 (by simp)).2 (hD 7 (by simp)).2 (hD 14 (by simp)).2) (R:=fun w' v=>v=.pointer (some ⟨b0,0,none⟩)∧But [] W0.drew w'∧IntAt w' b0 0 R∧(∀ B,B≠b0→Slot w B 0→Slot w' B 0)∧(∀ b o z',b≠b0→IntAt w b o z'→IntAt w' b o z')∧w.heap.size≤w'.heap.size) ((intSubU_any b0 0 b1 0 b8 0 P Z R w (hs1.2.2 rfl) (hH'.n01 d0 hp7.1) (hH'.n08 d0 hq14.1) hp7.2 hq14.2 hPl hZl (by omega) hR).mono (fun e w' h=>by
    obtain ⟨h1,w1,v,h2,h3,rfl⟩:=h
    exact ⟨_,h1,rfl,intSum_new (hs1.2.2 rfl) hH'.but hs1.1 h2 h3⟩)) ?_
   rintro v w' ⟨rfl,k1,k2,k3,k4,k5⟩
   rw [hdi,d0] at hH'
   refine hk (b0,b1,b8) _ _ rfl (fun _ _ _=>rfl) ?_
   show SumH W0.drew P Z R b0 b1 b8 (d 0) (d 1) (d 8) (d 7) (d 14) true (d 16) w'
   rw [d0]
   exact hH'.sumR k1 k2 k3 k4 k5
  ·obtain rfl:=Option.some.inj ((show subOs[16]? = some subO16 from rfl).symm.trans ho)
   have d15:=(hD 15 (by simp)).1
   rw [d15] at hH'
   refine does_value (run_assP a w _ _ _ _ _ _ (hD 15 (by simp)).2) (hk (b0,b1,b8) _ _ rfl (fun _ _ _=>rfl) ?_)
   show SumH W0.drew P Z R b0 b1 b8 (d 0) (d 1) (d 8) (d 7) (d 14) (d 15) true w
   rw [d15]
   exact hH'.done
 ·rintro ⟨b0,b1,b8⟩ d w hd hH
  have hH':SumH W0.drew P Z R b0 b1 b8 (d 0) (d 1) (d 8) (d 7) (d 14) (d 15) (d 16) w:=hH
  exact hQ w b0 b1 b8 (hdr hH'.but) (hH'.s0 (hd 0 (by omega))).1 (hH'.hr (hd 15 (by omega))).2
theorem ratSubU_any (zb xb yb:Nat) (x y:Int) (nx ny:Nat) (w:World) (hz0:Slot w zb 0) (hz2:Slot w zb 2) (hx:RatAt w xb x (nx:Int)) (hy:RatAt w yb y (ny:Int)) (hnx:0<nx) (hny:0<ny) (hxl:(wd 4294967296 x.natAbs).length<8388608) (hyl:(wd 4294967296 y.natAbs).length<8388608) (hnxl:(wd 4294967296 nx).length<8388608) (hnyl:(wd 4294967296 ny).length<8388608) (P Z R D:Int) (hP:x*(ny:Int)=P) (hZ:y*(nx:Int)=Z) (hR:R=P-Z) (hD:(nx:Int)*(ny:Int)=D) (hPl:(wd 4294967296 P.natAbs).length<8388608) (hZl:(wd 4294967296 Z.natAbs).length<8388608) (hRl:(wd 4294967296 R.natAbs).length<8388608) (hDl:(wd 4294967296 D.natAbs).length<8388608) (hD0:D≠0) (A B:Int) (eA:Hid (A=redN (if D<0 then -R else R) D.natAbs)) (eB:Hid (B=redD R D.natAbs)) :
  Calls Tryz.prog 99 #[.pointer (some ⟨zb,0,none⟩),.pointer (some ⟨xb,0,none⟩),.pointer (some ⟨yb,0,none⟩)] w fun e w'=>e=.returned (.pointer (some ⟨zb,0,none⟩))∧But [zb] w w'∧RatAt w' zb A B:=by
 have HX:=hide hx
 have HY:=hide hy
 have HZ0:=hide hz0
 have HZ2:=hide hz2
 have REG:=hide (fun (Q:Exit→Act→World→Prop) (base:Act) (hs:23<base.tmps.size) (e1:base.eval (.tmp 1)=.pointer (some ⟨xb,0,none⟩)) (e2:base.eval (.tmp 2)=.pointer (some ⟨yb,0,none⟩))=>sub_region 1 Q base w xb yb x y P Z R nx ny hs e1 e2 hx hy hnx hny hxl hyl hnxl hnyl hP hZ hR hPl hZl hRl)
 have DX:=hide (fun W (h:RatAt W xb x (nx:Int))=>den_any xb x nx W h hnx)
 have DY:=hide (fun W (h:RatAt W yb y (ny:Int))=>den_any yb y ny W h hny)
 have MU:=hide (fun (A:Nat) (w P:World) (hs:Slot P A 0) (hw:But [] w P) (hA:w.heap.size≤A) (hx:RatAt w xb x (nx:Int)) (hy:RatAt w yb y (ny:Int))=>intMul_newU A xb 2 yb 2 (nx:Int) (ny:Int) D hD w P hs hw hA hx.low hy.low (by rw [Int.natAbs_natCast];exact hnxl) (by rw [Int.natAbs_natCast];exact hnyl) hDl)
 have SF:=hide (fun (b0 b1:Nat) (W:World) (h0:Slot W zb 0) (h2:Slot W zb 2) (ha:IntAt W b0 0 R) (hb:IntAt W b1 0 D)=>setFracU_any zb b0 0 b1 0 R D W h0 h2 ha hb hRl hDl hD0 A B eA eB)
 clear hx hy hz0 hz2 hnx hny hxl hyl hnxl hnyl hP hZ hR hD hPl hZl hRl hDl hD0 eA eB
 go_enter Tryz.func99,Tryz.ntmps99
 go_wp2_with fail
 refine unhide REG _ _ (by simp) (by simp [Act.eval]) (by simp [Act.eval]) ?_
 intro w1 b0 b1 b8 hb1 hb0 hI
 simp only [putted,List.foldl_cons,List.foldl_nil,Act.put,List.setIfInBounds_toArray,List.set_cons_zero,List.set_cons_succ]
 obtain ⟨W0,hW0⟩:∃ W0,W0=w1.alloc (.cells #[.bool false,.slice none 0 0] 90):=⟨_,rfl⟩
 have hs:=slot_new w1 90
 rw [← hW0] at hs
 have hbw:But [] w1 W0:=by rw [hW0];exact (But.refl _ _).alloc _
 have hb2:=hb1.trans' hbw
 have K0:=hide (And.intro hs (And.intro hbw (And.intro hb1 (And.intro hb0 hI))))
 have KX:=hide ((unhide HX).but hb2)
 have KY:=hide ((unhide HY).but hb2)
 have HW0:=hide hW0
 clear hW0 hs hbw hb1 hb0 hb2 hI
 obtain ⟨g,hg⟩:∃ g,g=w1.heap.size:=⟨_,rfl⟩
 go_wp2_with fail
 rw [← unhide HW0,← hg]
 rw [← hg] at K0
 have HG:=hide hg
 clear hg
 refine (unhide DX _ (unhide KX)).mono ?_
 rintro e w2 ⟨rfl,hw⟩
 obtain rfl:=hw.symm
 clear hw
 go_wp2_with fail
 refine (unhide DY _ (unhide KY)).mono ?_
 rintro e w2 ⟨rfl,hw⟩
 obtain rfl:=hw.symm
 clear hw
 go_wp2_with fail
 refine (unhide MU g w1 W0 (unhide K0).1 (unhide K0).2.1 (Nat.le_of_eq (unhide HG).symm) ((unhide HX).but (unhide K0).2.2.1) ((unhide HY).but (unhide K0).2.2.1)).mono ?_
 rintro e w2 ⟨rfl,k1,k2,k3,k4,k5⟩
 have S0:=hide (And.intro (unhide HZ0) (unhide HZ2))
 have FIN:Hid (Slot w2 zb 0∧Slot w2 zb 2∧IntAt w2 b0 0 R∧IntAt w2 g 0 D∧But [] w w2):=by
  obtain ⟨hs,hbw,hb1,hb0,hI⟩:=unhide K0
  have hb3:=hb1.trans' k1
  exact ⟨(unhide HZ0).but hb3 (by simp),(unhide HZ2).but hb3 (by simp),hI.but k1,k2,hb3⟩
 clear k1 k2 k3 k4 k5 S0 K0 KX KY HW0 HG MU DX DY REG HX HY HZ0 HZ2
 go_wp2_with fail
 refine (unhide SF b0 g _ (unhide FIN).1 (unhide FIN).2.1 (unhide FIN).2.2.1 (unhide FIN).2.2.2.1).mono ?_
 rintro e w3 ⟨rfl,k1,k2⟩
 have F3:=hide (And.intro ((unhide FIN).2.2.2.2.of_nil.trans k1 (fun x hx=>.inl hx)) k2)
 clear k1 k2 FIN SF
 go_wp2
 go_ret
 exact ⟨rfl,(unhide F3).1,(unhide F3).2⟩
end Go.Proofs.YtollloafckcogaaGreatDoor

namespace Go.Proofs.YtollloafckcogaaGreatDoor
open Go.RowKit
theorem lenU_mono {a b:Nat} (h:a≤b):(wd 4294967296 a).length≤(wd 4294967296 b).length:=wd_length_le (by omega) _ _ (Nat.lt_of_le_of_lt h (lt_of_wd_length (by omega) b _ (Nat.le_refl _)))
theorem lenU_add (a b n:Nat) (ha:(wd 4294967296 a).length≤n) (hb:(wd 4294967296 b).length≤n):(wd 4294967296 (a+b)).length≤n+1:=by
 refine wd_length_le (by omega) _ _ ?_
 have h1:=lt_of_wd_length (B:=4294967296) (by omega) a n ha
 have h2:=lt_of_wd_length (B:=4294967296) (by omega) b n hb
 rw [Nat.pow_succ]
 omega
end Go.Proofs.YtollloafckcogaaGreatDoor

namespace Go.Proofs.YtollloafckcogaaGreatDoor
open Go.RowKit
set_option maxHeartbeats 4000000
set_option maxRecDepth 100000
theorem lenU_int_add (x y:Int) (n:Nat) (hx:(wd 4294967296 x.natAbs).length≤n) (hy:(wd 4294967296 y.natAbs).length≤n):(wd 4294967296 (x+y).natAbs).length≤n+1 :=
 Nat.le_trans (lenU_mono (Int.natAbs_add_le x y)) (lenU_add _ _ n hx hy)
theorem lenU_int_sub (x y:Int) (n:Nat) (hx:(wd 4294967296 x.natAbs).length≤n) (hy:(wd 4294967296 y.natAbs).length≤n):(wd 4294967296 (x-y).natAbs).length≤n+1:=by
 rw [Int.sub_eq_add_neg]
 exact lenU_int_add x (-y) n hx (by rw [Int.natAbs_neg];exact hy)
theorem lenU_of (f:Rat) (p q:Int) (n:Nat) (hq:q≠0) (h:f.num*q=p*(f.den:Int)) (hp:(wd 4294967296 p.natAbs).length≤n) (hl:(wd 4294967296 q.natAbs).length≤n):LenU f n:=by
 obtain ⟨e1,e2⟩:=red_rat p q hq f h
 constructor
 ·have h1:f.num.natAbs=p.natAbs/Nat.gcd p.natAbs q.natAbs:=by
   rw [e1,redN_abs]
   split <;> simp
  rw [h1]
  exact Nat.le_trans (lenU_mono (Nat.div_le_self _ _)) hp
 ·have h2:f.den=q.natAbs/Nat.gcd p.natAbs q.natAbs:=by
   have:=e2
   rw [redD] at this
   omega
  rw [h2]
  exact Nat.le_trans (lenU_mono (Nat.div_le_self _ _)) hl
theorem LenU.mono {f:Rat} {m n:Nat} (h:LenU f m) (hmn:m≤n):LenU f n:=⟨Nat.le_trans h.1 hmn,Nat.le_trans h.2 hmn⟩
theorem cross_addU (f g:Rat):(f+g).num*((f.den:Int)*(g.den:Int))=(f.num*(g.den:Int)+g.num*(f.den:Int))*((f+g).den:Int):=by
 have h:=cross_add f g
 grind
theorem cross_subU (f g:Rat):(f-g).num*((f.den:Int)*(g.den:Int))=(f.num*(g.den:Int)-g.num*(f.den:Int))*((f-g).den:Int):=by
 have h:=cross_add f (-g)
 rw [← Rat.sub_eq_add_neg] at h
 simp only [Rat.neg_num,Rat.neg_den] at h
 grind
theorem lenU_prod (x y:Int) (m n:Nat) (hx:(wd 4294967296 x.natAbs).length≤m) (hy:(wd 4294967296 y.natAbs).length≤n):(wd 4294967296 (x*y).natAbs).length≤m+n:=by
 rw [Int.natAbs_mul]
 have:=lenU_mul x.natAbs y.natAbs
 omega
theorem LenU.add {f g:Rat} {m n:Nat} (hf:LenU f m) (hg:LenU g n):LenU (f+g) (m+n+1):=by
 have hfd:0<f.den:=Nat.pos_of_ne_zero f.den_nz
 have hgd:0<g.den:=Nat.pos_of_ne_zero g.den_nz
 have d1:(wd 4294967296 ((f.den:Nat):Int).natAbs).length≤m:=by rw [Int.natAbs_natCast];exact hf.2
 have d2:(wd 4294967296 ((g.den:Nat):Int).natAbs).length≤n:=by rw [Int.natAbs_natCast];exact hg.2
 refine lenU_of _ _ _ _ (Int.mul_ne_zero (by omega) (by omega)) (cross_addU f g) (lenU_int_add _ _ _ (lenU_prod _ _ _ _ hf.1 d2) ?_) (Nat.le_succ_of_le (lenU_prod _ _ _ _ d1 d2))
 rw [Nat.add_comm m n]
 exact lenU_prod _ _ _ _ hg.1 d1
theorem refAdd_any (xb yb:Nat) (f g:Rat) (w:World) (hx:RatIs w xb f) (hy:RatIs w yb g) (lf:LenU f 2000000) (lg:LenU g 2000000) :
  Calls Tryz.prog 53 #[.pointer (some ⟨xb,0,none⟩),.pointer (some ⟨yb,0,none⟩)] w fun e w'=>∃ zb,e=.returned (.pointer (some ⟨zb,0,none⟩))∧But [] w w'∧RatIs w' zb (f+g)∧w.heap.size≤zb:=by
 have hfd:0<f.den:=Nat.pos_of_ne_zero f.den_nz
 have hgd:0<g.den:=Nat.pos_of_ne_zero g.den_nz
 have hQ0:(f.den:Int)*(g.den:Int)≠0:=Int.mul_ne_zero (by omega) (by omega)
 obtain ⟨e1,e2⟩:=red_rat (f.num*(g.den:Int)+g.num*(f.den:Int)) ((f.den:Int)*(g.den:Int)) hQ0 (f+g) (cross_addU f g)
 obtain ⟨W0,hW0⟩:∃ W0,W0=w.alloc (.cells #[.bool false,.slice none 0 0,.bool false,.slice none 0 0] 92):=⟨_,rfl⟩
 have hs:=ratSlots w 92
 have hbw:But [] w W0:=by rw [hW0];exact (But.refl _ _).alloc _
 rw [← hW0] at hs
 obtain ⟨lf1,lf2⟩:=lf
 obtain ⟨lg1,lg2⟩:=lg
 have d1:(wd 4294967296 ((f.den:Nat):Int).natAbs).length≤2000000:=by rw [Int.natAbs_natCast];exact lf2
 have d2:(wd 4294967296 ((g.den:Nat):Int).natAbs).length≤2000000:=by rw [Int.natAbs_natCast];exact lg2
 have p1:=lenU_prod f.num (g.den:Int) _ _ lf1 d2
 have p2:=lenU_prod g.num (f.den:Int) _ _ lg1 d1
 have p3:=lenU_prod (f.den:Int) (g.den:Int) _ _ d1 d2
 have p4:=lenU_int_add _ _ _ p1 p2
 have MU:=hide (ratAddU_any w.heap.size xb yb f.num g.num f.den g.den W0 hs.1 hs.2 (RatAt.but hx hbw) (RatAt.but hy hbw) hfd hgd (by omega) (by omega) (by omega) (by omega) _ _ _ _ rfl rfl rfl rfl (by omega) (by omega) (by omega) (by omega) hQ0 (f+g).num ((f+g).den:Int) e1 e2)
 have HW0:=hide hW0
 have HBW:=hide hbw
 clear hW0 hbw hs e1 e2 hQ0 p1 p2 p3 p4 d1 d2 lf1 lf2 lg1 lg2 hx hy hfd hgd
 go_enter Tryz.func53,Tryz.ntmps53
 go_wp2_with fail
 rw [← unhide HW0]
 refine (unhide MU).mono ?_
 rintro e w1 ⟨rfl,h1,h2⟩
 have FIN:=hide (And.intro ((unhide HBW).trans h1 (by simp)) h2)
 clear h1 h2 MU
 go_wp2
 go_ret
 exact ⟨w.heap.size,rfl,(unhide FIN).1,(unhide FIN).2,Nat.le_refl _⟩
theorem refSub_any (xb yb:Nat) (f g:Rat) (w:World) (hx:RatIs w xb f) (hy:RatIs w yb g) (lf:LenU f 2000000) (lg:LenU g 2000000) :
  Calls Tryz.prog 46 #[.pointer (some ⟨xb,0,none⟩),.pointer (some ⟨yb,0,none⟩)] w fun e w'=>∃ zb,e=.returned (.pointer (some ⟨zb,0,none⟩))∧But [] w w'∧RatIs w' zb (f-g)∧w.heap.size≤zb:=by
 have hfd:0<f.den:=Nat.pos_of_ne_zero f.den_nz
 have hgd:0<g.den:=Nat.pos_of_ne_zero g.den_nz
 have hQ0:(f.den:Int)*(g.den:Int)≠0:=Int.mul_ne_zero (by omega) (by omega)
 obtain ⟨e1,e2⟩:=red_rat (f.num*(g.den:Int)-g.num*(f.den:Int)) ((f.den:Int)*(g.den:Int)) hQ0 (f-g) (cross_subU f g)
 obtain ⟨W0,hW0⟩:∃ W0,W0=w.alloc (.cells #[.bool false,.slice none 0 0,.bool false,.slice none 0 0] 92):=⟨_,rfl⟩
 have hs:=ratSlots w 92
 have hbw:But [] w W0:=by rw [hW0];exact (But.refl _ _).alloc _
 rw [← hW0] at hs
 obtain ⟨lf1,lf2⟩:=lf
 obtain ⟨lg1,lg2⟩:=lg
 have d1:(wd 4294967296 ((f.den:Nat):Int).natAbs).length≤2000000:=by rw [Int.natAbs_natCast];exact lf2
 have d2:(wd 4294967296 ((g.den:Nat):Int).natAbs).length≤2000000:=by rw [Int.natAbs_natCast];exact lg2
 have p1:=lenU_prod f.num (g.den:Int) _ _ lf1 d2
 have p2:=lenU_prod g.num (f.den:Int) _ _ lg1 d1
 have p3:=lenU_prod (f.den:Int) (g.den:Int) _ _ d1 d2
 have p4:=lenU_int_sub _ _ _ p1 p2
 have MU:=hide (ratSubU_any w.heap.size xb yb f.num g.num f.den g.den W0 hs.1 hs.2 (RatAt.but hx hbw) (RatAt.but hy hbw) hfd hgd (by omega) (by omega) (by omega) (by omega) _ _ _ _ rfl rfl rfl rfl (by omega) (by omega) (by omega) (by omega) hQ0 (f-g).num ((f-g).den:Int) e1 e2)
 have HW0:=hide hW0
 have HBW:=hide hbw
 clear hW0 hbw hs e1 e2 hQ0 p1 p2 p3 p4 d1 d2 lf1 lf2 lg1 lg2 hx hy hfd hgd
 go_enter Tryz.func46,Tryz.ntmps46
 go_wp2_with fail
 rw [← unhide HW0]
 refine (unhide MU).mono ?_
 rintro e w1 ⟨rfl,h1,h2⟩
 have FIN:=hide (And.intro ((unhide HBW).trans h1 (by simp)) h2)
 clear h1 h2 MU
 go_wp2
 go_ret
 exact ⟨w.heap.size,rfl,(unhide FIN).1,(unhide FIN).2,Nat.le_refl _⟩
end Go.Proofs.YtollloafckcogaaGreatDoor

namespace Go.Proofs.YtollloafckcogaaGreatDoor
open Go.RowKit
def NoRat (u:Value):Prop:=(∀ s,u≠.bool s)∧∀ n:Int,u≠.int .u32 n
theorem IntAt.overU {w w':World} {b o g:Nat} {z:Int} {u:Value} (h:IntAt w b o z) (hb:But [g] w w') (hn:b≠g) (hc:w.cell? ⟨g,0,none⟩=some u) (hu:NoRat u):IntAt w' b o z:=by
 obtain ⟨h0,v,h1,h2⟩:=h
 exact ⟨hb.cell_some h0 (by simpa using hn),v,hb.cell_some h1 (by simpa using hn),h2.over hb hc (fun n e=>hu.2 n e)⟩
theorem RatIs.overU {w w':World} {b g:Nat} {f:Rat} {u:Value} (h:RatIs w b f) (hb:But [g] w w') (hc:w.cell? ⟨g,0,none⟩=some u) (hu:NoRat u):RatIs w' b f:=by
 have hn:b≠g:=fun e=>by
  subst e
  have h1:=h.up.1
  rw [hc] at h1
  exact hu.1 _ (Option.some.inj h1)
 exact ⟨h.up.overU hb hn hc hu,h.low.overU hb hn hc hu,h.sa.but hb (by simpa using hn),h.sb.but hb (by simpa using hn)⟩
theorem noRat_ptr (q:Option Addr):NoRat (.pointer q):=⟨fun s e=>by simp at e,fun n e=>by simp at e⟩
theorem noRat_slice (q:Option Addr) (n c:Nat):NoRat (.slice q n c):=⟨fun s e=>by simp at e,fun n e=>by simp at e⟩
def PtrIs (w:World) (v:Value) (f:Rat):Prop:=∃ g,v=.pointer (some ⟨g,0,none⟩)∧RatIs w g f
theorem PtrIs.but {w w':World} {v:Value} {f:Rat} (h:PtrIs w v f) (hb:But [] w w'):PtrIs w' v f:=h.elim fun g ⟨e,h⟩=>⟨g,e,h.but hb⟩
def RatsAt (w:World) (v:Value) (fs:List Rat):Prop:=∃ a cap,v=.slice a fs.length cap∧fs.length≤cap∧∀ (i:Nat) (f:Rat),fs[i]? = some f→∃ b off u,a=some ⟨b,off,none⟩∧w.cell? ⟨b,off+i,none⟩=some u∧PtrIs w u f
theorem RatsAt.but {w w':World} {v:Value} {fs:List Rat} (h:RatsAt w v fs) (hb:But [] w w'):RatsAt w' v fs:=by
 obtain ⟨a,cap,e,h1,h2⟩:=h
 refine ⟨a,cap,e,h1,fun i f hi=>?_⟩
 obtain ⟨b,off,u,h3,h4,h5⟩:=h2 i f hi
 exact ⟨b,off,u,h3,hb.cell_some h4 (by simp),h5.but hb⟩
theorem RatsAt.open {w:World} {v:Value} {fs:List Rat} (h:RatsAt w v fs):∃ a cap,v=.slice a fs.length cap∧fs.length≤cap:=by
 obtain ⟨a,cap,e,h1,-⟩:=h
 exact ⟨a,cap,e,h1⟩
theorem RatsAt.at {w:World} {a:Option Addr} {n cap:Nat} {fs:List Rat} (h:RatsAt w (.slice a n cap) fs) (i:Nat) (hi:i<n):n=fs.length∧∃ b off g f,a=some ⟨b,off,none⟩∧w.cell? ⟨b,off+i,none⟩=some (.pointer (some ⟨g,0,none⟩))∧fs[i]? = some f∧RatIs w g f:=by
 obtain ⟨a',cap',e,h1,h2⟩:=h
 simp only [Value.slice.injEq] at e
 obtain ⟨rfl,rfl,rfl⟩:=e
 obtain ⟨b,off,u,h3,h4,g,rfl,h5⟩:=h2 i _ (List.getElem?_eq_getElem hi)
 exact ⟨rfl,b,off,g,_,h3,h4,List.getElem?_eq_getElem hi,h5⟩
theorem info_ref:∃ i,Tryz.prog.info? 37 = some i∧i.zero=some (.pointer none)∧i.size=1∧i.bytes=8:=by
 have h:(Tryz.prog.info? 37).map (fun i=>(i.zero,i.size,i.bytes))=some (some (.pointer none),1,8):=by kernel_rfl
 cases e:Tryz.prog.info? 37 with
 | none=>rw [e] at h;simp at h
 | some i =>
  rw [e] at h
  simp only [Option.map_some,Option.some.injEq,Prod.mk.injEq] at h
  exact ⟨i,rfl,h.1,h.2.1,h.2.2⟩
structure OwnR (w:World) (base:Nat) (v:Value) (fs:List Rat) (us:List Value):Prop where
 own:w.ownsRow base 37 1 v fs.length us
 len:us.length=fs.length
 val:∀ (i:Nat) (f:Rat),fs[i]? = some f→∃ u,us[i]? = some u∧PtrIs w u f
 nil:fs=[]→v=.slice none 0 0
theorem OwnR.empty (w:World) (base:Nat):OwnR w base (.slice none 0 0) [] []:=⟨World.ownsRow_nil _ _ _ _,rfl,fun i f h=>by simp at h,fun _=>rfl⟩
theorem OwnR.but {w w':World} {base:Nat} {v:Value} {fs:List Rat} {us:List Value} (h:OwnR w base v fs us) (hb:But [] w w'):OwnR w' base v fs us :=
 ⟨ownsRow_but h.own hb,h.len,fun i f hi=>(h.val i f hi).elim fun u ⟨e,p⟩=>⟨u,e,p.but hb⟩,h.nil⟩
theorem OwnR.mono {w:World} {base b2:Nat} {v:Value} {fs:List Rat} {us:List Value} (h:OwnR w base v fs us) (hb:b2≤base):OwnR w b2 v fs us:=by
 refine ⟨⟨h.own.1,?_⟩,h.len,h.val,h.nil⟩
 rcases h.own.2 with e | ⟨g,cap,cur,e,h1,h2⟩
 ·exact .inl e
 ·exact .inr ⟨g,cap,cur,e,Nat.le_trans hb h1,h2⟩
theorem OwnR.form {w:World} {base:Nat} {v:Value} {fs:List Rat} {us:List Value} (h:OwnR w base v fs us):∃ a c,v=.slice a fs.length c:=ownsRow_form h.own
theorem OwnR.block {w:World} {base:Nat} {v:Value} {fs:List Rat} {us:List Value} (h:OwnR w base v fs us) (h0:fs≠[]):∃ g cap,v=.slice (some ⟨g,0,none⟩) fs.length cap∧fs.length≤cap∧base≤g∧v.ownBlock=some g∧∃ q,w.cell? ⟨g,0,none⟩=some (.pointer q):=by
 have hl:0<fs.length:=List.length_pos_iff.2 h0
 rcases h.own.2 with ⟨-,e⟩ | ⟨g,cap,cur,e,h1,h2,h3,-⟩
 ·omega
 ·refine ⟨g,cap,e,h3,h1,by rw [e];rfl,?_⟩
  obtain ⟨u,hu,b,rfl,-⟩:=h.val 0 _ (List.getElem?_eq_getElem hl)
  have hc:=h.own.cells (g:=g) (by rw [e];rfl) 0 _ hu
  exact ⟨_,by simpa [Addr.add] using hc⟩
theorem OwnR.rats {w:World} {base:Nat} {v:Value} {fs:List Rat} {us:List Value} (h:OwnR w base v fs us):RatsAt w v fs:=by
 by_cases h0:fs=[]
 ·subst h0
  rw [h.nil rfl]
  exact ⟨none,0,rfl,Nat.le_refl _,fun i x hx=>by simp at hx⟩
 ·obtain ⟨g,cap,e,h3,-,e2,-⟩:=h.block h0
  refine ⟨_,cap,e,h3,fun i f hi=>?_⟩
  obtain ⟨u,hu,hp⟩:=h.val i f hi
  refine ⟨g,0,u,rfl,?_,hp⟩
  have hc:=h.own.cells (g:=g) (by rw [e];rfl) i u hu
  have ea:(⟨g,0,none⟩:Addr).add i=⟨g,0+i,none⟩:=by
   by_cases hz:i=0
   ·simp [Addr.add,hz]
   ·simp [Addr.add,hz]
  rw [ea] at hc
  exact hc
theorem append_ref (w w0:World) (v:Value) (fs:List Rat) (us:List Value) (base:Nat) (hown:OwnR w base v fs us) (g:Nat) (u:Value) (f:Rat) (c:w.cell? ⟨g,0,none⟩=some u) (hp:PtrIs w u f) (hk:fs.length<1000000) (h0:But [] w0 w) (hb:w0.heap.size≤base) (hw:base≤w.heap.size) :
  ∃ v' w',(Builtin.append_ #[46,46] 46 #[v,.slice (some ⟨g,0,none⟩) 1 1]).run Tryz.prog w=.ok v' w'∧OwnR w' base v' (fs++[f]) (us++[u])∧But [] w0 w'∧But v.ownBlock.toList w w'∧w.heap.size≤w'.heap.size∧(∀ (b:Nat) (r:Rat),RatIs w b r→RatIs w' b r):=by
 obtain ⟨i0,hi,hz0,hz1,hz2⟩:=info_ref
 obtain ⟨v',w',hr,ho,hg,-⟩:=run_append_own (P:=Tryz.prog) w base 46 46 37 i0 _ 1 8 Tryz.underlying46 hi hz0 hz1 hz2 rfl (by decide) v fs.length us hown.own ⟨g,0,none⟩ 1 1 [u] rfl (fun j x hj=>by
   cases j with
   | zero=>simp at hj;subst hj;exact c
   | succ j=>simp at hj) (fun x hx=>by
   simp only [List.mem_cons,List.not_mem_nil,or_false] at hx
   subst hx
   obtain ⟨b,rfl,-⟩:=hp
   rfl) (by unfold maxLen;omega) (by omega) hw
 have hB:But v.ownBlock.toList w w':=⟨hg.os,hg.tape,hg.output,hg.size,fun j hj hn=>hg.block j hj (by
  intro e
  rw [← e] at hn
  simp at hn)⟩
 have stay:∀ (b:Nat) (r:Rat),RatIs w b r→RatIs w' b r:=by
  by_cases h1:fs=[]
  ·have:v.ownBlock=none:=by rw [hown.nil h1];rfl
   rw [this] at hB
   exact fun b r h=>h.but hB
  ·obtain ⟨gb,cap,-,-,-,e2,q,hq⟩:=hown.block h1
   rw [e2] at hB
   exact fun b r h=>h.overU hB hq (noRat_ptr q)
 have stayP:∀ (x:Value) (r:Rat),PtrIs w x r→PtrIs w' x r:=fun x r ⟨b,e,h⟩=>⟨b,e,stay b r h⟩
 refine ⟨v',w',hr,⟨by rw [List.length_append];exact ho,by simp [hown.len],fun i q hi=>?_,fun e=>by simp at e⟩,but_of_grown h0 hown.own hb hg,hB,hg.size,stay⟩
 rcases Nat.lt_or_ge i fs.length with hlt | hge
 ·rw [List.getElem?_append_left hlt] at hi
  obtain ⟨x,e1,h1⟩:=hown.val i q hi
  exact ⟨x,by rw [List.getElem?_append_left (by rw [hown.len];exact hlt)];exact e1,stayP _ _ h1⟩
 ·have hi0:i=fs.length:=by
   have:=(List.getElem?_eq_some_iff.1 hi).1
   simp at this
   omega
  subst hi0
  rw [List.getElem?_append_right (Nat.le_refl _),Nat.sub_self] at hi
  simp only [List.getElem?_cons_zero,Option.some.injEq] at hi
  subst hi
  refine ⟨u,?_,stayP _ _ hp⟩
  rw [List.getElem?_append_right (by rw [hown.len];exact Nat.le_refl _),hown.len,Nat.sub_self]
  rfl
end Go.Proofs.YtollloafckcogaaGreatDoor

namespace Go.Proofs.YtollloafckcogaaGreatDoor
open Go.RowKit
set_option maxHeartbeats 8000000
set_option maxRecDepth 100000
set_option linter.unusedVariables false
def BlankAt (w:World) (b:Nat):Prop:=IntAt w b 0 0∧w.cell? ⟨b,2,none⟩=some (.bool false)∧w.cell? ⟨b,3,none⟩=some (.slice none 0 0)
theorem BlankAt.but {w w':World} {b:Nat} (h:BlankAt w b) (hb:But [] w w'):BlankAt w' b:=⟨h.1.but hb,hb.cell_some h.2.1 (by simp),hb.cell_some h.2.2 (by simp)⟩
theorem BlankAt.lt {w:World} {b:Nat} (h:BlankAt w b):b<w.heap.size:=h.1.lt
theorem blank_new (w:World) (t:TypeId):BlankAt (w.alloc (.cells #[.bool false,.slice none 0 0,.bool false,.slice none 0 0] t)) w.heap.size:=by
 refine ⟨⟨by simp,.slice none 0 0,by simp,?_⟩,by simp,by simp⟩
 have h0:wd 4294967296 (0:Int).natAbs=[]:=by rw [wd_nil_iff (by omega)];rfl
 rw [h0]
 exact ⟨none,0,rfl,Nat.le_refl _,fun i hi=>by simp at hi,fun b off e h1=>by simp at h1⟩
theorem den_blank (b:Nat) (w:World) (h:BlankAt w b) :
  Calls Tryz.prog 100 #[.pointer (some ⟨b,0,none⟩)] w fun e w'=>∃ q,e=.returned (.pointer (some ⟨q,0,none⟩))∧w.heap.size≤q∧But [] w w'∧IntAt w' q 0 1:=by
 obtain ⟨-,c2,c3⟩:=h
 go_enter Tryz.func100,Tryz.ntmps100
 go_wp2_with fail
 refine (newInt_any 1 _ (by omega) (by omega)).mono ?_
 rintro e w1 ⟨rfl,hb,hI,-⟩
 go_wp2
 go_ret
 exact ⟨_,rfl,Nat.le_refl _,hb,hI⟩
theorem intMul_newB (A b1 o1 b2 o2:Nat) (x y z:Int) (hz:x*y=z) (w P:World) (hs:Slot P A 0) (hw:But [] w P) (hA:w.heap.size≤A) (hx:IntAt P b1 o1 x) (hy:IntAt P b2 o2 y) (n1:A≠b1) (n2:A≠b2) (hlx:(wd 4294967296 x.natAbs).length<8388608) (hly:(wd 4294967296 y.natAbs).length<8388608) (hlz:(wd 4294967296 z.natAbs).length<8388608) :
  Calls Tryz.prog 102 #[.pointer (some ⟨A,0,none⟩),.pointer (some ⟨b1,o1,none⟩),.pointer (some ⟨b2,o2,none⟩)] P fun e W1=>e=.returned (.pointer (some ⟨A,0,none⟩))∧But [] w W1∧IntAt W1 A 0 z∧(∀ B,B≠A→Slot P B 0→Slot W1 B 0)∧(∀ b o z,b≠A→IntAt P b o z→IntAt W1 b o z)∧P.heap.size≤W1.heap.size:=by
 refine (intMul_any A 0 b1 o1 b2 o2 x y P hs n1 n2 hx hy (by omega) (by omega) (by rw [← Int.natAbs_mul,hz];omega)).mono ?_
 rintro e W1 ⟨rfl,w1,v,hb,hv,rfl⟩
 rw [hz] at hv ⊢
 have hs1:=hs.but hb (by simp)
 exact ⟨rfl,(hw.trans' hb).trans (put_but ..) (by simp;exact hA),put_int hs1 _ _ hv,fun B hB hS=>put_slot_other _ _ (hS.but hb (by simp)) (.inl hB),fun b o z' hB hI=>put_int_other hs1 _ _ (hI.but hb) (.inl hB),by rw [putI_size];exact hb.size⟩
theorem SumH.stay {W:World} {P Q R:Int} {b0 b1 b8:Nat} {a0 a1 a8 p q r z:Bool} {w w':World} (h:SumH W P Q R b0 b1 b8 a0 a1 a8 p q r z w) (hb:But [] w w'):SumH W P Q R b0 b1 b8 a0 a1 a8 p q r z w' :=
 ⟨h.but.trans' hb,fun e=>⟨(h.s0 e).1,Nat.lt_of_lt_of_le (h.s0 e).2.1 hb.size,fun k=>((h.s0 e).2.2 k).but hb (by simp)⟩,fun e=>⟨(h.s1 e).1,Nat.lt_of_lt_of_le (h.s1 e).2.1 hb.size,fun k=>((h.s1 e).2.2 k).but hb (by simp)⟩,fun e=>⟨(h.s8 e).1,Nat.lt_of_lt_of_le (h.s8 e).2.1 hb.size,fun k=>((h.s8 e).2.2 k).but hb (by simp)⟩,
  h.n01,h.n08,h.n18,fun e=>⟨(h.hp e).1,(h.hp e).2.but hb⟩,fun e=>⟨(h.hq e).1,(h.hq e).2.but hb⟩,fun e=>⟨(h.hr e).1,(h.hr e).2.but hb⟩,h.hz⟩
def addBV (xb yb:Nat) (N:Nat × Nat × Nat × Nat) (i:Nat):Value:=match i with
 | 0=>.pointer (some ⟨N.1,0,none⟩)
 | 1=>.pointer (some ⟨N.2.1,0,none⟩)
 | 2=>.pointer (some ⟨xb,0,none⟩)
 | 3=>.pointer (some ⟨xb,0,none⟩)
 | 4=>.pointer (some ⟨xb,0,none⟩)
 | 5=>.pointer (some ⟨yb,0,none⟩)
 | 6=>.pointer (some ⟨yb,2,none⟩)
 | 7=>.pointer (some ⟨N.2.1,0,none⟩)
 | 8=>.pointer (some ⟨N.2.2.1,0,none⟩)
 | 9=>.pointer (some ⟨yb,0,none⟩)
 | 10=>.pointer (some ⟨yb,0,none⟩)
 | 11=>.pointer (some ⟨yb,0,none⟩)
 | 12=>.pointer (some ⟨xb,0,none⟩)
 | 13=>.pointer (some ⟨N.2.2.2,0,none⟩)
 | 14=>.pointer (some ⟨N.2.2.1,0,none⟩)
 | 15=>.pointer (some ⟨N.1,0,none⟩)
 | _=>.pointer (some ⟨N.1,0,none⟩)
theorem adb_dep:depOps addOs [(3,2),(4,3),(6,5),(7,1),(7,4),(7,6),(10,9),(11,10),(13,7),(13,12),(14,8),(14,11),(14,13),(15,0),(15,7),(15,14),(16,0),(16,1),(16,2),(16,3),(16,4),(16,5),(16,6),(16,7),(16,8),(16,9),(16,10),(16,11),(16,12),(16,13),(16,14),(16,15)]=true:=by kernel_rfl
theorem adb_region (id:Nat) (Q:Exit→Act→World→Prop) (base:Act) (W0:World) (xb yb:Nat) (x y P Z R:Int) (nx ny:Nat) (hs:23<base.tmps.size) (e1:base.eval (.tmp 1)=.pointer (some ⟨xb,0,none⟩)) (e2:base.eval (.tmp 2)=.pointer (some ⟨yb,0,none⟩))
  (hx:BlankAt W0 xb) (hx0:x=0) (hnx1:(nx:Int)=1) (hy:RatAt W0 yb y (ny:Int)) (hny:0<ny) (hxl:(wd 4294967296 x.natAbs).length<8388608) (hyl:(wd 4294967296 y.natAbs).length<8388608) (hnxl:(wd 4294967296 nx).length<8388608) (hnyl:(wd 4294967296 ny).length<8388608) (hP:x*(ny:Int)=P) (hZ:y*(nx:Int)=Z) (hR:R=P+Z) (hPl:(wd 4294967296 P.natAbs).length<8388608) (hZl:(wd 4294967296 Z.natAbs).length<8388608) (hRl:(wd 4294967296 R.natAbs).length<8388608)
  (hQ:∀ w b0 b1 b8 bd,But [] W0 w→W0.heap.size≤b0→IntAt w b0 0 R→Q .normal (putted base [(8,.pointer (some ⟨b0,0,none⟩)),(9,.pointer (some ⟨b1,0,none⟩)),(10,.pointer (some ⟨xb,0,none⟩)),(11,.pointer (some ⟨xb,0,none⟩)),(12,.pointer (some ⟨xb,0,none⟩)),(13,.pointer (some ⟨yb,0,none⟩)),(14,.pointer (some ⟨yb,2,none⟩)),(15,.pointer (some ⟨b1,0,none⟩)),(16,.pointer (some ⟨b8,0,none⟩)),(17,.pointer (some ⟨yb,0,none⟩)),(18,.pointer (some ⟨yb,0,none⟩)),(19,.pointer (some ⟨yb,0,none⟩)),(20,.pointer (some ⟨xb,0,none⟩)),(21,.pointer (some ⟨bd,0,none⟩)),(22,.pointer (some ⟨b8,0,none⟩)),(23,.pointer (some ⟨b0,0,none⟩)),(7,.pointer (some ⟨b0,0,none⟩))]) w) :
  (Code.region id addOs true).wp Tryz.prog Q base W0:=by
 have hdr:∀ {w},But [] W0.drew w→But [] W0 w:=fun h=>(But.refl _ _).drew.trans' h
 have hT:∀ i,i<17→addOT i<base.tmps.size:=fun i hi=>by
  have h:addOT i≤23:=by revert i;decide
  omega
 have lx:=hx.lt
 have ly:=hy.lt
 refine region_names (by kernel_rfl) (low_of (by kernel_rfl)) (bare_of (by kernel_rfl)) (α:=Nat × Nat × Nat × Nat) (fun N d w=>SumH W0.drew P Z R N.1 N.2.1 N.2.2.1 (d 0) (d 1) (d 8) (d 7) (d 14) (d 15) (d 16) w∧(d 13=true→d 14=false→IntAt w N.2.2.2 0 (nx:Int)∧(d 8=true→N.2.2.2≠N.2.2.1))) (addBV xb yb) addOT 17 (by kernel_rfl) addOT_inj hT (0,0,0,0) ?_ ?_ ?_
 ·exact ⟨⟨But.refl _ _,by simp,by simp,by simp,by simp,by simp,by simp,by simp,by simp,by simp,by simp⟩,fun h=>by simp at h⟩
 ·rintro ⟨b0,b1,b8,bd⟩ d i o a w K hi ho hdi hCl hH he hdep hk
  have hH':SumH W0.drew P Z R b0 b1 b8 (d 0) (d 1) (d 8) (d 7) (d 14) (d 15) (d 16) w:=hH.1
  have hX:d 13=true→d 14=false→IntAt w bd 0 (nx:Int)∧(d 8=true→bd≠b8):=hH.2
  have hD:=dep_is (ps:=[(3,2),(4,3),(6,5),(7,1),(7,4),(7,6),(10,9),(11,10),(13,7),(13,12),(14,8),(14,11),(14,13),(15,0),(15,7),(15,14),(16,0),(16,1),(16,2),(16,3),(16,4),(16,5),(16,6),(16,7),(16,8),(16,9),(16,10),(16,11),(16,12),(16,13),(16,14),(16,15)]) (by kernel_rfl) ho (fun j=>d j=true∧a.eval (.tmp (addOT j))=addBV xb yb (b0,b1,b8,bd) j) hdep
  have e1':=(he 1 (fun j hj e=>absurd e.symm (by revert j;decide))).trans e1
  have e2':=(he 2 (fun j hj e=>absurd e.symm (by revert j;decide))).trans e2
  have hB:=hdr hH'.but
  have hlw:=hB.size
  have:i=0∨i=1∨i=2∨i=3∨i=4∨i=5∨i=6∨i=7∨i=8∨i=9∨i=10∨i=11∨i=12∨i=13∨i=14∨i=15∨i=16:=by omega
  rcases this with rfl | rfl | rfl | rfl | rfl | rfl | rfl | rfl | rfl | rfl | rfl | rfl | rfl | rfl | rfl | rfl | rfl
  ·obtain rfl:=Option.some.inj ((show addOs[0]? = some addO0 from rfl).symm.trans ho)
   rw [hdi] at hH'
   refine does_value (run_allocI a w _ _ _ _) (hk (w.heap.size,b1,b8,bd) _ _ rfl (fun j hj hdj=>?_) ⟨hH'.alloc0 _,fun h1 h2=>⟨(hX h1 h2).1.but ((But.refl _ _).alloc _),(hX h1 h2).2⟩⟩)
   have:j=0∨j=1∨j=2∨j=3∨j=4∨j=5∨j=6∨j=7∨j=8∨j=9∨j=10∨j=11∨j=12∨j=13∨j=14∨j=15∨j=16:=by omega
   rcases this with rfl | rfl | rfl | rfl | rfl | rfl | rfl | rfl | rfl | rfl | rfl | rfl | rfl | rfl | rfl | rfl | rfl
   all_goals first
    | rfl
    | (rw [hdi] at hdj;simp at hdj)
    | (exfalso;first | (have:=(hH'.hr hdj).1;simp at this) | (have:=(hH'.hr (hH'.hz hdj)).1;simp at this))
  ·obtain rfl:=Option.some.inj ((show addOs[1]? = some addO1 from rfl).symm.trans ho)
   rw [hdi] at hH'
   refine does_value (run_allocI a w _ _ _ _) (hk (b0,w.heap.size,b8,bd) _ _ rfl (fun j hj hdj=>?_) ⟨hH'.alloc1 _,fun h1 h2=>⟨(hX h1 h2).1.but ((But.refl _ _).alloc _),(hX h1 h2).2⟩⟩)
   have:j=0∨j=1∨j=2∨j=3∨j=4∨j=5∨j=6∨j=7∨j=8∨j=9∨j=10∨j=11∨j=12∨j=13∨j=14∨j=15∨j=16:=by omega
   rcases this with rfl | rfl | rfl | rfl | rfl | rfl | rfl | rfl | rfl | rfl | rfl | rfl | rfl | rfl | rfl | rfl | rfl
   all_goals first
    | rfl
    | (rw [hdi] at hdj;simp at hdj)
    | (exfalso;have:=(hH'.hp hdj).1;simp at this)
  ·obtain rfl:=Option.some.inj ((show addOs[2]? = some addO2 from rfl).symm.trans ho)
   exact does_value (run_moveP a w _ _ _ _ _ _ e1') (hk (b0,b1,b8,bd) _ _ rfl (fun _ _ _=>rfl) hH)
  ·obtain rfl:=Option.some.inj ((show addOs[3]? = some addO3 from rfl).symm.trans ho)
   exact does_value (run_nilP a w _ _ _ _ _ _ 0 (hD 2 (by simp)).2) (hk (b0,b1,b8,bd) _ _ rfl (fun _ _ _=>rfl) hH)
  ·obtain rfl:=Option.some.inj ((show addOs[4]? = some addO4 from rfl).symm.trans ho)
   exact does_value (run_fieldR a w _ _ _ _ _ _ (hD 3 (by simp)).2 (by omega)) (hk (b0,b1,b8,bd) _ _ rfl (fun _ _ _=>rfl) hH)
  ·obtain rfl:=Option.some.inj ((show addOs[5]? = some addO5 from rfl).symm.trans ho)
   exact does_value (run_moveP a w _ _ _ _ _ _ e2') (hk (b0,b1,b8,bd) _ _ rfl (fun _ _ _=>rfl) hH)
  ·obtain rfl:=Option.some.inj ((show addOs[6]? = some addO6 from rfl).symm.trans ho)
   refine does_enter (run_callDen a w _ _ _ _ _ _ (hD 5 (by simp)).2) (R:=fun w' v=>v=.pointer (some ⟨yb,2,none⟩)∧w'=w) ((den_any yb y ny w (hy.but hB) hny).mono (fun e w' h=>⟨_,h.1,rfl,h.2⟩)) ?_
   rintro v w' ⟨rfl,rfl⟩
   exact hk (b0,b1,b8,bd) _ _ rfl (fun _ _ _=>rfl) hH
  ·obtain rfl:=Option.some.inj ((show addOs[7]? = some addO7 from rfl).symm.trans ho)
   have hs1:=hH'.s1 (hD 1 (by simp)).1
   rw [hdi] at hs1
   refine does_enter (run_callMulI a w _ _ _ _ _ _ _ _ _ _ (hD 1 (by simp)).2 (hD 4 (by simp)).2 (hD 6 (by simp)).2) (R:=fun w' v=>v=.pointer (some ⟨b1,0,none⟩)∧But [] W0.drew w'∧IntAt w' b1 0 P∧(∀ B,B≠b1→Slot w B 0→Slot w' B 0)∧(∀ b o z',b≠b1→IntAt w b o z'→IntAt w' b o z')∧w.heap.size≤w'.heap.size) ((intMul_newU b1 xb 0 yb 2 x (ny:Int) P hP W0.drew w (hs1.2.2 rfl) hH'.but hs1.1 (by rw [hx0];exact hx.1) hy.drew.low hxl (by rw [Int.natAbs_natCast];exact hnyl) hPl).mono (fun e w' h=>⟨_,h.1,rfl,h.2⟩)) ?_
   rintro v w' ⟨rfl,k1,k2,k3,k4,k5⟩
   rw [hdi,(hD 1 (by simp)).1] at hH'
   refine hk (b0,b1,b8,bd) _ _ rfl (fun _ _ _=>rfl) ⟨?_,fun h1=>absurd ((hCl.not adb_dep (i:=13) (j:=7) (by simp) hdi).symm.trans h1) (by simp)⟩
   show SumH W0.drew P Z R b0 b1 b8 (d 0) (d 1) (d 8) true (d 14) (d 15) (d 16) w'
   rw [(hD 1 (by simp)).1]
   exact hH'.mulP k1 k2 k3 k4 k5
  ·obtain rfl:=Option.some.inj ((show addOs[8]? = some addO8 from rfl).symm.trans ho)
   rw [hdi] at hH'
   refine does_value (run_allocI a w _ _ _ _) (hk (b0,b1,w.heap.size,bd) _ _ rfl (fun j hj hdj=>?_) ⟨hH'.alloc8 _,fun h1 h2=>⟨(hX h1 h2).1.but ((But.refl _ _).alloc _),fun _=>Nat.ne_of_lt (hX h1 h2).1.lt⟩⟩)
   have:j=0∨j=1∨j=2∨j=3∨j=4∨j=5∨j=6∨j=7∨j=8∨j=9∨j=10∨j=11∨j=12∨j=13∨j=14∨j=15∨j=16:=by omega
   rcases this with rfl | rfl | rfl | rfl | rfl | rfl | rfl | rfl | rfl | rfl | rfl | rfl | rfl | rfl | rfl | rfl | rfl
   all_goals first
    | rfl
    | (rw [hdi] at hdj;simp at hdj)
    | (exfalso;have:=(hH'.hq hdj).1;simp at this)
  ·obtain rfl:=Option.some.inj ((show addOs[9]? = some addO9 from rfl).symm.trans ho)
   exact does_value (run_moveP a w _ _ _ _ _ _ e2') (hk (b0,b1,b8,bd) _ _ rfl (fun _ _ _=>rfl) hH)
  ·obtain rfl:=Option.some.inj ((show addOs[10]? = some addO10 from rfl).symm.trans ho)
   exact does_value (run_nilP a w _ _ _ _ _ _ 0 (hD 9 (by simp)).2) (hk (b0,b1,b8,bd) _ _ rfl (fun _ _ _=>rfl) hH)
  ·obtain rfl:=Option.some.inj ((show addOs[11]? = some addO11 from rfl).symm.trans ho)
   exact does_value (run_fieldR a w _ _ _ _ _ _ (hD 10 (by simp)).2 (by omega)) (hk (b0,b1,b8,bd) _ _ rfl (fun _ _ _=>rfl) hH)
  ·obtain rfl:=Option.some.inj ((show addOs[12]? = some addO12 from rfl).symm.trans ho)
   exact does_value (run_moveP a w _ _ _ _ _ _ e1') (hk (b0,b1,b8,bd) _ _ rfl (fun _ _ _=>rfl) hH)
  ·obtain rfl:=Option.some.inj ((show addOs[13]? = some addO13 from rfl).symm.trans ho)
   refine does_enter (run_callDen a w _ _ _ _ _ _ (hD 12 (by simp)).2) (R:=fun w' v=>∃ q,v=.pointer (some ⟨q,0,none⟩)∧w.heap.size≤q∧But [] w w'∧IntAt w' q 0 1) ((den_blank xb w (hx.but hB)).mono (fun e w' ⟨q,h1,h2,h3,h4⟩=>⟨_,h1,q,rfl,h2,h3,h4⟩)) ?_
   rintro v w' ⟨q,rfl,hq,hb,hI⟩
   refine hk (b0,b1,b8,q) _ _ rfl (fun j hj hdj=>?_) ⟨hH'.stay hb,fun _ _=>⟨by rw [hnx1];exact hI,fun h8=>Ne.symm (Nat.ne_of_lt (Nat.lt_of_lt_of_le (hH'.s8 h8).2.1 hq))⟩⟩
   have:j=0∨j=1∨j=2∨j=3∨j=4∨j=5∨j=6∨j=7∨j=8∨j=9∨j=10∨j=11∨j=12∨j=13∨j=14∨j=15∨j=16:=by omega
   rcases this with rfl | rfl | rfl | rfl | rfl | rfl | rfl | rfl | rfl | rfl | rfl | rfl | rfl | rfl | rfl | rfl | rfl
   all_goals first
    | rfl
    | (rw [hdi] at hdj;simp at hdj)
  ·obtain rfl:=Option.some.inj ((show addOs[14]? = some addO14 from rfl).symm.trans ho)
   have hs1:=hH'.s8 (hD 8 (by simp)).1
   rw [hdi] at hs1
   refine does_enter (run_callMulI a w _ _ _ _ _ _ _ _ _ _ (hD 8 (by simp)).2 (hD 11 (by simp)).2 (hD 13 (by simp)).2) (R:=fun w' v=>v=.pointer (some ⟨b8,0,none⟩)∧But [] W0.drew w'∧IntAt w' b8 0 Z∧(∀ B,B≠b8→Slot w B 0→Slot w' B 0)∧(∀ b o z',b≠b8→IntAt w b o z'→IntAt w' b o z')∧w.heap.size≤w'.heap.size) ((intMul_newB b8 yb 0 bd 0 y (nx:Int) Z hZ W0.drew w (hs1.2.2 rfl) hH'.but hs1.1 ((IntAt.drew hy.up).but hH'.but) (hX (hD 13 (by simp)).1 hdi).1 (Ne.symm (Nat.ne_of_lt (Nat.lt_of_lt_of_le ly hs1.1))) (Ne.symm ((hX (hD 13 (by simp)).1 hdi).2 (hD 8 (by simp)).1)) hyl (by rw [Int.natAbs_natCast];exact hnxl) hZl).mono (fun e w' h=>⟨_,h.1,rfl,h.2⟩)) ?_
   rintro v w' ⟨rfl,k1,k2,k3,k4,k5⟩
   rw [hdi,(hD 8 (by simp)).1] at hH'
   refine hk (b0,b1,b8,bd) _ _ rfl (fun _ _ _=>rfl) ⟨?_,fun _ h2=>absurd h2 (by rw [came_self];simp)⟩
   show SumH W0.drew P Z R b0 b1 b8 (d 0) (d 1) (d 8) (d 7) true (d 15) (d 16) w'
   rw [(hD 8 (by simp)).1]
   exact hH'.mulQ k1 k2 k3 k4 k5
  ·obtain rfl:=Option.some.inj ((show addOs[15]? = some addO15 from rfl).symm.trans ho)
   have d0:=(hD 0 (by simp)).1
   have hs1:=hH'.s0 d0
   rw [hdi] at hs1
   have hp7:=hH'.hp (hD 7 (by simp)).1
   have hq14:=hH'.hq (hD 14 (by simp)).1
   refine does_enter (run_callAddI a w _ _ _ _ _ _ _ _ _ _ (hD 0 (by simp)).2 (hD 7 (by simp)).2 (hD 14 (by simp)).2) (R:=fun w' v=>v=.pointer (some ⟨b0,0,none⟩)∧But [] W0.drew w'∧IntAt w' b0 0 R∧(∀ B,B≠b0→Slot w B 0→Slot w' B 0)∧(∀ b o z',b≠b0→IntAt w b o z'→IntAt w' b o z')∧w.heap.size≤w'.heap.size) ((intAddU_any b0 0 b1 0 b8 0 P Z R w (hs1.2.2 rfl) (hH'.n01 d0 hp7.1) (hH'.n08 d0 hq14.1) hp7.2 hq14.2 hPl hZl (by omega) hR).mono (fun e w' h=>by
    obtain ⟨h1,w1,v,h2,h3,rfl⟩:=h
    exact ⟨_,h1,rfl,intSum_new (hs1.2.2 rfl) hH'.but hs1.1 h2 h3⟩)) ?_
   rintro v w' ⟨rfl,k1,k2,k3,k4,k5⟩
   rw [hdi,d0] at hH'
   refine hk (b0,b1,b8,bd) _ _ rfl (fun _ _ _=>rfl) ⟨?_,fun _ h2=>absurd ((hD 14 (by simp)).1.symm.trans h2) (by simp)⟩
   show SumH W0.drew P Z R b0 b1 b8 (d 0) (d 1) (d 8) (d 7) (d 14) true (d 16) w'
   rw [d0]
   exact hH'.sumR k1 k2 k3 k4 k5
  ·obtain rfl:=Option.some.inj ((show addOs[16]? = some addO16 from rfl).symm.trans ho)
   have d15:=(hD 15 (by simp)).1
   rw [d15] at hH'
   refine does_value (run_assP a w _ _ _ _ _ _ (hD 15 (by simp)).2) (hk (b0,b1,b8,bd) _ _ rfl (fun _ _ _=>rfl) ⟨?_,fun _ h2=>absurd ((hD 14 (by simp)).1.symm.trans h2) (by simp)⟩)
   show SumH W0.drew P Z R b0 b1 b8 (d 0) (d 1) (d 8) (d 7) (d 14) (d 15) true w
   rw [d15]
   exact hH'.done
 ·rintro ⟨b0,b1,b8,bd⟩ d w hd hH
  have hH':SumH W0.drew P Z R b0 b1 b8 (d 0) (d 1) (d 8) (d 7) (d 14) (d 15) (d 16) w:=hH.1
  exact hQ w b0 b1 b8 bd (hdr hH'.but) (hH'.s0 (hd 0 (by omega))).1 (hH'.hr (hd 15 (by omega))).2
theorem ratAddB_any (zb xb yb:Nat) (x y:Int) (nx ny:Nat) (w:World) (hz0:Slot w zb 0) (hz2:Slot w zb 2) (hx:BlankAt w xb) (hx0:x=0) (hnx1:(nx:Int)=1) (hy:RatAt w yb y (ny:Int)) (hny:0<ny) (hxl:(wd 4294967296 x.natAbs).length<8388608) (hyl:(wd 4294967296 y.natAbs).length<8388608) (hnxl:(wd 4294967296 nx).length<8388608) (hnyl:(wd 4294967296 ny).length<8388608) (P Z R D:Int) (hP:x*(ny:Int)=P) (hZ:y*(nx:Int)=Z) (hR:R=P+Z) (hD:(nx:Int)*(ny:Int)=D) (hPl:(wd 4294967296 P.natAbs).length<8388608) (hZl:(wd 4294967296 Z.natAbs).length<8388608) (hRl:(wd 4294967296 R.natAbs).length<8388608) (hDl:(wd 4294967296 D.natAbs).length<8388608) (hD0:D≠0) (A B:Int) (eA:Hid (A=redN (if D<0 then -R else R) D.natAbs)) (eB:Hid (B=redD R D.natAbs)) :
  Calls Tryz.prog 104 #[.pointer (some ⟨zb,0,none⟩),.pointer (some ⟨xb,0,none⟩),.pointer (some ⟨yb,0,none⟩)] w fun e w'=>e=.returned (.pointer (some ⟨zb,0,none⟩))∧But [zb] w w'∧RatAt w' zb A B:=by
 have HX:=hide hx
 have HY:=hide hy
 have HZ0:=hide hz0
 have HZ2:=hide hz2
 have REG:=hide (fun (Q:Exit→Act→World→Prop) (base:Act) (hs:23<base.tmps.size) (e1:base.eval (.tmp 1)=.pointer (some ⟨xb,0,none⟩)) (e2:base.eval (.tmp 2)=.pointer (some ⟨yb,0,none⟩))=>adb_region 1 Q base w xb yb x y P Z R nx ny hs e1 e2 hx hx0 hnx1 hy hny hxl hyl hnxl hnyl hP hZ hR hPl hZl hRl)
 have DX:=hide (fun W (h:BlankAt W xb)=>den_blank xb W h)
 have DY:=hide (fun W (h:RatAt W yb y (ny:Int))=>den_any yb y ny W h hny)
 have MU:=hide (fun (A q:Nat) (w P:World) (hs:Slot P A 0) (hw:But [] w P) (hA:w.heap.size≤A) (hx:IntAt P q 0 1) (hy:RatAt P yb y (ny:Int)) (n1:A≠q) (n2:A≠yb)=>intMul_newB A q 0 yb 2 (nx:Int) (ny:Int) D hD w P hs hw hA (by rw [hnx1];exact hx) hy.low n1 n2 (by rw [Int.natAbs_natCast];exact hnxl) (by rw [Int.natAbs_natCast];exact hnyl) hDl)
 have SF:=hide (fun (b0 b1:Nat) (W:World) (h0:Slot W zb 0) (h2:Slot W zb 2) (ha:IntAt W b0 0 R) (hb:IntAt W b1 0 D)=>setFracU_any zb b0 0 b1 0 R D W h0 h2 ha hb hRl hDl hD0 A B eA eB)
 clear hx hy hz0 hz2 hny hx0 hnx1 hxl hyl hnxl hnyl hP hZ hR hD hPl hZl hRl hDl hD0 eA eB
 go_enter Tryz.func104,Tryz.ntmps104
 go_wp2_with fail
 refine unhide REG _ _ (by simp) (by simp [Act.eval]) (by simp [Act.eval]) ?_
 intro w1 b0 b1 b8 bd hb1 hb0 hI
 simp only [putted,List.foldl_cons,List.foldl_nil,Act.put,List.setIfInBounds_toArray,List.set_cons_zero,List.set_cons_succ]
 obtain ⟨W0,hW0⟩:∃ W0,W0=w1.alloc (.cells #[.bool false,.slice none 0 0] 90):=⟨_,rfl⟩
 have hs:=slot_new w1 90
 rw [← hW0] at hs
 have hbw:But [] w1 W0:=by rw [hW0];exact (But.refl _ _).alloc _
 have hb2:=hb1.trans' hbw
 have K0:=hide (And.intro hs (And.intro hbw (And.intro hb1 (And.intro hb0 hI))))
 have KX:=hide ((unhide HX).but hb2)
 have KY:=hide ((unhide HY).but hb2)
 have HW0:=hide hW0
 clear hW0 hs hbw hb1 hb0 hb2 hI
 obtain ⟨g,hg⟩:∃ g,g=w1.heap.size:=⟨_,rfl⟩
 go_wp2_with fail
 rw [← unhide HW0,← hg]
 rw [← hg] at K0
 have HG:=hide hg
 clear hg
 refine (unhide DX _ (unhide KX)).mono ?_
 rintro e w2 ⟨q,rfl,hq,hbq,hIq⟩
 have hlg:g<W0.heap.size:=(unhide K0).1.lt
 have KY2:=hide ((unhide KY).but hbq)
 have KQ:=hide (And.intro hIq (And.intro ((unhide K0).1.but hbq (by simp)) (And.intro ((unhide K0).2.1.trans' hbq) (Nat.ne_of_lt (Nat.lt_of_lt_of_le hlg hq)))))
 clear hq hbq hIq hlg
 go_wp2_with fail
 refine (unhide DY _ (unhide KY2)).mono ?_
 rintro e w3 ⟨rfl,hw⟩
 obtain rfl:=hw.symm
 clear hw
 go_wp2_with fail
 refine (unhide MU g q w1 w2 (unhide KQ).2.1 (unhide KQ).2.2.1 (Nat.le_of_eq (unhide HG).symm) (unhide KQ).1 (unhide KY2) (unhide KQ).2.2.2 (by
  have h1:=(unhide HY).lt
  have h2:=(unhide K0).2.2.1.size
  have h3:=unhide HG
  omega)).mono ?_
 rintro e w4 ⟨rfl,k1,k2,k3,k4,k5⟩
 have FIN:Hid (Slot w4 zb 0∧Slot w4 zb 2∧IntAt w4 b0 0 R∧IntAt w4 g 0 D∧But [] w w4):=by
  obtain ⟨hs,hbw,hb1,hb0,hI⟩:=unhide K0
  have hb3:=hb1.trans' k1
  exact ⟨(unhide HZ0).but hb3 (by simp),(unhide HZ2).but hb3 (by simp),hI.but k1,k2,hb3⟩
 clear k1 k2 k3 k4 k5 K0 KX KY KY2 KQ HW0 HG MU DX DY REG HX HY HZ0 HZ2
 go_wp2_with fail
 refine (unhide SF b0 g _ (unhide FIN).1 (unhide FIN).2.1 (unhide FIN).2.2.1 (unhide FIN).2.2.2.1).mono ?_
 rintro e w3 ⟨rfl,k1,k2⟩
 have F3:=hide (And.intro ((unhide FIN).2.2.2.2.of_nil.trans k1 (fun x hx=>.inl hx)) k2)
 clear k1 k2 FIN SF
 go_wp2
 go_ret
 exact ⟨rfl,(unhide F3).1,(unhide F3).2⟩
theorem refAdd_blank (xb yb:Nat) (f g:Rat) (w:World) (hf0:f=0) (hx:BlankAt w xb) (hy:RatIs w yb g) (lf:LenU f 2000000) (lg:LenU g 2000000) :
  Calls Tryz.prog 53 #[.pointer (some ⟨xb,0,none⟩),.pointer (some ⟨yb,0,none⟩)] w fun e w'=>∃ zb,e=.returned (.pointer (some ⟨zb,0,none⟩))∧But [] w w'∧RatIs w' zb (f+g)∧w.heap.size≤zb:=by
 have hfd:0<f.den:=Nat.pos_of_ne_zero f.den_nz
 have hgd:0<g.den:=Nat.pos_of_ne_zero g.den_nz
 have hQ0:(f.den:Int)*(g.den:Int)≠0:=Int.mul_ne_zero (by omega) (by omega)
 obtain ⟨e1,e2⟩:=red_rat (f.num*(g.den:Int)+g.num*(f.den:Int)) ((f.den:Int)*(g.den:Int)) hQ0 (f+g) (cross_addU f g)
 obtain ⟨W0,hW0⟩:∃ W0,W0=w.alloc (.cells #[.bool false,.slice none 0 0,.bool false,.slice none 0 0] 92):=⟨_,rfl⟩
 have hs:=ratSlots w 92
 have hbw:But [] w W0:=by rw [hW0];exact (But.refl _ _).alloc _
 rw [← hW0] at hs
 obtain ⟨lf1,lf2⟩:=lf
 obtain ⟨lg1,lg2⟩:=lg
 have d1:(wd 4294967296 ((f.den:Nat):Int).natAbs).length≤2000000:=by rw [Int.natAbs_natCast];exact lf2
 have d2:(wd 4294967296 ((g.den:Nat):Int).natAbs).length≤2000000:=by rw [Int.natAbs_natCast];exact lg2
 have p1:=lenU_prod f.num (g.den:Int) _ _ lf1 d2
 have p2:=lenU_prod g.num (f.den:Int) _ _ lg1 d1
 have p3:=lenU_prod (f.den:Int) (g.den:Int) _ _ d1 d2
 have p4:=lenU_int_add _ _ _ p1 p2
 have MU:=hide (ratAddB_any w.heap.size xb yb f.num g.num f.den g.den W0 hs.1 hs.2 (hx.but hbw) (by rw [hf0];rfl) (by rw [hf0];rfl) (RatAt.but hy hbw) hgd (by omega) (by omega) (by omega) (by omega) _ _ _ _ rfl rfl rfl rfl (by omega) (by omega) (by omega) (by omega) hQ0 (f+g).num ((f+g).den:Int) e1 e2)
 have HW0:=hide hW0
 have HBW:=hide hbw
 clear hW0 hbw hs e1 e2 hQ0 p1 p2 p3 p4 d1 d2 lf1 lf2 lg1 lg2 hx hy hfd hgd
 go_enter Tryz.func53,Tryz.ntmps53
 go_wp2_with fail
 rw [← unhide HW0]
 refine (unhide MU).mono ?_
 rintro e w1 ⟨rfl,h1,h2⟩
 have FIN:=hide (And.intro ((unhide HBW).trans h1 (by simp)) h2)
 clear h1 h2 MU
 go_wp2
 go_ret
 exact ⟨w.heap.size,rfl,(unhide FIN).1,(unhide FIN).2,Nat.le_refl _⟩
end Go.Proofs.YtollloafckcogaaGreatDoor
