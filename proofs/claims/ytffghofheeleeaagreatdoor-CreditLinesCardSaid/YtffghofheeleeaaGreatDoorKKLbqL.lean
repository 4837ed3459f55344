/- Kinds of risks, as the reference reckons -/
import Derived.Test.YtffghofheeleeaaGreatDoorKRLdqL
namespace Go.Proofs.YtffghofheeleeaaGreatDoor
open Go.Proofs.Tryz
open Go.RowKit
set_option maxHeartbeats 8000000
set_option maxRecDepth 100000
set_option linter.unusedVariables false
theorem qff (a:Act) (w:World) (d t:Nat) (u:TypeId) (ps:String) (ed:Array Edge) (gd:Option (Nat × Bool)) (b o o':Nat) (ho:o+0=o') (h1:a.eval (.tmp t)=.pointer (some ⟨b,o,none⟩)) :
  (execOp a.eval { dst:=some d,op:=Op.fieldAddr 47 (.tmp t) 0,type:=u,pos:=ps,after:=ed,guard:=gd }).run prog w=.ok (.value (.pointer (some ⟨b,o',none⟩))) w:=by
 subst ho
 unfold execOp
 simp only[h1]
 go_simp
theorem zld (a:Act) (w:World) (d t:Nat) (u:TypeId) (ps:String) (ed:Array Edge) (gd:Option (Nat × Bool)) (b o:Nat) (v:Value) (h1:a.eval (.tmp t)=.pointer (some ⟨b,o,none⟩)) (hc:w.cell? ⟨b,o,none⟩=some v) :
  (execOp a.eval { dst:=some d,op:=Op.load 37 (.tmp t),type:=u,pos:=ps,after:=ed,guard:=gd }).run prog w=.ok (.value v) w:=by
 unfold execOp
 simp only[h1]
 go_simp
theorem qfe (a:Act) (w:World) (d t:Nat) (u:TypeId) (ps:String) (ed:Array Edge) (gd:Option (Nat × Bool)) (b o o':Nat) (ho:o+1=o') (h1:a.eval (.tmp t)=.pointer (some ⟨b,o,none⟩)) :
  (execOp a.eval { dst:=some d,op:=Op.fieldAddr 47 (.tmp t) 1,type:=u,pos:=ps,after:=ed,guard:=gd }).run prog w=.ok (.value (.pointer (some ⟨b,o',none⟩))) w:=by
 subst ho
 unfold execOp
 simp only[h1]
 go_simp
theorem zjk (a:Act) (w:World) (d t0 t1:Nat) (u:TypeId) (ps:String) (ed:Array Edge) (gd:Option (Nat × Bool)) (z0 z1:Value) (h0:a.eval (.tmp t0)=z0) (h1:a.eval (.tmp t1)=z1) :
  (execOp a.eval { dst:=some d,op:=Op.call { callee:=Callee.value (Operand.func 42),args:=#[Operand.tmp t0,Operand.tmp t1],argTypes:=#[37,37] },type:=u,pos:=ps,after:=ed,guard:=gd }).run prog w=.ok (.enter 42 #[z0,z1]) w:=by
 unfold execOp
 go_simp
 rw[← h0,← h1]
 simp[Act.eval]
theorem zvv (a:Act) (w:World) (d t0 t1:Nat) (u:TypeId) (ps:String) (ed:Array Edge) (gd:Option (Nat × Bool)) (z0 z1:Value) (h0:a.eval (.tmp t0)=z0) (h1:a.eval (.tmp t1)=z1) :
  (execOp a.eval { dst:=some d,op:=Op.call { callee:=Callee.value (Operand.func 51),args:=#[Operand.tmp t0,Operand.tmp t1],argTypes:=#[37,37] },type:=u,pos:=ps,after:=ed,guard:=gd }).run prog w=.ok (.enter 51 #[z0,z1]) w:=by
 unfold execOp
 go_simp
 rw[← h0,← h1]
 simp[Act.eval]
def qut:Oper:=⟨some 28,.move (.tmp 7),37, "risk.go:197",#[],none⟩
def qus:Oper:=⟨some 29,.fieldAddr 47 (.tmp 10) 0,0, "risk.go:197",#[],none⟩
def qur:Oper:=⟨some 30,.load 37 (.tmp 29),37, "risk.go:197",#[⟨1,.data⟩],none⟩
def quq:Oper:=⟨some 31,.fieldAddr 47 (.tmp 10) 1,0, "risk.go:197",#[],none⟩
def qup:Oper:=⟨some 32,.load 37 (.tmp 31),37, "risk.go:197",#[⟨3,.data⟩],none⟩
def qun:Oper:=⟨some 33,.fieldAddr 47 (.tmp 10) 1,0, "risk.go:197",#[],none⟩
def qum:Oper:=⟨some 34,.load 37 (.tmp 33),37, "risk.go:197",#[⟨5,.data⟩],none⟩
def qul:Oper:=⟨some 35,.call { callee:=.value (.func 42),args:=#[.tmp 32,.tmp 34],argTypes:=#[37,37] },37, "risk.go:197",#[⟨4,.data⟩,⟨6,.data⟩],none⟩
def quk:Oper:=⟨some 36,.call { callee:=.value (.func 42),args:=#[.tmp 30,.tmp 35],argTypes:=#[37,37] },37, "risk.go:197",#[⟨2,.data⟩,⟨7,.data⟩,⟨7,.chain⟩],none⟩
def quj:Oper:=⟨some 37,.call { callee:=.value (.func 51),args:=#[.tmp 28,.tmp 36],argTypes:=#[37,37] },37, "risk.go:197",#[⟨0,.data⟩,⟨8,.data⟩,⟨8,.chain⟩],none⟩
def qna:Oper:=⟨some 7,.assign (.tmp 37),37, "risk.go:197",#[⟨9,.data⟩,⟨9,.chain⟩,⟨0,.phase⟩,⟨1,.phase⟩,⟨2,.phase⟩,⟨3,.phase⟩,⟨4,.phase⟩,⟨5,.phase⟩,⟨6,.phase⟩,⟨7,.phase⟩,⟨8,.phase⟩,⟨9,.phase⟩],none⟩
def zgj:Array Oper:=#[qut,qus,qur,quq,qup,qun,qum,qul,quk,quj,qna]
structure zev (W0:World) (gk:Nat) (gc:Nat) (gm:Nat) (gp:Nat) (gs:Nat) (r1:Rat) (r2:Rat) (r3:Rat) (x:Nat) (y:Nat) (z:Nat) (b7:Bool) (b8:Bool) (b9:Bool) (w:World):Prop where
 mem:But [] W0 w
 f7:b7=true→za w x r1
 f8:b8=true→za w y r2
 f9:b9=true→za w z r3
theorem zev.but {W0:World} {gk:Nat} {gc:Nat} {gm:Nat} {gp:Nat} {gs:Nat} {r1:Rat} {r2:Rat} {r3:Rat} {x:Nat} {y:Nat} {z:Nat} {b7 b8 b9:Bool} {w w':World} (h:zev W0 gk gc gm gp gs r1 r2 r3 x y z b7 b8 b9 w) (hb:But [] w w'):zev W0 gk gc gm gp gs r1 r2 r3 x y z b7 b8 b9 w' :=
 { mem:=h.mem.trans' hb,f7:=fun e=>(h.f7 e).but hb,f8:=fun e=>(h.f8 e).but hb,f9:=fun e=>(h.f9 e).but hb }
theorem zev.s7 {W0:World} {gk:Nat} {gc:Nat} {gm:Nat} {gp:Nat} {gs:Nat} {r1:Rat} {r2:Rat} {r3:Rat} {x:Nat} {y:Nat} {z:Nat} {b7 b8 b9:Bool} {w:World} (h:zev W0 gk gc gm gp gs r1 r2 r3 x y z b7 b8 b9 w) (x':Nat) (hf:za w x' r1):zev W0 gk gc gm gp gs r1 r2 r3 x' y z true b8 b9 w :=
 { mem:=h.mem,f7:=fun _=>hf,f8:=h.f8,f9:=h.f9 }
theorem zev.s8 {W0:World} {gk:Nat} {gc:Nat} {gm:Nat} {gp:Nat} {gs:Nat} {r1:Rat} {r2:Rat} {r3:Rat} {x:Nat} {y:Nat} {z:Nat} {b7 b8 b9:Bool} {w:World} (h:zev W0 gk gc gm gp gs r1 r2 r3 x y z b7 b8 b9 w) (y':Nat) (hf:za w y' r2):zev W0 gk gc gm gp gs r1 r2 r3 x y' z b7 true b9 w :=
 { mem:=h.mem,f7:=h.f7,f8:=fun _=>hf,f9:=h.f9 }
theorem zev.s9 {W0:World} {gk:Nat} {gc:Nat} {gm:Nat} {gp:Nat} {gs:Nat} {r1:Rat} {r2:Rat} {r3:Rat} {x:Nat} {y:Nat} {z:Nat} {b7 b8 b9:Bool} {w:World} (h:zev W0 gk gc gm gp gs r1 r2 r3 x y z b7 b8 b9 w) (z':Nat) (hf:za w z' r3):zev W0 gk gc gm gp gs r1 r2 r3 x y z' b7 b8 true w :=
 { mem:=h.mem,f7:=h.f7,f8:=h.f8,f9:=fun _=>hf }
def zjs (i:Nat):Nat:=match i with
 | 0=>28
 | 1=>29
 | 2=>30
 | 3=>31
 | 4=>32
 | 5=>33
 | 6=>34
 | 7=>35
 | 8=>36
 | 9=>37
 | _=>7
def zrn (i:Nat):Bool:=match i with
 | _=>true
def qui (gk:Nat) (gc:Nat) (gm:Nat) (gp:Nat) (gs:Nat) (r1:Rat) (r2:Rat) (r3:Rat) (x:Nat) (y:Nat) (z:Nat) (i:Nat):Value:=match i with
 | 0=>.pointer (some ⟨gs,0,none⟩)
 | 1=>.pointer (some ⟨gk,0,none⟩)
 | 2=>.pointer (some ⟨gc,0,none⟩)
 | 3=>.pointer (some ⟨gk,1,none⟩)
 | 4=>.pointer (some ⟨gm,0,none⟩)
 | 5=>.pointer (some ⟨gk,1,none⟩)
 | 6=>.pointer (some ⟨gm,0,none⟩)
 | 7=>.pointer (some ⟨x,0,none⟩)
 | 8=>.pointer (some ⟨y,0,none⟩)
 | 9=>.pointer (some ⟨z,0,none⟩)
 | _=>.pointer (some ⟨z,0,none⟩)
theorem zrm:zab zgj [(2,1),(4,3),(6,5),(7,4),(7,6),(8,2),(8,7),(9,0),(9,8),(10,0),(10,1),(10,2),(10,3),(10,4),(10,5),(10,6),(10,7),(10,8),(10,9)]=true:=by kernel_rfl
theorem qhe:∀ i j,i<11→j<11→zrn i=true→zrn j=true→zjs i=zjs j→i=j:=fun i j hi hj=>(by decide:∀ i,i<11→∀ j,j<11→zrn i=true→zrn j=true→zjs i=zjs j→i=j) i hi j hj
theorem zru (id:Nat) (Q:Exit→Act→World→Prop) (base:Act) (W0:World) (gk:Nat) (gc:Nat) (gm:Nat) (gp:Nat) (gs:Nat) (r1:Rat) (r2:Rat) (r3:Rat) (hs:37<base.tmps.size) (e7:base.eval (.tmp 7)=.pointer (some ⟨gs,0,none⟩)) (e10:base.eval (.tmp 10)=.pointer (some ⟨gk,0,none⟩))
  (q0:W0.cell? ⟨gk,0,none⟩=some (.pointer (some ⟨gc,0,none⟩))) (q1:W0.cell? ⟨gk,1,none⟩=some (.pointer (some ⟨gm,0,none⟩))) (q2:W0.cell? ⟨gk,2,none⟩=some (.pointer (some ⟨gp,0,none⟩))) (MA:∀ w,But [] W0 w→Calls prog 42 #[.pointer (some ⟨gm,0,none⟩),.pointer (some ⟨gm,0,none⟩)] w fun e w'=>∃ b,e=.returned (.pointer (some ⟨b,0,none⟩))∧za w' b r1∧But [] w w') (MB:∀ w x,But [] W0 w→za w x r1→Calls prog 42 #[.pointer (some ⟨gc,0,none⟩),.pointer (some ⟨x,0,none⟩)] w fun e w'=>∃ b,e=.returned (.pointer (some ⟨b,0,none⟩))∧za w' b r2∧But [] w w') (AD:∀ w x,But [] W0 w→za w x r2→Calls prog 51 #[.pointer (some ⟨gs,0,none⟩),.pointer (some ⟨x,0,none⟩)] w fun e w'=>∃ b,e=.returned (.pointer (some ⟨b,0,none⟩))∧za w' b r3∧But [] w w')
  (hQ:∀ (x:Nat) (y:Nat) (z:Nat) w1,zev W0 gk gc gm gp gs r1 r2 r3 x y z true true true w1→Q .normal (bk base [(28,.pointer (some ⟨gs,0,none⟩)),(29,.pointer (some ⟨gk,0,none⟩)),(30,.pointer (some ⟨gc,0,none⟩)),(31,.pointer (some ⟨gk,1,none⟩)),(32,.pointer (some ⟨gm,0,none⟩)),(33,.pointer (some ⟨gk,1,none⟩)),(34,.pointer (some ⟨gm,0,none⟩)),(35,.pointer (some ⟨x,0,none⟩)),(36,.pointer (some ⟨y,0,none⟩)),(37,.pointer (some ⟨z,0,none⟩)),(7,.pointer (some ⟨z,0,none⟩))]) w1) :
  (Code.region id zgj true).wp prog Q base W0:=by
 have hT:∀ i,i<11→zrn i=true→zjs i<base.tmps.size:=fun i hi _=>by
  have h:zjs i≤37:=by revert i;decide
  omega
 refine zay (by kernel_rfl) (xu (by kernel_rfl)) (zaw (by kernel_rfl)) (fun (N:(Nat) × (Nat) × (Nat)) d w=>zev W0 gk gc gm gp gs r1 r2 r3 N.1 N.2.1 N.2.2 (d 7) (d 8) (d 9) w) (fun N=>qui gk gc gm gp gs r1 r2 r3 N.1 N.2.1 N.2.2) zjs zrn 11 (by kernel_rfl) qhe hT (0,0,0) { mem:=(But.refl _ _).drew,f7:=fun h=>by simp at h,f8:=fun h=>by simp at h,f9:=fun h=>by simp at h } ?_ ?_
 ·intro N d i o a w K hi ho hdi hcl hH he hdep hK
  have hD:=zco zrm ho (fun j=>d j=true∧(zrn j=true→a.eval (.tmp (zjs j))=qui gk gc gm gp gs r1 r2 r3 N.1 N.2.1 N.2.2 j)) hdep
  have e10':=(he 10 (fun j hj _ _=>(by decide:∀ j,j<11→(10:Nat)≠zjs j) j hj)).trans e10
  have:i=0∨i=1∨i=2∨i=3∨i=4∨i=5∨i=6∨i=7∨i=8∨i=9∨i=10:=by omega
  rcases this with rfl|rfl|rfl|rfl|rfl|rfl|rfl|rfl|rfl|rfl|rfl
  ·obtain rfl:=so (show zgj[0]? =some qut from rfl) ho
   have e7':=(he 7 (fun j hj _ hdj e=>by
    by_cases hj2:j=10
    ·subst hj2;exact absurd ((hcl.not zrm (i:=10) (j:=0) (by simp) hdi).symm.trans hdj) (by simp)
    ·exact absurd e ((by decide:∀ j,j<11→j≠10→(7:Nat)≠zjs j) j hj hj2))).trans e7
   exact an (bz a w _ _ _ _ _ _ _ e7') (hK N _ _ (fun _=>rfl) (fun _ _ _ _=>rfl) hH)
  ·obtain rfl:=so (show zgj[1]? =some qus from rfl) ho
   exact an (qff a w _ _ _ _ _ _ gk (0) (0) rfl e10') (hK N _ _ (fun _=>rfl) (fun _ _ _ _=>rfl) hH)
  ·obtain rfl:=so (show zgj[2]? =some qur from rfl) ho
   have hP:=hH
   have hW:=hP.mem
   exact an (zld a w _ _ _ _ _ _ gk (0) _ ((hD 1 (by simp)).2 rfl) (hW.ag q0 (by simp))) (hK N _ _ (fun _=>rfl) (fun _ _ _ _=>rfl) hH)
  ·obtain rfl:=so (show zgj[3]? =some quq from rfl) ho
   exact an (qfe a w _ _ _ _ _ _ gk (0) (1) rfl e10') (hK N _ _ (fun _=>rfl) (fun _ _ _ _=>rfl) hH)
  ·obtain rfl:=so (show zgj[4]? =some qup from rfl) ho
   have hP:=hH
   have hW:=hP.mem
   exact an (zld a w _ _ _ _ _ _ gk (1) _ ((hD 3 (by simp)).2 rfl) (hW.ag q1 (by simp))) (hK N _ _ (fun _=>rfl) (fun _ _ _ _=>rfl) hH)
  ·obtain rfl:=so (show zgj[5]? =some qun from rfl) ho
   exact an (qfe a w _ _ _ _ _ _ gk (0) (1) rfl e10') (hK N _ _ (fun _=>rfl) (fun _ _ _ _=>rfl) hH)
  ·obtain rfl:=so (show zgj[6]? =some qum from rfl) ho
   have hP:=hH
   have hW:=hP.mem
   exact an (zld a w _ _ _ _ _ _ gk (1) _ ((hD 5 (by simp)).2 rfl) (hW.ag q1 (by simp))) (hK N _ _ (fun _=>rfl) (fun _ _ _ _=>rfl) hH)
  ·obtain rfl:=so (show zgj[7]? =some qul from rfl) ho
   have hP:=hH
   have hW:=hP.mem
   exact az (zjk a w _ _ _ _ _ _ _ _ _ ((hD 4 (by simp)).2 rfl) ((hD 6 (by simp)).2 rfl)) (R:=fun w' u=>∃ v,u=.pointer (some ⟨v,0,none⟩)∧(za w' v r1)∧But [] w w') ((MA w hW).mono fun e w' ⟨v,he,hf,hb⟩=>⟨_,he,v,rfl,hf,hb⟩) (fun u w' ⟨v,hu,hf,hb⟩=>hK (v,N.2.1,N.2.2) _ _ (fun _=>hu) (fun j hj _ hdj=>by
    have:j=0∨j=1∨j=2∨j=3∨j=4∨j=5∨j=6∨j=7∨j=8∨j=9∨j=10:=by omega
    rcases this with rfl|rfl|rfl|rfl|rfl|rfl|rfl|rfl|rfl|rfl|rfl <;> first|rfl | exact absurd (hdi.symm.trans hdj) (by simp)) ((hP.but hb).s7 v hf))
  ·obtain rfl:=so (show zgj[8]? =some quk from rfl) ho
   have hP:=hH
   have hW:=hP.mem
   have t7:d 7=true:=(hD 7 (by simp)).1
   exact az (zjk a w _ _ _ _ _ _ _ _ _ ((hD 2 (by simp)).2 rfl) ((hD 7 (by simp)).2 rfl)) (R:=fun w' u=>∃ v,u=.pointer (some ⟨v,0,none⟩)∧(za w' v r2)∧But [] w w') ((MB w N.1 hW (hP.f7 t7)).mono fun e w' ⟨v,he,hf,hb⟩=>⟨_,he,v,rfl,hf,hb⟩) (fun u w' ⟨v,hu,hf,hb⟩=>hK (N.1,v,N.2.2) _ _ (fun _=>hu) (fun j hj _ hdj=>by
    have:j=0∨j=1∨j=2∨j=3∨j=4∨j=5∨j=6∨j=7∨j=8∨j=9∨j=10:=by omega
    rcases this with rfl|rfl|rfl|rfl|rfl|rfl|rfl|rfl|rfl|rfl|rfl <;> first|rfl | exact absurd (hdi.symm.trans hdj) (by simp)) ((hP.but hb).s8 v hf))
  ·obtain rfl:=so (show zgj[9]? =some quj from rfl) ho
   have hP:=hH
   have hW:=hP.mem
   have t8:d 8=true:=(hD 8 (by simp)).1
   exact az (zvv a w _ _ _ _ _ _ _ _ _ ((hD 0 (by simp)).2 rfl) ((hD 8 (by simp)).2 rfl)) (R:=fun w' u=>∃ v,u=.pointer (some ⟨v,0,none⟩)∧(za w' v r3)∧But [] w w') ((AD w N.2.1 hW (hP.f8 t8)).mono fun e w' ⟨v,he,hf,hb⟩=>⟨_,he,v,rfl,hf,hb⟩) (fun u w' ⟨v,hu,hf,hb⟩=>hK (N.1,N.2.1,v) _ _ (fun _=>hu) (fun j hj _ hdj=>by
    have:j=0∨j=1∨j=2∨j=3∨j=4∨j=5∨j=6∨j=7∨j=8∨j=9∨j=10:=by omega
    rcases this with rfl|rfl|rfl|rfl|rfl|rfl|rfl|rfl|rfl|rfl|rfl <;> first|rfl | exact absurd (hdi.symm.trans hdj) (by simp) | exact absurd ((hcl.not zrm (i:=10) (j:=9) (by simp) hdi).symm.trans hdj) (by simp)) ((hP.but hb).s9 v hf))
  ·obtain rfl:=so (show zgj[10]? =some qna from rfl) ho
   exact an (zbr a w _ _ _ _ _ _ _ ((hD 9 (by simp)).2 rfl)) (hK N _ _ (fun _=>rfl) (fun _ _ _ _=>rfl) hH)
 ·intro N d w hd hH
  have hP:zev W0 gk gc gm gp gs r1 r2 r3 N.1 N.2.1 N.2.2 (d 7) (d 8) (d 9) w:=hH
  rw[hd 7 (by omega),hd 8 (by omega),hd 9 (by omega)] at hP
  exact hQ N.1 N.2.1 N.2.2 w hP
theorem qqk (a:Act) (w:World) (d t:Nat) (u:TypeId) (ps:String) (ed:Array Edge) (gd:Option (Nat × Bool)) (b o o':Nat) (ho:o+2=o') (h1:a.eval (.tmp t)=.pointer (some ⟨b,o,none⟩)) :
  (execOp a.eval { dst:=some d,op:=Op.fieldAddr 47 (.tmp t) 2,type:=u,pos:=ps,after:=ed,guard:=gd }).run prog w=.ok (.value (.pointer (some ⟨b,o',none⟩))) w:=by
 subst ho
 unfold execOp
 simp only[h1]
 go_simp
theorem qqj (a:Act) (w:World) (d t0:Nat) (u:TypeId) (ps:String) (ed:Array Edge) (gd:Option (Nat × Bool)) (z0:Value) (h0:a.eval (.tmp t0)=z0) :
  (execOp a.eval { dst:=some d,op:=Op.call { callee:=Callee.value (Operand.func 16),args:=#[Operand.tmp t0],argTypes:=#[3] },type:=u,pos:=ps,after:=ed,guard:=gd }).run prog w=.ok (.enter 16 #[z0]) w:=by
 unfold execOp
 go_simp
 rw[← h0]
 simp[Act.eval]
theorem qqi (a:Act) (w:World) (d t0 t1:Nat) (u:TypeId) (ps:String) (ed:Array Edge) (gd:Option (Nat × Bool)) (z0 z1:Value) (h0:a.eval (.tmp t0)=z0) (h1:a.eval (.tmp t1)=z1) :
  (execOp a.eval { dst:=some d,op:=Op.call { callee:=Callee.value (Operand.func 59),args:=#[Operand.tmp t0,Operand.tmp t1],argTypes:=#[37,37] },type:=u,pos:=ps,after:=ed,guard:=gd }).run prog w=.ok (.enter 59 #[z0,z1]) w:=by
 unfold execOp
 go_simp
 rw[← h0,← h1]
 simp[Act.eval]
def quh:Oper:=⟨some 28,.move (.tmp 3),37, "risk.go:185",#[],none⟩
def qug:Oper:=⟨some 29,.move (.tmp 3),37, "risk.go:185",#[],none⟩
def quf:Oper:=⟨some 30,.call { callee:=.value (.func 42),args:=#[.tmp 28,.tmp 29],argTypes:=#[37,37] },37, "risk.go:185",#[⟨0,.data⟩,⟨1,.data⟩],none⟩
def que:Oper:=⟨some 31,.fieldAddr 47 (.tmp 11) 2,0, "risk.go:185",#[],none⟩
def qud:Oper:=⟨some 32,.load 37 (.tmp 31),37, "risk.go:185",#[⟨3,.data⟩],none⟩
def quc:Oper:=⟨some 33,.call { callee:=.value (.func 42),args:=#[.tmp 30,.tmp 32],argTypes:=#[37,37] },37, "risk.go:185",#[⟨2,.data⟩,⟨4,.data⟩,⟨2,.chain⟩],none⟩
def qub:Oper:=⟨some 34,.move (.tmp 1),3, "risk.go:185",#[],none⟩
def qua:Oper:=⟨some 35,.call { callee:=.value (.func 16),args:=#[.tmp 34],argTypes:=#[3] },37, "risk.go:185",#[⟨6,.data⟩,⟨5,.chain⟩],none⟩
def qtz:Oper:=⟨some 36,.call { callee:=.value (.func 59),args:=#[.tmp 33,.tmp 35],argTypes:=#[37,37] },37, "risk.go:185",#[⟨5,.data⟩,⟨7,.data⟩,⟨7,.chain⟩],none⟩
def qty:Oper:=⟨some 13,.assign (.tmp 36),37, "risk.go:185",#[⟨8,.data⟩,⟨8,.chain⟩,⟨0,.phase⟩,⟨1,.phase⟩,⟨2,.phase⟩,⟨3,.phase⟩,⟨4,.phase⟩,⟨5,.phase⟩,⟨6,.phase⟩,⟨7,.phase⟩,⟨8,.phase⟩],none⟩
def zhr:Array Oper:=#[quh,qug,quf,que,qud,quc,qub,qua,qtz,qty]
structure zcg (W0:World) (gk:Nat) (gc:Nat) (gm:Nat) (gp:Nat) (go:Nat) (yr:Int) (r1:Rat) (r2:Rat) (r3:Rat) (r4:Rat) (x:Nat) (y:Nat) (z:Nat) (u:Nat) (b2:Bool) (b5:Bool) (b7:Bool) (b8:Bool) (w:World):Prop where
 mem:But [] W0 w
 f2:b2=true→za w x r1
 f5:b5=true→za w y r2
 f7:b7=true→za w z r3
 f8:b8=true→za w u r4
theorem zcg.but {W0:World} {gk:Nat} {gc:Nat} {gm:Nat} {gp:Nat} {go:Nat} {yr:Int} {r1:Rat} {r2:Rat} {r3:Rat} {r4:Rat} {x:Nat} {y:Nat} {z:Nat} {u:Nat} {b2 b5 b7 b8:Bool} {w w':World} (h:zcg W0 gk gc gm gp go yr r1 r2 r3 r4 x y z u b2 b5 b7 b8 w) (hb:But [] w w'):zcg W0 gk gc gm gp go yr r1 r2 r3 r4 x y z u b2 b5 b7 b8 w' :=
 { mem:=h.mem.trans' hb,f2:=fun e=>(h.f2 e).but hb,f5:=fun e=>(h.f5 e).but hb,f7:=fun e=>(h.f7 e).but hb,f8:=fun e=>(h.f8 e).but hb }
theorem zcg.s2 {W0:World} {gk:Nat} {gc:Nat} {gm:Nat} {gp:Nat} {go:Nat} {yr:Int} {r1:Rat} {r2:Rat} {r3:Rat} {r4:Rat} {x:Nat} {y:Nat} {z:Nat} {u:Nat} {b2 b5 b7 b8:Bool} {w:World} (h:zcg W0 gk gc gm gp go yr r1 r2 r3 r4 x y z u b2 b5 b7 b8 w) (x':Nat) (hf:za w x' r1):zcg W0 gk gc gm gp go yr r1 r2 r3 r4 x' y z u true b5 b7 b8 w :=
 { mem:=h.mem,f2:=fun _=>hf,f5:=h.f5,f7:=h.f7,f8:=h.f8 }
theorem zcg.s5 {W0:World} {gk:Nat} {gc:Nat} {gm:Nat} {gp:Nat} {go:Nat} {yr:Int} {r1:Rat} {r2:Rat} {r3:Rat} {r4:Rat} {x:Nat} {y:Nat} {z:Nat} {u:Nat} {b2 b5 b7 b8:Bool} {w:World} (h:zcg W0 gk gc gm gp go yr r1 r2 r3 r4 x y z u b2 b5 b7 b8 w) (y':Nat) (hf:za w y' r2):zcg W0 gk gc gm gp go yr r1 r2 r3 r4 x y' z u b2 true b7 b8 w :=
 { mem:=h.mem,f2:=h.f2,f5:=fun _=>hf,f7:=h.f7,f8:=h.f8 }
theorem zcg.s7 {W0:World} {gk:Nat} {gc:Nat} {gm:Nat} {gp:Nat} {go:Nat} {yr:Int} {r1:Rat} {r2:Rat} {r3:Rat} {r4:Rat} {x:Nat} {y:Nat} {z:Nat} {u:Nat} {b2 b5 b7 b8:Bool} {w:World} (h:zcg W0 gk gc gm gp go yr r1 r2 r3 r4 x y z u b2 b5 b7 b8 w) (z':Nat) (hf:za w z' r3):zcg W0 gk gc gm gp go yr r1 r2 r3 r4 x y z' u b2 b5 true b8 w :=
 { mem:=h.mem,f2:=h.f2,f5:=h.f5,f7:=fun _=>hf,f8:=h.f8 }
theorem zcg.s8 {W0:World} {gk:Nat} {gc:Nat} {gm:Nat} {gp:Nat} {go:Nat} {yr:Int} {r1:Rat} {r2:Rat} {r3:Rat} {r4:Rat} {x:Nat} {y:Nat} {z:Nat} {u:Nat} {b2 b5 b7 b8:Bool} {w:World} (h:zcg W0 gk gc gm gp go yr r1 r2 r3 r4 x y z u b2 b5 b7 b8 w) (u':Nat) (hf:za w u' r4):zcg W0 gk gc gm gp go yr r1 r2 r3 r4 x y z u' b2 b5 b7 true w :=
 { mem:=h.mem,f2:=h.f2,f5:=h.f5,f7:=h.f7,f8:=fun _=>hf }
def zio (i:Nat):Nat:=match i with
 | 0=>28
 | 1=>29
 | 2=>30
 | 3=>31
 | 4=>32
 | 5=>33
 | 6=>34
 | 7=>35
 | 8=>36
 | _=>13
def zrl (i:Nat):Bool:=match i with
 | _=>true
def qtx (gk:Nat) (gc:Nat) (gm:Nat) (gp:Nat) (go:Nat) (yr:Int) (r1:Rat) (r2:Rat) (r3:Rat) (r4:Rat) (x:Nat) (y:Nat) (z:Nat) (u:Nat) (i:Nat):Value:=match i with
 | 0=>.pointer (some ⟨go,0,none⟩)
 | 1=>.pointer (some ⟨go,0,none⟩)
 | 2=>.pointer (some ⟨x,0,none⟩)
 | 3=>.pointer (some ⟨gk,2,none⟩)
 | 4=>.pointer (some ⟨gp,0,none⟩)
 | 5=>.pointer (some ⟨y,0,none⟩)
 | 6=>.int .i64 yr
 | 7=>.pointer (some ⟨z,0,none⟩)
 | 8=>.pointer (some ⟨u,0,none⟩)
 | _=>.pointer (some ⟨u,0,none⟩)
theorem zzj:zab zhr [(2,0),(2,1),(4,3),(5,2),(5,4),(7,5),(7,6),(8,5),(8,7),(9,0),(9,1),(9,2),(9,3),(9,4),(9,5),(9,6),(9,7),(9,8)]=true:=by kernel_rfl
theorem qhd:∀ i j,i<10→j<10→zrl i=true→zrl j=true→zio i=zio j→i=j:=fun i j hi hj=>(by decide:∀ i,i<10→∀ j,j<10→zrl i=true→zrl j=true→zio i=zio j→i=j) i hi j hj
theorem ztx (id:Nat) (Q:Exit→Act→World→Prop) (base:Act) (W0:World) (gk:Nat) (gc:Nat) (gm:Nat) (gp:Nat) (go:Nat) (yr:Int) (r1:Rat) (r2:Rat) (r3:Rat) (r4:Rat) (hs:36<base.tmps.size) (e1:base.eval (.tmp 1)=.int .i64 yr) (e3:base.eval (.tmp 3)=.pointer (some ⟨go,0,none⟩)) (e11:base.eval (.tmp 11)=.pointer (some ⟨gk,0,none⟩))
  (q0:W0.cell? ⟨gk,0,none⟩=some (.pointer (some ⟨gc,0,none⟩))) (q1:W0.cell? ⟨gk,1,none⟩=some (.pointer (some ⟨gm,0,none⟩))) (q2:W0.cell? ⟨gk,2,none⟩=some (.pointer (some ⟨gp,0,none⟩))) (MA:∀ w,But [] W0 w→Calls prog 42 #[.pointer (some ⟨go,0,none⟩),.pointer (some ⟨go,0,none⟩)] w fun e w'=>∃ b,e=.returned (.pointer (some ⟨b,0,none⟩))∧za w' b r1∧But [] w w') (MB:∀ w x,But [] W0 w→za w x r1→Calls prog 42 #[.pointer (some ⟨x,0,none⟩),.pointer (some ⟨gp,0,none⟩)] w fun e w'=>∃ b,e=.returned (.pointer (some ⟨b,0,none⟩))∧za w' b r2∧But [] w w') (IN:∀ w,Calls prog 16 #[.int .i64 yr] w fun e w'=>∃ b,e=.returned (.pointer (some ⟨b,0,none⟩))∧za w' b r3∧But [] w w') (DV:∀ w x y,But [] W0 w→za w x r2→za w y r3→Calls prog 59 #[.pointer (some ⟨x,0,none⟩),.pointer (some ⟨y,0,none⟩)] w fun e w'=>∃ b,e=.returned (.pointer (some ⟨b,0,none⟩))∧za w' b r4∧But [] w w')
  (hQ:∀ (x:Nat) (y:Nat) (z:Nat) (u:Nat) w1,zcg W0 gk gc gm gp go yr r1 r2 r3 r4 x y z u true true true true w1→Q .normal (bk base [(28,.pointer (some ⟨go,0,none⟩)),(29,.pointer (some ⟨go,0,none⟩)),(30,.pointer (some ⟨x,0,none⟩)),(31,.pointer (some ⟨gk,2,none⟩)),(32,.pointer (some ⟨gp,0,none⟩)),(33,.pointer (some ⟨y,0,none⟩)),(34,.int .i64 yr),(35,.pointer (some ⟨z,0,none⟩)),(36,.pointer (some ⟨u,0,none⟩)),(13,.pointer (some ⟨u,0,none⟩))]) w1) :
  (Code.region id zhr true).wp prog Q base W0:=by
 have hT:∀ i,i<10→zrl i=true→zio i<base.tmps.size:=fun i hi _=>by
  have h:zio i≤36:=by revert i;decide
  omega
 refine zay (by kernel_rfl) (xu (by kernel_rfl)) (zaw (by kernel_rfl)) (fun (N:(Nat) × (Nat) × (Nat) × (Nat)) d w=>zcg W0 gk gc gm gp go yr r1 r2 r3 r4 N.1 N.2.1 N.2.2.1 N.2.2.2 (d 2) (d 5) (d 7) (d 8) w) (fun N=>qtx gk gc gm gp go yr r1 r2 r3 r4 N.1 N.2.1 N.2.2.1 N.2.2.2) zio zrl 10 (by kernel_rfl) qhd hT (0,0,0,0) { mem:=(But.refl _ _).drew,f2:=fun h=>by simp at h,f5:=fun h=>by simp at h,f7:=fun h=>by simp at h,f8:=fun h=>by simp at h } ?_ ?_
 ·intro N d i o a w K hi ho hdi hcl hH he hdep hK
  have hD:=zco zzj ho (fun j=>d j=true∧(zrl j=true→a.eval (.tmp (zio j))=qtx gk gc gm gp go yr r1 r2 r3 r4 N.1 N.2.1 N.2.2.1 N.2.2.2 j)) hdep
  have e1':=(he 1 (fun j hj _ _=>(by decide:∀ j,j<10→(1:Nat)≠zio j) j hj)).trans e1
  have e3':=(he 3 (fun j hj _ _=>(by decide:∀ j,j<10→(3:Nat)≠zio j) j hj)).trans e3
  have e11':=(he 11 (fun j hj _ _=>(by decide:∀ j,j<10→(11:Nat)≠zio j) j hj)).trans e11
  have:i=0∨i=1∨i=2∨i=3∨i=4∨i=5∨i=6∨i=7∨i=8∨i=9:=by omega
  rcases this with rfl|rfl|rfl|rfl|rfl|rfl|rfl|rfl|rfl|rfl
  ·obtain rfl:=so (show zhr[0]? =some quh from rfl) ho
   exact an (bz a w _ _ _ _ _ _ _ e3') (hK N _ _ (fun _=>rfl) (fun _ _ _ _=>rfl) hH)
  ·obtain rfl:=so (show zhr[1]? =some qug from rfl) ho
   exact an (bz a w _ _ _ _ _ _ _ e3') (hK N _ _ (fun _=>rfl) (fun _ _ _ _=>rfl) hH)
  ·obtain rfl:=so (show zhr[2]? =some quf from rfl) ho
   have hP:=hH
   have hW:=hP.mem
   exact az (zjk a w _ _ _ _ _ _ _ _ _ ((hD 0 (by simp)).2 rfl) ((hD 1 (by simp)).2 rfl)) (R:=fun w' u=>∃ v,u=.pointer (some ⟨v,0,none⟩)∧(za w' v r1)∧But [] w w') ((MA w hW).mono fun e w' ⟨v,he,hf,hb⟩=>⟨_,he,v,rfl,hf,hb⟩) (fun u w' ⟨v,hu,hf,hb⟩=>hK (v,N.2.1,N.2.2.1,N.2.2.2) _ _ (fun _=>hu) (fun j hj _ hdj=>by
    have:j=0∨j=1∨j=2∨j=3∨j=4∨j=5∨j=6∨j=7∨j=8∨j=9:=by omega
    rcases this with rfl|rfl|rfl|rfl|rfl|rfl|rfl|rfl|rfl|rfl <;> first|rfl | exact absurd (hdi.symm.trans hdj) (by simp)) ((hP.but hb).s2 v hf))
  ·obtain rfl:=so (show zhr[3]? =some que from rfl) ho
   exact an (qqk a w _ _ _ _ _ _ gk (0) (2) rfl e11') (hK N _ _ (fun _=>rfl) (fun _ _ _ _=>rfl) hH)
  ·obtain rfl:=so (show zhr[4]? =some qud from rfl) ho
   have hP:=hH
   have hW:=hP.mem
   exact an (zld a w _ _ _ _ _ _ gk (2) _ ((hD 3 (by simp)).2 rfl) (hW.ag q2 (by simp))) (hK N _ _ (fun _=>rfl) (fun _ _ _ _=>rfl) hH)
  ·obtain rfl:=so (show zhr[5]? =some quc from rfl) ho
   have hP:=hH
   have hW:=hP.mem
   have t2:d 2=true:=(hD 2 (by simp)).1
   exact az (zjk a w _ _ _ _ _ _ _ _ _ ((hD 2 (by simp)).2 rfl) ((hD 4 (by simp)).2 rfl)) (R:=fun w' u=>∃ v,u=.pointer (some ⟨v,0,none⟩)∧(za w' v r2)∧But [] w w') ((MB w N.1 hW (hP.f2 t2)).mono fun e w' ⟨v,he,hf,hb⟩=>⟨_,he,v,rfl,hf,hb⟩) (fun u w' ⟨v,hu,hf,hb⟩=>hK (N.1,v,N.2.2.1,N.2.2.2) _ _ (fun _=>hu) (fun j hj _ hdj=>by
    have:j=0∨j=1∨j=2∨j=3∨j=4∨j=5∨j=6∨j=7∨j=8∨j=9:=by omega
    rcases this with rfl|rfl|rfl|rfl|rfl|rfl|rfl|rfl|rfl|rfl <;> first|rfl | exact absurd (hdi.symm.trans hdj) (by simp)) ((hP.but hb).s5 v hf))
  ·obtain rfl:=so (show zhr[6]? =some qub from rfl) ho
   exact an (bz a w _ _ _ _ _ _ _ e1') (hK N _ _ (fun _=>rfl) (fun _ _ _ _=>rfl) hH)
  ·obtain rfl:=so (show zhr[7]? =some qua from rfl) ho
   have hP:=hH
   have hW:=hP.mem
   exact az (qqj a w _ _ _ _ _ _ _ ((hD 6 (by simp)).2 rfl)) (R:=fun w' u=>∃ v,u=.pointer (some ⟨v,0,none⟩)∧(za w' v r3)∧But [] w w') ((IN w).mono fun e w' ⟨v,he,hf,hb⟩=>⟨_,he,v,rfl,hf,hb⟩) (fun u w' ⟨v,hu,hf,hb⟩=>hK (N.1,N.2.1,v,N.2.2.2) _ _ (fun _=>hu) (fun j hj _ hdj=>by
    have:j=0∨j=1∨j=2∨j=3∨j=4∨j=5∨j=6∨j=7∨j=8∨j=9:=by omega
    rcases this with rfl|rfl|rfl|rfl|rfl|rfl|rfl|rfl|rfl|rfl <;> first|rfl | exact absurd (hdi.symm.trans hdj) (by simp)) ((hP.but hb).s7 v hf))
  ·obtain rfl:=so (show zhr[8]? =some qtz from rfl) ho
   have hP:=hH
   have hW:=hP.mem
   have t5:d 5=true:=(hD 5 (by simp)).1
   have t7:d 7=true:=(hD 7 (by simp)).1
   exact az (qqi a w _ _ _ _ _ _ _ _ _ ((hD 5 (by simp)).2 rfl) ((hD 7 (by simp)).2 rfl)) (R:=fun w' u=>∃ v,u=.pointer (some ⟨v,0,none⟩)∧(za w' v r4)∧But [] w w') ((DV w N.2.1 N.2.2.1 hW (hP.f5 t5) (hP.f7 t7)).mono fun e w' ⟨v,he,hf,hb⟩=>⟨_,he,v,rfl,hf,hb⟩) (fun u w' ⟨v,hu,hf,hb⟩=>hK (N.1,N.2.1,N.2.2.1,v) _ _ (fun _=>hu) (fun j hj _ hdj=>by
    have:j=0∨j=1∨j=2∨j=3∨j=4∨j=5∨j=6∨j=7∨j=8∨j=9:=by omega
    rcases this with rfl|rfl|rfl|rfl|rfl|rfl|rfl|rfl|rfl|rfl <;> first|rfl | exact absurd (hdi.symm.trans hdj) (by simp) | exact absurd ((hcl.not zzj (i:=9) (j:=8) (by simp) hdi).symm.trans hdj) (by simp)) ((hP.but hb).s8 v hf))
  ·obtain rfl:=so (show zhr[9]? =some qty from rfl) ho
   exact an (zbr a w _ _ _ _ _ _ _ ((hD 8 (by simp)).2 rfl)) (hK N _ _ (fun _=>rfl) (fun _ _ _ _=>rfl) hH)
 ·intro N d w hd hH
  have hP:zcg W0 gk gc gm gp go yr r1 r2 r3 r4 N.1 N.2.1 N.2.2.1 N.2.2.2 (d 2) (d 5) (d 7) (d 8) w:=hH
  rw[hd 2 (by omega),hd 5 (by omega),hd 7 (by omega),hd 8 (by omega)] at hP
  exact hQ N.1 N.2.1 N.2.2.1 N.2.2.2 w hP
def qtw:Oper:=⟨some 41,.move (.tmp 9),37, "risk.go:187",#[],none⟩
def qtv:Oper:=⟨some 42,.fieldAddr 47 (.tmp 11) 0,0, "risk.go:187",#[],none⟩
def qtu:Oper:=⟨some 43,.load 37 (.tmp 42),37, "risk.go:187",#[⟨1,.data⟩],none⟩
def qtt:Oper:=⟨some 44,.move (.tmp 13),37, "risk.go:187",#[],none⟩
def qts:Oper:=⟨some 45,.move (.tmp 14),37, "risk.go:187",#[],none⟩
def qtr:Oper:=⟨some 46,.move (.tmp 14),37, "risk.go:187",#[],none⟩
def qtq:Oper:=⟨some 47,.call { callee:=.value (.func 42),args:=#[.tmp 45,.tmp 46],argTypes:=#[37,37] },37, "risk.go:187",#[⟨4,.data⟩,⟨5,.data⟩],none⟩
def qtp:Oper:=⟨some 48,.call { callee:=.value (.func 51),args:=#[.tmp 44,.tmp 47],argTypes:=#[37,37] },37, "risk.go:187",#[⟨3,.data⟩,⟨6,.data⟩,⟨6,.chain⟩],none⟩
def qto:Oper:=⟨some 49,.call { callee:=.value (.func 42),args:=#[.tmp 43,.tmp 48],argTypes:=#[37,37] },37, "risk.go:187",#[⟨2,.data⟩,⟨7,.data⟩,⟨7,.chain⟩],none⟩
def qtn:Oper:=⟨some 50,.call { callee:=.value (.func 51),args:=#[.tmp 41,.tmp 49],argTypes:=#[37,37] },37, "risk.go:187",#[⟨0,.data⟩,⟨8,.data⟩,⟨8,.chain⟩],none⟩
def qmz:Oper:=⟨some 9,.assign (.tmp 50),37, "risk.go:187",#[⟨9,.data⟩,⟨9,.chain⟩,⟨0,.phase⟩,⟨1,.phase⟩,⟨2,.phase⟩,⟨3,.phase⟩,⟨4,.phase⟩,⟨5,.phase⟩,⟨6,.phase⟩,⟨7,.phase⟩,⟨8,.phase⟩,⟨9,.phase⟩],none⟩
def zgi:Array Oper:=#[qtw,qtv,qtu,qtt,qts,qtr,qtq,qtp,qto,qtn,qmz]
structure zcf (W0:World) (gk:Nat) (gc:Nat) (gm:Nat) (gp:Nat) (gs:Nat) (gv:Nat) (gd:Nat) (r1:Rat) (r2:Rat) (r3:Rat) (r4:Rat) (x:Nat) (y:Nat) (z:Nat) (u:Nat) (b6:Bool) (b7:Bool) (b8:Bool) (b9:Bool) (w:World):Prop where
 mem:But [] W0 w
 f6:b6=true→za w x r1
 f7:b7=true→za w y r2
 f8:b8=true→za w z r3
 f9:b9=true→za w u r4
theorem zcf.but {W0:World} {gk:Nat} {gc:Nat} {gm:Nat} {gp:Nat} {gs:Nat} {gv:Nat} {gd:Nat} {r1:Rat} {r2:Rat} {r3:Rat} {r4:Rat} {x:Nat} {y:Nat} {z:Nat} {u:Nat} {b6 b7 b8 b9:Bool} {w w':World} (h:zcf W0 gk gc gm gp gs gv gd r1 r2 r3 r4 x y z u b6 b7 b8 b9 w) (hb:But [] w w'):zcf W0 gk gc gm gp gs gv gd r1 r2 r3 r4 x y z u b6 b7 b8 b9 w' :=
 { mem:=h.mem.trans' hb,f6:=fun e=>(h.f6 e).but hb,f7:=fun e=>(h.f7 e).but hb,f8:=fun e=>(h.f8 e).but hb,f9:=fun e=>(h.f9 e).but hb }
theorem zcf.s6 {W0:World} {gk:Nat} {gc:Nat} {gm:Nat} {gp:Nat} {gs:Nat} {gv:Nat} {gd:Nat} {r1:Rat} {r2:Rat} {r3:Rat} {r4:Rat} {x:Nat} {y:Nat} {z:Nat} {u:Nat} {b6 b7 b8 b9:Bool} {w:World} (h:zcf W0 gk gc gm gp gs gv gd r1 r2 r3 r4 x y z u b6 b7 b8 b9 w) (x':Nat) (hf:za w x' r1):zcf W0 gk gc gm gp gs gv gd r1 r2 r3 r4 x' y z u true b7 b8 b9 w :=
 { mem:=h.mem,f6:=fun _=>hf,f7:=h.f7,f8:=h.f8,f9:=h.f9 }
theorem zcf.s7 {W0:World} {gk:Nat} {gc:Nat} {gm:Nat} {gp:Nat} {gs:Nat} {gv:Nat} {gd:Nat} {r1:Rat} {r2:Rat} {r3:Rat} {r4:Rat} {x:Nat} {y:Nat} {z:Nat} {u:Nat} {b6 b7 b8 b9:Bool} {w:World} (h:zcf W0 gk gc gm gp gs gv gd r1 r2 r3 r4 x y z u b6 b7 b8 b9 w) (y':Nat) (hf:za w y' r2):zcf W0 gk gc gm gp gs gv gd r1 r2 r3 r4 x y' z u b6 true b8 b9 w :=
 { mem:=h.mem,f6:=h.f6,f7:=fun _=>hf,f8:=h.f8,f9:=h.f9 }
theorem zcf.s8 {W0:World} {gk:Nat} {gc:Nat} {gm:Nat} {gp:Nat} {gs:Nat} {gv:Nat} {gd:Nat} {r1:Rat} {r2:Rat} {r3:Rat} {r4:Rat} {x:Nat} {y:Nat} {z:Nat} {u:Nat} {b6 b7 b8 b9:Bool} {w:World} (h:zcf W0 gk gc gm gp gs gv gd r1 r2 r3 r4 x y z u b6 b7 b8 b9 w) (z':Nat) (hf:za w z' r3):zcf W0 gk gc gm gp gs gv gd r1 r2 r3 r4 x y z' u b6 b7 true b9 w :=
 { mem:=h.mem,f6:=h.f6,f7:=h.f7,f8:=fun _=>hf,f9:=h.f9 }
theorem zcf.s9 {W0:World} {gk:Nat} {gc:Nat} {gm:Nat} {gp:Nat} {gs:Nat} {gv:Nat} {gd:Nat} {r1:Rat} {r2:Rat} {r3:Rat} {r4:Rat} {x:Nat} {y:Nat} {z:Nat} {u:Nat} {b6 b7 b8 b9:Bool} {w:World} (h:zcf W0 gk gc gm gp gs gv gd r1 r2 r3 r4 x y z u b6 b7 b8 b9 w) (u':Nat) (hf:za w u' r4):zcf W0 gk gc gm gp gs gv gd r1 r2 r3 r4 x y z u' b6 b7 b8 true w :=
 { mem:=h.mem,f6:=h.f6,f7:=h.f7,f8:=h.f8,f9:=fun _=>hf }
def zhq (i:Nat):Nat:=match i with
 | 0=>41
 | 1=>42
 | 2=>43
 | 3=>44
 | 4=>45
 | 5=>46
 | 6=>47
 | 7=>48
 | 8=>49
 | 9=>50
 | _=>9
def zrk (i:Nat):Bool:=match i with
 | _=>true
def qtm (gk:Nat) (gc:Nat) (gm:Nat) (gp:Nat) (gs:Nat) (gv:Nat) (gd:Nat) (r1:Rat) (r2:Rat) (r3:Rat) (r4:Rat) (x:Nat) (y:Nat) (z:Nat) (u:Nat) (i:Nat):Value:=match i with
 | 0=>.pointer (some ⟨gs,0,none⟩)
 | 1=>.pointer (some ⟨gk,0,none⟩)
 | 2=>.pointer (some ⟨gc,0,none⟩)
 | 3=>.pointer (some ⟨gv,0,none⟩)
 | 4=>.pointer (some ⟨gd,0,none⟩)
 | 5=>.pointer (some ⟨gd,0,none⟩)
 | 6=>.pointer (some ⟨x,0,none⟩)
 | 7=>.pointer (some ⟨y,0,none⟩)
 | 8=>.pointer (some ⟨z,0,none⟩)
 | 9=>.pointer (some ⟨u,0,none⟩)
 | _=>.pointer (some ⟨u,0,none⟩)
theorem zrj:zab zgi [(2,1),(6,4),(6,5),(7,3),(7,6),(8,2),(8,7),(9,0),(9,8),(10,0),(10,1),(10,2),(10,3),(10,4),(10,5),(10,6),(10,7),(10,8),(10,9)]=true:=by kernel_rfl
theorem qhc:∀ i j,i<11→j<11→zrk i=true→zrk j=true→zhq i=zhq j→i=j:=fun i j hi hj=>(by decide:∀ i,i<11→∀ j,j<11→zrk i=true→zrk j=true→zhq i=zhq j→i=j) i hi j hj
theorem ztw (id:Nat) (Q:Exit→Act→World→Prop) (base:Act) (W0:World) (gk:Nat) (gc:Nat) (gm:Nat) (gp:Nat) (gs:Nat) (gv:Nat) (gd:Nat) (r1:Rat) (r2:Rat) (r3:Rat) (r4:Rat) (hs:50<base.tmps.size) (e9:base.eval (.tmp 9)=.pointer (some ⟨gs,0,none⟩)) (e11:base.eval (.tmp 11)=.pointer (some ⟨gk,0,none⟩)) (e13:base.eval (.tmp 13)=.pointer (some ⟨gv,0,none⟩)) (e14:base.eval (.tmp 14)=.pointer (some ⟨gd,0,none⟩))
  (q0:W0.cell? ⟨gk,0,none⟩=some (.pointer (some ⟨gc,0,none⟩))) (q1:W0.cell? ⟨gk,1,none⟩=some (.pointer (some ⟨gm,0,none⟩))) (q2:W0.cell? ⟨gk,2,none⟩=some (.pointer (some ⟨gp,0,none⟩))) (MA:∀ w,But [] W0 w→Calls prog 42 #[.pointer (some ⟨gd,0,none⟩),.pointer (some ⟨gd,0,none⟩)] w fun e w'=>∃ b,e=.returned (.pointer (some ⟨b,0,none⟩))∧za w' b r1∧But [] w w') (AA:∀ w x,But [] W0 w→za w x r1→Calls prog 51 #[.pointer (some ⟨gv,0,none⟩),.pointer (some ⟨x,0,none⟩)] w fun e w'=>∃ b,e=.returned (.pointer (some ⟨b,0,none⟩))∧za w' b r2∧But [] w w') (MB:∀ w x,But [] W0 w→za w x r2→Calls prog 42 #[.pointer (some ⟨gc,0,none⟩),.pointer (some ⟨x,0,none⟩)] w fun e w'=>∃ b,e=.returned (.pointer (some ⟨b,0,none⟩))∧za w' b r3∧But [] w w') (AD:∀ w x,But [] W0 w→za w x r3→Calls prog 51 #[.pointer (some ⟨gs,0,none⟩),.pointer (some ⟨x,0,none⟩)] w fun e w'=>∃ b,e=.returned (.pointer (some ⟨b,0,none⟩))∧za w' b r4∧But [] w w')
  (hQ:∀ (x:Nat) (y:Nat) (z:Nat) (u:Nat) w1,zcf W0 gk gc gm gp gs gv gd r1 r2 r3 r4 x y z u true true true true w1→Q .normal (bk base [(41,.pointer (some ⟨gs,0,none⟩)),(42,.pointer (some ⟨gk,0,none⟩)),(43,.pointer (some ⟨gc,0,none⟩)),(44,.pointer (some ⟨gv,0,none⟩)),(45,.pointer (some ⟨gd,0,none⟩)),(46,.pointer (some ⟨gd,0,none⟩)),(47,.pointer (some ⟨x,0,none⟩)),(48,.pointer (some ⟨y,0,none⟩)),(49,.pointer (some ⟨z,0,none⟩)),(50,.pointer (some ⟨u,0,none⟩)),(9,.pointer (some ⟨u,0,none⟩))]) w1) :
  (Code.region id zgi true).wp prog Q base W0:=by
 have hT:∀ i,i<11→zrk i=true→zhq i<base.tmps.size:=fun i hi _=>by
  have h:zhq i≤50:=by revert i;decide
  omega
 refine zay (by kernel_rfl) (xu (by kernel_rfl)) (zaw (by kernel_rfl)) (fun (N:(Nat) × (Nat) × (Nat) × (Nat)) d w=>zcf W0 gk gc gm gp gs gv gd r1 r2 r3 r4 N.1 N.2.1 N.2.2.1 N.2.2.2 (d 6) (d 7) (d 8) (d 9) w) (fun N=>qtm gk gc gm gp gs gv gd r1 r2 r3 r4 N.1 N.2.1 N.2.2.1 N.2.2.2) zhq zrk 11 (by kernel_rfl) qhc hT (0,0,0,0) { mem:=(But.refl _ _).drew,f6:=fun h=>by simp at h,f7:=fun h=>by simp at h,f8:=fun h=>by simp at h,f9:=fun h=>by simp at h } ?_ ?_
 ·intro N d i o a w K hi ho hdi hcl hH he hdep hK
  have hD:=zco zrj ho (fun j=>d j=true∧(zrk j=true→a.eval (.tmp (zhq j))=qtm gk gc gm gp gs gv gd r1 r2 r3 r4 N.1 N.2.1 N.2.2.1 N.2.2.2 j)) hdep
  have e11':=(he 11 (fun j hj _ _=>(by decide:∀ j,j<11→(11:Nat)≠zhq j) j hj)).trans e11
  have e13':=(he 13 (fun j hj _ _=>(by decide:∀ j,j<11→(13:Nat)≠zhq j) j hj)).trans e13
  have e14':=(he 14 (fun j hj _ _=>(by decide:∀ j,j<11→(14:Nat)≠zhq j) j hj)).trans e14
  have:i=0∨i=1∨i=2∨i=3∨i=4∨i=5∨i=6∨i=7∨i=8∨i=9∨i=10:=by omega
  rcases this with rfl|rfl|rfl|rfl|rfl|rfl|rfl|rfl|rfl|rfl|rfl
  ·obtain rfl:=so (show zgi[0]? =some qtw from rfl) ho
   have e9':=(he 9 (fun j hj _ hdj e=>by
    by_cases hj2:j=10
    ·subst hj2;exact absurd ((hcl.not zrj (i:=10) (j:=0) (by simp) hdi).symm.trans hdj) (by simp)
    ·exact absurd e ((by decide:∀ j,j<11→j≠10→(9:Nat)≠zhq j) j hj hj2))).trans e9
   exact an (bz a w _ _ _ _ _ _ _ e9') (hK N _ _ (fun _=>rfl) (fun _ _ _ _=>rfl) hH)
  ·obtain rfl:=so (show zgi[1]? =some qtv from rfl) ho
   exact an (qff a w _ _ _ _ _ _ gk (0) (0) rfl e11') (hK N _ _ (fun _=>rfl) (fun _ _ _ _=>rfl) hH)
  ·obtain rfl:=so (show zgi[2]? =some qtu from rfl) ho
   have hP:=hH
   have hW:=hP.mem
   exact an (zld a w _ _ _ _ _ _ gk (0) _ ((hD 1 (by simp)).2 rfl) (hW.ag q0 (by simp))) (hK N _ _ (fun _=>rfl) (fun _ _ _ _=>rfl) hH)
  ·obtain rfl:=so (show zgi[3]? =some qtt from rfl) ho
   exact an (bz a w _ _ _ _ _ _ _ e13') (hK N _ _ (fun _=>rfl) (fun _ _ _ _=>rfl) hH)
  ·obtain rfl:=so (show zgi[4]? =some qts from rfl) ho
   exact an (bz a w _ _ _ _ _ _ _ e14') (hK N _ _ (fun _=>rfl) (fun _ _ _ _=>rfl) hH)
  ·obtain rfl:=so (show zgi[5]? =some qtr from rfl) ho
   exact an (bz a w _ _ _ _ _ _ _ e14') (hK N _ _ (fun _=>rfl) (fun _ _ _ _=>rfl) hH)
  ·obtain rfl:=so (show zgi[6]? =some qtq from rfl) ho
   have hP:=hH
   have hW:=hP.mem
   exact az (zjk a w _ _ _ _ _ _ _ _ _ ((hD 4 (by simp)).2 rfl) ((hD 5 (by simp)).2 rfl)) (R:=fun w' u=>∃ v,u=.pointer (some ⟨v,0,none⟩)∧(za w' v r1)∧But [] w w') ((MA w hW).mono fun e w' ⟨v,he,hf,hb⟩=>⟨_,he,v,rfl,hf,hb⟩) (fun u w' ⟨v,hu,hf,hb⟩=>hK (v,N.2.1,N.2.2.1,N.2.2.2) _ _ (fun _=>hu) (fun j hj _ hdj=>by
    have:j=0∨j=1∨j=2∨j=3∨j=4∨j=5∨j=6∨j=7∨j=8∨j=9∨j=10:=by omega
    rcases this with rfl|rfl|rfl|rfl|rfl|rfl|rfl|rfl|rfl|rfl|rfl <;> first|rfl | exact absurd (hdi.symm.trans hdj) (by simp)) ((hP.but hb).s6 v hf))
  ·obtain rfl:=so (show zgi[7]? =some qtp from rfl) ho
   have hP:=hH
   have hW:=hP.mem
   have t6:d 6=true:=(hD 6 (by simp)).1
   exact az (zvv a w _ _ _ _ _ _ _ _ _ ((hD 3 (by simp)).2 rfl) ((hD 6 (by simp)).2 rfl)) (R:=fun w' u=>∃ v,u=.pointer (some ⟨v,0,none⟩)∧(za w' v r2)∧But [] w w') ((AA w N.1 hW (hP.f6 t6)).mono fun e w' ⟨v,he,hf,hb⟩=>⟨_,he,v,rfl,hf,hb⟩) (fun u w' ⟨v,hu,hf,hb⟩=>hK (N.1,v,N.2.2.1,N.2.2.2) _ _ (fun _=>hu) (fun j hj _ hdj=>by
    have:j=0∨j=1∨j=2∨j=3∨j=4∨j=5∨j=6∨j=7∨j=8∨j=9∨j=10:=by omega
    rcases this with rfl|rfl|rfl|rfl|rfl|rfl|rfl|rfl|rfl|rfl|rfl <;> first|rfl | exact absurd (hdi.symm.trans hdj) (by simp)) ((hP.but hb).s7 v hf))
  ·obtain rfl:=so (show zgi[8]? =some qto from rfl) ho
   have hP:=hH
   have hW:=hP.mem
   have t7:d 7=true:=(hD 7 (by simp)).1
   exact az (zjk a w _ _ _ _ _ _ _ _ _ ((hD 2 (by simp)).2 rfl) ((hD 7 (by simp)).2 rfl)) (R:=fun w' u=>∃ v,u=.pointer (some ⟨v,0,none⟩)∧(za w' v r3)∧But [] w w') ((MB w N.2.1 hW (hP.f7 t7)).mono fun e w' ⟨v,he,hf,hb⟩=>⟨_,he,v,rfl,hf,hb⟩) (fun u w' ⟨v,hu,hf,hb⟩=>hK (N.1,N.2.1,v,N.2.2.2) _ _ (fun _=>hu) (fun j hj _ hdj=>by
    have:j=0∨j=1∨j=2∨j=3∨j=4∨j=5∨j=6∨j=7∨j=8∨j=9∨j=10:=by omega
    rcases this with rfl|rfl|rfl|rfl|rfl|rfl|rfl|rfl|rfl|rfl|rfl <;> first|rfl | exact absurd (hdi.symm.trans hdj) (by simp)) ((hP.but hb).s8 v hf))
  ·obtain rfl:=so (show zgi[9]? =some qtn from rfl) ho
   have hP:=hH
   have hW:=hP.mem
   have t8:d 8=true:=(hD 8 (by simp)).1
   exact az (zvv a w _ _ _ _ _ _ _ _ _ ((hD 0 (by simp)).2 rfl) ((hD 8 (by simp)).2 rfl)) (R:=fun w' u=>∃ v,u=.pointer (some ⟨v,0,none⟩)∧(za w' v r4)∧But [] w w') ((AD w N.2.2.1 hW (hP.f8 t8)).mono fun e w' ⟨v,he,hf,hb⟩=>⟨_,he,v,rfl,hf,hb⟩) (fun u w' ⟨v,hu,hf,hb⟩=>hK (N.1,N.2.1,N.2.2.1,v) _ _ (fun _=>hu) (fun j hj _ hdj=>by
    have:j=0∨j=1∨j=2∨j=3∨j=4∨j=5∨j=6∨j=7∨j=8∨j=9∨j=10:=by omega
    rcases this with rfl|rfl|rfl|rfl|rfl|rfl|rfl|rfl|rfl|rfl|rfl <;> first|rfl | exact absurd (hdi.symm.trans hdj) (by simp) | exact absurd ((hcl.not zrj (i:=10) (j:=9) (by simp) hdi).symm.trans hdj) (by simp)) ((hP.but hb).s9 v hf))
  ·obtain rfl:=so (show zgi[10]? =some qmz from rfl) ho
   exact an (zbr a w _ _ _ _ _ _ _ ((hD 9 (by simp)).2 rfl)) (hK N _ _ (fun _=>rfl) (fun _ _ _ _=>rfl) hH)
 ·intro N d w hd hH
  have hP:zcf W0 gk gc gm gp gs gv gd r1 r2 r3 r4 N.1 N.2.1 N.2.2.1 N.2.2.2 (d 6) (d 7) (d 8) (d 9) w:=hH
  rw[hd 6 (by omega),hd 7 (by omega),hd 8 (by omega),hd 9 (by omega)] at hP
  exact hQ N.1 N.2.1 N.2.2.1 N.2.2.2 w hP
end Go.Proofs.YtffghofheeleeaaGreatDoor
