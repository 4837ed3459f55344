/- A sum whose first number is a new one: i -/
import Derived.Test.YtollloafckcogaaGreatDoorKYHE
import Derived.Test.YtollloafckcogaaGreatDoorKYHSr
namespace Go.Proofs.YtollloafckcogaaGreatDoor
open Go.RowKit
set_option maxHeartbeats 8000000
set_option maxRecDepth 100000
set_option linter.unusedVariables false
def BlankAt (w:World) (b:Nat):Prop:=IntAt w b 0 0∧w.cell? ⟨b,2,none⟩=some (.bool false)∧w.cell? ⟨b,3,none⟩=some (.slice none 0 0)
theorem BlankAt.but {w w':World} {b:Nat} (h:BlankAt w b) (hb:But [] w w'):BlankAt w' b:=⟨h.1.but hb,hb.cell_some h.2.1 (by simp),hb.cell_some h.2.2 (by simp)⟩
theorem BlankAt.lt {w:World} {b:Nat} (h:BlankAt w b):b<w.heap.size:=h.1.lt
theorem blank_new (w:World) (t:TypeId):BlankAt (w.alloc (.cells #[.bool false,.slice none 0 0,.bool false,.slice none 0 0] t)) w.heap.size:=by
 refine ⟨⟨by simp,.slice none 0 0,by simp,?_⟩,by simp,by simp⟩
 have h0:wd 4294967296 (0:Int).natAbs=[]:=by rw [wd_nil_iff (by omega)];rfl
 rw [h0]
 exact ⟨none,0,rfl,Nat.le_refl _,fun i hi=>by simp at hi,fun b off e h1=>by simp at h1⟩
theorem den_blank (b:Nat) (w:World) (h:BlankAt w b) :
  Calls Tryz.prog 100 #[.pointer (some ⟨b,0,none⟩)] w fun e w'=>∃ q,e=.returned (.pointer (some ⟨q,0,none⟩))∧w.heap.size≤q∧But [] w w'∧IntAt w' q 0 1:=by
 obtain ⟨-,c2,c3⟩:=h
 go_enter Tryz.func100,Tryz.ntmps100
 go_wp2_with fail
 refine (newInt_any 1 _ (by omega) (by omega)).mono ?_
 rintro e w1 ⟨rfl,hb,hI,-⟩
 go_wp2
 go_ret
 exact ⟨_,rfl,Nat.le_refl _,hb,hI⟩
theorem intMul_newB (A b1 o1 b2 o2:Nat) (x y z:Int) (hz:x*y=z) (w P:World) (hs:Slot P A 0) (hw:But [] w P) (hA:w.heap.size≤A) (hx:IntAt P b1 o1 x) (hy:IntAt P b2 o2 y) (n1:A≠b1) (n2:A≠b2) (hlx:(wd 4294967296 x.natAbs).length<8388608) (hly:(wd 4294967296 y.natAbs).length<8388608) (hlz:(wd 4294967296 z.natAbs).length<8388608) :
  Calls Tryz.prog 102 #[.pointer (some ⟨A,0,none⟩),.pointer (some ⟨b1,o1,none⟩),.pointer (some ⟨b2,o2,none⟩)] P fun e W1=>e=.returned (.pointer (some ⟨A,0,none⟩))∧But [] w W1∧IntAt W1 A 0 z∧(∀ B,B≠A→Slot P B 0→Slot W1 B 0)∧(∀ b o z,b≠A→IntAt P b o z→IntAt W1 b o z)∧P.heap.size≤W1.heap.size:=by
 refine (intMul_any A 0 b1 o1 b2 o2 x y P hs n1 n2 hx hy (by omega) (by omega) (by rw [← Int.natAbs_mul,hz];omega)).mono ?_
 rintro e W1 ⟨rfl,w1,v,hb,hv,rfl⟩
 rw [hz] at hv ⊢
 have hs1:=hs.but hb (by simp)
 exact ⟨rfl,(hw.trans' hb).trans (put_but ..) (by simp;exact hA),put_int hs1 _ _ hv,fun B hB hS=>put_slot_other _ _ (hS.but hb (by simp)) (.inl hB),fun b o z' hB hI=>put_int_other hs1 _ _ (hI.but hb) (.inl hB),by rw [putI_size];exact hb.size⟩
theorem SumH.stay {W:World} {P Q R:Int} {b0 b1 b8:Nat} {a0 a1 a8 p q r z:Bool} {w w':World} (h:SumH W P Q R b0 b1 b8 a0 a1 a8 p q r z w) (hb:But [] w w'):SumH W P Q R b0 b1 b8 a0 a1 a8 p q r z w' :=
 ⟨h.but.trans' hb,fun e=>⟨(h.s0 e).1,Nat.lt_of_lt_of_le (h.s0 e).2.1 hb.size,fun k=>((h.s0 e).2.2 k).but hb (by simp)⟩,fun e=>⟨(h.s1 e).1,Nat.lt_of_lt_of_le (h.s1 e).2.1 hb.size,fun k=>((h.s1 e).2.2 k).but hb (by simp)⟩,fun e=>⟨(h.s8 e).1,Nat.lt_of_lt_of_le (h.s8 e).2.1 hb.size,fun k=>((h.s8 e).2.2 k).but hb (by simp)⟩,
  h.n01,h.n08,h.n18,fun e=>⟨(h.hp e).1,(h.hp e).2.but hb⟩,fun e=>⟨(h.hq e).1,(h.hq e).2.but hb⟩,fun e=>⟨(h.hr e).1,(h.hr e).2.but hb⟩,h.hz⟩
def addBV (xb yb:Nat) (N:Nat × Nat × Nat × Nat) (i:Nat):Value:=match i with
 | 0=>.pointer (some ⟨N.1,0,none⟩)
 | 1=>.pointer (some ⟨N.2.1,0,none⟩)
 | 2=>.pointer (some ⟨xb,0,none⟩)
 | 3=>.pointer (some ⟨xb,0,none⟩)
 | 4=>.pointer (some ⟨xb,0,none⟩)
 | 5=>.pointer (some ⟨yb,0,none⟩)
 | 6=>.pointer (some ⟨yb,2,none⟩)
 | 7=>.pointer (some ⟨N.2.1,0,none⟩)
 | 8=>.pointer (some ⟨N.2.2.1,0,none⟩)
 | 9=>.pointer (some ⟨yb,0,none⟩)
 | 10=>.pointer (some ⟨yb,0,none⟩)
 | 11=>.pointer (some ⟨yb,0,none⟩)
 | 12=>.pointer (some ⟨xb,0,none⟩)
 | 13=>.pointer (some ⟨N.2.2.2,0,none⟩)
 | 14=>.pointer (some ⟨N.2.2.1,0,none⟩)
 | 15=>.pointer (some ⟨N.1,0,none⟩)
 | _=>.pointer (some ⟨N.1,0,none⟩)
theorem adb_dep:depOps addOs [(3,2),(4,3),(6,5),(7,1),(7,4),(7,6),(10,9),(11,10),(13,7),(13,12),(14,8),(14,11),(14,13),(15,0),(15,7),(15,14),(16,0),(16,1),(16,2),(16,3),(16,4),(16,5),(16,6),(16,7),(16,8),(16,9),(16,10),(16,11),(16,12),(16,13),(16,14),(16,15)]=true:=by kernel_rfl
theorem adb_region (id:Nat) (Q:Exit→Act→World→Prop) (base:Act) (W0:World) (xb yb:Nat) (x y P Z R:Int) (nx ny:Nat) (hs:23<base.tmps.size) (e1:base.eval (.tmp 1)=.pointer (some ⟨xb,0,none⟩)) (e2:base.eval (.tmp 2)=.pointer (some ⟨yb,0,none⟩))
  (hx:BlankAt W0 xb) (hx0:x=0) (hnx1:(nx:Int)=1) (hy:RatAt W0 yb y (ny:Int)) (hny:0<ny) (hxl:(wd 4294967296 x.natAbs).length<8388608) (hyl:(wd 4294967296 y.natAbs).length<8388608) (hnxl:(wd 4294967296 nx).length<8388608) (hnyl:(wd 4294967296 ny).length<8388608) (hP:x*(ny:Int)=P) (hZ:y*(nx:Int)=Z) (hR:R=P+Z) (hPl:(wd 4294967296 P.natAbs).length<8388608) (hZl:(wd 4294967296 Z.natAbs).length<8388608) (hRl:(wd 4294967296 R.natAbs).length<8388608)
  (hQ:∀ w b0 b1 b8 bd,But [] W0 w→W0.heap.size≤b0→IntAt w b0 0 R→Q .normal (putted base [(8,.pointer (some ⟨b0,0,none⟩)),(9,.pointer (some ⟨b1,0,none⟩)),(10,.pointer (some ⟨xb,0,none⟩)),(11,.pointer (some ⟨xb,0,none⟩)),(12,.pointer (some ⟨xb,0,none⟩)),(13,.pointer (some ⟨yb,0,none⟩)),(14,.pointer (some ⟨yb,2,none⟩)),(15,.pointer (some ⟨b1,0,none⟩)),(16,.pointer (some ⟨b8,0,none⟩)),(17,.pointer (some ⟨yb,0,none⟩)),(18,.pointer (some ⟨yb,0,none⟩)),(19,.pointer (some ⟨yb,0,none⟩)),(20,.pointer (some ⟨xb,0,none⟩)),(21,.pointer (some ⟨bd,0,none⟩)),(22,.pointer (some ⟨b8,0,none⟩)),(23,.pointer (some ⟨b0,0,none⟩)),(7,.pointer (some ⟨b0,0,none⟩))]) w) :
  (Code.region id addOs true).wp Tryz.prog Q base W0:=by
 have hdr:∀ {w},But [] W0.drew w→But [] W0 w:=fun h=>(But.refl _ _).drew.trans' h
 have hT:∀ i,i<17→addOT i<base.tmps.size:=fun i hi=>by
  have h:addOT i≤23:=by revert i;decide
  omega
 have lx:=hx.lt
 have ly:=hy.lt
 refine region_names (by kernel_rfl) (low_of (by kernel_rfl)) (bare_of (by kernel_rfl)) (α:=Nat × Nat × Nat × Nat) (fun N d w=>SumH W0.drew P Z R N.1 N.2.1 N.2.2.1 (d 0) (d 1) (d 8) (d 7) (d 14) (d 15) (d 16) w∧(d 13=true→d 14=false→IntAt w N.2.2.2 0 (nx:Int)∧(d 8=true→N.2.2.2≠N.2.2.1))) (addBV xb yb) addOT 17 (by kernel_rfl) addOT_inj hT (0,0,0,0) ?_ ?_ ?_
 ·exact ⟨⟨But.refl _ _,by simp,by simp,by simp,by simp,by simp,by simp,by simp,by simp,by simp,by simp⟩,fun h=>by simp at h⟩
 ·rintro ⟨b0,b1,b8,bd⟩ d i o a w K hi ho hdi hCl hH he hdep hk
  have hH':SumH W0.drew P Z R b0 b1 b8 (d 0) (d 1) (d 8) (d 7) (d 14) (d 15) (d 16) w:=hH.1
  have hX:d 13=true→d 14=false→IntAt w bd 0 (nx:Int)∧(d 8=true→bd≠b8):=hH.2
  have hD:=dep_is (ps:=[(3,2),(4,3),(6,5),(7,1),(7,4),(7,6),(10,9),(11,10),(13,7),(13,12),(14,8),(14,11),(14,13),(15,0),(15,7),(15,14),(16,0),(16,1),(16,2),(16,3),(16,4),(16,5),(16,6),(16,7),(16,8),(16,9),(16,10),(16,11),(16,12),(16,13),(16,14),(16,15)]) (by kernel_rfl) ho (fun j=>d j=true∧a.eval (.tmp (addOT j))=addBV xb yb (b0,b1,b8,bd) j) hdep
  have e1':=(he 1 (fun j hj e=>absurd e.symm (by revert j;decide))).trans e1
  have e2':=(he 2 (fun j hj e=>absurd e.symm (by revert j;decide))).trans e2
  have hB:=hdr hH'.but
  have hlw:=hB.size
  have:i=0∨i=1∨i=2∨i=3∨i=4∨i=5∨i=6∨i=7∨i=8∨i=9∨i=10∨i=11∨i=12∨i=13∨i=14∨i=15∨i=16:=by omega
  rcases this with rfl | rfl | rfl | rfl | rfl | rfl | rfl | rfl | rfl | rfl | rfl | rfl | rfl | rfl | rfl | rfl | rfl
  ·obtain rfl:=Option.some.inj ((show addOs[0]? = some addO0 from rfl).symm.trans ho)
   rw [hdi] at hH'
   refine does_value (run_allocI a w _ _ _ _) (hk (w.heap.size,b1,b8,bd) _ _ rfl (fun j hj hdj=>?_) ⟨hH'.alloc0 _,fun h1 h2=>⟨(hX h1 h2).1.but ((But.refl _ _).alloc _),(hX h1 h2).2⟩⟩)
   have:j=0∨j=1∨j=2∨j=3∨j=4∨j=5∨j=6∨j=7∨j=8∨j=9∨j=10∨j=11∨j=12∨j=13∨j=14∨j=15∨j=16:=by omega
   rcases this with rfl | rfl | rfl | rfl | rfl | rfl | rfl | rfl | rfl | rfl | rfl | rfl | rfl | rfl | rfl | rfl | rfl
   all_goals first
    | rfl
    | (rw [hdi] at hdj;simp at hdj)
    | (exfalso;first | (have:=(hH'.hr hdj).1;simp at this) | (have:=(hH'.hr (hH'.hz hdj)).1;simp at this))
  ·obtain rfl:=Option.some.inj ((show addOs[1]? = some addO1 from rfl).symm.trans ho)
   rw [hdi] at hH'
   refine does_value (run_allocI a w _ _ _ _) (hk (b0,w.heap.size,b8,bd) _ _ rfl (fun j hj hdj=>?_) ⟨hH'.alloc1 _,fun h1 h2=>⟨(hX h1 h2).1.but ((But.refl _ _).alloc _),(hX h1 h2).2⟩⟩)
   have:j=0∨j=1∨j=2∨j=3∨j=4∨j=5∨j=6∨j=7∨j=8∨j=9∨j=10∨j=11∨j=12∨j=13∨j=14∨j=15∨j=16:=by omega
   rcases this with rfl | rfl | rfl | rfl | rfl | rfl | rfl | rfl | rfl | rfl | rfl | rfl | rfl | rfl | rfl | rfl | rfl
   all_goals first
    | rfl
    | (rw [hdi] at hdj;simp at hdj)
    | (exfalso;have:=(hH'.hp hdj).1;simp at this)
  ·obtain rfl:=Option.some.inj ((show addOs[2]? = some addO2 from rfl).symm.trans ho)
   exact does_value (run_moveP a w _ _ _ _ _ _ e1') (hk (b0,b1,b8,bd) _ _ rfl (fun _ _ _=>rfl) hH)
  ·obtain rfl:=Option.some.inj ((show addOs[3]? = some addO3 from rfl).symm.trans ho)
   exact does_value (run_nilP a w _ _ _ _ _ _ 0 (hD 2 (by simp)).2) (hk (b0,b1,b8,bd) _ _ rfl (fun _ _ _=>rfl) hH)
  ·obtain rfl:=Option.some.inj ((show addOs[4]? = some addO4 from rfl).symm.trans ho)
   exact does_value (run_fieldR a w _ _ _ _ _ _ (hD 3 (by simp)).2 (by omega)) (hk (b0,b1,b8,bd) _ _ rfl (fun _ _ _=>rfl) hH)
  ·obtain rfl:=Option.some.inj ((show addOs[5]? = some addO5 from rfl).symm.trans ho)
   exact does_value (run_moveP a w _ _ _ _ _ _ e2') (hk (b0,b1,b8,bd) _ _ rfl (fun _ _ _=>rfl) hH)
  ·obtain rfl:=Option.some.inj ((show addOs[6]? = some addO6 from rfl).symm.trans ho)
   refine does_enter (run_callDen a w _ _ _ _ _ _ (hD 5 (by simp)).2) (R:=fun w' v=>v=.pointer (some ⟨yb,2,none⟩)∧w'=w) ((den_any yb y ny w (hy.but hB) hny).mono (fun e w' h=>⟨_,h.1,rfl,h.2⟩)) ?_
   rintro v w' ⟨rfl,rfl⟩
   exact hk (b0,b1,b8,bd) _ _ rfl (fun _ _ _=>rfl) hH
  ·obtain rfl:=Option.some.inj ((show addOs[7]? = some addO7 from rfl).symm.trans ho)
   have hs1:=hH'.s1 (hD 1 (by simp)).1
   rw [hdi] at hs1
   refine does_enter (run_callMulI a w _ _ _ _ _ _ _ _ _ _ (hD 1 (by simp)).2 (hD 4 (by simp)).2 (hD 6 (by simp)).2) (R:=fun w' v=>v=.pointer (some ⟨b1,0,none⟩)∧But [] W0.drew w'∧IntAt w' b1 0 P∧(∀ B,B≠b1→Slot w B 0→Slot w' B 0)∧(∀ b o z',b≠b1→IntAt w b o z'→IntAt w' b o z')∧w.heap.size≤w'.heap.size) ((intMul_newU b1 xb 0 yb 2 x (ny:Int) P hP W0.drew w (hs1.2.2 rfl) hH'.but hs1.1 (by rw [hx0];exact hx.1) hy.drew.low hxl (by rw [Int.natAbs_natCast];exact hnyl) hPl).mono (fun e w' h=>⟨_,h.1,rfl,h.2⟩)) ?_
   rintro v w' ⟨rfl,k1,k2,k3,k4,k5⟩
   rw [hdi,(hD 1 (by simp)).1] at hH'
   refine hk (b0,b1,b8,bd) _ _ rfl (fun _ _ _=>rfl) ⟨?_,fun h1=>absurd ((hCl.not adb_dep (i:=13) (j:=7) (by simp) hdi).symm.trans h1) (by simp)⟩
   show SumH W0.drew P Z R b0 b1 b8 (d 0) (d 1) (d 8) true (d 14) (d 15) (d 16) w'
   rw [(hD 1 (by simp)).1]
   exact hH'.mulP k1 k2 k3 k4 k5
  ·obtain rfl:=Option.some.inj ((show addOs[8]? = some addO8 from rfl).symm.trans ho)
   rw [hdi] at hH'
   refine does_value (run_allocI a w _ _ _ _) (hk (b0,b1,w.heap.size,bd) _ _ rfl (fun j hj hdj=>?_) ⟨hH'.alloc8 _,fun h1 h2=>⟨(hX h1 h2).1.but ((But.refl _ _).alloc _),fun _=>Nat.ne_of_lt (hX h1 h2).1.lt⟩⟩)
   have:j=0∨j=1∨j=2∨j=3∨j=4∨j=5∨j=6∨j=7∨j=8∨j=9∨j=10∨j=11∨j=12∨j=13∨j=14∨j=15∨j=16:=by omega
   rcases this with rfl | rfl | rfl | rfl | rfl | rfl | rfl | rfl | rfl | rfl | rfl | rfl | rfl | rfl | rfl | rfl | rfl
   all_goals first
    | rfl
    | (rw [hdi] at hdj;simp at hdj)
    | (exfalso;have:=(hH'.hq hdj).1;simp at this)
  ·obtain rfl:=Option.some.inj ((show addOs[9]? = some addO9 from rfl).symm.trans ho)
   exact does_value (run_moveP a w _ _ _ _ _ _ e2') (hk (b0,b1,b8,bd) _ _ rfl (fun _ _ _=>rfl) hH)
  ·obtain rfl:=Option.some.inj ((show addOs[10]? = some addO10 from rfl).symm.trans ho)
   exact does_value (run_nilP a w _ _ _ _ _ _ 0 (hD 9 (by simp)).2) (hk (b0,b1,b8,bd) _ _ rfl (fun _ _ _=>rfl) hH)
  ·obtain rfl:=Option.some.inj ((show addOs[11]? = some addO11 from rfl).symm.trans ho)
   exact does_value (run_fieldR a w _ _ _ _ _ _ (hD 10 (by simp)).2 (by omega)) (hk (b0,b1,b8,bd) _ _ rfl (fun _ _ _=>rfl) hH)
  ·obtain rfl:=Option.some.inj ((show addOs[12]? = some addO12 from rfl).symm.trans ho)
   exact does_value (run_moveP a w _ _ _ _ _ _ e1') (hk (b0,b1,b8,bd) _ _ rfl (fun _ _ _=>rfl) hH)
  ·obtain rfl:=Option.some.inj ((show addOs[13]? = some addO13 from rfl).symm.trans ho)
   refine does_enter (run_callDen a w _ _ _ _ _ _ (hD 12 (by simp)).2) (R:=fun w' v=>∃ q,v=.pointer (some ⟨q,0,none⟩)∧w.heap.size≤q∧But [] w w'∧IntAt w' q 0 1) ((den_blank xb w (hx.but hB)).mono (fun e w' ⟨q,h1,h2,h3,h4⟩=>⟨_,h1,q,rfl,h2,h3,h4⟩)) ?_
   rintro v w' ⟨q,rfl,hq,hb,hI⟩
   refine hk (b0,b1,b8,q) _ _ rfl (fun j hj hdj=>?_) ⟨hH'.stay hb,fun _ _=>⟨by rw [hnx1];exact hI,fun h8=>Ne.symm (Nat.ne_of_lt (Nat.lt_of_lt_of_le (hH'.s8 h8).2.1 hq))⟩⟩
   have:j=0∨j=1∨j=2∨j=3∨j=4∨j=5∨j=6∨j=7∨j=8∨j=9∨j=10∨j=11∨j=12∨j=13∨j=14∨j=15∨j=16:=by omega
   rcases this with rfl | rfl | rfl | rfl | rfl | rfl | rfl | rfl | rfl | rfl | rfl | rfl | rfl | rfl | rfl | rfl | rfl
   all_goals first
    | rfl
    | (rw [hdi] at hdj;simp at hdj)
  ·obtain rfl:=Option.some.inj ((show addOs[14]? = some addO14 from rfl).symm.trans ho)
   have hs1:=hH'.s8 (hD 8 (by simp)).1
   rw [hdi] at hs1
   refine does_enter (run_callMulI a w _ _ _ _ _ _ _ _ _ _ (hD 8 (by simp)).2 (hD 11 (by simp)).2 (hD 13 (by simp)).2) (R:=fun w' v=>v=.pointer (some ⟨b8,0,none⟩)∧But [] W0.drew w'∧IntAt w' b8 0 Z∧(∀ B,B≠b8→Slot w B 0→Slot w' B 0)∧(∀ b o z',b≠b8→IntAt w b o z'→IntAt w' b o z')∧w.heap.size≤w'.heap.size) ((intMul_newB b8 yb 0 bd 0 y (nx:Int) Z hZ W0.drew w (hs1.2.2 rfl) hH'.but hs1.1 ((IntAt.drew hy.up).but hH'.but) (hX (hD 13 (by simp)).1 hdi).1 (Ne.symm (Nat.ne_of_lt (Nat.lt_of_lt_of_le ly hs1.1))) (Ne.symm ((hX (hD 13 (by simp)).1 hdi).2 (hD 8 (by simp)).1)) hyl (by rw [Int.natAbs_natCast];exact hnxl) hZl).mono (fun e w' h=>⟨_,h.1,rfl,h.2⟩)) ?_
   rintro v w' ⟨rfl,k1,k2,k3,k4,k5⟩
   rw [hdi,(hD 8 (by simp)).1] at hH'
   refine hk (b0,b1,b8,bd) _ _ rfl (fun _ _ _=>rfl) ⟨?_,fun _ h2=>absurd h2 (by rw [came_self];simp)⟩
   show SumH W0.drew P Z R b0 b1 b8 (d 0) (d 1) (d 8) (d 7) true (d 15) (d 16) w'
   rw [(hD 8 (by simp)).1]
   exact hH'.mulQ k1 k2 k3 k4 k5
  ·obtain rfl:=Option.some.inj ((show addOs[15]? = some addO15 from rfl).symm.trans ho)
   have d0:=(hD 0 (by simp)).1
   have hs1:=hH'.s0 d0
   rw [hdi] at hs1
   have hp7:=hH'.hp (hD 7 (by simp)).1
   have hq14:=hH'.hq (hD 14 (by simp)).1
   refine does_enter (run_callAddI a w _ _ _ _ _ _ _ _ _ _ (hD 0 (by simp)).2 (hD 7 (by simp)).2 (hD 14 (by simp)).2) (R:=fun w' v=>v=.pointer (some ⟨b0,0,none⟩)∧But [] W0.drew w'∧IntAt w' b0 0 R∧(∀ B,B≠b0→Slot w B 0→Slot w' B 0)∧(∀ b o z',b≠b0→IntAt w b o z'→IntAt w' b o z')∧w.heap.size≤w'.heap.size) ((intAddU_any b0 0 b1 0 b8 0 P Z R w (hs1.2.2 rfl) (hH'.n01 d0 hp7.1) (hH'.n08 d0 hq14.1) hp7.2 hq14.2 hPl hZl (by omega) hR).mono (fun e w' h=>by
    obtain ⟨h1,w1,v,h2,h3,rfl⟩:=h
    exact ⟨_,h1,rfl,intSum_new (hs1.2.2 rfl) hH'.but hs1.1 h2 h3⟩)) ?_
   rintro v w' ⟨rfl,k1,k2,k3,k4,k5⟩
   rw [hdi,d0] at hH'
   refine hk (b0,b1,b8,bd) _ _ rfl (fun _ _ _=>rfl) ⟨?_,fun _ h2=>absurd ((hD 14 (by simp)).1.symm.trans h2) (by simp)⟩
   show SumH W0.drew P Z R b0 b1 b8 (d 0) (d 1) (d 8) (d 7) (d 14) true (d 16) w'
   rw [d0]
   exact hH'.sumR k1 k2 k3 k4 k5
  ·obtain rfl:=Option.some.inj ((show addOs[16]? = some addO16 from rfl).symm.trans ho)
   have d15:=(hD 15 (by simp)).1
   rw [d15] at hH'
   refine does_value (run_assP a w _ _ _ _ _ _ (hD 15 (by simp)).2) (hk (b0,b1,b8,bd) _ _ rfl (fun _ _ _=>rfl) ⟨?_,fun _ h2=>absurd ((hD 14 (by simp)).1.symm.trans h2) (by simp)⟩)
   show SumH W0.drew P Z R b0 b1 b8 (d 0) (d 1) (d 8) (d 7) (d 14) (d 15) true w
   rw [d15]
   exact hH'.done
 ·rintro ⟨b0,b1,b8,bd⟩ d w hd hH
  have hH':SumH W0.drew P Z R b0 b1 b8 (d 0) (d 1) (d 8) (d 7) (d 14) (d 15) (d 16) w:=hH.1
  exact hQ w b0 b1 b8 bd (hdr hH'.but) (hH'.s0 (hd 0 (by omega))).1 (hH'.hr (hd 15 (by omega))).2
theorem ratAddB_any (zb xb yb:Nat) (x y:Int) (nx ny:Nat) (w:World) (hz0:Slot w zb 0) (hz2:Slot w zb 2) (hx:BlankAt w xb) (hx0:x=0) (hnx1:(nx:Int)=1) (hy:RatAt w yb y (ny:Int)) (hny:0<ny) (hxl:(wd 4294967296 x.natAbs).length<8388608) (hyl:(wd 4294967296 y.natAbs).length<8388608) (hnxl:(wd 4294967296 nx).length<8388608) (hnyl:(wd 4294967296 ny).length<8388608) (P Z R D:Int) (hP:x*(ny:Int)=P) (hZ:y*(nx:Int)=Z) (hR:R=P+Z) (hD:(nx:Int)*(ny:Int)=D) (hPl:(wd 4294967296 P.natAbs).length<8388608) (hZl:(wd 4294967296 Z.natAbs).length<8388608) (hRl:(wd 4294967296 R.natAbs).length<8388608) (hDl:(wd 4294967296 D.natAbs).length<8388608) (hD0:D≠0) (A B:Int) (eA:Hid (A=redN (if D<0 then -R else R) D.natAbs)) (eB:Hid (B=redD R D.natAbs)) :
  Calls Tryz.prog 104 #[.pointer (some ⟨zb,0,none⟩),.pointer (some ⟨xb,0,none⟩),.pointer (some ⟨yb,0,none⟩)] w fun e w'=>e=.returned (.pointer (some ⟨zb,0,none⟩))∧But [zb] w w'∧RatAt w' zb A B:=by
 have HX:=hide hx
 have HY:=hide hy
 have HZ0:=hide hz0
 have HZ2:=hide hz2
 have REG:=hide (fun (Q:Exit→Act→World→Prop) (base:Act) (hs:23<base.tmps.size) (e1:base.eval (.tmp 1)=.pointer (some ⟨xb,0,none⟩)) (e2:base.eval (.tmp 2)=.pointer (some ⟨yb,0,none⟩))=>adb_region 1 Q base w xb yb x y P Z R nx ny hs e1 e2 hx hx0 hnx1 hy hny hxl hyl hnxl hnyl hP hZ hR hPl hZl hRl)
 have DX:=hide (fun W (h:BlankAt W xb)=>den_blank xb W h)
 have DY:=hide (fun W (h:RatAt W yb y (ny:Int))=>den_any yb y ny W h hny)
 have MU:=hide (fun (A q:Nat) (w P:World) (hs:Slot P A 0) (hw:But [] w P) (hA:w.heap.size≤A) (hx:IntAt P q 0 1) (hy:RatAt P yb y (ny:Int)) (n1:A≠q) (n2:A≠yb)=>intMul_newB A q 0 yb 2 (nx:Int) (ny:Int) D hD w P hs hw hA (by rw [hnx1];exact hx) hy.low n1 n2 (by rw [Int.natAbs_natCast];exact hnxl) (by rw [Int.natAbs_natCast];exact hnyl) hDl)
 have SF:=hide (fun (b0 b1:Nat) (W:World) (h0:Slot W zb 0) (h2:Slot W zb 2) (ha:IntAt W b0 0 R) (hb:IntAt W b1 0 D)=>setFracU_any zb b0 0 b1 0 R D W h0 h2 ha hb hRl hDl hD0 A B eA eB)
 clear hx hy hz0 hz2 hny hx0 hnx1 hxl hyl hnxl hnyl hP hZ hR hD hPl hZl hRl hDl hD0 eA eB
 go_enter Tryz.func104,Tryz.ntmps104
 go_wp2_with fail
 refine unhide REG _ _ (by simp) (by simp [Act.eval]) (by simp [Act.eval]) ?_
 intro w1 b0 b1 b8 bd hb1 hb0 hI
 simp only [putted,List.foldl_cons,List.foldl_nil,Act.put,List.setIfInBounds_toArray,List.set_cons_zero,List.set_cons_succ]
 obtain ⟨W0,hW0⟩:∃ W0,W0=w1.alloc (.cells #[.bool false,.slice none 0 0] 90):=⟨_,rfl⟩
 have hs:=slot_new w1 90
 rw [← hW0] at hs
 have hbw:But [] w1 W0:=by rw [hW0];exact (But.refl _ _).alloc _
 have hb2:=hb1.trans' hbw
 have K0:=hide (And.intro hs (And.intro hbw (And.intro hb1 (And.intro hb0 hI))))
 have KX:=hide ((unhide HX).but hb2)
 have KY:=hide ((unhide HY).but hb2)
 have HW0:=hide hW0
 clear hW0 hs hbw hb1 hb0 hb2 hI
 obtain ⟨g,hg⟩:∃ g,g=w1.heap.size:=⟨_,rfl⟩
 go_wp2_with fail
 rw [← unhide HW0,← hg]
 rw [← hg] at K0
 have HG:=hide hg
 clear hg
 refine (unhide DX _ (unhide KX)).mono ?_
 rintro e w2 ⟨q,rfl,hq,hbq,hIq⟩
 have hlg:g<W0.heap.size:=(unhide K0).1.lt
 have KY2:=hide ((unhide KY).but hbq)
 have KQ:=hide (And.intro hIq (And.intro ((unhide K0).1.but hbq (by simp)) (And.intro ((unhide K0).2.1.trans' hbq) (Nat.ne_of_lt (Nat.lt_of_lt_of_le hlg hq)))))
 clear hq hbq hIq hlg
 go_wp2_with fail
 refine (unhide DY _ (unhide KY2)).mono ?_
 rintro e w3 ⟨rfl,hw⟩
 obtain rfl:=hw.symm
 clear hw
 go_wp2_with fail
 refine (unhide MU g q w1 w2 (unhide KQ).2.1 (unhide KQ).2.2.1 (Nat.le_of_eq (unhide HG).symm) (unhide KQ).1 (unhide KY2) (unhide KQ).2.2.2 (by
  have h1:=(unhide HY).lt
  have h2:=(unhide K0).2.2.1.size
  have h3:=unhide HG
  omega)).mono ?_
 rintro e w4 ⟨rfl,k1,k2,k3,k4,k5⟩
 have FIN:Hid (Slot w4 zb 0∧Slot w4 zb 2∧IntAt w4 b0 0 R∧IntAt w4 g 0 D∧But [] w w4):=by
  obtain ⟨hs,hbw,hb1,hb0,hI⟩:=unhide K0
  have hb3:=hb1.trans' k1
  exact ⟨(unhide HZ0).but hb3 (by simp),(unhide HZ2).but hb3 (by simp),hI.but k1,k2,hb3⟩
 clear k1 k2 k3 k4 k5 K0 KX KY KY2 KQ HW0 HG MU DX DY REG HX HY HZ0 HZ2
 go_wp2_with fail
 refine (unhide SF b0 g _ (unhide FIN).1 (unhide FIN).2.1 (unhide FIN).2.2.1 (unhide FIN).2.2.2.1).mono ?_
 rintro e w3 ⟨rfl,k1,k2⟩
 have F3:=hide (And.intro ((unhide FIN).2.2.2.2.of_nil.trans k1 (fun x hx=>.inl hx)) k2)
 clear k1 k2 FIN SF
 go_wp2
 go_ret
 exact ⟨rfl,(unhide F3).1,(unhide F3).2⟩
theorem refAdd_blank (xb yb:Nat) (f g:Rat) (w:World) (hf0:f=0) (hx:BlankAt w xb) (hy:RatIs w yb g) (lf:LenU f 2000000) (lg:LenU g 2000000) :
  Calls Tryz.prog 53 #[.pointer (some ⟨xb,0,none⟩),.pointer (some ⟨yb,0,none⟩)] w fun e w'=>∃ zb,e=.returned (.pointer (some ⟨zb,0,none⟩))∧But [] w w'∧RatIs w' zb (f+g)∧w.heap.size≤zb:=by
 have hfd:0<f.den:=Nat.pos_of_ne_zero f.den_nz
 have hgd:0<g.den:=Nat.pos_of_ne_zero g.den_nz
 have hQ0:(f.den:Int)*(g.den:Int)≠0:=Int.mul_ne_zero (by omega) (by omega)
 obtain ⟨e1,e2⟩:=red_rat (f.num*(g.den:Int)+g.num*(f.den:Int)) ((f.den:Int)*(g.den:Int)) hQ0 (f+g) (cross_addU f g)
 obtain ⟨W0,hW0⟩:∃ W0,W0=w.alloc (.cells #[.bool false,.slice none 0 0,.bool false,.slice none 0 0] 92):=⟨_,rfl⟩
 have hs:=ratSlots w 92
 have hbw:But [] w W0:=by rw [hW0];exact (But.refl _ _).alloc _
 rw [← hW0] at hs
 obtain ⟨lf1,lf2⟩:=lf
 obtain ⟨lg1,lg2⟩:=lg
 have d1:(wd 4294967296 ((f.den:Nat):Int).natAbs).length≤2000000:=by rw [Int.natAbs_natCast];exact lf2
 have d2:(wd 4294967296 ((g.den:Nat):Int).natAbs).length≤2000000:=by rw [Int.natAbs_natCast];exact lg2
 have p1:=lenU_prod f.num (g.den:Int) _ _ lf1 d2
 have p2:=lenU_prod g.num (f.den:Int) _ _ lg1 d1
 have p3:=lenU_prod (f.den:Int) (g.den:Int) _ _ d1 d2
 have p4:=lenU_int_add _ _ _ p1 p2
 have MU:=hide (ratAddB_any w.heap.size xb yb f.num g.num f.den g.den W0 hs.1 hs.2 (hx.but hbw) (by rw [hf0];rfl) (by rw [hf0];rfl) (RatAt.but hy hbw) hgd (by omega) (by omega) (by omega) (by omega) _ _ _ _ rfl rfl rfl rfl (by omega) (by omega) (by omega) (by omega) hQ0 (f+g).num ((f+g).den:Int) e1 e2)
 have HW0:=hide hW0
 have HBW:=hide hbw
 clear hW0 hbw hs e1 e2 hQ0 p1 p2 p3 p4 d1 d2 lf1 lf2 lg1 lg2 hx hy hfd hgd
 go_enter Tryz.func53,Tryz.ntmps53
 go_wp2_with fail
 rw [← unhide HW0]
 refine (unhide MU).mono ?_
 rintro e w1 ⟨rfl,h1,h2⟩
 have FIN:=hide (And.intro ((unhide HBW).trans h1 (by simp)) h2)
 clear h1 h2 MU
 go_wp2
 go_ret
 exact ⟨w.heap.size,rfl,(unhide FIN).1,(unhide FIN).2,Nat.le_refl _⟩
end Go.Proofs.YtollloafckcogaaGreatDoor

namespace Go.Proofs.YtollloafckcogaaGreatDoor
open Go.RowKit
set_option maxHeartbeats 32000000
set_option maxRecDepth 100000
set_option linter.unusedVariables false
theorem isInt_blank (xb:Nat) (w:World) (hx:BlankAt w xb) :
  Calls Tryz.prog 85 #[.pointer (some ⟨xb,0,none⟩)] w fun e w'=>e=.returned (.bool true)∧But [] w w':=by
 have DX:=hide (den_blank xb w hx)
 have one:(wd 4294967296 (1:Int).natAbs).length<2147483648:=by
  have:=len_le_two 1 (by omega)
  simpa using Nat.lt_of_le_of_lt this (by omega)
 have CM:Hid (∀ W a b,IntAt W a 0 1→IntAt W b 0 1→Calls Tryz.prog 101 #[.pointer (some ⟨a,0,none⟩),.pointer (some ⟨b,0,none⟩)] W fun e w'=>e=.returned (.int .i64 0)∧∃ q,w'=W.drewN q):=fun W a b h1 h2=>by
  have:=intCmpU_any a 0 b 0 1 1 W h1 h2 one one
  rw [show cmpS 1 1=0 from by unfold cmpS;simp] at this
  exact this
 clear one hx
 go_enter Tryz.func85,Tryz.ntmps85
 go_wp2_with fail
 refine (unhide DX).mono ?_
 rintro e w1 ⟨q,rfl,hq,hb,hI⟩
 have S1:=hide (And.intro hb hI)
 clear hq hb hI DX
 go_wp2_with fail
 refine (newInt_any 1 _ (by omega) (by omega)).mono ?_
 rintro e w2 ⟨rfl,hb2,hI2,-⟩
 have C2:=hide (unhide CM w2 q w1.heap.size ((unhide S1).2.but hb2) hI2)
 have B2:=hide ((unhide S1).1.trans' hb2)
 clear hb2 hI2 S1 CM
 go_wp2_with fail
 refine (unhide C2).mono ?_
 rintro e w3 ⟨rfl,k,rfl⟩
 have B3:=hide ((unhide B2).drewN k)
 generalize w2.drewN k=V at *
 clear B2 C2
 go_wp2
 go_ret
 exact ⟨rfl,unhide B3⟩
theorem refText_blank (b:Nat) (w:World) (h:BlankAt w b) :
  Calls Tryz.prog 10 #[.pointer (some ⟨b,0,none⟩)] w fun e w'=>e=.returned (.string ⟨#[48]⟩)∧But [] w w':=by
 have RS:Hid (Calls Tryz.prog 39 #[.pointer (some ⟨b,0,none⟩)] w fun e w'=>e=.returned (.string ⟨#[48]⟩)∧But [] w w'):=by
  have IS:=hide (isInt_blank b w h)
  have hd0:decI 0=[48]:=by
   unfold decI
   rw [if_neg (by omega)]
   show Lib.decDigits 0=[48]
   rw [Lib.decDigits,dif_pos (by omega)];rfl
  have l0:(wd 4294967296 (0:Int).natAbs).length≤2:=len_le_two _ (by decide)
  have S1:=hide (fun W (h:BlankAt W b)=>intString_any b 0 0 W h.1 (by omega) (by have:=digU_len (0:Int).natAbs _ l0;omega) ⟨#[48]⟩ (by show _=_;rw [hd0]))
  have HB:=hide h
  clear h hd0 l0
  show Calls _ _ _ _ _
  go_enter Tryz.func39,Tryz.ntmps39
  go_wp2_with fail
  refine (unhide IS).mono ?_
  rintro e w1 ⟨rfl,B1⟩
  have S2:=hide (unhide S1 w1 ((unhide HB).but B1))
  have BB:=hide B1
  clear B1 S1 IS HB
  go_wp2_with fail
  refine (unhide S2).mono ?_
  rintro e w2 ⟨rfl,B2⟩
  have B3:=hide ((unhide BB).trans' B2)
  clear B2 BB S2
  go_wp2
  go_ret
  exact ⟨rfl,unhide B3⟩
 clear h
 go_enter Tryz.func10,Tryz.ntmps10
 go_wp2_with fail
 refine (unhide RS).mono ?_
 rintro e w1 ⟨rfl,hb⟩
 have B1:=hide hb
 clear hb RS
 go_wp2
 go_ret
 exact ⟨rfl,unhide B1⟩
theorem quoB_any (zb xb yb:Nat) (y:Int) (ny:Nat) (w:World) (hz0:Slot w zb 0) (hz2:Slot w zb 2) (hx:BlankAt w xb) (hy:RatAt w yb y (ny:Int)) (hny:0<ny) (hyl:(wd 4294967296 y.natAbs).length<8388608) (hnyl:(wd 4294967296 ny).length<8388608) (P Q:Int) (hP:0*(ny:Int)=P) (hQ:1*y=Q) (hPl:(wd 4294967296 P.natAbs).length<8388608) (hQl:(wd 4294967296 Q.natAbs).length<8388608) (hQ0:Q≠0) (N D:Int) (eN0:Hid (N=redN (if Q<0 then -P else P) Q.natAbs)) (eD0:Hid (D=redD P Q.natAbs)) :
  Calls Tryz.prog 61 #[.pointer (some ⟨zb,0,none⟩),.pointer (some ⟨xb,0,none⟩),.pointer (some ⟨yb,0,none⟩)] w fun e w'=>e=.returned (.pointer (some ⟨zb,0,none⟩))∧But [zb] w w'∧RatAt w' zb N D:=by
 have lx:=hx.lt
 have ly:=hy.lt
 have lz:=hz0.lt
 have zl:(wd 4294967296 (0:Int).natAbs).length<8388608:=Nat.lt_of_le_of_lt (len_le_two _ (by decide)) (by omega)
 have ol:(wd 4294967296 (1:Int).natAbs).length<8388608:=Nat.lt_of_le_of_lt (len_le_two _ (by decide)) (by omega)
 go_enter Tryz.func61,Tryz.ntmps61
 go_wp2
 go_region_with (first
  | (go_at_call_of 100 (Value.pointer (some ⟨yb,0,none⟩));refine (den_any yb y ny _ ?_ hny).mono ?_;(refine hy.but ?_;repeat (first | assumption | exact But.refl _ _ | apply But.drew | apply But.alloc));rintro e w' ⟨rfl,rfl⟩)
  | (go_at_call_of 100 (Value.pointer (some ⟨xb,0,none⟩));refine (den_blank xb _ ?_).mono ?_;(refine hx.but ?_;repeat (first | assumption | exact But.refl _ _ | apply But.drew | apply But.alloc));rintro e We ⟨qd,rfl,hqd,KBd,KId⟩)
  | (go_at_call_of 102 (Value.pointer (some ⟨yb,2,none⟩));refine (intMul_newU _ xb 0 yb 2 0 (ny:Int) P hP w _ ?_ ?_ ?_ hx.1 hy.low zl (by rw [Int.natAbs_natCast];exact hnyl) hPl).mono ?_;(first | exact slotA1 _ _ | exact slotA2 _ _ _ | exact slotA3 _ _ _);(repeat (first | assumption | exact But.refl _ _ | apply But.drew | apply But.alloc));omega;rintro e W1 ⟨rfl,KB1,KA1,KS1,KI1,KL1⟩)
  | (go_at_call_of 102 (Value.pointer (some ⟨qd,0,none⟩));refine (intMul_newB _ qd 0 yb 0 1 y Q hQ w _ ?_ ?_ ?_ ?_ ?_ ?_ ?_ ol hyl hQl).mono ?_; (first | exact slot_new _ _ | exact (slot_new _ _).but KBd (by simp) | exact (KS1 _ (by omega) (slotA2 _ _ _)).but KBd (by simp) | exact (KS1 _ (by omega) (slotA3 _ _ _)).but KBd (by simp)); (first | exact KB1.trans' KBd | exact (KB1.alloc _).trans' KBd | exact (KB1.trans' KBd).alloc _); (first | omega | (have:=KB1.size;omega) | (have:=KB1.size;have:=KBd.size;omega) | (have:=KB1.size;have:=KBd.size;simp at this;omega)); (first | exact KId | exact KId.but ((But.refl _ _).alloc _)); (refine hy.up.but ?_;(first | exact KB1.trans' KBd | exact (KB1.alloc _).trans' KBd | exact (KB1.trans' KBd).alloc _)); (first | (have:=KId.lt;omega) | (have:=(KS1 _ (by omega) (slotA2 _ _ _)).lt;omega) | (have:=(KS1 _ (by omega) (slotA3 _ _ _)).lt;omega) | (have h0:=hqd;simp at h0;omega)); (first | omega | (have:=KB1.size;omega) | (have:=KB1.size;have:=KBd.size;omega) | (have:=KB1.size;have:=KBd.size;simp at this;omega)); rintro e W2 ⟨rfl,KB2,KA2,KS2,KI2,KL2⟩)
  | (go_at_call 42;refine (setFracU_any zb _ 0 _ 0 P Q _ (hz0.but KB2 (by simp)) (hz2.but KB2 (by simp)) (KI2 _ _ _ ?_ ?_) KA2 hPl hQl hQ0 N D eN0 eD0).mono ?_; (first | omega | (have:=KA1.lt;omega) | (have:=KA1.lt;have:=KBd.size;omega) | (have:=KA1.lt;have:=KBd.size;simp at this;omega)); (refine KA1.but ?_;(first | exact KBd | exact ((But.refl _ _).alloc _).trans' KBd | exact KBd.alloc _)); rintro e W3 ⟨rfl,KB3,KR3⟩))
 all_goals go_wp2
 all_goals go_ret
 all_goals exact ⟨rfl,(KB2.of_nil (l:=[zb])).trans KB3 (by simp),KR3⟩
end Go.Proofs.YtollloafckcogaaGreatDoor

namespace Go.Proofs.YtollloafckcogaaGreatDoor
open Go.RowKit
set_option maxHeartbeats 4000000
set_option maxRecDepth 100000
set_option linter.unusedVariables false
theorem refDivB_any (xb yb:Nat) (g:Rat) (w:World) (hx:BlankAt w xb) (hy:RatIs w yb g) (lg:LenU g 2000000) (hg0:g.num≠0) :
  Calls Tryz.prog 22 #[.pointer (some ⟨xb,0,none⟩),.pointer (some ⟨yb,0,none⟩)] w fun e w'=>∃ zb,e=.returned (.pointer (some ⟨zb,0,none⟩))∧But [] w w'∧RatIs w' zb 0∧w.heap.size≤zb:=by
 have hgd:0<g.den:=Nat.pos_of_ne_zero g.den_nz
 have hQ0:(1:Int)*g.num≠0:=by rw [Int.one_mul];exact hg0
 obtain ⟨e1,e2⟩:=red_rat (0*(g.den:Int)) ((1:Int)*g.num) hQ0 0 (by show (0:Int)*_=_;rw [Int.zero_mul,Int.zero_mul,Int.zero_mul])
 obtain ⟨W0,hW0⟩:∃ W0,W0=w.alloc (.cells #[.bool false,.slice none 0 0,.bool false,.slice none 0 0] 92):=⟨_,rfl⟩
 have hs:=ratSlots w 92
 have hbw:But [] w W0:=by rw [hW0];exact (But.refl _ _).alloc _
 rw [← hW0] at hs
 obtain ⟨lg1,lg2⟩:=lg
 have QU:=hide (quoB_any w.heap.size xb yb g.num g.den W0 hs.1 hs.2 (hx.but hbw) (RatAt.but hy hbw) hgd (by omega) (by omega) _ _ rfl rfl (by rw [Int.zero_mul];exact Nat.lt_of_le_of_lt (len_le_two _ (by decide)) (by omega)) (by rw [Int.one_mul];omega) hQ0 (0:Rat).num ((0:Rat).den:Int) e1 e2)
 obtain ⟨s,hss⟩:∃ s,s=g.num.sign:=⟨_,rfl⟩
 have hs0:(s==0)=false:=beq_eq_false_iff_ne.2 (by rw [hss];exact fun h=>hg0 (Int.sign_eq_zero_iff_zero.1 h))
 have SG:=hide (ratSign_any yb g.num (g.den:Int) w hy s hss (by omega))
 have HW0:=hide hW0
 have HBW:=hide hbw
 clear hW0 hbw hs e1 e2 hQ0 lg1 lg2 hx hy hgd hss hg0
 go_enter Tryz.func22,Tryz.ntmps22
 go_wp2_with fail
 refine (unhide SG).mono ?_
 rintro e w1 ⟨rfl,hw⟩
 obtain rfl:=hw.symm
 clear hw
 go_wp2_with fail
 rw [← unhide HW0]
 refine (unhide QU).mono ?_
 rintro e w1 ⟨rfl,h1,h2⟩
 have FIN:=hide (And.intro ((unhide HBW).trans h1 (by simp)) h2)
 clear h1 h2 QU
 go_wp2
 go_ret
 exact ⟨w.heap.size,rfl,(unhide FIN).1,(unhide FIN).2,Nat.le_refl _⟩
end Go.Proofs.YtollloafckcogaaGreatDoor
