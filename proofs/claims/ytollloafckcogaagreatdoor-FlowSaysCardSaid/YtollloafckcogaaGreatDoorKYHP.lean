/- Sums and differences of ratios, as the G -/
import Derived.Test.YtollloafckcogaaGreatDoorKYHB
import Derived.Test.YtollloafckcogaaGreatDoorKYR0
namespace Go.Proofs.YtollloafckcogaaGreatDoor
open Go.RowKit
set_option maxHeartbeats 8000000
set_option maxRecDepth 100000
theorem run_allocI (a:Act) (w:World) (d:Nat) (u:TypeId) (ps:String) (ed:Array Edge) :
  (execOp a.eval { dst:=some d,op:=Op.alloc 90,type:=u,pos:=ps,after:=ed,guard:=none }).run Tryz.prog w=.ok (.value (.pointer (some ⟨w.heap.size,0,none⟩))) (w.alloc (.cells #[.bool false,.slice none 0 0] 90)):=by
 unfold execOp
 go_simp
theorem run_moveP (a:Act) (w:World) (d t:Nat) (u:TypeId) (ps:String) (ed:Array Edge) (N:Value) (h:a.eval (.tmp t)=N) :
  (execOp a.eval { dst:=some d,op:=Op.move (.tmp t),type:=u,pos:=ps,after:=ed,guard:=none }).run Tryz.prog w=.ok (.value N) w:=by
 unfold execOp
 simp only [h]
 go_simp
theorem run_assP (a:Act) (w:World) (d t:Nat) (u:TypeId) (ps:String) (ed:Array Edge) (N:Value) (h:a.eval (.tmp t)=N) :
  (execOp a.eval { dst:=some d,op:=Op.assign (.tmp t),type:=u,pos:=ps,after:=ed,guard:=none }).run Tryz.prog w=.ok (.value N) w:=by
 unfold execOp
 simp only [h]
 go_simp
theorem run_nilP (a:Act) (w:World) (d t:Nat) (u:TypeId) (ps:String) (ed:Array Edge) (b o:Nat) (h:a.eval (.tmp t)=.pointer (some ⟨b,o,none⟩)) :
  (execOp a.eval { dst:=some d,op:=Op.nilCheck (.tmp t),type:=u,pos:=ps,after:=ed,guard:=none }).run Tryz.prog w=.ok (.value (.pointer (some ⟨b,o,none⟩))) w:=by
 unfold execOp
 simp only [h]
 go_simp
theorem run_fieldR (a:Act) (w:World) (d t:Nat) (u:TypeId) (ps:String) (ed:Array Edge) (b:Nat) (h:a.eval (.tmp t)=.pointer (some ⟨b,0,none⟩)) (_hl:b<w.heap.size) :
  (execOp a.eval { dst:=some d,op:=Op.fieldAddr 92 (.tmp t) 0,type:=u,pos:=ps,after:=ed,guard:=none }).run Tryz.prog w=.ok (.value (.pointer (some ⟨b,0,none⟩))) w:=by
 unfold execOp
 simp only [h]
 go_simp
theorem run_callDen (a:Act) (w:World) (d t:Nat) (u:TypeId) (ps:String) (ed:Array Edge) (x:Value) (h:a.eval (.tmp t)=x) :
  (execOp a.eval { dst:=some d,op:=Op.call { callee:=Callee.value (Operand.func 100),args:=#[Operand.tmp t],argTypes:=#[37] },type:=u,pos:=ps,after:=ed,guard:=none }).run Tryz.prog w=.ok (.enter 100 #[x]) w:=by
 unfold execOp
 go_simp
 rw [← h]
 simp [Act.eval]
theorem run_callMulI (a:Act) (w:World) (d t1 t2 t3:Nat) (u:TypeId) (ps:String) (ed:Array Edge) (x1 x2 x3:Value) (h1:a.eval (.tmp t1)=x1) (h2:a.eval (.tmp t2)=x2) (h3:a.eval (.tmp t3)=x3) :
  (execOp a.eval { dst:=some d,op:=Op.call { callee:=Callee.value (Operand.func 102),args:=#[Operand.tmp t1,Operand.tmp t2,Operand.tmp t3],argTypes:=#[86,86,86] },type:=u,pos:=ps,after:=ed,guard:=none }).run Tryz.prog w=.ok (.enter 102 #[x1,x2,x3]) w:=by
 unfold execOp
 go_simp
 rw [← h1,← h2,← h3]
 simp [Act.eval]
theorem run_callAddI (a:Act) (w:World) (d t1 t2 t3:Nat) (u:TypeId) (ps:String) (ed:Array Edge) (x1 x2 x3:Value) (h1:a.eval (.tmp t1)=x1) (h2:a.eval (.tmp t2)=x2) (h3:a.eval (.tmp t3)=x3) :
  (execOp a.eval { dst:=some d,op:=Op.call { callee:=Callee.value (Operand.func 43),args:=#[Operand.tmp t1,Operand.tmp t2,Operand.tmp t3],argTypes:=#[86,86,86] },type:=u,pos:=ps,after:=ed,guard:=none }).run Tryz.prog w=.ok (.enter 43 #[x1,x2,x3]) w:=by
 unfold execOp
 go_simp
 rw [← h1,← h2,← h3]
 simp [Act.eval]
theorem intSum_new {w P w1:World} {A:Nat} {v:Value} {z:Int} (hs:Slot P A 0) (hw:But [] w P) (hA:w.heap.size≤A) (hb:But [] P w1) (hv:Sl .u32 w1 v (wd 4294967296 z.natAbs)) :
  But [] w (putI w1 A 0 v (decide (z<0)))∧IntAt (putI w1 A 0 v (decide (z<0))) A 0 z∧(∀ B,B≠A→Slot P B 0→Slot (putI w1 A 0 v (decide (z<0))) B 0)∧(∀ b o z',b≠A→IntAt P b o z'→IntAt (putI w1 A 0 v (decide (z<0))) b o z')∧P.heap.size≤(putI w1 A 0 v (decide (z<0))).heap.size:=by
 have hs1:=hs.but hb (by simp)
 exact ⟨(hw.trans' hb).trans (put_but ..) (by simp;exact hA),put_int hs1 _ _ hv,fun B hB hS=>put_slot_other _ _ (hS.but hb (by simp)) (.inl hB),fun b o z' hB hI=>put_int_other hs1 _ _ (hI.but hb) (.inl hB),by rw [putI_size];exact hb.size⟩
structure SumH (W:World) (P Q R:Int) (b0 b1 b8:Nat) (a0 a1 a8 p q r z:Bool) (w:World):Prop where
 but:But [] W w
 s0:a0=true→W.heap.size≤b0∧b0<w.heap.size∧(r=false→Slot w b0 0)
 s1:a1=true→W.heap.size≤b1∧b1<w.heap.size∧(p=false→Slot w b1 0)
 s8:a8=true→W.heap.size≤b8∧b8<w.heap.size∧(q=false→Slot w b8 0)
 n01:a0=true→a1=true→b0≠b1
 n08:a0=true→a8=true→b0≠b8
 n18:a1=true→a8=true→b1≠b8
 hp:p=true→a1=true∧IntAt w b1 0 P
 hq:q=true→a8=true∧IntAt w b8 0 Q
 hr:r=true→a0=true∧IntAt w b0 0 R
 hz:z=true→r=true
theorem SumH.alloc0 {W:World} {P Q R:Int} {b0 b1 b8:Nat} {a1 a8 p q r z:Bool} {w:World} (h:SumH W P Q R b0 b1 b8 false a1 a8 p q r z w) (t:TypeId):SumH W P Q R w.heap.size b1 b8 true a1 a8 p q r z (w.alloc (.cells #[.bool false,.slice none 0 0] t)):=by
 have hb:But [] w (w.alloc (.cells #[.bool false,.slice none 0 0] t)):=(But.refl _ _).alloc _
 have hs:=hb.size
 exact ⟨h.but.trans' hb,fun _=>⟨h.but.size,by simp,fun _=>slot_new w t⟩,fun e=>⟨(h.s1 e).1,Nat.lt_of_lt_of_le (h.s1 e).2.1 hs,fun k=>((h.s1 e).2.2 k).but hb (by simp)⟩,fun e=>⟨(h.s8 e).1,Nat.lt_of_lt_of_le (h.s8 e).2.1 hs,fun k=>((h.s8 e).2.2 k).but hb (by simp)⟩,
  fun _ e=>Ne.symm (Nat.ne_of_lt (h.s1 e).2.1),fun _ e=>Ne.symm (Nat.ne_of_lt (h.s8 e).2.1),h.n18,fun e=>⟨(h.hp e).1,(h.hp e).2.but hb⟩,fun e=>⟨(h.hq e).1,(h.hq e).2.but hb⟩,fun e=>by have:=(h.hr e).1;simp at this,h.hz⟩
theorem SumH.alloc1 {W:World} {P Q R:Int} {b0 b1 b8:Nat} {a0 a8 p q r z:Bool} {w:World} (h:SumH W P Q R b0 b1 b8 a0 false a8 p q r z w) (t:TypeId):SumH W P Q R b0 w.heap.size b8 a0 true a8 p q r z (w.alloc (.cells #[.bool false,.slice none 0 0] t)):=by
 have hb:But [] w (w.alloc (.cells #[.bool false,.slice none 0 0] t)):=(But.refl _ _).alloc _
 have hs:=hb.size
 exact ⟨h.but.trans' hb,fun e=>⟨(h.s0 e).1,Nat.lt_of_lt_of_le (h.s0 e).2.1 hs,fun k=>((h.s0 e).2.2 k).but hb (by simp)⟩,fun _=>⟨h.but.size,by simp,fun _=>slot_new w t⟩,fun e=>⟨(h.s8 e).1,Nat.lt_of_lt_of_le (h.s8 e).2.1 hs,fun k=>((h.s8 e).2.2 k).but hb (by simp)⟩,
  fun e _=>Nat.ne_of_lt (h.s0 e).2.1,h.n08,fun _ e=>Ne.symm (Nat.ne_of_lt (h.s8 e).2.1),fun e=>by have:=(h.hp e).1;simp at this,fun e=>⟨(h.hq e).1,(h.hq e).2.but hb⟩,fun e=>⟨(h.hr e).1,(h.hr e).2.but hb⟩,h.hz⟩
theorem SumH.alloc8 {W:World} {P Q R:Int} {b0 b1 b8:Nat} {a0 a1 p q r z:Bool} {w:World} (h:SumH W P Q R b0 b1 b8 a0 a1 false p q r z w) (t:TypeId):SumH W P Q R b0 b1 w.heap.size a0 a1 true p q r z (w.alloc (.cells #[.bool false,.slice none 0 0] t)):=by
 have hb:But [] w (w.alloc (.cells #[.bool false,.slice none 0 0] t)):=(But.refl _ _).alloc _
 have hs:=hb.size
 exact ⟨h.but.trans' hb,fun e=>⟨(h.s0 e).1,Nat.lt_of_lt_of_le (h.s0 e).2.1 hs,fun k=>((h.s0 e).2.2 k).but hb (by simp)⟩,fun e=>⟨(h.s1 e).1,Nat.lt_of_lt_of_le (h.s1 e).2.1 hs,fun k=>((h.s1 e).2.2 k).but hb (by simp)⟩,fun _=>⟨h.but.size,by simp,fun _=>slot_new w t⟩,
  h.n01,fun e _=>Nat.ne_of_lt (h.s0 e).2.1,fun e _=>Nat.ne_of_lt (h.s1 e).2.1,fun e=>⟨(h.hp e).1,(h.hp e).2.but hb⟩,fun e=>by have:=(h.hq e).1;simp at this,fun e=>⟨(h.hr e).1,(h.hr e).2.but hb⟩,h.hz⟩
theorem SumH.mulP {W:World} {P Q R:Int} {b0 b1 b8:Nat} {a0 a8 q r z:Bool} {w w':World} (h:SumH W P Q R b0 b1 b8 a0 true a8 false q r z w) (hw:But [] W w') (hI:IntAt w' b1 0 P) (hS:∀ B,B≠b1→Slot w B 0→Slot w' B 0) (hK:∀ b o z',b≠b1→IntAt w b o z'→IntAt w' b o z') (hl:w.heap.size≤w'.heap.size):SumH W P Q R b0 b1 b8 a0 true a8 true q r z w' :=
 ⟨hw,fun e=>⟨(h.s0 e).1,Nat.lt_of_lt_of_le (h.s0 e).2.1 hl,fun k=>hS _ (h.n01 e rfl) ((h.s0 e).2.2 k)⟩,fun e=>⟨(h.s1 e).1,Nat.lt_of_lt_of_le (h.s1 e).2.1 hl,fun k=>by simp at k⟩,fun e=>⟨(h.s8 e).1,Nat.lt_of_lt_of_le (h.s8 e).2.1 hl,fun k=>hS _ (Ne.symm (h.n18 rfl e)) ((h.s8 e).2.2 k)⟩,
  h.n01,h.n08,h.n18,fun _=>⟨rfl,hI⟩,fun e=>⟨(h.hq e).1,hK _ _ _ (Ne.symm (h.n18 rfl (h.hq e).1)) (h.hq e).2⟩,fun e=>⟨(h.hr e).1,hK _ _ _ (h.n01 (h.hr e).1 rfl) (h.hr e).2⟩,h.hz⟩
theorem SumH.mulQ {W:World} {P Q R:Int} {b0 b1 b8:Nat} {a0 a1 p r z:Bool} {w w':World} (h:SumH W P Q R b0 b1 b8 a0 a1 true p false r z w) (hw:But [] W w') (hI:IntAt w' b8 0 Q) (hS:∀ B,B≠b8→Slot w B 0→Slot w' B 0) (hK:∀ b o z',b≠b8→IntAt w b o z'→IntAt w' b o z') (hl:w.heap.size≤w'.heap.size):SumH W P Q R b0 b1 b8 a0 a1 true p true r z w' :=
 ⟨hw,fun e=>⟨(h.s0 e).1,Nat.lt_of_lt_of_le (h.s0 e).2.1 hl,fun k=>hS _ (h.n08 e rfl) ((h.s0 e).2.2 k)⟩,fun e=>⟨(h.s1 e).1,Nat.lt_of_lt_of_le (h.s1 e).2.1 hl,fun k=>hS _ (h.n18 e rfl) ((h.s1 e).2.2 k)⟩,fun e=>⟨(h.s8 e).1,Nat.lt_of_lt_of_le (h.s8 e).2.1 hl,fun k=>by simp at k⟩,
  h.n01,h.n08,h.n18,fun e=>⟨(h.hp e).1,hK _ _ _ (h.n18 (h.hp e).1 rfl) (h.hp e).2⟩,fun _=>⟨rfl,hI⟩,fun e=>⟨(h.hr e).1,hK _ _ _ (h.n08 (h.hr e).1 rfl) (h.hr e).2⟩,h.hz⟩
theorem SumH.sumR {W:World} {P Q R:Int} {b0 b1 b8:Nat} {a1 a8 p q z:Bool} {w w':World} (h:SumH W P Q R b0 b1 b8 true a1 a8 p q false z w) (hw:But [] W w') (hI:IntAt w' b0 0 R) (hS:∀ B,B≠b0→Slot w B 0→Slot w' B 0) (hK:∀ b o z',b≠b0→IntAt w b o z'→IntAt w' b o z') (hl:w.heap.size≤w'.heap.size):SumH W P Q R b0 b1 b8 true a1 a8 p q true z w' :=
 ⟨hw,fun e=>⟨(h.s0 e).1,Nat.lt_of_lt_of_le (h.s0 e).2.1 hl,fun k=>by simp at k⟩,fun e=>⟨(h.s1 e).1,Nat.lt_of_lt_of_le (h.s1 e).2.1 hl,fun k=>hS _ (Ne.symm (h.n01 rfl e)) ((h.s1 e).2.2 k)⟩,fun e=>⟨(h.s8 e).1,Nat.lt_of_lt_of_le (h.s8 e).2.1 hl,fun k=>hS _ (Ne.symm (h.n08 rfl e)) ((h.s8 e).2.2 k)⟩,
  h.n01,h.n08,h.n18,fun e=>⟨(h.hp e).1,hK _ _ _ (Ne.symm (h.n01 rfl (h.hp e).1)) (h.hp e).2⟩,fun e=>⟨(h.hq e).1,hK _ _ _ (Ne.symm (h.n08 rfl (h.hq e).1)) (h.hq e).2⟩,fun _=>⟨rfl,hI⟩,fun _=>rfl⟩
theorem SumH.done {W:World} {P Q R:Int} {b0 b1 b8:Nat} {a0 a1 a8 p q z:Bool} {w:World} (h:SumH W P Q R b0 b1 b8 a0 a1 a8 p q true z w):SumH W P Q R b0 b1 b8 a0 a1 a8 p q true true w :=
 ⟨h.but,h.s0,h.s1,h.s8,h.n01,h.n08,h.n18,h.hp,h.hq,h.hr,fun _=>rfl⟩
def addO0:Oper:={ dst:=some 8,op:=Op.alloc 90,type := 86,pos := "rat.go:118",after:=#[],guard:=none }
def addO1:Oper:={ dst:=some 9,op:=Op.alloc 90,type := 86,pos := "rat.go:118",after:=#[],guard:=none }
def addO2:Oper:={ dst:=some 10,op:=Op.move (Operand.tmp 1),type := 37,pos := "rat.go:118",after:=#[],guard:=none }
def addO3:Oper:={ dst:=some 11,op:=Op.nilCheck (Operand.tmp 10),type:=0,pos := "rat.go:118",after:=#[⟨2,.data⟩],guard:=none }
def addO4:Oper:={ dst:=some 12,op:=Op.fieldAddr 92 (Operand.tmp 11) 0,type:=0,pos := "rat.go:118",after:=#[⟨3,.data⟩],guard:=none }
def addO5:Oper:={ dst:=some 13,op:=Op.move (Operand.tmp 2),type := 37,pos := "rat.go:118",after:=#[],guard:=none }
def addO6:Oper:={ dst:=some 14,op:=Op.call { callee:=Callee.value (Operand.func 100),args:=#[Operand.tmp 13],argTypes:=#[37] },type := 86,pos := "rat.go:118",after:=#[⟨5,.data⟩],guard:=none }
def addO7:Oper:={ dst:=some 15,op:=Op.call { callee:=Callee.value (Operand.func 102),args:=#[Operand.tmp 9,Operand.tmp 12,Operand.tmp 14],argTypes:=#[86,86,86] },type := 86,pos := "rat.go:118",after:=#[⟨1,.data⟩,⟨4,.data⟩,⟨6,.data⟩,⟨6,.chain⟩],guard:=none }
def addO8:Oper:={ dst:=some 16,op:=Op.alloc 90,type := 86,pos := "rat.go:118",after:=#[],guard:=none }
def addO9:Oper:={ dst:=some 17,op:=Op.move (Operand.tmp 2),type := 37,pos := "rat.go:118",after:=#[],guard:=none }
def addO10:Oper:={ dst:=some 18,op:=Op.nilCheck (Operand.tmp 17),type:=0,pos := "rat.go:118",after:=#[⟨9,.data⟩],guard:=none }
def addO11:Oper:={ dst:=some 19,op:=Op.fieldAddr 92 (Operand.tmp 18) 0,type:=0,pos := "rat.go:118",after:=#[⟨10,.data⟩],guard:=none }
def addO12:Oper:={ dst:=some 20,op:=Op.move (Operand.tmp 1),type := 37,pos := "rat.go:118",after:=#[],guard:=none }
def addO13:Oper:={ dst:=some 21,op:=Op.call { callee:=Callee.value (Operand.func 100),args:=#[Operand.tmp 20],argTypes:=#[37] },type := 86,pos := "rat.go:118",after:=#[⟨12,.data⟩,⟨7,.chain⟩],guard:=none }
def addO14:Oper:={ dst:=some 22,op:=Op.call { callee:=Callee.value (Operand.func 102),args:=#[Operand.tmp 16,Operand.tmp 19,Operand.tmp 21],argTypes:=#[86,86,86] },type := 86,pos := "rat.go:118",after:=#[⟨8,.data⟩,⟨11,.data⟩,⟨13,.data⟩,⟨13,.chain⟩],guard:=none }
def addO15:Oper:={ dst:=some 23,op:=Op.call { callee:=Callee.value (Operand.func 43),args:=#[Operand.tmp 8,Operand.tmp 15,Operand.tmp 22],argTypes:=#[86,86,86] },type := 86,pos := "rat.go:118",after:=#[⟨0,.data⟩,⟨7,.data⟩,⟨14,.data⟩,⟨14,.chain⟩],guard:=none }
def addO16:Oper:={ dst:=some 7,op:=Op.assign (Operand.tmp 23),type := 86,pos := "rat.go:118",after:=#[⟨15,.data⟩,⟨15,.chain⟩,⟨0,.phase⟩,⟨1,.phase⟩,⟨2,.phase⟩,⟨3,.phase⟩,⟨4,.phase⟩,⟨5,.phase⟩,⟨6,.phase⟩,⟨7,.phase⟩,⟨8,.phase⟩,⟨9,.phase⟩,⟨10,.phase⟩,⟨11,.phase⟩,⟨12,.phase⟩,⟨13,.phase⟩,⟨14,.phase⟩,⟨15,.phase⟩],guard:=none }
def addOs:Array Oper:=#[addO0,addO1,addO2,addO3,addO4,addO5,addO6,addO7,addO8,addO9,addO10,addO11,addO12,addO13,addO14,addO15,addO16]
def addOT (i:Nat):Nat:=match i with
 | 0=>8
 | 1=>9
 | 2=>10
 | 3=>11
 | 4=>12
 | 5=>13
 | 6=>14
 | 7=>15
 | 8=>16
 | 9=>17
 | 10=>18
 | 11=>19
 | 12=>20
 | 13=>21
 | 14=>22
 | 15=>23
 | _=>7
def addOV (xb yb:Nat) (N:Nat × Nat × Nat) (i:Nat):Value:=match i with
 | 0=>.pointer (some ⟨N.1,0,none⟩)
 | 1=>.pointer (some ⟨N.2.1,0,none⟩)
 | 2=>.pointer (some ⟨xb,0,none⟩)
 | 3=>.pointer (some ⟨xb,0,none⟩)
 | 4=>.pointer (some ⟨xb,0,none⟩)
 | 5=>.pointer (some ⟨yb,0,none⟩)
 | 6=>.pointer (some ⟨yb,2,none⟩)
 | 7=>.pointer (some ⟨N.2.1,0,none⟩)
 | 8=>.pointer (some ⟨N.2.2,0,none⟩)
 | 9=>.pointer (some ⟨yb,0,none⟩)
 | 10=>.pointer (some ⟨yb,0,none⟩)
 | 11=>.pointer (some ⟨yb,0,none⟩)
 | 12=>.pointer (some ⟨xb,0,none⟩)
 | 13=>.pointer (some ⟨xb,2,none⟩)
 | 14=>.pointer (some ⟨N.2.2,0,none⟩)
 | 15=>.pointer (some ⟨N.1,0,none⟩)
 | _=>.pointer (some ⟨N.1,0,none⟩)
theorem addOT_inj:∀ i j,i<17→j<17→addOT i=addOT j→i=j:=fun i j hi hj=>(by decide:∀ i,i<17→∀ j,j<17→addOT i=addOT j→i=j) i hi j hj
theorem add_region (id:Nat) (Q:Exit→Act→World→Prop) (base:Act) (W0:World) (xb yb:Nat) (x y P Z R:Int) (nx ny:Nat) (hs:23<base.tmps.size) (e1:base.eval (.tmp 1)=.pointer (some ⟨xb,0,none⟩)) (e2:base.eval (.tmp 2)=.pointer (some ⟨yb,0,none⟩))
  (hx:RatAt W0 xb x (nx:Int)) (hy:RatAt W0 yb y (ny:Int)) (hnx:0<nx) (hny:0<ny) (hxl:(wd 4294967296 x.natAbs).length<8388608) (hyl:(wd 4294967296 y.natAbs).length<8388608) (hnxl:(wd 4294967296 nx).length<8388608) (hnyl:(wd 4294967296 ny).length<8388608) (hP:x*(ny:Int)=P) (hZ:y*(nx:Int)=Z) (hR:R=P+Z) (hPl:(wd 4294967296 P.natAbs).length<8388608) (hZl:(wd 4294967296 Z.natAbs).length<8388608) (hRl:(wd 4294967296 R.natAbs).length<8388608)
  (hQ:∀ w b0 b1 b8,But [] W0 w→W0.heap.size≤b0→IntAt w b0 0 R→Q .normal (putted base [(8,.pointer (some ⟨b0,0,none⟩)),(9,.pointer (some ⟨b1,0,none⟩)),(10,.pointer (some ⟨xb,0,none⟩)),(11,.pointer (some ⟨xb,0,none⟩)),(12,.pointer (some ⟨xb,0,none⟩)),(13,.pointer (some ⟨yb,0,none⟩)),(14,.pointer (some ⟨yb,2,none⟩)),(15,.pointer (some ⟨b1,0,none⟩)),(16,.pointer (some ⟨b8,0,none⟩)),(17,.pointer (some ⟨yb,0,none⟩)),(18,.pointer (some ⟨yb,0,none⟩)),(19,.pointer (some ⟨yb,0,none⟩)),(20,.pointer (some ⟨xb,0,none⟩)),(21,.pointer (some ⟨xb,2,none⟩)),(22,.pointer (some ⟨b8,0,none⟩)),(23,.pointer (some ⟨b0,0,none⟩)),(7,.pointer (some ⟨b0,0,none⟩))]) w) :
  (Code.region id addOs true).wp Tryz.prog Q base W0:=by
 have hdr:∀ {w},But [] W0.drew w→But [] W0 w:=fun h=>(But.refl _ _).drew.trans' h
 have hT:∀ i,i<17→addOT i<base.tmps.size:=fun i hi=>by
  have h:addOT i≤23:=by revert i;decide
  omega
 have lx:=hx.lt
 have ly:=hy.lt
 refine region_names (by kernel_rfl) (low_of (by kernel_rfl)) (bare_of (by kernel_rfl)) (α:=Nat × Nat × Nat) (fun N d w=>SumH W0.drew P Z R N.1 N.2.1 N.2.2 (d 0) (d 1) (d 8) (d 7) (d 14) (d 15) (d 16) w) (addOV xb yb) addOT 17 (by kernel_rfl) addOT_inj hT (0,0,0) ?_ ?_ ?_
 ·exact ⟨But.refl _ _,by simp,by simp,by simp,by simp,by simp,by simp,by simp,by simp,by simp,by simp⟩
 ·rintro ⟨b0,b1,b8⟩ d i o a w K hi ho hdi hCl hH he hdep hk
  have hH':SumH W0.drew P Z R b0 b1 b8 (d 0) (d 1) (d 8) (d 7) (d 14) (d 15) (d 16) w:=hH
  have hD:=dep_is (ps:=[(3,2),(4,3),(6,5),(7,1),(7,4),(7,6),(10,9),(11,10),(13,7),(13,12),(14,8),(14,11),(14,13),(15,0),(15,7),(15,14),(16,0),(16,1),(16,2),(16,3),(16,4),(16,5),(16,6),(16,7),(16,8),(16,9),(16,10),(16,11),(16,12),(16,13),(16,14),(16,15)]) (by kernel_rfl) ho (fun j=>d j=true∧a.eval (.tmp (addOT j))=addOV xb yb (b0,b1,b8) j) hdep
  have e1':=(he 1 (fun j hj e=>absurd e.symm (by revert j;decide))).trans e1
  have e2':=(he 2 (fun j hj e=>absurd e.symm (by revert j;decide))).trans e2
  have hB:=hdr hH'.but
  have hlw:=hB.size
  have:i=0∨i=1∨i=2∨i=3∨i=4∨i=5∨i=6∨i=7∨i=8∨i=9∨i=10∨i=11∨i=12∨i=13∨i=14∨i=15∨i=16:=by omega
  rcases this with rfl | rfl | rfl | rfl | rfl | rfl | rfl | rfl | rfl | rfl | rfl | rfl | rfl | rfl | rfl | rfl | rfl
  ·obtain rfl:=Option.some.inj ((show addOs[0]? = some addO0 from rfl).symm.trans ho)
   rw [hdi] at hH'
   refine does_value (run_allocI a w _ _ _ _) (hk (w.heap.size,b1,b8) _ _ rfl (fun j hj hdj=>?_) (hH'.alloc0 _))
   have:j=0∨j=1∨j=2∨j=3∨j=4∨j=5∨j=6∨j=7∨j=8∨j=9∨j=10∨j=11∨j=12∨j=13∨j=14∨j=15∨j=16:=by omega
   rcases this with rfl | rfl | rfl | rfl | rfl | rfl | rfl | rfl | rfl | rfl | rfl | rfl | rfl | rfl | rfl | rfl | rfl
   all_goals first
    | rfl
    | (rw [hdi] at hdj;simp at hdj)
    | (exfalso;first | (have:=(hH'.hr hdj).1;simp at this) | (have:=(hH'.hr (hH'.hz hdj)).1;simp at this))
  ·obtain rfl:=Option.some.inj ((show addOs[1]? = some addO1 from rfl).symm.trans ho)
   rw [hdi] at hH'
   refine does_value (run_allocI a w _ _ _ _) (hk (b0,w.heap.size,b8) _ _ rfl (fun j hj hdj=>?_) (hH'.alloc1 _))
   have:j=0∨j=1∨j=2∨j=3∨j=4∨j=5∨j=6∨j=7∨j=8∨j=9∨j=10∨j=11∨j=12∨j=13∨j=14∨j=15∨j=16:=by omega
   rcases this with rfl | rfl | rfl | rfl | rfl | rfl | rfl | rfl | rfl | rfl | rfl | rfl | rfl | rfl | rfl | rfl | rfl
   all_goals first
    | rfl
    | (rw [hdi] at hdj;simp at hdj)
    | (exfalso;have:=(hH'.hp hdj).1;simp at this)
  ·obtain rfl:=Option.some.inj ((show addOs[2]? = some addO2 from rfl).symm.trans ho)
   exact does_value (run_moveP a w _ _ _ _ _ _ e1') (hk (b0,b1,b8) _ _ rfl (fun _ _ _=>rfl) hH)
  ·obtain rfl:=Option.some.inj ((show addOs[3]? = some addO3 from rfl).symm.trans ho)
   exact does_value (run_nilP a w _ _ _ _ _ _ 0 (hD 2 (by simp)).2) (hk (b0,b1,b8) _ _ rfl (fun _ _ _=>rfl) hH)
  ·obtain rfl:=Option.some.inj ((show addOs[4]? = some addO4 from rfl).symm.trans ho)
   exact does_value (run_fieldR a w _ _ _ _ _ _ (hD 3 (by simp)).2 (by omega)) (hk (b0,b1,b8) _ _ rfl (fun _ _ _=>rfl) hH)
  ·obtain rfl:=Option.some.inj ((show addOs[5]? = some addO5 from rfl).symm.trans ho)
   exact does_value (run_moveP a w _ _ _ _ _ _ e2') (hk (b0,b1,b8) _ _ rfl (fun _ _ _=>rfl) hH)
  ·obtain rfl:=Option.some.inj ((show addOs[6]? = some addO6 from rfl).symm.trans ho)
   refine does_enter (run_callDen a w _ _ _ _ _ _ (hD 5 (by simp)).2) (R:=fun w' v=>v=.pointer (some ⟨yb,2,none⟩)∧w'=w) ((den_any yb y ny w (hy.but hB) hny).mono (fun e w' h=>⟨_,h.1,rfl,h.2⟩)) ?_
   rintro v w' ⟨rfl,rfl⟩
   exact hk (b0,b1,b8) _ _ rfl (fun _ _ _=>rfl) hH
  ·obtain rfl:=Option.some.inj ((show addOs[7]? = some addO7 from rfl).symm.trans ho)
   have hs1:=hH'.s1 (hD 1 (by simp)).1
   rw [hdi] at hs1
   refine does_enter (run_callMulI a w _ _ _ _ _ _ _ _ _ _ (hD 1 (by simp)).2 (hD 4 (by simp)).2 (hD 6 (by simp)).2) (R:=fun w' v=>v=.pointer (some ⟨b1,0,none⟩)∧But [] W0.drew w'∧IntAt w' b1 0 P∧(∀ B,B≠b1→Slot w B 0→Slot w' B 0)∧(∀ b o z',b≠b1→IntAt w b o z'→IntAt w' b o z')∧w.heap.size≤w'.heap.size) ((intMul_newU b1 xb 0 yb 2 x (ny:Int) P hP W0.drew w (hs1.2.2 rfl) hH'.but hs1.1 hx.drew.up hy.drew.low hxl (by rw [Int.natAbs_natCast];exact hnyl) hPl).mono (fun e w' h=>⟨_,h.1,rfl,h.2⟩)) ?_
   rintro v w' ⟨rfl,k1,k2,k3,k4,k5⟩
   rw [hdi,(hD 1 (by simp)).1] at hH'
   refine hk (b0,b1,b8) _ _ rfl (fun _ _ _=>rfl) ?_
   show SumH W0.drew P Z R b0 b1 b8 (d 0) (d 1) (d 8) true (d 14) (d 15) (d 16) w'
   rw [(hD 1 (by simp)).1]
   exact hH'.mulP k1 k2 k3 k4 k5
  ·obtain rfl:=Option.some.inj ((show addOs[8]? = some addO8 from rfl).symm.trans ho)
   rw [hdi] at hH'
   refine does_value (run_allocI a w _ _ _ _) (hk (b0,b1,w.heap.size) _ _ rfl (fun j hj hdj=>?_) (hH'.alloc8 _))
   have:j=0∨j=1∨j=2∨j=3∨j=4∨j=5∨j=6∨j=7∨j=8∨j=9∨j=10∨j=11∨j=12∨j=13∨j=14∨j=15∨j=16:=by omega
   rcases this with rfl | rfl | rfl | rfl | rfl | rfl | rfl | rfl | rfl | rfl | rfl | rfl | rfl | rfl | rfl | rfl | rfl
   all_goals first
    | rfl
    | (rw [hdi] at hdj;simp at hdj)
    | (exfalso;have:=(hH'.hq hdj).1;simp at this)
  ·obtain rfl:=Option.some.inj ((show addOs[9]? = some addO9 from rfl).symm.trans ho)
   exact does_value (run_moveP a w _ _ _ _ _ _ e2') (hk (b0,b1,b8) _ _ rfl (fun _ _ _=>rfl) hH)
  ·obtain rfl:=Option.some.inj ((show addOs[10]? = some addO10 from rfl).symm.trans ho)
   exact does_value (run_nilP a w _ _ _ _ _ _ 0 (hD 9 (by simp)).2) (hk (b0,b1,b8) _ _ rfl (fun _ _ _=>rfl) hH)
  ·obtain rfl:=Option.some.inj ((show addOs[11]? = some addO11 from rfl).symm.trans ho)
   exact does_value (run_fieldR a w _ _ _ _ _ _ (hD 10 (by simp)).2 (by omega)) (hk (b0,b1,b8) _ _ rfl (fun _ _ _=>rfl) hH)
  ·obtain rfl:=Option.some.inj ((show addOs[12]? = some addO12 from rfl).symm.trans ho)
   exact does_value (run_moveP a w _ _ _ _ _ _ e1') (hk (b0,b1,b8) _ _ rfl (fun _ _ _=>rfl) hH)
  ·obtain rfl:=Option.some.inj ((show addOs[13]? = some addO13 from rfl).symm.trans ho)
   refine does_enter (run_callDen a w _ _ _ _ _ _ (hD 12 (by simp)).2) (R:=fun w' v=>v=.pointer (some ⟨xb,2,none⟩)∧w'=w) ((den_any xb x nx w (hx.but hB) hnx).mono (fun e w' h=>⟨_,h.1,rfl,h.2⟩)) ?_
   rintro v w' ⟨rfl,rfl⟩
   exact hk (b0,b1,b8) _ _ rfl (fun _ _ _=>rfl) hH
  ·obtain rfl:=Option.some.inj ((show addOs[14]? = some addO14 from rfl).symm.trans ho)
   have hs1:=hH'.s8 (hD 8 (by simp)).1
   rw [hdi] at hs1
   refine does_enter (run_callMulI a w _ _ _ _ _ _ _ _ _ _ (hD 8 (by simp)).2 (hD 11 (by simp)).2 (hD 13 (by simp)).2) (R:=fun w' v=>v=.pointer (some ⟨b8,0,none⟩)∧But [] W0.drew w'∧IntAt w' b8 0 Z∧(∀ B,B≠b8→Slot w B 0→Slot w' B 0)∧(∀ b o z',b≠b8→IntAt w b o z'→IntAt w' b o z')∧w.heap.size≤w'.heap.size) ((intMul_newU b8 yb 0 xb 2 y (nx:Int) Z hZ W0.drew w (hs1.2.2 rfl) hH'.but hs1.1 hy.drew.up hx.drew.low hyl (by rw [Int.natAbs_natCast];exact hnxl) hZl).mono (fun e w' h=>⟨_,h.1,rfl,h.2⟩)) ?_
   rintro v w' ⟨rfl,k1,k2,k3,k4,k5⟩
   rw [hdi,(hD 8 (by simp)).1] at hH'
   refine hk (b0,b1,b8) _ _ rfl (fun _ _ _=>rfl) ?_
   show SumH W0.drew P Z R b0 b1 b8 (d 0) (d 1) (d 8) (d 7) true (d 15) (d 16) w'
   rw [(hD 8 (by simp)).1]
   exact hH'.mulQ k1 k2 k3 k4 k5
  ·obtain rfl:=Option.some.inj ((show addOs[15]? = some addO15 from rfl).symm.trans ho)
   have d0:=(hD 0 (by simp)).1
   have hs1:=hH'.s0 d0
   rw [hdi] at hs1
   have hp7:=hH'.hp (hD 7 (by simp)).1
   have hq14:=hH'.hq (hD 14 (by simp)).1
   refine does_enter (run_callAddI a w _ _ _ _ _ _ _ _ _ _ (hD 0 (by simp)).2 (hD 7 (by simp)).2 (hD 14 (by simp)).2) (R:=fun w' v=>v=.pointer (some ⟨b0,0,none⟩)∧But [] W0.drew w'∧IntAt w' b0 0 R∧(∀ B,B≠b0→Slot w B 0→Slot w' B 0)∧(∀ b o z',b≠b0→IntAt w b o z'→IntAt w' b o z')∧w.heap.size≤w'.heap.size) ((intAddU_any b0 0 b1 0 b8 0 P Z R w (hs1.2.2 rfl) (hH'.n01 d0 hp7.1) (hH'.n08 d0 hq14.1) hp7.2 hq14.2 hPl hZl (by omega) hR).mono (fun e w' h=>by
    obtain ⟨h1,w1,v,h2,h3,rfl⟩:=h
    exact ⟨_,h1,rfl,intSum_new (hs1.2.2 rfl) hH'.but hs1.1 h2 h3⟩)) ?_
   rintro v w' ⟨rfl,k1,k2,k3,k4,k5⟩
   rw [hdi,d0] at hH'
   refine hk (b0,b1,b8) _ _ rfl (fun _ _ _=>rfl) ?_
   show SumH W0.drew P Z R b0 b1 b8 (d 0) (d 1) (d 8) (d 7) (d 14) true (d 16) w'
   rw [d0]
   exact hH'.sumR k1 k2 k3 k4 k5
  ·obtain rfl:=Option.some.inj ((show addOs[16]? = some addO16 from rfl).symm.trans ho)
   have d15:=(hD 15 (by simp)).1
   rw [d15] at hH'
   refine does_value (run_assP a w _ _ _ _ _ _ (hD 15 (by simp)).2) (hk (b0,b1,b8) _ _ rfl (fun _ _ _=>rfl) ?_)
   show SumH W0.drew P Z R b0 b1 b8 (d 0) (d 1) (d 8) (d 7) (d 14) (d 15) true w
   rw [d15]
   exact hH'.done
 ·rintro ⟨b0,b1,b8⟩ d w hd hH
  have hH':SumH W0.drew P Z R b0 b1 b8 (d 0) (d 1) (d 8) (d 7) (d 14) (d 15) (d 16) w:=hH
  exact hQ w b0 b1 b8 (hdr hH'.but) (hH'.s0 (hd 0 (by omega))).1 (hH'.hr (hd 15 (by omega))).2
theorem ratAddU_any (zb xb yb:Nat) (x y:Int) (nx ny:Nat) (w:World) (hz0:Slot w zb 0) (hz2:Slot w zb 2) (hx:RatAt w xb x (nx:Int)) (hy:RatAt w yb y (ny:Int)) (hnx:0<nx) (hny:0<ny) (hxl:(wd 4294967296 x.natAbs).length<8388608) (hyl:(wd 4294967296 y.natAbs).length<8388608) (hnxl:(wd 4294967296 nx).length<8388608) (hnyl:(wd 4294967296 ny).length<8388608) (P Z R D:Int) (hP:x*(ny:Int)=P) (hZ:y*(nx:Int)=Z) (hR:R=P+Z) (hD:(nx:Int)*(ny:Int)=D) (hPl:(wd 4294967296 P.natAbs).length<8388608) (hZl:(wd 4294967296 Z.natAbs).length<8388608) (hRl:(wd 4294967296 R.natAbs).length<8388608) (hDl:(wd 4294967296 D.natAbs).length<8388608) (hD0:D≠0) (A B:Int) (eA:Hid (A=redN (if D<0 then -R else R) D.natAbs)) (eB:Hid (B=redD R D.natAbs)) :
  Calls Tryz.prog 104 #[.pointer (some ⟨zb,0,none⟩),.pointer (some ⟨xb,0,none⟩),.pointer (some ⟨yb,0,none⟩)] w fun e w'=>e=.returned (.pointer (some ⟨zb,0,none⟩))∧But [zb] w w'∧RatAt w' zb A B:=by
 have HX:=hide hx
 have HY:=hide hy
 have HZ0:=hide hz0
 have HZ2:=hide hz2
 have REG:=hide (fun (Q:Exit→Act→World→Prop) (base:Act) (hs:23<base.tmps.size) (e1:base.eval (.tmp 1)=.pointer (some ⟨xb,0,none⟩)) (e2:base.eval (.tmp 2)=.pointer (some ⟨yb,0,none⟩))=>add_region 1 Q base w xb yb x y P Z R nx ny hs e1 e2 hx hy hnx hny hxl hyl hnxl hnyl hP hZ hR hPl hZl hRl)
 have DX:=hide (fun W (h:RatAt W xb x (nx:Int))=>den_any xb x nx W h hnx)
 have DY:=hide (fun W (h:RatAt W yb y (ny:Int))=>den_any yb y ny W h hny)
 have MU:=hide (fun (A:Nat) (w P:World) (hs:Slot P A 0) (hw:But [] w P) (hA:w.heap.size≤A) (hx:RatAt w xb x (nx:Int)) (hy:RatAt w yb y (ny:Int))=>intMul_newU A xb 2 yb 2 (nx:Int) (ny:Int) D hD w P hs hw hA hx.low hy.low (by rw [Int.natAbs_natCast];exact hnxl) (by rw [Int.natAbs_natCast];exact hnyl) hDl)
 have SF:=hide (fun (b0 b1:Nat) (W:World) (h0:Slot W zb 0) (h2:Slot W zb 2) (ha:IntAt W b0 0 R) (hb:IntAt W b1 0 D)=>setFracU_any zb b0 0 b1 0 R D W h0 h2 ha hb hRl hDl hD0 A B eA eB)
 clear hx hy hz0 hz2 hnx hny hxl hyl hnxl hnyl hP hZ hR hD hPl hZl hRl hDl hD0 eA eB
 go_enter Tryz.func104,Tryz.ntmps104
 go_wp2_with fail
 refine unhide REG _ _ (by simp) (by simp [Act.eval]) (by simp [Act.eval]) ?_
 intro w1 b0 b1 b8 hb1 hb0 hI
 simp only [putted,List.foldl_cons,List.foldl_nil,Act.put,List.setIfInBounds_toArray,List.set_cons_zero,List.set_cons_succ]
 obtain ⟨W0,hW0⟩:∃ W0,W0=w1.alloc (.cells #[.bool false,.slice none 0 0] 90):=⟨_,rfl⟩
 have hs:=slot_new w1 90
 rw [← hW0] at hs
 have hbw:But [] w1 W0:=by rw [hW0];exact (But.refl _ _).alloc _
 have hb2:=hb1.trans' hbw
 have K0:=hide (And.intro hs (And.intro hbw (And.intro hb1 (And.intro hb0 hI))))
 have KX:=hide ((unhide HX).but hb2)
 have KY:=hide ((unhide HY).but hb2)
 have HW0:=hide hW0
 clear hW0 hs hbw hb1 hb0 hb2 hI
 obtain ⟨g,hg⟩:∃ g,g=w1.heap.size:=⟨_,rfl⟩
 go_wp2_with fail
 rw [← unhide HW0,← hg]
 rw [← hg] at K0
 have HG:=hide hg
 clear hg
 refine (unhide DX _ (unhide KX)).mono ?_
 rintro e w2 ⟨rfl,hw⟩
 obtain rfl:=hw.symm
 clear hw
 go_wp2_with fail
 refine (unhide DY _ (unhide KY)).mono ?_
 rintro e w2 ⟨rfl,hw⟩
 obtain rfl:=hw.symm
 clear hw
 go_wp2_with fail
 refine (unhide MU g w1 W0 (unhide K0).1 (unhide K0).2.1 (Nat.le_of_eq (unhide HG).symm) ((unhide HX).but (unhide K0).2.2.1) ((unhide HY).but (unhide K0).2.2.1)).mono ?_
 rintro e w2 ⟨rfl,k1,k2,k3,k4,k5⟩
 have S0:=hide (And.intro (unhide HZ0) (unhide HZ2))
 have FIN:Hid (Slot w2 zb 0∧Slot w2 zb 2∧IntAt w2 b0 0 R∧IntAt w2 g 0 D∧But [] w w2):=by
  obtain ⟨hs,hbw,hb1,hb0,hI⟩:=unhide K0
  have hb3:=hb1.trans' k1
  exact ⟨(unhide HZ0).but hb3 (by simp),(unhide HZ2).but hb3 (by simp),hI.but k1,k2,hb3⟩
 clear k1 k2 k3 k4 k5 S0 K0 KX KY HW0 HG MU DX DY REG HX HY HZ0 HZ2
 go_wp2_with fail
 refine (unhide SF b0 g _ (unhide FIN).1 (unhide FIN).2.1 (unhide FIN).2.2.1 (unhide FIN).2.2.2.1).mono ?_
 rintro e w3 ⟨rfl,k1,k2⟩
 have F3:=hide (And.intro ((unhide FIN).2.2.2.2.of_nil.trans k1 (fun x hx=>.inl hx)) k2)
 clear k1 k2 FIN SF
 go_wp2
 go_ret
 exact ⟨rfl,(unhide F3).1,(unhide F3).2⟩
end Go.Proofs.YtollloafckcogaaGreatDoor
