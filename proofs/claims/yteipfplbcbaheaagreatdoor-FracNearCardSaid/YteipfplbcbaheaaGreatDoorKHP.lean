/- Sums and differences of ratios, as the Go text of package tontinebig makes them, for numbers of any length. -/
import Derived.Test.YteipfplbcbaheaaGreatDoorKHB
import Derived.Test.YteipfplbcbaheaaGreatDoorKR0
namespace Go.Proofs.YteipfplbcbaheaaGreatDoor
open Go.RowKit

theorem run_allocI (a : Act) (w : World) (d : Nat) (u : TypeId) (ps : String) (ed : Array Edge) :
  (execOp a.eval { dst:=some d,op:=Op.alloc 91,type:=u,pos:=ps,after:=ed,guard:=none }).run Tryz.prog w = .ok (.value (.pointer (some ⟨w.heap.size,0,none⟩))) (w.alloc (.cells #[.bool false,.slice none 0 0] 91)):=by
 unfold execOp
 go_simp
theorem run_moveP (a : Act) (w : World) (d t : Nat) (u : TypeId) (ps : String) (ed : Array Edge) (N : Value) (h : a.eval (.tmp t) = N) :
  (execOp a.eval { dst:=some d,op:=Op.move (.tmp t),type:=u,pos:=ps,after:=ed,guard:=none }).run Tryz.prog w = .ok (.value N) w:=by
 unfold execOp
 simp only [h]
 go_simp
theorem run_assP (a : Act) (w : World) (d t : Nat) (u : TypeId) (ps : String) (ed : Array Edge) (N : Value) (h : a.eval (.tmp t) = N) :
  (execOp a.eval { dst:=some d,op:=Op.assign (.tmp t),type:=u,pos:=ps,after:=ed,guard:=none }).run Tryz.prog w = .ok (.value N) w:=by
 unfold execOp
 simp only [h]
 go_simp
theorem run_nilP (a : Act) (w : World) (d t : Nat) (u : TypeId) (ps : String) (ed : Array Edge) (b o : Nat) (h : a.eval (.tmp t) = .pointer (some ⟨b,o,none⟩)) :
  (execOp a.eval { dst:=some d,op:=Op.nilCheck (.tmp t),type:=u,pos:=ps,after:=ed,guard:=none }).run Tryz.prog w = .ok (.value (.pointer (some ⟨b,o,none⟩))) w:=by
 unfold execOp
 simp only [h]
 go_simp
theorem run_fieldR (a : Act) (w : World) (d t : Nat) (u : TypeId) (ps : String) (ed : Array Edge) (b : Nat) (h : a.eval (.tmp t) = .pointer (some ⟨b,0,none⟩)) (_hl : b < w.heap.size) :
  (execOp a.eval { dst:=some d,op:=Op.fieldAddr 93 (.tmp t) 0,type:=u,pos:=ps,after:=ed,guard:=none }).run Tryz.prog w = .ok (.value (.pointer (some ⟨b,0,none⟩))) w:=by
 unfold execOp
 simp only [h]
 go_simp
theorem run_callDen (a : Act) (w : World) (d t : Nat) (u : TypeId) (ps : String) (ed : Array Edge) (x : Value) (h : a.eval (.tmp t) = x) :
  (execOp a.eval { dst:=some d,op:=Op.call { callee:=Callee.value (Operand.func 79),args:=#[Operand.tmp t],argTypes:=#[29] },type:=u,pos:=ps,after:=ed,guard:=none }).run Tryz.prog w = .ok (.enter 79 #[x]) w:=by
 unfold execOp
 go_simp
 rw [← h]
 simp [Act.eval]
theorem run_callMulI (a : Act) (w : World) (d t1 t2 t3 : Nat) (u : TypeId) (ps : String) (ed : Array Edge) (x1 x2 x3 : Value) (h1 : a.eval (.tmp t1) = x1) (h2 : a.eval (.tmp t2) = x2) (h3 : a.eval (.tmp t3) = x3) :
  (execOp a.eval { dst:=some d,op:=Op.call { callee:=Callee.value (Operand.func 81),args:=#[Operand.tmp t1,Operand.tmp t2,Operand.tmp t3],argTypes:=#[48,48,48] },type:=u,pos:=ps,after:=ed,guard:=none }).run Tryz.prog w = .ok (.enter 81 #[x1,x2,x3]) w:=by
 unfold execOp
 go_simp
 rw [← h1,← h2,← h3]
 simp [Act.eval]
theorem run_callSubI (a : Act) (w : World) (d t1 t2 t3 : Nat) (u : TypeId) (ps : String) (ed : Array Edge) (x1 x2 x3 : Value) (h1 : a.eval (.tmp t1) = x1) (h2 : a.eval (.tmp t2) = x2) (h3 : a.eval (.tmp t3) = x3) :
  (execOp a.eval { dst:=some d,op:=Op.call { callee:=Callee.value (Operand.func 139),args:=#[Operand.tmp t1,Operand.tmp t2,Operand.tmp t3],argTypes:=#[48,48,48] },type:=u,pos:=ps,after:=ed,guard:=none }).run Tryz.prog w = .ok (.enter 139 #[x1,x2,x3]) w:=by
 unfold execOp
 go_simp
 rw [← h1,← h2,← h3]
 simp [Act.eval]

theorem intSum_new {w P w1 : World} {A : Nat} {v : Value} {z : Int} (hs : Slot P A 0) (hw : But [] w P) (hA : w.heap.size ≤ A) (hb : But [] P w1) (hv : Sl .u32 w1 v (wd 4294967296 z.natAbs)) :
  But [] w (putI w1 A 0 v (decide (z < 0)))∧IntAt (putI w1 A 0 v (decide (z < 0))) A 0 z∧(∀ B,B ≠ A→Slot P B 0→Slot (putI w1 A 0 v (decide (z < 0))) B 0)∧(∀ b o z',b ≠ A→IntAt P b o z'→IntAt (putI w1 A 0 v (decide (z < 0))) b o z')∧P.heap.size ≤ (putI w1 A 0 v (decide (z < 0))).heap.size:=by
 have hs1:=hs.but hb (by simp)
 exact ⟨(hw.trans' hb).trans (put_but ..) (by simp; exact hA),put_int hs1 _ _ hv,fun B hB hS => put_slot_other _ _ (hS.but hb (by simp)) (.inl hB),fun b o z' hB hI => put_int_other hs1 _ _ (hI.but hb) (.inl hB),by rw [putI_size]; exact hb.size⟩

/-- how far a sum of products has come: three places, two products, the sum -/
structure SumH (W : World) (P Q R : Int) (b0 b1 b8 : Nat) (a0 a1 a8 p q r z : Bool) (w : World) : Prop where
 but : But [] W w
 s0 : a0 = true→W.heap.size ≤ b0∧b0 < w.heap.size∧(r = false→Slot w b0 0)
 s1 : a1 = true→W.heap.size ≤ b1∧b1 < w.heap.size∧(p = false→Slot w b1 0)
 s8 : a8 = true→W.heap.size ≤ b8∧b8 < w.heap.size∧(q = false→Slot w b8 0)
 n01 : a0 = true→a1 = true→b0 ≠ b1
 n08 : a0 = true→a8 = true→b0 ≠ b8
 n18 : a1 = true→a8 = true→b1 ≠ b8
 hp : p = true→a1 = true∧IntAt w b1 0 P
 hq : q = true→a8 = true∧IntAt w b8 0 Q
 hr : r = true→a0 = true∧IntAt w b0 0 R
 hz : z = true→r = true
theorem SumH.alloc0 {W : World} {P Q R : Int} {b0 b1 b8 : Nat} {a1 a8 p q r z : Bool} {w : World} (h : SumH W P Q R b0 b1 b8 false a1 a8 p q r z w) (t : TypeId) : SumH W P Q R w.heap.size b1 b8 true a1 a8 p q r z (w.alloc (.cells #[.bool false,.slice none 0 0] t)):=by
 have hb : But [] w (w.alloc (.cells #[.bool false,.slice none 0 0] t)):=(But.refl _ _).alloc _
 have hs:=hb.size
 exact ⟨h.but.trans' hb,fun _ => ⟨h.but.size,by simp,fun _ => slot_new w t⟩,fun e => ⟨(h.s1 e).1,Nat.lt_of_lt_of_le (h.s1 e).2.1 hs,fun k => ((h.s1 e).2.2 k).but hb (by simp)⟩,fun e => ⟨(h.s8 e).1,Nat.lt_of_lt_of_le (h.s8 e).2.1 hs,fun k => ((h.s8 e).2.2 k).but hb (by simp)⟩,
  fun _ e => Ne.symm (Nat.ne_of_lt (h.s1 e).2.1),fun _ e => Ne.symm (Nat.ne_of_lt (h.s8 e).2.1),h.n18,fun e => ⟨(h.hp e).1,(h.hp e).2.but hb⟩,fun e => ⟨(h.hq e).1,(h.hq e).2.but hb⟩,fun e => by have:=(h.hr e).1; simp at this,h.hz⟩
theorem SumH.alloc1 {W : World} {P Q R : Int} {b0 b1 b8 : Nat} {a0 a8 p q r z : Bool} {w : World} (h : SumH W P Q R b0 b1 b8 a0 false a8 p q r z w) (t : TypeId) : SumH W P Q R b0 w.heap.size b8 a0 true a8 p q r z (w.alloc (.cells #[.bool false,.slice none 0 0] t)):=by
 have hb : But [] w (w.alloc (.cells #[.bool false,.slice none 0 0] t)):=(But.refl _ _).alloc _
 have hs:=hb.size
 exact ⟨h.but.trans' hb,fun e => ⟨(h.s0 e).1,Nat.lt_of_lt_of_le (h.s0 e).2.1 hs,fun k => ((h.s0 e).2.2 k).but hb (by simp)⟩,fun _ => ⟨h.but.size,by simp,fun _ => slot_new w t⟩,fun e => ⟨(h.s8 e).1,Nat.lt_of_lt_of_le (h.s8 e).2.1 hs,fun k => ((h.s8 e).2.2 k).but hb (by simp)⟩,
  fun e _ => Nat.ne_of_lt (h.s0 e).2.1,h.n08,fun _ e => Ne.symm (Nat.ne_of_lt (h.s8 e).2.1),fun e => by have:=(h.hp e).1; simp at this,fun e => ⟨(h.hq e).1,(h.hq e).2.but hb⟩,fun e => ⟨(h.hr e).1,(h.hr e).2.but hb⟩,h.hz⟩
theorem SumH.alloc8 {W : World} {P Q R : Int} {b0 b1 b8 : Nat} {a0 a1 p q r z : Bool} {w : World} (h : SumH W P Q R b0 b1 b8 a0 a1 false p q r z w) (t : TypeId) : SumH W P Q R b0 b1 w.heap.size a0 a1 true p q r z (w.alloc (.cells #[.bool false,.slice none 0 0] t)):=by
 have hb : But [] w (w.alloc (.cells #[.bool false,.slice none 0 0] t)):=(But.refl _ _).alloc _
 have hs:=hb.size
 exact ⟨h.but.trans' hb,fun e => ⟨(h.s0 e).1,Nat.lt_of_lt_of_le (h.s0 e).2.1 hs,fun k => ((h.s0 e).2.2 k).but hb (by simp)⟩,fun e => ⟨(h.s1 e).1,Nat.lt_of_lt_of_le (h.s1 e).2.1 hs,fun k => ((h.s1 e).2.2 k).but hb (by simp)⟩,fun _ => ⟨h.but.size,by simp,fun _ => slot_new w t⟩,
  h.n01,fun e _ => Nat.ne_of_lt (h.s0 e).2.1,fun e _ => Nat.ne_of_lt (h.s1 e).2.1,fun e => ⟨(h.hp e).1,(h.hp e).2.but hb⟩,fun e => by have:=(h.hq e).1; simp at this,fun e => ⟨(h.hr e).1,(h.hr e).2.but hb⟩,h.hz⟩
theorem SumH.mulP {W : World} {P Q R : Int} {b0 b1 b8 : Nat} {a0 a8 q r z : Bool} {w w' : World} (h : SumH W P Q R b0 b1 b8 a0 true a8 false q r z w) (hw : But [] W w') (hI : IntAt w' b1 0 P) (hS : ∀ B,B ≠ b1→Slot w B 0→Slot w' B 0) (hK : ∀ b o z',b ≠ b1→IntAt w b o z'→IntAt w' b o z') (hl : w.heap.size ≤ w'.heap.size) : SumH W P Q R b0 b1 b8 a0 true a8 true q r z w' :=
 ⟨hw,fun e => ⟨(h.s0 e).1,Nat.lt_of_lt_of_le (h.s0 e).2.1 hl,fun k => hS _ (h.n01 e rfl) ((h.s0 e).2.2 k)⟩,fun e => ⟨(h.s1 e).1,Nat.lt_of_lt_of_le (h.s1 e).2.1 hl,fun k => by simp at k⟩,fun e => ⟨(h.s8 e).1,Nat.lt_of_lt_of_le (h.s8 e).2.1 hl,fun k => hS _ (Ne.symm (h.n18 rfl e)) ((h.s8 e).2.2 k)⟩,
  h.n01,h.n08,h.n18,fun _ => ⟨rfl,hI⟩,fun e => ⟨(h.hq e).1,hK _ _ _ (Ne.symm (h.n18 rfl (h.hq e).1)) (h.hq e).2⟩,fun e => ⟨(h.hr e).1,hK _ _ _ (h.n01 (h.hr e).1 rfl) (h.hr e).2⟩,h.hz⟩
theorem SumH.mulQ {W : World} {P Q R : Int} {b0 b1 b8 : Nat} {a0 a1 p r z : Bool} {w w' : World} (h : SumH W P Q R b0 b1 b8 a0 a1 true p false r z w) (hw : But [] W w') (hI : IntAt w' b8 0 Q) (hS : ∀ B,B ≠ b8→Slot w B 0→Slot w' B 0) (hK : ∀ b o z',b ≠ b8→IntAt w b o z'→IntAt w' b o z') (hl : w.heap.size ≤ w'.heap.size) : SumH W P Q R b0 b1 b8 a0 a1 true p true r z w' :=
 ⟨hw,fun e => ⟨(h.s0 e).1,Nat.lt_of_lt_of_le (h.s0 e).2.1 hl,fun k => hS _ (h.n08 e rfl) ((h.s0 e).2.2 k)⟩,fun e => ⟨(h.s1 e).1,Nat.lt_of_lt_of_le (h.s1 e).2.1 hl,fun k => hS _ (h.n18 e rfl) ((h.s1 e).2.2 k)⟩,fun e => ⟨(h.s8 e).1,Nat.lt_of_lt_of_le (h.s8 e).2.1 hl,fun k => by simp at k⟩,
  h.n01,h.n08,h.n18,fun e => ⟨(h.hp e).1,hK _ _ _ (h.n18 (h.hp e).1 rfl) (h.hp e).2⟩,fun _ => ⟨rfl,hI⟩,fun e => ⟨(h.hr e).1,hK _ _ _ (h.n08 (h.hr e).1 rfl) (h.hr e).2⟩,h.hz⟩
theorem SumH.sumR {W : World} {P Q R : Int} {b0 b1 b8 : Nat} {a1 a8 p q z : Bool} {w w' : World} (h : SumH W P Q R b0 b1 b8 true a1 a8 p q false z w) (hw : But [] W w') (hI : IntAt w' b0 0 R) (hS : ∀ B,B ≠ b0→Slot w B 0→Slot w' B 0) (hK : ∀ b o z',b ≠ b0→IntAt w b o z'→IntAt w' b o z') (hl : w.heap.size ≤ w'.heap.size) : SumH W P Q R b0 b1 b8 true a1 a8 p q true z w' :=
 ⟨hw,fun e => ⟨(h.s0 e).1,Nat.lt_of_lt_of_le (h.s0 e).2.1 hl,fun k => by simp at k⟩,fun e => ⟨(h.s1 e).1,Nat.lt_of_lt_of_le (h.s1 e).2.1 hl,fun k => hS _ (Ne.symm (h.n01 rfl e)) ((h.s1 e).2.2 k)⟩,fun e => ⟨(h.s8 e).1,Nat.lt_of_lt_of_le (h.s8 e).2.1 hl,fun k => hS _ (Ne.symm (h.n08 rfl e)) ((h.s8 e).2.2 k)⟩,
  h.n01,h.n08,h.n18,fun e => ⟨(h.hp e).1,hK _ _ _ (Ne.symm (h.n01 rfl (h.hp e).1)) (h.hp e).2⟩,fun e => ⟨(h.hq e).1,hK _ _ _ (Ne.symm (h.n08 rfl (h.hq e).1)) (h.hq e).2⟩,fun _ => ⟨rfl,hI⟩,fun _ => rfl⟩
theorem SumH.done {W : World} {P Q R : Int} {b0 b1 b8 : Nat} {a0 a1 a8 p q z : Bool} {w : World} (h : SumH W P Q R b0 b1 b8 a0 a1 a8 p q true z w) : SumH W P Q R b0 b1 b8 a0 a1 a8 p q true true w :=
 ⟨h.but,h.s0,h.s1,h.s8,h.n01,h.n08,h.n18,h.hp,h.hq,h.hr,fun _ => rfl⟩
end Go.Proofs.YteipfplbcbaheaaGreatDoor

namespace Go.Proofs.YteipfplbcbaheaaGreatDoor
open Go.RowKit

def subO0 : Oper := { dst := some 8, op := Op.alloc 91, type := 48, pos := "rat.go:124", after := #[], guard := none }
def subO1 : Oper := { dst := some 9, op := Op.alloc 91, type := 48, pos := "rat.go:124", after := #[], guard := none }
def subO2 : Oper := { dst := some 10, op := Op.move (Operand.tmp 1), type := 29, pos := "rat.go:124", after := #[], guard := none }
def subO3 : Oper := { dst := some 11, op := Op.nilCheck (Operand.tmp 10), type := 0, pos := "rat.go:124", after := #[{ on := 2, ground := Ground.data }], guard := none }
def subO4 : Oper := { dst := some 12, op := Op.fieldAddr 93 (Operand.tmp 11) 0, type := 0, pos := "rat.go:124", after := #[{ on := 3, ground := Ground.data }], guard := none }
def subO5 : Oper := { dst := some 13, op := Op.move (Operand.tmp 2), type := 29, pos := "rat.go:124", after := #[], guard := none }
def subO6 : Oper := { dst := some 14, op := Op.call { callee := Callee.value (Operand.func 79), args := #[Operand.tmp 13], argTypes := #[29] }, type := 48, pos := "rat.go:124", after := #[{ on := 5, ground := Ground.data }], guard := none }
def subO7 : Oper := { dst := some 15, op := Op.call { callee := Callee.value (Operand.func 81), args := #[Operand.tmp 9, Operand.tmp 12, Operand.tmp 14], argTypes := #[48, 48, 48] }, type := 48, pos := "rat.go:124", after := #[{ on := 1, ground := Ground.data }, { on := 4, ground := Ground.data }, { on := 6, ground := Ground.data }, { on := 6, ground := Ground.chain }], guard := none }
def subO8 : Oper := { dst := some 16, op := Op.alloc 91, type := 48, pos := "rat.go:124", after := #[], guard := none }
def subO9 : Oper := { dst := some 17, op := Op.move (Operand.tmp 2), type := 29, pos := "rat.go:124", after := #[], guard := none }
def subO10 : Oper := { dst := some 18, op := Op.nilCheck (Operand.tmp 17), type := 0, pos := "rat.go:124", after := #[{ on := 9, ground := Ground.data }], guard := none }
def subO11 : Oper := { dst := some 19, op := Op.fieldAddr 93 (Operand.tmp 18) 0, type := 0, pos := "rat.go:124", after := #[{ on := 10, ground := Ground.data }], guard := none }
def subO12 : Oper := { dst := some 20, op := Op.move (Operand.tmp 1), type := 29, pos := "rat.go:124", after := #[], guard := none }
def subO13 : Oper := { dst := some 21, op := Op.call { callee := Callee.value (Operand.func 79), args := #[Operand.tmp 20], argTypes := #[29] }, type := 48, pos := "rat.go:124", after := #[{ on := 12, ground := Ground.data }, { on := 7, ground := Ground.chain }], guard := none }
def subO14 : Oper := { dst := some 22, op := Op.call { callee := Callee.value (Operand.func 81), args := #[Operand.tmp 16, Operand.tmp 19, Operand.tmp 21], argTypes := #[48, 48, 48] }, type := 48, pos := "rat.go:124", after := #[{ on := 8, ground := Ground.data }, { on := 11, ground := Ground.data }, { on := 13, ground := Ground.data }, { on := 13, ground := Ground.chain }], guard := none }
def subO15 : Oper := { dst := some 23, op := Op.call { callee := Callee.value (Operand.func 139), args := #[Operand.tmp 8, Operand.tmp 15, Operand.tmp 22], argTypes := #[48, 48, 48] }, type := 48, pos := "rat.go:124", after := #[{ on := 0, ground := Ground.data }, { on := 7, ground := Ground.data }, { on := 14, ground := Ground.data }, { on := 14, ground := Ground.chain }], guard := none }
def subO16 : Oper := { dst := some 7, op := Op.assign (Operand.tmp 23), type := 48, pos := "rat.go:124", after := #[{ on := 15, ground := Ground.data }, { on := 15, ground := Ground.chain }, { on := 0, ground := Ground.phase }, { on := 1, ground := Ground.phase }, { on := 2, ground := Ground.phase }, { on := 3, ground := Ground.phase }, { on := 4, ground := Ground.phase }, { on := 5, ground := Ground.phase }, { on := 6, ground := Ground.phase }, { on := 7, ground := Ground.phase }, { on := 8, ground := Ground.phase }, { on := 9, ground := Ground.phase }, { on := 10, ground := Ground.phase }, { on := 11, ground := Ground.phase }, { on := 12, ground := Ground.phase }, { on := 13, ground := Ground.phase }, { on := 14, ground := Ground.phase }, { on := 15, ground := Ground.phase }], guard := none }
def subOs : Array Oper:=#[subO0,subO1,subO2,subO3,subO4,subO5,subO6,subO7,subO8,subO9,subO10,subO11,subO12,subO13,subO14,subO15,subO16]
def subOT (i : Nat) : Nat:=match i with
 | 0 => 8
 | 1 => 9
 | 2 => 10
 | 3 => 11
 | 4 => 12
 | 5 => 13
 | 6 => 14
 | 7 => 15
 | 8 => 16
 | 9 => 17
 | 10 => 18
 | 11 => 19
 | 12 => 20
 | 13 => 21
 | 14 => 22
 | 15 => 23
 | _ => 7
/-- what each operation's value is, by the names of what was made -/
def subOV (xb yb : Nat) (N : Nat × Nat × Nat) (i : Nat) : Value:=match i with
 | 0 => .pointer (some ⟨N.1,0,none⟩)
 | 1 => .pointer (some ⟨N.2.1,0,none⟩)
 | 2 => .pointer (some ⟨xb,0,none⟩)
 | 3 => .pointer (some ⟨xb,0,none⟩)
 | 4 => .pointer (some ⟨xb,0,none⟩)
 | 5 => .pointer (some ⟨yb,0,none⟩)
 | 6 => .pointer (some ⟨yb,2,none⟩)
 | 7 => .pointer (some ⟨N.2.1,0,none⟩)
 | 8 => .pointer (some ⟨N.2.2,0,none⟩)
 | 9 => .pointer (some ⟨yb,0,none⟩)
 | 10 => .pointer (some ⟨yb,0,none⟩)
 | 11 => .pointer (some ⟨yb,0,none⟩)
 | 12 => .pointer (some ⟨xb,0,none⟩)
 | 13 => .pointer (some ⟨xb,2,none⟩)
 | 14 => .pointer (some ⟨N.2.2,0,none⟩)
 | 15 => .pointer (some ⟨N.1,0,none⟩)
 | _ => .pointer (some ⟨N.1,0,none⟩)
theorem subOT_inj : ∀ i j,i < 17→j < 17→subOT i = subOT j→i = j:=fun i j hi hj => (by decide : ∀ i,i < 17→∀ j,j < 17→subOT i = subOT j→i = j) i hi j hj
set_option maxHeartbeats 4000000 in
set_option maxRecDepth 100000 in
theorem sub_region (id : Nat) (Q : Exit→Act→World→Prop) (base : Act) (W0 : World) (xb yb : Nat) (x y P Z R : Int) (nx ny : Nat) (hs : 23 < base.tmps.size) (e1 : base.eval (.tmp 1) = .pointer (some ⟨xb,0,none⟩)) (e2 : base.eval (.tmp 2) = .pointer (some ⟨yb,0,none⟩))
  (hx : RatAt W0 xb x (nx : Int)) (hy : RatAt W0 yb y (ny : Int)) (hnx : 0 < nx) (hny : 0 < ny) (hxl : (wd 4294967296 x.natAbs).length < 8388608) (hyl : (wd 4294967296 y.natAbs).length < 8388608) (hnxl : (wd 4294967296 nx).length < 8388608) (hnyl : (wd 4294967296 ny).length < 8388608) (hP : x * (ny : Int) = P) (hZ : y * (nx : Int) = Z) (hR : R = P - Z) (hPl : (wd 4294967296 P.natAbs).length < 8388608) (hZl : (wd 4294967296 Z.natAbs).length < 8388608) (hRl : (wd 4294967296 R.natAbs).length < 8388608)
  (hQ : ∀ w b0 b1 b8,But [] W0 w→W0.heap.size ≤ b0→IntAt w b0 0 R→Q .normal (putted base [(8,.pointer (some ⟨b0,0,none⟩)),(9,.pointer (some ⟨b1,0,none⟩)),(10,.pointer (some ⟨xb,0,none⟩)),(11,.pointer (some ⟨xb,0,none⟩)),(12,.pointer (some ⟨xb,0,none⟩)),(13,.pointer (some ⟨yb,0,none⟩)),(14,.pointer (some ⟨yb,2,none⟩)),(15,.pointer (some ⟨b1,0,none⟩)),(16,.pointer (some ⟨b8,0,none⟩)),(17,.pointer (some ⟨yb,0,none⟩)),(18,.pointer (some ⟨yb,0,none⟩)),(19,.pointer (some ⟨yb,0,none⟩)),(20,.pointer (some ⟨xb,0,none⟩)),(21,.pointer (some ⟨xb,2,none⟩)),(22,.pointer (some ⟨b8,0,none⟩)),(23,.pointer (some ⟨b0,0,none⟩)),(7,.pointer (some ⟨b0,0,none⟩))]) w) :
  (Code.region id subOs true).wp Tryz.prog Q base W0:=by
 have hdr : ∀ {w},But [] W0.drew w→But [] W0 w:=fun h => (But.refl _ _).drew.trans' h
 have hT : ∀ i,i < 17→subOT i < base.tmps.size:=fun i hi => by
  have h : subOT i ≤ 23:=by revert i; decide
  omega
 have lx:=hx.lt
 have ly:=hy.lt
 refine region_names (by kernel_rfl) (low_of (by kernel_rfl)) (bare_of (by kernel_rfl)) (α:=Nat × Nat × Nat) (fun N d w => SumH W0.drew P Z R N.1 N.2.1 N.2.2 (d 0) (d 1) (d 8) (d 7) (d 14) (d 15) (d 16) w) (subOV xb yb) subOT 17 (by kernel_rfl) subOT_inj hT (0,0,0) ?_ ?_ ?_
 ·exact ⟨But.refl _ _,by simp,by simp,by simp,by simp,by simp,by simp,by simp,by simp,by simp,by simp⟩
 ·rintro ⟨b0,b1,b8⟩ d i o a w K hi ho hdi hCl hH he hdep hk
  have hH' : SumH W0.drew P Z R b0 b1 b8 (d 0) (d 1) (d 8) (d 7) (d 14) (d 15) (d 16) w:=hH
  have hD:=dep_is (ps:=[(3,2),(4,3),(6,5),(7,1),(7,4),(7,6),(10,9),(11,10),(13,7),(13,12),(14,8),(14,11),(14,13),(15,0),(15,7),(15,14),(16,0),(16,1),(16,2),(16,3),(16,4),(16,5),(16,6),(16,7),(16,8),(16,9),(16,10),(16,11),(16,12),(16,13),(16,14),(16,15)]) (by kernel_rfl) ho (fun j => d j = true∧a.eval (.tmp (subOT j)) = subOV xb yb (b0,b1,b8) j) hdep
  have e1':=(he 1 (fun j hj e => absurd e.symm (by revert j; decide))).trans e1
  have e2':=(he 2 (fun j hj e => absurd e.symm (by revert j; decide))).trans e2
  have hB:=hdr hH'.but
  have hlw:=hB.size
  have : i = 0 ∨ i = 1 ∨ i = 2 ∨ i = 3 ∨ i = 4 ∨ i = 5 ∨ i = 6 ∨ i = 7 ∨ i = 8 ∨ i = 9 ∨ i = 10 ∨ i = 11 ∨ i = 12 ∨ i = 13 ∨ i = 14 ∨ i = 15 ∨ i = 16:=by omega
  rcases this with rfl | rfl | rfl | rfl | rfl | rfl | rfl | rfl | rfl | rfl | rfl | rfl | rfl | rfl | rfl | rfl | rfl
  ·obtain rfl:=Option.some.inj ((show subOs[0]? = some subO0 from rfl).symm.trans ho)
   rw [hdi] at hH'
   refine does_value (run_allocI a w _ _ _ _) (hk (w.heap.size,b1,b8) _ _ rfl (fun j hj hdj => ?_) (hH'.alloc0 _))
   have : j = 0 ∨ j = 1 ∨ j = 2 ∨ j = 3 ∨ j = 4 ∨ j = 5 ∨ j = 6 ∨ j = 7 ∨ j = 8 ∨ j = 9 ∨ j = 10 ∨ j = 11 ∨ j = 12 ∨ j = 13 ∨ j = 14 ∨ j = 15 ∨ j = 16:=by omega
   rcases this with rfl | rfl | rfl | rfl | rfl | rfl | rfl | rfl | rfl | rfl | rfl | rfl | rfl | rfl | rfl | rfl | rfl
   all_goals first
    | rfl
    | (rw [hdi] at hdj; simp at hdj)
    | (exfalso; first | (have:=(hH'.hr hdj).1; simp at this) | (have:=(hH'.hr (hH'.hz hdj)).1; simp at this))
  ·obtain rfl:=Option.some.inj ((show subOs[1]? = some subO1 from rfl).symm.trans ho)
   rw [hdi] at hH'
   refine does_value (run_allocI a w _ _ _ _) (hk (b0,w.heap.size,b8) _ _ rfl (fun j hj hdj => ?_) (hH'.alloc1 _))
   have : j = 0 ∨ j = 1 ∨ j = 2 ∨ j = 3 ∨ j = 4 ∨ j = 5 ∨ j = 6 ∨ j = 7 ∨ j = 8 ∨ j = 9 ∨ j = 10 ∨ j = 11 ∨ j = 12 ∨ j = 13 ∨ j = 14 ∨ j = 15 ∨ j = 16:=by omega
   rcases this with rfl | rfl | rfl | rfl | rfl | rfl | rfl | rfl | rfl | rfl | rfl | rfl | rfl | rfl | rfl | rfl | rfl
   all_goals first
    | rfl
    | (rw [hdi] at hdj; simp at hdj)
    | (exfalso; have:=(hH'.hp hdj).1; simp at this)
  ·obtain rfl:=Option.some.inj ((show subOs[2]? = some subO2 from rfl).symm.trans ho)
   exact does_value (run_moveP a w _ _ _ _ _ _ e1') (hk (b0,b1,b8) _ _ rfl (fun _ _ _ => rfl) hH)
  ·obtain rfl:=Option.some.inj ((show subOs[3]? = some subO3 from rfl).symm.trans ho)
   exact does_value (run_nilP a w _ _ _ _ _ _ 0 (hD 2 (by simp)).2) (hk (b0,b1,b8) _ _ rfl (fun _ _ _ => rfl) hH)
  ·obtain rfl:=Option.some.inj ((show subOs[4]? = some subO4 from rfl).symm.trans ho)
   exact does_value (run_fieldR a w _ _ _ _ _ _ (hD 3 (by simp)).2 (by omega)) (hk (b0,b1,b8) _ _ rfl (fun _ _ _ => rfl) hH)
  ·obtain rfl:=Option.some.inj ((show subOs[5]? = some subO5 from rfl).symm.trans ho)
   exact does_value (run_moveP a w _ _ _ _ _ _ e2') (hk (b0,b1,b8) _ _ rfl (fun _ _ _ => rfl) hH)
  ·obtain rfl:=Option.some.inj ((show subOs[6]? = some subO6 from rfl).symm.trans ho)
   refine does_enter (run_callDen a w _ _ _ _ _ _ (hD 5 (by simp)).2) (R:=fun w' v => v = .pointer (some ⟨yb,2,none⟩)∧w' = w) ((den_any yb y ny w (hy.but hB) hny).mono (fun e w' h => ⟨_,h.1,rfl,h.2⟩)) ?_
   rintro v w' ⟨rfl,rfl⟩
   exact hk (b0,b1,b8) _ _ rfl (fun _ _ _ => rfl) hH
  ·obtain rfl:=Option.some.inj ((show subOs[7]? = some subO7 from rfl).symm.trans ho)
   have hs1:=hH'.s1 (hD 1 (by simp)).1
   rw [hdi] at hs1
   refine does_enter (run_callMulI a w _ _ _ _ _ _ _ _ _ _ (hD 1 (by simp)).2 (hD 4 (by simp)).2 (hD 6 (by simp)).2) (R:=fun w' v => v = .pointer (some ⟨b1,0,none⟩)∧But [] W0.drew w'∧IntAt w' b1 0 P∧(∀ B,B ≠ b1→Slot w B 0→Slot w' B 0)∧(∀ b o z',b ≠ b1→IntAt w b o z'→IntAt w' b o z')∧w.heap.size ≤ w'.heap.size) ((intMul_newU b1 xb 0 yb 2 x (ny : Int) P hP W0.drew w (hs1.2.2 rfl) hH'.but hs1.1 hx.drew.up hy.drew.low hxl (by rw [Int.natAbs_natCast]; exact hnyl) hPl).mono (fun e w' h => ⟨_,h.1,rfl,h.2⟩)) ?_
   rintro v w' ⟨rfl,k1,k2,k3,k4,k5⟩
   rw [hdi,(hD 1 (by simp)).1] at hH'
   refine hk (b0,b1,b8) _ _ rfl (fun _ _ _ => rfl) ?_
   show SumH W0.drew P Z R b0 b1 b8 (d 0) (d 1) (d 8) true (d 14) (d 15) (d 16) w'
   rw [(hD 1 (by simp)).1]
   exact hH'.mulP k1 k2 k3 k4 k5
  ·obtain rfl:=Option.some.inj ((show subOs[8]? = some subO8 from rfl).symm.trans ho)
   rw [hdi] at hH'
   refine does_value (run_allocI a w _ _ _ _) (hk (b0,b1,w.heap.size) _ _ rfl (fun j hj hdj => ?_) (hH'.alloc8 _))
   have : j = 0 ∨ j = 1 ∨ j = 2 ∨ j = 3 ∨ j = 4 ∨ j = 5 ∨ j = 6 ∨ j = 7 ∨ j = 8 ∨ j = 9 ∨ j = 10 ∨ j = 11 ∨ j = 12 ∨ j = 13 ∨ j = 14 ∨ j = 15 ∨ j = 16:=by omega
   rcases this with rfl | rfl | rfl | rfl | rfl | rfl | rfl | rfl | rfl | rfl | rfl | rfl | rfl | rfl | rfl | rfl | rfl
   all_goals first
    | rfl
    | (rw [hdi] at hdj; simp at hdj)
    | (exfalso; have:=(hH'.hq hdj).1; simp at this)
  ·obtain rfl:=Option.some.inj ((show subOs[9]? = some subO9 from rfl).symm.trans ho)
   exact does_value (run_moveP a w _ _ _ _ _ _ e2') (hk (b0,b1,b8) _ _ rfl (fun _ _ _ => rfl) hH)
  ·obtain rfl:=Option.some.inj ((show subOs[10]? = some subO10 from rfl).symm.trans ho)
   exact does_value (run_nilP a w _ _ _ _ _ _ 0 (hD 9 (by simp)).2) (hk (b0,b1,b8) _ _ rfl (fun _ _ _ => rfl) hH)
  ·obtain rfl:=Option.some.inj ((show subOs[11]? = some subO11 from rfl).symm.trans ho)
   exact does_value (run_fieldR a w _ _ _ _ _ _ (hD 10 (by simp)).2 (by omega)) (hk (b0,b1,b8) _ _ rfl (fun _ _ _ => rfl) hH)
  ·obtain rfl:=Option.some.inj ((show subOs[12]? = some subO12 from rfl).symm.trans ho)
   exact does_value (run_moveP a w _ _ _ _ _ _ e1') (hk (b0,b1,b8) _ _ rfl (fun _ _ _ => rfl) hH)
  ·obtain rfl:=Option.some.inj ((show subOs[13]? = some subO13 from rfl).symm.trans ho)
   refine does_enter (run_callDen a w _ _ _ _ _ _ (hD 12 (by simp)).2) (R:=fun w' v => v = .pointer (some ⟨xb,2,none⟩)∧w' = w) ((den_any xb x nx w (hx.but hB) hnx).mono (fun e w' h => ⟨_,h.1,rfl,h.2⟩)) ?_
   rintro v w' ⟨rfl,rfl⟩
   exact hk (b0,b1,b8) _ _ rfl (fun _ _ _ => rfl) hH
  ·obtain rfl:=Option.some.inj ((show subOs[14]? = some subO14 from rfl).symm.trans ho)
   have hs1:=hH'.s8 (hD 8 (by simp)).1
   rw [hdi] at hs1
   refine does_enter (run_callMulI a w _ _ _ _ _ _ _ _ _ _ (hD 8 (by simp)).2 (hD 11 (by simp)).2 (hD 13 (by simp)).2) (R:=fun w' v => v = .pointer (some ⟨b8,0,none⟩)∧But [] W0.drew w'∧IntAt w' b8 0 Z∧(∀ B,B ≠ b8→Slot w B 0→Slot w' B 0)∧(∀ b o z',b ≠ b8→IntAt w b o z'→IntAt w' b o z')∧w.heap.size ≤ w'.heap.size) ((intMul_newU b8 yb 0 xb 2 y (nx : Int) Z hZ W0.drew w (hs1.2.2 rfl) hH'.but hs1.1 hy.drew.up hx.drew.low hyl (by rw [Int.natAbs_natCast]; exact hnxl) hZl).mono (fun e w' h => ⟨_,h.1,rfl,h.2⟩)) ?_
   rintro v w' ⟨rfl,k1,k2,k3,k4,k5⟩
   rw [hdi,(hD 8 (by simp)).1] at hH'
   refine hk (b0,b1,b8) _ _ rfl (fun _ _ _ => rfl) ?_
   show SumH W0.drew P Z R b0 b1 b8 (d 0) (d 1) (d 8) (d 7) true (d 15) (d 16) w'
   rw [(hD 8 (by simp)).1]
   exact hH'.mulQ k1 k2 k3 k4 k5
  ·obtain rfl:=Option.some.inj ((show subOs[15]? = some subO15 from rfl).symm.trans ho)
   have d0:=(hD 0 (by simp)).1
   have hs1:=hH'.s0 d0
   rw [hdi] at hs1
   have hp7:=hH'.hp (hD 7 (by simp)).1
   have hq14:=hH'.hq (hD 14 (by simp)).1
   refine does_enter (run_callSubI a w _ _ _ _ _ _ _ _ _ _ (hD 0 (by simp)).2 (hD 7 (by simp)).2 (hD 14 (by simp)).2) (R:=fun w' v => v = .pointer (some ⟨b0,0,none⟩)∧But [] W0.drew w'∧IntAt w' b0 0 R∧(∀ B,B ≠ b0→Slot w B 0→Slot w' B 0)∧(∀ b o z',b ≠ b0→IntAt w b o z'→IntAt w' b o z')∧w.heap.size ≤ w'.heap.size) ((intSubU_any b0 0 b1 0 b8 0 P Z R w (hs1.2.2 rfl) (hH'.n01 d0 hp7.1) (hH'.n08 d0 hq14.1) hp7.2 hq14.2 hPl hZl (by omega) hR).mono (fun e w' h => by
    obtain ⟨h1,w1,v,h2,h3,rfl⟩:=h
    exact ⟨_,h1,rfl,intSum_new (hs1.2.2 rfl) hH'.but hs1.1 h2 h3⟩)) ?_
   rintro v w' ⟨rfl,k1,k2,k3,k4,k5⟩
   rw [hdi,d0] at hH'
   refine hk (b0,b1,b8) _ _ rfl (fun _ _ _ => rfl) ?_
   show SumH W0.drew P Z R b0 b1 b8 (d 0) (d 1) (d 8) (d 7) (d 14) true (d 16) w'
   rw [d0]
   exact hH'.sumR k1 k2 k3 k4 k5
  ·obtain rfl:=Option.some.inj ((show subOs[16]? = some subO16 from rfl).symm.trans ho)
   have d15:=(hD 15 (by simp)).1
   rw [d15] at hH'
   refine does_value (run_assP a w _ _ _ _ _ _ (hD 15 (by simp)).2) (hk (b0,b1,b8) _ _ rfl (fun _ _ _ => rfl) ?_)
   show SumH W0.drew P Z R b0 b1 b8 (d 0) (d 1) (d 8) (d 7) (d 14) (d 15) true w
   rw [d15]
   exact hH'.done
 ·rintro ⟨b0,b1,b8⟩ d w hd hH
  have hH' : SumH W0.drew P Z R b0 b1 b8 (d 0) (d 1) (d 8) (d 7) (d 14) (d 15) (d 16) w:=hH
  exact hQ w b0 b1 b8 (hdr hH'.but) (hH'.s0 (hd 0 (by omega))).1 (hH'.hr (hd 15 (by omega))).2

set_option maxHeartbeats 8000000 in
set_option maxRecDepth 100000 in
theorem ratSubU_any (zb xb yb : Nat) (x y : Int) (nx ny : Nat) (w : World) (hz0 : Slot w zb 0) (hz2 : Slot w zb 2) (hx : RatAt w xb x (nx : Int)) (hy : RatAt w yb y (ny : Int)) (hnx : 0 < nx) (hny : 0 < ny) (hxl : (wd 4294967296 x.natAbs).length < 8388608) (hyl : (wd 4294967296 y.natAbs).length < 8388608) (hnxl : (wd 4294967296 nx).length < 8388608) (hnyl : (wd 4294967296 ny).length < 8388608) (P Z R D : Int) (hP : x * (ny : Int) = P) (hZ : y * (nx : Int) = Z) (hR : R = P - Z) (hD : (nx : Int) * (ny : Int) = D) (hPl : (wd 4294967296 P.natAbs).length < 8388608) (hZl : (wd 4294967296 Z.natAbs).length < 8388608) (hRl : (wd 4294967296 R.natAbs).length < 8388608) (hDl : (wd 4294967296 D.natAbs).length < 8388608) (hD0 : D ≠ 0) (A B : Int) (eA : Hid (A = redN (if D < 0 then -R else R) D.natAbs)) (eB : Hid (B = redD R D.natAbs)) :
  Calls Tryz.prog 71 #[.pointer (some ⟨zb,0,none⟩),.pointer (some ⟨xb,0,none⟩),.pointer (some ⟨yb,0,none⟩)] w fun e w' => e = .returned (.pointer (some ⟨zb,0,none⟩))∧But [zb] w w'∧RatAt w' zb A B:=by
 have HX:=hide hx
 have HY:=hide hy
 have HZ0:=hide hz0
 have HZ2:=hide hz2
 have REG:=hide (fun (Q : Exit→Act→World→Prop) (base : Act) (hs : 23 < base.tmps.size) (e1 : base.eval (.tmp 1) = .pointer (some ⟨xb,0,none⟩)) (e2 : base.eval (.tmp 2) = .pointer (some ⟨yb,0,none⟩)) => sub_region 1 Q base w xb yb x y P Z R nx ny hs e1 e2 hx hy hnx hny hxl hyl hnxl hnyl hP hZ hR hPl hZl hRl)
 have DX:=hide (fun W (h : RatAt W xb x (nx : Int)) => den_any xb x nx W h hnx)
 have DY:=hide (fun W (h : RatAt W yb y (ny : Int)) => den_any yb y ny W h hny)
 have MU:=hide (fun (A : Nat) (w P : World) (hs : Slot P A 0) (hw : But [] w P) (hA : w.heap.size ≤ A) (hx : RatAt w xb x (nx : Int)) (hy : RatAt w yb y (ny : Int)) => intMul_newU A xb 2 yb 2 (nx : Int) (ny : Int) D hD w P hs hw hA hx.low hy.low (by rw [Int.natAbs_natCast]; exact hnxl) (by rw [Int.natAbs_natCast]; exact hnyl) hDl)
 have SF:=hide (fun (b0 b1 : Nat) (W : World) (h0 : Slot W zb 0) (h2 : Slot W zb 2) (ha : IntAt W b0 0 R) (hb : IntAt W b1 0 D) => setFracU_any zb b0 0 b1 0 R D W h0 h2 ha hb hRl hDl hD0 A B eA eB)
 clear hx hy hz0 hz2 hnx hny hxl hyl hnxl hnyl hP hZ hR hD hPl hZl hRl hDl hD0 eA eB
 go_enter Tryz.func71,Tryz.ntmps71
 go_wp2_with fail
 refine unhide REG _ _ (by simp) (by simp [Act.eval]) (by simp [Act.eval]) ?_
 intro w1 b0 b1 b8 hb1 hb0 hI
 simp only [putted,List.foldl_cons,List.foldl_nil,Act.put,List.setIfInBounds_toArray,List.set_cons_zero,List.set_cons_succ]
 obtain ⟨W0,hW0⟩ : ∃ W0,W0 = w1.alloc (.cells #[.bool false,.slice none 0 0] 91):=⟨_,rfl⟩
 have hs:=slot_new w1 91
 rw [← hW0] at hs
 have hbw : But [] w1 W0:=by rw [hW0]; exact (But.refl _ _).alloc _
 have hb2:=hb1.trans' hbw
 have K0:=hide (And.intro hs (And.intro hbw (And.intro hb1 (And.intro hb0 hI))))
 have KX:=hide ((unhide HX).but hb2)
 have KY:=hide ((unhide HY).but hb2)
 have HW0:=hide hW0
 clear hW0 hs hbw hb1 hb0 hb2 hI
 obtain ⟨g,hg⟩ : ∃ g,g = w1.heap.size:=⟨_,rfl⟩
 go_wp2_with fail
 rw [← unhide HW0,← hg]
 rw [← hg] at K0
 have HG:=hide hg
 clear hg
 refine (unhide DX _ (unhide KX)).mono ?_
 rintro e w2 ⟨rfl,hw⟩
 obtain rfl:=hw.symm
 clear hw
 go_wp2_with fail
 refine (unhide DY _ (unhide KY)).mono ?_
 rintro e w2 ⟨rfl,hw⟩
 obtain rfl:=hw.symm
 clear hw
 go_wp2_with fail
 refine (unhide MU g w1 W0 (unhide K0).1 (unhide K0).2.1 (Nat.le_of_eq (unhide HG).symm) ((unhide HX).but (unhide K0).2.2.1) ((unhide HY).but (unhide K0).2.2.1)).mono ?_
 rintro e w2 ⟨rfl,k1,k2,k3,k4,k5⟩
 have S0:=hide (And.intro (unhide HZ0) (unhide HZ2))
 have FIN : Hid (Slot w2 zb 0∧Slot w2 zb 2∧IntAt w2 b0 0 R∧IntAt w2 g 0 D∧But [] w w2):=by
  obtain ⟨hs,hbw,hb1,hb0,hI⟩:=unhide K0
  have hb3:=hb1.trans' k1
  exact ⟨(unhide HZ0).but hb3 (by simp),(unhide HZ2).but hb3 (by simp),hI.but k1,k2,hb3⟩
 clear k1 k2 k3 k4 k5 S0 K0 KX KY HW0 HG MU DX DY REG HX HY HZ0 HZ2
 go_wp2_with fail
 refine (unhide SF b0 g _ (unhide FIN).1 (unhide FIN).2.1 (unhide FIN).2.2.1 (unhide FIN).2.2.2.1).mono ?_
 rintro e w3 ⟨rfl,k1,k2⟩
 have F3:=hide (And.intro ((unhide FIN).2.2.2.2.of_nil.trans k1 (fun x hx => .inl hx)) k2)
 clear k1 k2 FIN SF
 go_wp2
 go_ret
 exact ⟨rfl,(unhide F3).1,(unhide F3).2⟩
end Go.Proofs.YteipfplbcbaheaaGreatDoor

namespace Go.Proofs.YteipfplbcbaheaaGreatDoor
open Go.RowKit

theorem run_fieldI (a : Act) (w : World) (d t : Nat) (u : TypeId) (ps : String) (ed : Array Edge) (b o : Nat) (h : a.eval (.tmp t) = .pointer (some ⟨b,o,none⟩)) (_hl : b < w.heap.size) :
  (execOp a.eval { dst:=some d,op:=Op.fieldAddr 91 (.tmp t) 0,type:=u,pos:=ps,after:=ed,guard:=none }).run Tryz.prog w = .ok (.value (.pointer (some ⟨b,o,none⟩))) w:=by
 unfold execOp
 simp only [h]
 go_simp
theorem run_fieldJ (a : Act) (w : World) (d t : Nat) (u : TypeId) (ps : String) (ed : Array Edge) (b o : Nat) (h : a.eval (.tmp t) = .pointer (some ⟨b,o,none⟩)) (_hl : b < w.heap.size) :
  (execOp a.eval { dst:=some d,op:=Op.fieldAddr 91 (.tmp t) 1,type:=u,pos:=ps,after:=ed,guard:=none }).run Tryz.prog w = .ok (.value (.pointer (some ⟨b,o + 1,none⟩))) w:=by
 unfold execOp
 simp only [h]
 go_simp
theorem run_loadB (a : Act) (w : World) (d t : Nat) (u : TypeId) (ps : String) (ed : Array Edge) (b o : Nat) (s : Bool) (h : a.eval (.tmp t) = .pointer (some ⟨b,o,none⟩)) (hc : w.cell? ⟨b,o,none⟩ = some (.bool s)) :
  (execOp a.eval { dst:=some d,op:=Op.load 4 (.tmp t),type:=u,pos:=ps,after:=ed,guard:=none }).run Tryz.prog w = .ok (.value (.bool s)) w:=by
 unfold execOp
 simp only [h]
 go_simp
theorem run_loadW (a : Act) (w : World) (d t : Nat) (u : TypeId) (ps : String) (ed : Array Edge) (b o : Nat) (q : Option Addr) (n c : Nat) (h : a.eval (.tmp t) = .pointer (some ⟨b,o,none⟩)) (hc : w.cell? ⟨b,o,none⟩ = some (.slice q n c)) :
  (execOp a.eval { dst:=some d,op:=Op.load 89 (.tmp t),type:=u,pos:=ps,after:=ed,guard:=none }).run Tryz.prog w = .ok (.value (.slice q n c)) w:=by
 unfold execOp
 simp only [h]
 go_simp
theorem run_notB (a : Act) (w : World) (d t : Nat) (u : TypeId) (ps : String) (ed : Array Edge) (s : Bool) (h : a.eval (.tmp t) = .bool s) :
  (execOp a.eval { dst:=some d,op:=Op.unOp UnOp.not 4 (.tmp t),type:=u,pos:=ps,after:=ed,guard:=none }).run Tryz.prog w = .ok (.value (.bool !s)) w:=by
 unfold execOp
 simp only [h]
 go_simp
theorem run_ext0 (a : Act) (w : World) (d t : Nat) (u : TypeId) (ps : String) (ed : Array Edge) (x y : Value) (h : a.eval (.tmp t) = .tuple #[x,y]) :
  (execOp a.eval { dst:=some d,op:=Op.extract (.tmp t) 0,type:=u,pos:=ps,after:=ed,guard:=none }).run Tryz.prog w = .ok (.value x) w:=by
 unfold execOp
 simp only [h]
 go_simp
theorem run_ext1 (a : Act) (w : World) (d t : Nat) (u : TypeId) (ps : String) (ed : Array Edge) (x y : Value) (h : a.eval (.tmp t) = .tuple #[x,y]) :
  (execOp a.eval { dst:=some d,op:=Op.extract (.tmp t) 1,type:=u,pos:=ps,after:=ed,guard:=none }).run Tryz.prog w = .ok (.value y) w:=by
 unfold execOp
 simp only [h]
 go_simp
theorem run_callSumW (a : Act) (w : World) (d t1 t2 t3 t4 : Nat) (u : TypeId) (ps : String) (ed : Array Edge) (x1 x2 x3 x4 : Value) (h1 : a.eval (.tmp t1) = x1) (h2 : a.eval (.tmp t2) = x2) (h3 : a.eval (.tmp t3) = x3) (h4 : a.eval (.tmp t4) = x4) :
  (execOp a.eval { dst:=some d,op:=Op.call { callee:=Callee.value (Operand.func 157),args:=#[Operand.tmp t1,Operand.tmp t2,Operand.tmp t3,Operand.tmp t4],argTypes:=#[4,89,4,89] },type:=u,pos:=ps,after:=ed,guard:=none }).run Tryz.prog w = .ok (.enter 157 #[x1,x2,x3,x4]) w:=by
 unfold execOp
 go_simp
 rw [← h1,← h2,← h3,← h4]
 simp [Act.eval]
theorem run_callGive (a : Act) (w : World) (d t1 t2 t3 : Nat) (u : TypeId) (ps : String) (ed : Array Edge) (x1 x2 x3 : Value) (h1 : a.eval (.tmp t1) = x1) (h2 : a.eval (.tmp t2) = x2) (h3 : a.eval (.tmp t3) = x3) :
  (execOp a.eval { dst:=some d,op:=Op.call { callee:=Callee.value (Operand.func 146),args:=#[Operand.tmp t1,Operand.tmp t2,Operand.tmp t3],argTypes:=#[48,4,89] },type:=u,pos:=ps,after:=ed,guard:=none }).run Tryz.prog w = .ok (.enter 146 #[x1,x2,x3]) w:=by
 unfold execOp
 go_simp
 rw [← h1,← h2,← h3]
 simp [Act.eval]

/-- how far a sum has come: the sum, its place written -/
structure GiveH (W : World) (b o : Nat) (z : Int) (c g s : Bool) (v : Value) (w : World) : Prop where
 size : W.heap.size ≤ w.heap.size
 but : g = false→But [] W w
 sum : c = true→g = false→Sl .u32 w v (wd 4294967296 z.natAbs)
 sg : c = true→(s && decide (0 < (wd 4294967296 z.natAbs).length)) = decide (z < 0)
 fin : g = true→∃ w1,But [] W w1∧Sl .u32 w1 v (wd 4294967296 z.natAbs)∧w = putI w1 b o v (decide (z < 0))

def iaddO0 : Oper := { dst := some 7, op := Op.move (Operand.tmp 0), type := 48, pos := "int.go:462", after := #[], guard := none }
def iaddO1 : Oper := { dst := some 8, op := Op.move (Operand.tmp 1), type := 48, pos := "int.go:462", after := #[], guard := none }
def iaddO2 : Oper := { dst := some 9, op := Op.nilCheck (Operand.tmp 8), type := 0, pos := "int.go:462", after := #[{ on := 1, ground := Ground.data }], guard := none }
def iaddO3 : Oper := { dst := some 10, op := Op.fieldAddr 91 (Operand.tmp 9) 0, type := 0, pos := "int.go:462", after := #[{ on := 2, ground := Ground.data }], guard := none }
def iaddO4 : Oper := { dst := some 11, op := Op.load 4 (Operand.tmp 10), type := 4, pos := "int.go:462", after := #[{ on := 3, ground := Ground.data }], guard := none }
def iaddO5 : Oper := { dst := some 12, op := Op.move (Operand.tmp 1), type := 48, pos := "int.go:462", after := #[], guard := none }
def iaddO6 : Oper := { dst := some 13, op := Op.nilCheck (Operand.tmp 12), type := 0, pos := "int.go:462", after := #[{ on := 5, ground := Ground.data }], guard := none }
def iaddO7 : Oper := { dst := some 14, op := Op.fieldAddr 91 (Operand.tmp 13) 1, type := 0, pos := "int.go:462", after := #[{ on := 6, ground := Ground.data }], guard := none }
def iaddO8 : Oper := { dst := some 15, op := Op.load 89 (Operand.tmp 14), type := 89, pos := "int.go:462", after := #[{ on := 7, ground := Ground.data }], guard := none }
def iaddO9 : Oper := { dst := some 16, op := Op.move (Operand.tmp 2), type := 48, pos := "int.go:462", after := #[], guard := none }
def iaddO10 : Oper := { dst := some 17, op := Op.nilCheck (Operand.tmp 16), type := 0, pos := "int.go:462", after := #[{ on := 9, ground := Ground.data }], guard := none }
def iaddO11 : Oper := { dst := some 18, op := Op.fieldAddr 91 (Operand.tmp 17) 0, type := 0, pos := "int.go:462", after := #[{ on := 10, ground := Ground.data }], guard := none }
def iaddO12 : Oper := { dst := some 19, op := Op.load 4 (Operand.tmp 18), type := 4, pos := "int.go:462", after := #[{ on := 11, ground := Ground.data }], guard := none }
def iaddO13 : Oper := { dst := some 20, op := Op.move (Operand.tmp 2), type := 48, pos := "int.go:462", after := #[], guard := none }
def iaddO14 : Oper := { dst := some 21, op := Op.nilCheck (Operand.tmp 20), type := 0, pos := "int.go:462", after := #[{ on := 13, ground := Ground.data }], guard := none }
def iaddO15 : Oper := { dst := some 22, op := Op.fieldAddr 91 (Operand.tmp 21) 1, type := 0, pos := "int.go:462", after := #[{ on := 14, ground := Ground.data }], guard := none }
def iaddO16 : Oper := { dst := some 23, op := Op.load 89 (Operand.tmp 22), type := 89, pos := "int.go:462", after := #[{ on := 15, ground := Ground.data }], guard := none }
def iaddO17 : Oper := { dst := some 24, op := Op.call { callee := Callee.value (Operand.func 157), args := #[Operand.tmp 11, Operand.tmp 15, Operand.tmp 19, Operand.tmp 23], argTypes := #[4, 89, 4, 89] }, type := 186, pos := "int.go:462", after := #[{ on := 4, ground := Ground.data }, { on := 8, ground := Ground.data }, { on := 12, ground := Ground.data }, { on := 16, ground := Ground.data }], guard := none }
def iaddO18 : Oper := { dst := some 25, op := Op.extract (Operand.tmp 24) 0, type := 4, pos := "int.go:462", after := #[{ on := 17, ground := Ground.data }], guard := none }
def iaddO19 : Oper := { dst := some 26, op := Op.extract (Operand.tmp 24) 1, type := 89, pos := "int.go:462", after := #[{ on := 17, ground := Ground.data }], guard := none }
def iaddO20 : Oper := { dst := some 27, op := Op.call { callee := Callee.value (Operand.func 146), args := #[Operand.tmp 7, Operand.tmp 25, Operand.tmp 26], argTypes := #[48, 4, 89] }, type := 48, pos := "int.go:462", after := #[{ on := 0, ground := Ground.data }, { on := 18, ground := Ground.data }, { on := 19, ground := Ground.data }, { on := 17, ground := Ground.chain }], guard := none }
def iaddO21 : Oper := { dst := some 6, op := Op.assign (Operand.tmp 27), type := 48, pos := "int.go:462", after := #[{ on := 20, ground := Ground.data }, { on := 20, ground := Ground.chain }, { on := 0, ground := Ground.phase }, { on := 1, ground := Ground.phase }, { on := 2, ground := Ground.phase }, { on := 3, ground := Ground.phase }, { on := 4, ground := Ground.phase }, { on := 5, ground := Ground.phase }, { on := 6, ground := Ground.phase }, { on := 7, ground := Ground.phase }, { on := 8, ground := Ground.phase }, { on := 9, ground := Ground.phase }, { on := 10, ground := Ground.phase }, { on := 11, ground := Ground.phase }, { on := 12, ground := Ground.phase }, { on := 13, ground := Ground.phase }, { on := 14, ground := Ground.phase }, { on := 15, ground := Ground.phase }, { on := 16, ground := Ground.phase }, { on := 17, ground := Ground.phase }, { on := 18, ground := Ground.phase }, { on := 19, ground := Ground.phase }, { on := 20, ground := Ground.phase }], guard := none }
def iaddOs : Array Oper:=#[iaddO0,iaddO1,iaddO2,iaddO3,iaddO4,iaddO5,iaddO6,iaddO7,iaddO8,iaddO9,iaddO10,iaddO11,iaddO12,iaddO13,iaddO14,iaddO15,iaddO16,iaddO17,iaddO18,iaddO19,iaddO20,iaddO21]
def iaddOT (i : Nat) : Nat:=match i with
 | 0 => 7
 | 1 => 8
 | 2 => 9
 | 3 => 10
 | 4 => 11
 | 5 => 12
 | 6 => 13
 | 7 => 14
 | 8 => 15
 | 9 => 16
 | 10 => 17
 | 11 => 18
 | 12 => 19
 | 13 => 20
 | 14 => 21
 | 15 => 22
 | 16 => 23
 | 17 => 24
 | 18 => 25
 | 19 => 26
 | 20 => 27
 | _ => 6
/-- what each operation's value is, by the names of what was made -/
def iaddOV (b o b1 o1 b2 o2 : Nat) (sx sy : Bool) (qx qy : Option Addr) (lx cx ly cy : Nat) (N : Bool × Value) (i : Nat) : Value:=match i with
 | 0 => .pointer (some ⟨b,o,none⟩)
 | 1 => .pointer (some ⟨b1,o1,none⟩)
 | 2 => .pointer (some ⟨b1,o1,none⟩)
 | 3 => .pointer (some ⟨b1,o1,none⟩)
 | 4 => .bool sx
 | 5 => .pointer (some ⟨b1,o1,none⟩)
 | 6 => .pointer (some ⟨b1,o1,none⟩)
 | 7 => .pointer (some ⟨b1,o1 + 1,none⟩)
 | 8 => .slice qx lx cx
 | 9 => .pointer (some ⟨b2,o2,none⟩)
 | 10 => .pointer (some ⟨b2,o2,none⟩)
 | 11 => .pointer (some ⟨b2,o2,none⟩)
 | 12 => .bool sy
 | 13 => .pointer (some ⟨b2,o2,none⟩)
 | 14 => .pointer (some ⟨b2,o2,none⟩)
 | 15 => .pointer (some ⟨b2,o2 + 1,none⟩)
 | 16 => .slice qy ly cy
 | 17 => .tuple #[.bool N.1,N.2]
 | 18 => .bool N.1
 | 19 => N.2
 | 20 => .pointer (some ⟨b,o,none⟩)
 | _ => .pointer (some ⟨b,o,none⟩)
theorem iaddOT_inj : ∀ i j,i < 22→j < 22→iaddOT i = iaddOT j→i = j:=fun i j hi hj => (by decide : ∀ i,i < 22→∀ j,j < 22→iaddOT i = iaddOT j→i = j) i hi j hj
set_option maxHeartbeats 4000000 in
set_option maxRecDepth 100000 in
theorem iadd_region (id : Nat) (Q : Exit→Act→World→Prop) (base : Act) (W0 : World) (b o b1 o1 b2 o2 : Nat) (sx sy : Bool) (qx qy : Option Addr) (lx cx ly cy : Nat) (z : Int) (hs : 27 < base.tmps.size) (e0 : base.eval (.tmp 0) = .pointer (some ⟨b,o,none⟩)) (e1 : base.eval (.tmp 1) = .pointer (some ⟨b1,o1,none⟩)) (e2 : base.eval (.tmp 2) = .pointer (some ⟨b2,o2,none⟩))
  (hz : Slot W0 b o) (x0 : W0.cell? ⟨b1,o1,none⟩ = some (.bool sx)) (x1 : W0.cell? ⟨b1,o1 + 1,none⟩ = some (.slice qx lx cx)) (y0 : W0.cell? ⟨b2,o2,none⟩ = some (.bool sy)) (y1 : W0.cell? ⟨b2,o2 + 1,none⟩ = some (.slice qy ly cy)) (hzl : (wd 4294967296 z.natAbs).length < 2147483648)
  (SM : ∀ W,But [] W0 W→Calls Tryz.prog 157 #[.bool sx,.slice qx lx cx,.bool sy,.slice qy ly cy] W fun e w' => ∃ s v,e = .returned (.tuple #[.bool s,v])∧Sl .u32 w' v (wd 4294967296 z.natAbs)∧But [] W w'∧(s && decide (0 < (wd 4294967296 z.natAbs).length)) = decide (z < 0))
  (hQ : ∀ w s v,(∃ w1,But [] W0 w1∧Sl .u32 w1 v (wd 4294967296 z.natAbs)∧w = putI w1 b o v (decide (z < 0)))→Q .normal (putted base [(7,.pointer (some ⟨b,o,none⟩)),(8,.pointer (some ⟨b1,o1,none⟩)),(9,.pointer (some ⟨b1,o1,none⟩)),(10,.pointer (some ⟨b1,o1,none⟩)),(11,.bool sx),(12,.pointer (some ⟨b1,o1,none⟩)),(13,.pointer (some ⟨b1,o1,none⟩)),(14,.pointer (some ⟨b1,o1 + 1,none⟩)),(15,.slice qx lx cx),(16,.pointer (some ⟨b2,o2,none⟩)),(17,.pointer (some ⟨b2,o2,none⟩)),(18,.pointer (some ⟨b2,o2,none⟩)),(19,.bool sy),(20,.pointer (some ⟨b2,o2,none⟩)),(21,.pointer (some ⟨b2,o2,none⟩)),(22,.pointer (some ⟨b2,o2 + 1,none⟩)),(23,.slice qy ly cy),(24,.tuple #[.bool s,v]),(25,.bool s),(26,v),(27,.pointer (some ⟨b,o,none⟩)),(6,.pointer (some ⟨b,o,none⟩))]) w) :
  (Code.region id iaddOs true).wp Tryz.prog Q base W0:=by
 have hdr : ∀ {w},But [] W0.drew w→But [] W0 w:=fun h => (But.refl _ _).drew.trans' h
 have hT : ∀ i,i < 22→iaddOT i < base.tmps.size:=fun i hi => by
  have h : iaddOT i ≤ 27:=by revert i; decide
  omega
 have lx':=lt_of_cell x0
 have ly':=lt_of_cell y0
 simp only at lx' ly'
 refine region_names (by kernel_rfl) (low_of (by kernel_rfl)) (bare_of (by kernel_rfl)) (α:=Bool × Value) (fun N d w => GiveH W0.drew b o z (d 17) (d 20) N.1 N.2 w) (iaddOV b o b1 o1 b2 o2 sx sy qx qy lx cx ly cy) iaddOT 22 (by kernel_rfl) iaddOT_inj hT (false,undef) ?_ ?_ ?_
 ·exact ⟨Nat.le_refl _,fun _ => But.refl _ _,by simp,by simp,by simp⟩
 ·rintro ⟨s,v⟩ d i o' a w K hi ho hdi hCl hH he hdep hk
  have hN : ∀ i j,(i,j) ∈ [(20,17),(17,4),(17,8),(17,16),(18,17),(19,17),(17,12)]→d j = false→d i = false:=fun i j hij h => hCl.not (ps:=[(20,17),(17,4),(17,8),(17,16),(18,17),(19,17),(17,12)]) (by kernel_rfl) hij h
  have hH' : GiveH W0.drew b o z (d 17) (d 20) s v w:=hH
  have hD:=dep_is (ps:=[(2,1),(3,2),(4,3),(6,5),(7,6),(8,7),(10,9),(11,10),(12,11),(14,13),(15,14),(16,15),(17,4),(17,8),(17,12),(17,16),(18,17),(19,17),(20,0),(20,17),(20,18),(20,19),(21,0),(21,1),(21,2),(21,3),(21,4),(21,5),(21,6),(21,7),(21,8),(21,9),(21,10),(21,11),(21,12),(21,13),(21,14),(21,15),(21,16),(21,17),(21,18),(21,19),(21,20)]) (by kernel_rfl) ho (fun j => d j = true∧a.eval (.tmp (iaddOT j)) = iaddOV b o b1 o1 b2 o2 sx sy qx qy lx cx ly cy (s,v) j) hdep
  have e0':=(he 0 (fun j hj e => absurd e.symm (by revert j; decide))).trans e0
  have e1':=(he 1 (fun j hj e => absurd e.symm (by revert j; decide))).trans e1
  have e2':=(he 2 (fun j hj e => absurd e.symm (by revert j; decide))).trans e2
  have hlw : W0.heap.size ≤ w.heap.size:=hH'.size
  have : i = 0 ∨ i = 1 ∨ i = 2 ∨ i = 3 ∨ i = 4 ∨ i = 5 ∨ i = 6 ∨ i = 7 ∨ i = 8 ∨ i = 9 ∨ i = 10 ∨ i = 11 ∨ i = 12 ∨ i = 13 ∨ i = 14 ∨ i = 15 ∨ i = 16 ∨ i = 17 ∨ i = 18 ∨ i = 19 ∨ i = 20 ∨ i = 21:=by omega
  rcases this with rfl | rfl | rfl | rfl | rfl | rfl | rfl | rfl | rfl | rfl | rfl | rfl | rfl | rfl | rfl | rfl | rfl | rfl | rfl | rfl | rfl | rfl
  ·obtain rfl:=Option.some.inj ((show iaddOs[0]? = some iaddO0 from rfl).symm.trans ho)
   exact does_value (run_moveP a w _ _ _ _ _ _ e0') (hk (s,v) _ _ rfl (fun _ _ _ => rfl) hH)
  ·obtain rfl:=Option.some.inj ((show iaddOs[1]? = some iaddO1 from rfl).symm.trans ho)
   exact does_value (run_moveP a w _ _ _ _ _ _ e1') (hk (s,v) _ _ rfl (fun _ _ _ => rfl) hH)
  ·obtain rfl:=Option.some.inj ((show iaddOs[2]? = some iaddO2 from rfl).symm.trans ho)
   exact does_value (run_nilP a w _ _ _ _ _ _ _ (hD 1 (by simp)).2) (hk (s,v) _ _ rfl (fun _ _ _ => rfl) hH)
  ·obtain rfl:=Option.some.inj ((show iaddOs[3]? = some iaddO3 from rfl).symm.trans ho)
   exact does_value (run_fieldI a w _ _ _ _ _ _ _ (hD 2 (by simp)).2 (by omega)) (hk (s,v) _ _ rfl (fun _ _ _ => rfl) hH)
  ·obtain rfl:=Option.some.inj ((show iaddOs[4]? = some iaddO4 from rfl).symm.trans ho)
   have hb:=hdr (hH'.but (hN 20 17 (by simp) (hN 17 4 (by simp) hdi)))
   exact does_value (run_loadB a w _ _ _ _ _ _ _ _ (hD 3 (by simp)).2 (hb.cell_some x0 (by simp))) (hk (s,v) _ _ rfl (fun _ _ _ => rfl) hH)
  ·obtain rfl:=Option.some.inj ((show iaddOs[5]? = some iaddO5 from rfl).symm.trans ho)
   exact does_value (run_moveP a w _ _ _ _ _ _ e1') (hk (s,v) _ _ rfl (fun _ _ _ => rfl) hH)
  ·obtain rfl:=Option.some.inj ((show iaddOs[6]? = some iaddO6 from rfl).symm.trans ho)
   exact does_value (run_nilP a w _ _ _ _ _ _ _ (hD 5 (by simp)).2) (hk (s,v) _ _ rfl (fun _ _ _ => rfl) hH)
  ·obtain rfl:=Option.some.inj ((show iaddOs[7]? = some iaddO7 from rfl).symm.trans ho)
   exact does_value (run_fieldJ a w _ _ _ _ _ _ _ (hD 6 (by simp)).2 (by omega)) (hk (s,v) _ _ rfl (fun _ _ _ => rfl) hH)
  ·obtain rfl:=Option.some.inj ((show iaddOs[8]? = some iaddO8 from rfl).symm.trans ho)
   have hb:=hdr (hH'.but (hN 20 17 (by simp) (hN 17 8 (by simp) hdi)))
   exact does_value (run_loadW a w _ _ _ _ _ _ _ _ _ _ (hD 7 (by simp)).2 (hb.cell_some x1 (by simp))) (hk (s,v) _ _ rfl (fun _ _ _ => rfl) hH)
  ·obtain rfl:=Option.some.inj ((show iaddOs[9]? = some iaddO9 from rfl).symm.trans ho)
   exact does_value (run_moveP a w _ _ _ _ _ _ e2') (hk (s,v) _ _ rfl (fun _ _ _ => rfl) hH)
  ·obtain rfl:=Option.some.inj ((show iaddOs[10]? = some iaddO10 from rfl).symm.trans ho)
   exact does_value (run_nilP a w _ _ _ _ _ _ _ (hD 9 (by simp)).2) (hk (s,v) _ _ rfl (fun _ _ _ => rfl) hH)
  ·obtain rfl:=Option.some.inj ((show iaddOs[11]? = some iaddO11 from rfl).symm.trans ho)
   exact does_value (run_fieldI a w _ _ _ _ _ _ _ (hD 10 (by simp)).2 (by omega)) (hk (s,v) _ _ rfl (fun _ _ _ => rfl) hH)
  ·obtain rfl:=Option.some.inj ((show iaddOs[12]? = some iaddO12 from rfl).symm.trans ho)
   have hb:=hdr (hH'.but (hN 20 17 (by simp) (hN 17 12 (by simp) hdi)))
   exact does_value (run_loadB a w _ _ _ _ _ _ _ _ (hD 11 (by simp)).2 (hb.cell_some y0 (by simp))) (hk (s,v) _ _ rfl (fun _ _ _ => rfl) hH)
  ·obtain rfl:=Option.some.inj ((show iaddOs[13]? = some iaddO13 from rfl).symm.trans ho)
   exact does_value (run_moveP a w _ _ _ _ _ _ e2') (hk (s,v) _ _ rfl (fun _ _ _ => rfl) hH)
  ·obtain rfl:=Option.some.inj ((show iaddOs[14]? = some iaddO14 from rfl).symm.trans ho)
   exact does_value (run_nilP a w _ _ _ _ _ _ _ (hD 13 (by simp)).2) (hk (s,v) _ _ rfl (fun _ _ _ => rfl) hH)
  ·obtain rfl:=Option.some.inj ((show iaddOs[15]? = some iaddO15 from rfl).symm.trans ho)
   exact does_value (run_fieldJ a w _ _ _ _ _ _ _ (hD 14 (by simp)).2 (by omega)) (hk (s,v) _ _ rfl (fun _ _ _ => rfl) hH)
  ·obtain rfl:=Option.some.inj ((show iaddOs[16]? = some iaddO16 from rfl).symm.trans ho)
   have hb:=hdr (hH'.but (hN 20 17 (by simp) (hN 17 16 (by simp) hdi)))
   exact does_value (run_loadW a w _ _ _ _ _ _ _ _ _ _ (hD 15 (by simp)).2 (hb.cell_some y1 (by simp))) (hk (s,v) _ _ rfl (fun _ _ _ => rfl) hH)
  ·obtain rfl:=Option.some.inj ((show iaddOs[17]? = some iaddO17 from rfl).symm.trans ho)
   have hg : d 20 = false:=hN 20 17 (by simp) hdi
   have hb:=hH'.but hg
   refine does_enter (run_callSumW a w _ _ _ _ _ _ _ _ _ _ _ _ (hD 4 (by simp)).2 (hD 8 (by simp)).2 (hD 12 (by simp)).2 (hD 16 (by simp)).2) (R:=fun w' u => ∃ s' v',u = .tuple #[.bool s',v']∧Sl .u32 w' v' (wd 4294967296 z.natAbs)∧But [] w w'∧(s' && decide (0 < (wd 4294967296 z.natAbs).length)) = decide (z < 0)) ((SM w (hdr hb)).mono (fun e w' h => by
    obtain ⟨s',v',h1,h2,h3,h4⟩:=h
    exact ⟨_,h1,s',v',rfl,h2,h3,h4⟩)) ?_
   rintro u w' ⟨s',v',rfl,h2,h3,h4⟩
   refine hk (s',v') _ _ rfl (fun j hj hdj => ?_) ?_
   ·have : j = 0 ∨ j = 1 ∨ j = 2 ∨ j = 3 ∨ j = 4 ∨ j = 5 ∨ j = 6 ∨ j = 7 ∨ j = 8 ∨ j = 9 ∨ j = 10 ∨ j = 11 ∨ j = 12 ∨ j = 13 ∨ j = 14 ∨ j = 15 ∨ j = 16 ∨ j = 17 ∨ j = 18 ∨ j = 19 ∨ j = 20 ∨ j = 21:=by omega
    rcases this with rfl | rfl | rfl | rfl | rfl | rfl | rfl | rfl | rfl | rfl | rfl | rfl | rfl | rfl | rfl | rfl | rfl | rfl | rfl | rfl | rfl | rfl
    all_goals first
     | rfl
     | (rw [hdi] at hdj; simp at hdj)
     | (exfalso; first | (rw [hN 18 17 (by simp) hdi] at hdj; simp at hdj) | (rw [hN 19 17 (by simp) hdi] at hdj; simp at hdj))
   ·exact ⟨Nat.le_trans hH'.size h3.size,fun _ => hb.trans' h3,fun _ _ => h2,fun _ => h4,fun e => by rw [show came d 17 20 = d 20 from rfl,hg] at e; simp at e⟩
  ·obtain rfl:=Option.some.inj ((show iaddOs[18]? = some iaddO18 from rfl).symm.trans ho)
   exact does_value (run_ext0 a w _ _ _ _ _ _ _ (hD 17 (by simp)).2) (hk (s,v) _ _ rfl (fun _ _ _ => rfl) hH)
  ·obtain rfl:=Option.some.inj ((show iaddOs[19]? = some iaddO19 from rfl).symm.trans ho)
   exact does_value (run_ext1 a w _ _ _ _ _ _ _ (hD 17 (by simp)).2) (hk (s,v) _ _ rfl (fun _ _ _ => rfl) hH)
  ·obtain rfl:=Option.some.inj ((show iaddOs[20]? = some iaddO20 from rfl).symm.trans ho)
   have hc:=(hD 17 (by simp)).1
   have hb:=hH'.but hdi
   have hsl:=hH'.sum hc hdi
   obtain ⟨⟨s0,hc0⟩,⟨a0,n0,c0,hc1⟩,f0,f1⟩:=hz.but (hdr hb) (by simp)
   refine does_enter (run_callGive a w _ _ _ _ _ _ _ _ _ _ (hD 0 (by simp)).2 (hD 18 (by simp)).2 (hD 19 (by simp)).2) (R:=fun w' u => u = .pointer (some ⟨b,o,none⟩)∧w' = putI w b o v (decide (z < 0))) ((give_any b o s v _ (.bool s0) (.slice a0 n0 c0) w hsl hzl hc0 hc1 f0 f1).mono (fun e w' h => ⟨_,h.1,rfl,by rw [h.2,hH'.sg hc]; rfl⟩)) ?_
   rintro u w' ⟨rfl,rfl⟩
   refine hk (s,v) _ _ rfl (fun _ _ _ => rfl) ⟨by rw [putI_size]; exact hH'.size,fun e => by simp [came] at e,fun _ e => by simp [came] at e,hH'.sg,fun _ => ⟨w,hb,hsl,rfl⟩⟩
  ·obtain rfl:=Option.some.inj ((show iaddOs[21]? = some iaddO21 from rfl).symm.trans ho)
   exact does_value (run_assP a w _ _ _ _ _ _ (hD 20 (by simp)).2) (hk (s,v) _ _ rfl (fun _ _ _ => rfl) hH)
 ·rintro ⟨s,v⟩ d w hd hH
  have hH' : GiveH W0.drew b o z (d 17) (d 20) s v w:=hH
  obtain ⟨w1,h1,h2,h3⟩:=hH'.fin (hd 20 (by omega))
  exact hQ w s v ⟨w1,hdr h1,h2,h3⟩

set_option maxHeartbeats 4000000 in
set_option maxRecDepth 100000 in
theorem intAddU_all (b o b1 o1 b2 o2 : Nat) (x y z : Int) (w : World) (hs : Slot w b o) (hx : IntAt w b1 o1 x) (hy : IntAt w b2 o2 y) (hlx : (wd 4294967296 x.natAbs).length < 8388608) (hly : (wd 4294967296 y.natAbs).length < 8388608) (hlz : (wd 4294967296 z.natAbs).length < 2147483648) (hz : Hid (z = x + y)) :
  Calls Tryz.prog 93 #[.pointer (some ⟨b,o,none⟩),.pointer (some ⟨b1,o1,none⟩),.pointer (some ⟨b2,o2,none⟩)] w fun e w' => e = .returned (.pointer (some ⟨b,o,none⟩))∧∃ w1 v,But [] w w1∧Sl .u32 w1 v (wd 4294967296 z.natAbs)∧w' = putI w1 b o v (decide (z < 0)):=by
 obtain ⟨h0,v0,h1,hv⟩:=hx
 obtain ⟨g0,u0,g1,hu⟩:=hy
 have hv':=hv
 have hu':=hu
 obtain ⟨qx,cx,rfl,-,-⟩:=hv
 obtain ⟨qy,cy,rfl,-,-⟩:=hu
 have REG:=hide (fun (Q : Exit→Act→World→Prop) (base : Act) (hs' : 27 < base.tmps.size) (e0 : base.eval (.tmp 0) = .pointer (some ⟨b,o,none⟩)) (e1 : base.eval (.tmp 1) = .pointer (some ⟨b1,o1,none⟩)) (e2 : base.eval (.tmp 2) = .pointer (some ⟨b2,o2,none⟩)) => iadd_region 1 Q base w b o b1 o1 b2 o2 (decide (x < 0)) (decide (y < 0)) qx qy _ cx _ cy z hs' e0 e1 e2 hs h0 h1 g0 g1 hlz (fun W hW => sumU_any (decide (x < 0)) (decide (y < 0)) _ _ x.natAbs y.natAbs z W (hv'.but_nil hW) (hu'.but_nil hW) hlx hly (by show _ = _; rw [sgU_int,sgU_int,unhide hz])))
 clear hs h0 h1 g0 g1 hlx hly hlz hz hv' hu'
 go_enter Tryz.func93,Tryz.ntmps93
 go_wp2_with fail
 refine unhide REG _ _ (by simp) (by simp [Act.eval]) (by simp [Act.eval]) (by simp [Act.eval]) ?_
 rintro w2 s v ⟨w1,k1,k2,rfl⟩
 simp only [putted,List.foldl_cons,List.foldl_nil,Act.put,List.setIfInBounds_toArray,List.set_cons_zero,List.set_cons_succ]
 go_wp2
 go_ret
 exact ⟨rfl,w1,v,k1,k2,rfl⟩
def isubO0 : Oper := { dst := some 7, op := Op.move (Operand.tmp 0), type := 48, pos := "int.go:465", after := #[], guard := none }
def isubO1 : Oper := { dst := some 8, op := Op.move (Operand.tmp 1), type := 48, pos := "int.go:465", after := #[], guard := none }
def isubO2 : Oper := { dst := some 9, op := Op.nilCheck (Operand.tmp 8), type := 0, pos := "int.go:465", after := #[{ on := 1, ground := Ground.data }], guard := none }
def isubO3 : Oper := { dst := some 10, op := Op.fieldAddr 91 (Operand.tmp 9) 0, type := 0, pos := "int.go:465", after := #[{ on := 2, ground := Ground.data }], guard := none }
def isubO4 : Oper := { dst := some 11, op := Op.load 4 (Operand.tmp 10), type := 4, pos := "int.go:465", after := #[{ on := 3, ground := Ground.data }], guard := none }
def isubO5 : Oper := { dst := some 12, op := Op.move (Operand.tmp 1), type := 48, pos := "int.go:465", after := #[], guard := none }
def isubO6 : Oper := { dst := some 13, op := Op.nilCheck (Operand.tmp 12), type := 0, pos := "int.go:465", after := #[{ on := 5, ground := Ground.data }], guard := none }
def isubO7 : Oper := { dst := some 14, op := Op.fieldAddr 91 (Operand.tmp 13) 1, type := 0, pos := "int.go:465", after := #[{ on := 6, ground := Ground.data }], guard := none }
def isubO8 : Oper := { dst := some 15, op := Op.load 89 (Operand.tmp 14), type := 89, pos := "int.go:465", after := #[{ on := 7, ground := Ground.data }], guard := none }
def isubO9 : Oper := { dst := some 16, op := Op.move (Operand.tmp 2), type := 48, pos := "int.go:465", after := #[], guard := none }
def isubO10 : Oper := { dst := some 17, op := Op.nilCheck (Operand.tmp 16), type := 0, pos := "int.go:465", after := #[{ on := 9, ground := Ground.data }], guard := none }
def isubO11 : Oper := { dst := some 18, op := Op.fieldAddr 91 (Operand.tmp 17) 0, type := 0, pos := "int.go:465", after := #[{ on := 10, ground := Ground.data }], guard := none }
def isubO12 : Oper := { dst := some 19, op := Op.load 4 (Operand.tmp 18), type := 4, pos := "int.go:465", after := #[{ on := 11, ground := Ground.data }], guard := none }
def isubO13 : Oper := { dst := some 20, op := Op.unOp UnOp.not 4 (Operand.tmp 19), type := 4, pos := "int.go:465", after := #[{ on := 12, ground := Ground.data }], guard := none }
def isubO14 : Oper := { dst := some 21, op := Op.move (Operand.tmp 2), type := 48, pos := "int.go:465", after := #[], guard := none }
def isubO15 : Oper := { dst := some 22, op := Op.nilCheck (Operand.tmp 21), type := 0, pos := "int.go:465", after := #[{ on := 14, ground := Ground.data }], guard := none }
def isubO16 : Oper := { dst := some 23, op := Op.fieldAddr 91 (Operand.tmp 22) 1, type := 0, pos := "int.go:465", after := #[{ on := 15, ground := Ground.data }], guard := none }
def isubO17 : Oper := { dst := some 24, op := Op.load 89 (Operand.tmp 23), type := 89, pos := "int.go:465", after := #[{ on := 16, ground := Ground.data }], guard := none }
def isubO18 : Oper := { dst := some 25, op := Op.call { callee := Callee.value (Operand.func 157), args := #[Operand.tmp 11, Operand.tmp 15, Operand.tmp 20, Operand.tmp 24], argTypes := #[4, 89, 4, 89] }, type := 186, pos := "int.go:465", after := #[{ on := 4, ground := Ground.data }, { on := 8, ground := Ground.data }, { on := 13, ground := Ground.data }, { on := 17, ground := Ground.data }], guard := none }
def isubO19 : Oper := { dst := some 26, op := Op.extract (Operand.tmp 25) 0, type := 4, pos := "int.go:465", after := #[{ on := 18, ground := Ground.data }], guard := none }
def isubO20 : Oper := { dst := some 27, op := Op.extract (Operand.tmp 25) 1, type := 89, pos := "int.go:465", after := #[{ on := 18, ground := Ground.data }], guard := none }
def isubO21 : Oper := { dst := some 28, op := Op.call { callee := Callee.value (Operand.func 146), args := #[Operand.tmp 7, Operand.tmp 26, Operand.tmp 27], argTypes := #[48, 4, 89] }, type := 48, pos := "int.go:465", after := #[{ on := 0, ground := Ground.data }, { on := 19, ground := Ground.data }, { on := 20, ground := Ground.data }, { on := 18, ground := Ground.chain }], guard := none }
def isubO22 : Oper := { dst := some 6, op := Op.assign (Operand.tmp 28), type := 48, pos := "int.go:465", after := #[{ on := 21, ground := Ground.data }, { on := 21, ground := Ground.chain }, { on := 0, ground := Ground.phase }, { on := 1, ground := Ground.phase }, { on := 2, ground := Ground.phase }, { on := 3, ground := Ground.phase }, { on := 4, ground := Ground.phase }, { on := 5, ground := Ground.phase }, { on := 6, ground := Ground.phase }, { on := 7, ground := Ground.phase }, { on := 8, ground := Ground.phase }, { on := 9, ground := Ground.phase }, { on := 10, ground := Ground.phase }, { on := 11, ground := Ground.phase }, { on := 12, ground := Ground.phase }, { on := 13, ground := Ground.phase }, { on := 14, ground := Ground.phase }, { on := 15, ground := Ground.phase }, { on := 16, ground := Ground.phase }, { on := 17, ground := Ground.phase }, { on := 18, ground := Ground.phase }, { on := 19, ground := Ground.phase }, { on := 20, ground := Ground.phase }, { on := 21, ground := Ground.phase }], guard := none }
def isubOs : Array Oper:=#[isubO0,isubO1,isubO2,isubO3,isubO4,isubO5,isubO6,isubO7,isubO8,isubO9,isubO10,isubO11,isubO12,isubO13,isubO14,isubO15,isubO16,isubO17,isubO18,isubO19,isubO20,isubO21,isubO22]
def isubOT (i : Nat) : Nat:=match i with
 | 0 => 7
 | 1 => 8
 | 2 => 9
 | 3 => 10
 | 4 => 11
 | 5 => 12
 | 6 => 13
 | 7 => 14
 | 8 => 15
 | 9 => 16
 | 10 => 17
 | 11 => 18
 | 12 => 19
 | 13 => 20
 | 14 => 21
 | 15 => 22
 | 16 => 23
 | 17 => 24
 | 18 => 25
 | 19 => 26
 | 20 => 27
 | 21 => 28
 | _ => 6
/-- what each operation's value is, by the names of what was made -/
def isubOV (b o b1 o1 b2 o2 : Nat) (sx sy : Bool) (qx qy : Option Addr) (lx cx ly cy : Nat) (N : Bool × Value) (i : Nat) : Value:=match i with
 | 0 => .pointer (some ⟨b,o,none⟩)
 | 1 => .pointer (some ⟨b1,o1,none⟩)
 | 2 => .pointer (some ⟨b1,o1,none⟩)
 | 3 => .pointer (some ⟨b1,o1,none⟩)
 | 4 => .bool sx
 | 5 => .pointer (some ⟨b1,o1,none⟩)
 | 6 => .pointer (some ⟨b1,o1,none⟩)
 | 7 => .pointer (some ⟨b1,o1 + 1,none⟩)
 | 8 => .slice qx lx cx
 | 9 => .pointer (some ⟨b2,o2,none⟩)
 | 10 => .pointer (some ⟨b2,o2,none⟩)
 | 11 => .pointer (some ⟨b2,o2,none⟩)
 | 12 => .bool sy
 | 13 => .bool !sy
 | 14 => .pointer (some ⟨b2,o2,none⟩)
 | 15 => .pointer (some ⟨b2,o2,none⟩)
 | 16 => .pointer (some ⟨b2,o2 + 1,none⟩)
 | 17 => .slice qy ly cy
 | 18 => .tuple #[.bool N.1,N.2]
 | 19 => .bool N.1
 | 20 => N.2
 | 21 => .pointer (some ⟨b,o,none⟩)
 | _ => .pointer (some ⟨b,o,none⟩)
theorem isubOT_inj : ∀ i j,i < 23→j < 23→isubOT i = isubOT j→i = j:=fun i j hi hj => (by decide : ∀ i,i < 23→∀ j,j < 23→isubOT i = isubOT j→i = j) i hi j hj
set_option maxHeartbeats 4000000 in
set_option maxRecDepth 100000 in
theorem isub_region (id : Nat) (Q : Exit→Act→World→Prop) (base : Act) (W0 : World) (b o b1 o1 b2 o2 : Nat) (sx sy : Bool) (qx qy : Option Addr) (lx cx ly cy : Nat) (z : Int) (hs : 28 < base.tmps.size) (e0 : base.eval (.tmp 0) = .pointer (some ⟨b,o,none⟩)) (e1 : base.eval (.tmp 1) = .pointer (some ⟨b1,o1,none⟩)) (e2 : base.eval (.tmp 2) = .pointer (some ⟨b2,o2,none⟩))
  (hz : Slot W0 b o) (x0 : W0.cell? ⟨b1,o1,none⟩ = some (.bool sx)) (x1 : W0.cell? ⟨b1,o1 + 1,none⟩ = some (.slice qx lx cx)) (y0 : W0.cell? ⟨b2,o2,none⟩ = some (.bool sy)) (y1 : W0.cell? ⟨b2,o2 + 1,none⟩ = some (.slice qy ly cy)) (hzl : (wd 4294967296 z.natAbs).length < 2147483648)
  (SM : ∀ W,But [] W0 W→Calls Tryz.prog 157 #[.bool sx,.slice qx lx cx,.bool !sy,.slice qy ly cy] W fun e w' => ∃ s v,e = .returned (.tuple #[.bool s,v])∧Sl .u32 w' v (wd 4294967296 z.natAbs)∧But [] W w'∧(s && decide (0 < (wd 4294967296 z.natAbs).length)) = decide (z < 0))
  (hQ : ∀ w s v,(∃ w1,But [] W0 w1∧Sl .u32 w1 v (wd 4294967296 z.natAbs)∧w = putI w1 b o v (decide (z < 0)))→Q .normal (putted base [(7,.pointer (some ⟨b,o,none⟩)),(8,.pointer (some ⟨b1,o1,none⟩)),(9,.pointer (some ⟨b1,o1,none⟩)),(10,.pointer (some ⟨b1,o1,none⟩)),(11,.bool sx),(12,.pointer (some ⟨b1,o1,none⟩)),(13,.pointer (some ⟨b1,o1,none⟩)),(14,.pointer (some ⟨b1,o1 + 1,none⟩)),(15,.slice qx lx cx),(16,.pointer (some ⟨b2,o2,none⟩)),(17,.pointer (some ⟨b2,o2,none⟩)),(18,.pointer (some ⟨b2,o2,none⟩)),(19,.bool sy),(20,.bool !sy),(21,.pointer (some ⟨b2,o2,none⟩)),(22,.pointer (some ⟨b2,o2,none⟩)),(23,.pointer (some ⟨b2,o2 + 1,none⟩)),(24,.slice qy ly cy),(25,.tuple #[.bool s,v]),(26,.bool s),(27,v),(28,.pointer (some ⟨b,o,none⟩)),(6,.pointer (some ⟨b,o,none⟩))]) w) :
  (Code.region id isubOs true).wp Tryz.prog Q base W0:=by
 have hdr : ∀ {w},But [] W0.drew w→But [] W0 w:=fun h => (But.refl _ _).drew.trans' h
 have hT : ∀ i,i < 23→isubOT i < base.tmps.size:=fun i hi => by
  have h : isubOT i ≤ 28:=by revert i; decide
  omega
 have lx':=lt_of_cell x0
 have ly':=lt_of_cell y0
 simp only at lx' ly'
 refine region_names (by kernel_rfl) (low_of (by kernel_rfl)) (bare_of (by kernel_rfl)) (α:=Bool × Value) (fun N d w => GiveH W0.drew b o z (d 18) (d 21) N.1 N.2 w) (isubOV b o b1 o1 b2 o2 sx sy qx qy lx cx ly cy) isubOT 23 (by kernel_rfl) isubOT_inj hT (false,undef) ?_ ?_ ?_
 ·exact ⟨Nat.le_refl _,fun _ => But.refl _ _,by simp,by simp,by simp⟩
 ·rintro ⟨s,v⟩ d i o' a w K hi ho hdi hCl hH he hdep hk
  have hN : ∀ i j,(i,j) ∈ [(21,18),(18,4),(18,8),(18,17),(19,18),(20,18),(18,13),(13,12)]→d j = false→d i = false:=fun i j hij h => hCl.not (ps:=[(21,18),(18,4),(18,8),(18,17),(19,18),(20,18),(18,13),(13,12)]) (by kernel_rfl) hij h
  have hH' : GiveH W0.drew b o z (d 18) (d 21) s v w:=hH
  have hD:=dep_is (ps:=[(2,1),(3,2),(4,3),(6,5),(7,6),(8,7),(10,9),(11,10),(12,11),(13,12),(15,14),(16,15),(17,16),(18,4),(18,8),(18,13),(18,17),(19,18),(20,18),(21,0),(21,18),(21,19),(21,20),(22,0),(22,1),(22,2),(22,3),(22,4),(22,5),(22,6),(22,7),(22,8),(22,9),(22,10),(22,11),(22,12),(22,13),(22,14),(22,15),(22,16),(22,17),(22,18),(22,19),(22,20),(22,21)]) (by kernel_rfl) ho (fun j => d j = true∧a.eval (.tmp (isubOT j)) = isubOV b o b1 o1 b2 o2 sx sy qx qy lx cx ly cy (s,v) j) hdep
  have e0':=(he 0 (fun j hj e => absurd e.symm (by revert j; decide))).trans e0
  have e1':=(he 1 (fun j hj e => absurd e.symm (by revert j; decide))).trans e1
  have e2':=(he 2 (fun j hj e => absurd e.symm (by revert j; decide))).trans e2
  have hlw : W0.heap.size ≤ w.heap.size:=hH'.size
  have : i = 0 ∨ i = 1 ∨ i = 2 ∨ i = 3 ∨ i = 4 ∨ i = 5 ∨ i = 6 ∨ i = 7 ∨ i = 8 ∨ i = 9 ∨ i = 10 ∨ i = 11 ∨ i = 12 ∨ i = 13 ∨ i = 14 ∨ i = 15 ∨ i = 16 ∨ i = 17 ∨ i = 18 ∨ i = 19 ∨ i = 20 ∨ i = 21 ∨ i = 22:=by omega
  rcases this with rfl | rfl | rfl | rfl | rfl | rfl | rfl | rfl | rfl | rfl | rfl | rfl | rfl | rfl | rfl | rfl | rfl | rfl | rfl | rfl | rfl | rfl | rfl
  ·obtain rfl:=Option.some.inj ((show isubOs[0]? = some isubO0 from rfl).symm.trans ho)
   exact does_value (run_moveP a w _ _ _ _ _ _ e0') (hk (s,v) _ _ rfl (fun _ _ _ => rfl) hH)
  ·obtain rfl:=Option.some.inj ((show isubOs[1]? = some isubO1 from rfl).symm.trans ho)
   exact does_value (run_moveP a w _ _ _ _ _ _ e1') (hk (s,v) _ _ rfl (fun _ _ _ => rfl) hH)
  ·obtain rfl:=Option.some.inj ((show isubOs[2]? = some isubO2 from rfl).symm.trans ho)
   exact does_value (run_nilP a w _ _ _ _ _ _ _ (hD 1 (by simp)).2) (hk (s,v) _ _ rfl (fun _ _ _ => rfl) hH)
  ·obtain rfl:=Option.some.inj ((show isubOs[3]? = some isubO3 from rfl).symm.trans ho)
   exact does_value (run_fieldI a w _ _ _ _ _ _ _ (hD 2 (by simp)).2 (by omega)) (hk (s,v) _ _ rfl (fun _ _ _ => rfl) hH)
  ·obtain rfl:=Option.some.inj ((show isubOs[4]? = some isubO4 from rfl).symm.trans ho)
   have hb:=hdr (hH'.but (hN 21 18 (by simp) (hN 18 4 (by simp) hdi)))
   exact does_value (run_loadB a w _ _ _ _ _ _ _ _ (hD 3 (by simp)).2 (hb.cell_some x0 (by simp))) (hk (s,v) _ _ rfl (fun _ _ _ => rfl) hH)
  ·obtain rfl:=Option.some.inj ((show isubOs[5]? = some isubO5 from rfl).symm.trans ho)
   exact does_value (run_moveP a w _ _ _ _ _ _ e1') (hk (s,v) _ _ rfl (fun _ _ _ => rfl) hH)
  ·obtain rfl:=Option.some.inj ((show isubOs[6]? = some isubO6 from rfl).symm.trans ho)
   exact does_value (run_nilP a w _ _ _ _ _ _ _ (hD 5 (by simp)).2) (hk (s,v) _ _ rfl (fun _ _ _ => rfl) hH)
  ·obtain rfl:=Option.some.inj ((show isubOs[7]? = some isubO7 from rfl).symm.trans ho)
   exact does_value (run_fieldJ a w _ _ _ _ _ _ _ (hD 6 (by simp)).2 (by omega)) (hk (s,v) _ _ rfl (fun _ _ _ => rfl) hH)
  ·obtain rfl:=Option.some.inj ((show isubOs[8]? = some isubO8 from rfl).symm.trans ho)
   have hb:=hdr (hH'.but (hN 21 18 (by simp) (hN 18 8 (by simp) hdi)))
   exact does_value (run_loadW a w _ _ _ _ _ _ _ _ _ _ (hD 7 (by simp)).2 (hb.cell_some x1 (by simp))) (hk (s,v) _ _ rfl (fun _ _ _ => rfl) hH)
  ·obtain rfl:=Option.some.inj ((show isubOs[9]? = some isubO9 from rfl).symm.trans ho)
   exact does_value (run_moveP a w _ _ _ _ _ _ e2') (hk (s,v) _ _ rfl (fun _ _ _ => rfl) hH)
  ·obtain rfl:=Option.some.inj ((show isubOs[10]? = some isubO10 from rfl).symm.trans ho)
   exact does_value (run_nilP a w _ _ _ _ _ _ _ (hD 9 (by simp)).2) (hk (s,v) _ _ rfl (fun _ _ _ => rfl) hH)
  ·obtain rfl:=Option.some.inj ((show isubOs[11]? = some isubO11 from rfl).symm.trans ho)
   exact does_value (run_fieldI a w _ _ _ _ _ _ _ (hD 10 (by simp)).2 (by omega)) (hk (s,v) _ _ rfl (fun _ _ _ => rfl) hH)
  ·obtain rfl:=Option.some.inj ((show isubOs[12]? = some isubO12 from rfl).symm.trans ho)
   have hb:=hdr (hH'.but (hN 21 18 (by simp) (hN 18 13 (by simp) (hN 13 12 (by simp) hdi))))
   exact does_value (run_loadB a w _ _ _ _ _ _ _ _ (hD 11 (by simp)).2 (hb.cell_some y0 (by simp))) (hk (s,v) _ _ rfl (fun _ _ _ => rfl) hH)
  ·obtain rfl:=Option.some.inj ((show isubOs[13]? = some isubO13 from rfl).symm.trans ho)
   exact does_value (run_notB a w _ _ _ _ _ _ (hD 12 (by simp)).2) (hk (s,v) _ _ rfl (fun _ _ _ => rfl) hH)
  ·obtain rfl:=Option.some.inj ((show isubOs[14]? = some isubO14 from rfl).symm.trans ho)
   exact does_value (run_moveP a w _ _ _ _ _ _ e2') (hk (s,v) _ _ rfl (fun _ _ _ => rfl) hH)
  ·obtain rfl:=Option.some.inj ((show isubOs[15]? = some isubO15 from rfl).symm.trans ho)
   exact does_value (run_nilP a w _ _ _ _ _ _ _ (hD 14 (by simp)).2) (hk (s,v) _ _ rfl (fun _ _ _ => rfl) hH)
  ·obtain rfl:=Option.some.inj ((show isubOs[16]? = some isubO16 from rfl).symm.trans ho)
   exact does_value (run_fieldJ a w _ _ _ _ _ _ _ (hD 15 (by simp)).2 (by omega)) (hk (s,v) _ _ rfl (fun _ _ _ => rfl) hH)
  ·obtain rfl:=Option.some.inj ((show isubOs[17]? = some isubO17 from rfl).symm.trans ho)
   have hb:=hdr (hH'.but (hN 21 18 (by simp) (hN 18 17 (by simp) hdi)))
   exact does_value (run_loadW a w _ _ _ _ _ _ _ _ _ _ (hD 16 (by simp)).2 (hb.cell_some y1 (by simp))) (hk (s,v) _ _ rfl (fun _ _ _ => rfl) hH)
  ·obtain rfl:=Option.some.inj ((show isubOs[18]? = some isubO18 from rfl).symm.trans ho)
   have hg : d 21 = false:=hN 21 18 (by simp) hdi
   have hb:=hH'.but hg
   refine does_enter (run_callSumW a w _ _ _ _ _ _ _ _ _ _ _ _ (hD 4 (by simp)).2 (hD 8 (by simp)).2 (hD 13 (by simp)).2 (hD 17 (by simp)).2) (R:=fun w' u => ∃ s' v',u = .tuple #[.bool s',v']∧Sl .u32 w' v' (wd 4294967296 z.natAbs)∧But [] w w'∧(s' && decide (0 < (wd 4294967296 z.natAbs).length)) = decide (z < 0)) ((SM w (hdr hb)).mono (fun e w' h => by
    obtain ⟨s',v',h1,h2,h3,h4⟩:=h
    exact ⟨_,h1,s',v',rfl,h2,h3,h4⟩)) ?_
   rintro u w' ⟨s',v',rfl,h2,h3,h4⟩
   refine hk (s',v') _ _ rfl (fun j hj hdj => ?_) ?_
   ·have : j = 0 ∨ j = 1 ∨ j = 2 ∨ j = 3 ∨ j = 4 ∨ j = 5 ∨ j = 6 ∨ j = 7 ∨ j = 8 ∨ j = 9 ∨ j = 10 ∨ j = 11 ∨ j = 12 ∨ j = 13 ∨ j = 14 ∨ j = 15 ∨ j = 16 ∨ j = 17 ∨ j = 18 ∨ j = 19 ∨ j = 20 ∨ j = 21 ∨ j = 22:=by omega
    rcases this with rfl | rfl | rfl | rfl | rfl | rfl | rfl | rfl | rfl | rfl | rfl | rfl | rfl | rfl | rfl | rfl | rfl | rfl | rfl | rfl | rfl | rfl | rfl
    all_goals first
     | rfl
     | (rw [hdi] at hdj; simp at hdj)
     | (exfalso; first | (rw [hN 19 18 (by simp) hdi] at hdj; simp at hdj) | (rw [hN 20 18 (by simp) hdi] at hdj; simp at hdj))
   ·exact ⟨Nat.le_trans hH'.size h3.size,fun _ => hb.trans' h3,fun _ _ => h2,fun _ => h4,fun e => by rw [show came d 18 21 = d 21 from rfl,hg] at e; simp at e⟩
  ·obtain rfl:=Option.some.inj ((show isubOs[19]? = some isubO19 from rfl).symm.trans ho)
   exact does_value (run_ext0 a w _ _ _ _ _ _ _ (hD 18 (by simp)).2) (hk (s,v) _ _ rfl (fun _ _ _ => rfl) hH)
  ·obtain rfl:=Option.some.inj ((show isubOs[20]? = some isubO20 from rfl).symm.trans ho)
   exact does_value (run_ext1 a w _ _ _ _ _ _ _ (hD 18 (by simp)).2) (hk (s,v) _ _ rfl (fun _ _ _ => rfl) hH)
  ·obtain rfl:=Option.some.inj ((show isubOs[21]? = some isubO21 from rfl).symm.trans ho)
   have hc:=(hD 18 (by simp)).1
   have hb:=hH'.but hdi
   have hsl:=hH'.sum hc hdi
   obtain ⟨⟨s0,hc0⟩,⟨a0,n0,c0,hc1⟩,f0,f1⟩:=hz.but (hdr hb) (by simp)
   refine does_enter (run_callGive a w _ _ _ _ _ _ _ _ _ _ (hD 0 (by simp)).2 (hD 19 (by simp)).2 (hD 20 (by simp)).2) (R:=fun w' u => u = .pointer (some ⟨b,o,none⟩)∧w' = putI w b o v (decide (z < 0))) ((give_any b o s v _ (.bool s0) (.slice a0 n0 c0) w hsl hzl hc0 hc1 f0 f1).mono (fun e w' h => ⟨_,h.1,rfl,by rw [h.2,hH'.sg hc]; rfl⟩)) ?_
   rintro u w' ⟨rfl,rfl⟩
   refine hk (s,v) _ _ rfl (fun _ _ _ => rfl) ⟨by rw [putI_size]; exact hH'.size,fun e => by simp [came] at e,fun _ e => by simp [came] at e,hH'.sg,fun _ => ⟨w,hb,hsl,rfl⟩⟩
  ·obtain rfl:=Option.some.inj ((show isubOs[22]? = some isubO22 from rfl).symm.trans ho)
   exact does_value (run_assP a w _ _ _ _ _ _ (hD 21 (by simp)).2) (hk (s,v) _ _ rfl (fun _ _ _ => rfl) hH)
 ·rintro ⟨s,v⟩ d w hd hH
  have hH' : GiveH W0.drew b o z (d 18) (d 21) s v w:=hH
  obtain ⟨w1,h1,h2,h3⟩:=hH'.fin (hd 21 (by omega))
  exact hQ w s v ⟨w1,hdr h1,h2,h3⟩

set_option maxHeartbeats 4000000 in
set_option maxRecDepth 100000 in
theorem intSubU_all (b o b1 o1 b2 o2 : Nat) (x y z : Int) (w : World) (hs : Slot w b o) (hx : IntAt w b1 o1 x) (hy : IntAt w b2 o2 y) (hlx : (wd 4294967296 x.natAbs).length < 8388608) (hly : (wd 4294967296 y.natAbs).length < 8388608) (hlz : (wd 4294967296 z.natAbs).length < 2147483648) (hz : Hid (z = x - y)) :
  Calls Tryz.prog 139 #[.pointer (some ⟨b,o,none⟩),.pointer (some ⟨b1,o1,none⟩),.pointer (some ⟨b2,o2,none⟩)] w fun e w' => e = .returned (.pointer (some ⟨b,o,none⟩))∧∃ w1 v,But [] w w1∧Sl .u32 w1 v (wd 4294967296 z.natAbs)∧w' = putI w1 b o v (decide (z < 0)):=by
 obtain ⟨h0,v0,h1,hv⟩:=hx
 obtain ⟨g0,u0,g1,hu⟩:=hy
 have hv':=hv
 have hu':=hu
 obtain ⟨qx,cx,rfl,-,-⟩:=hv
 obtain ⟨qy,cy,rfl,-,-⟩:=hu
 have REG:=hide (fun (Q : Exit→Act→World→Prop) (base : Act) (hs' : 28 < base.tmps.size) (e0 : base.eval (.tmp 0) = .pointer (some ⟨b,o,none⟩)) (e1 : base.eval (.tmp 1) = .pointer (some ⟨b1,o1,none⟩)) (e2 : base.eval (.tmp 2) = .pointer (some ⟨b2,o2,none⟩)) => isub_region 1 Q base w b o b1 o1 b2 o2 (decide (x < 0)) (decide (y < 0)) qx qy _ cx _ cy z hs' e0 e1 e2 hs h0 h1 g0 g1 hlz (fun W hW => sumU_any (decide (x < 0)) (!decide (y < 0)) _ _ x.natAbs y.natAbs z W (hv'.but_nil hW) (hu'.but_nil hW) hlx hly (by show _ = _; rw [sgU_int,sgU_not,unhide hz]; omega)))
 clear hs h0 h1 g0 g1 hlx hly hlz hz hv' hu'
 go_enter Tryz.func139,Tryz.ntmps139
 go_wp2_with fail
 refine unhide REG _ _ (by simp) (by simp [Act.eval]) (by simp [Act.eval]) (by simp [Act.eval]) ?_
 rintro w2 s v ⟨w1,k1,k2,rfl⟩
 simp only [putted,List.foldl_cons,List.foldl_nil,Act.put,List.setIfInBounds_toArray,List.set_cons_zero,List.set_cons_succ]
 go_wp2
 go_ret
 exact ⟨rfl,w1,v,k1,k2,rfl⟩
end Go.Proofs.YteipfplbcbaheaaGreatDoor
