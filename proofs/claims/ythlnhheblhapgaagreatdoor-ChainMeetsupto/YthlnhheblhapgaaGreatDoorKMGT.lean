/- The statement of ChainMeets that draws i -/
import Derived.Test.YthlnhheblhapgaaGreatDoorKMOBr
namespace Go.Proofs.YthlnhheblhapgaaGreatDoor
open Go.RowKit
set_option maxHeartbeats 8000000
set_option maxRecDepth 100000
set_option linter.unusedVariables false
theorem run_eqGn (a:Act) (w:World) (d t:Nat) (u:TypeId) (ps:String) (ed:Array Edge) (gd:Option (Nat × Bool))  (h1:a.eval (.tmp t)=.nilIface) :
  (execOp a.eval { dst:=some d,op:=Op.binOp BinOp.eql 34 (.tmp t) (Operand.const Value.nilIface) 34,type:=u,pos:=ps,after:=ed,guard:=gd }).run Tryz.prog w=.ok (.value (.bool true)) w:=by
 unfold execOp
 simp only [h1]
 go_simp
theorem run_pickG (a:Act) (w:World) (d t1 t2:Nat) (u:TypeId) (ps:String) (ed:Array Edge) (gd:Option (Nat × Bool)) (bb:Bool) (h1:a.eval (.tmp t1)=.bool true) (h2:a.eval (.tmp t2)=.bool bb) :
  (execOp a.eval { dst:=some d,op:=Op.pick (.tmp t1) (.tmp t2) (Operand.const (Value.bool false)),type:=u,pos:=ps,after:=ed,guard:=gd }).run Tryz.prog w=.ok (.value (.bool bb)) w:=by
 unfold execOp
 simp only [h1,h2]
 go_simp
theorem run_geG0 (a:Act) (w:World) (d t:Nat) (u:TypeId) (ps:String) (ed:Array Edge) (gd:Option (Nat × Bool)) (x:Int) (hx:0≤x) (h1:a.eval (.tmp t)=.int .i64 x) :
  (execOp a.eval { dst:=some d,op:=Op.binOp BinOp.geq 3 (.tmp t) (Operand.const (Value.int IntKind.i64 0)) 3,type:=u,pos:=ps,after:=ed,guard:=gd }).run Tryz.prog w=.ok (.value (.bool true)) w:=by
 unfold execOp
 simp only [h1]
 go_simp
theorem run_leG0 (a:Act) (w:World) (d t:Nat) (u:TypeId) (ps:String) (ed:Array Edge) (gd:Option (Nat × Bool)) (x:Int) (hx:x≤0) (h1:a.eval (.tmp t)=.int .i64 x) :
  (execOp a.eval { dst:=some d,op:=Op.binOp BinOp.leq 3 (.tmp t) (Operand.const (Value.int IntKind.i64 0)) 3,type:=u,pos:=ps,after:=ed,guard:=gd }).run Tryz.prog w=.ok (.value (.bool true)) w:=by
 unfold execOp
 simp only [h1]
 go_simp
theorem run_oneG (a:Act) (w:World) (d:Nat) (u:TypeId) (ps:String) (ed:Array Edge) (gd:Option (Nat × Bool))  :
  (execOp a.eval { dst:=some d,op:=Op.call { callee:=Callee.value (Operand.func 17),args:=#[Operand.const (Value.int IntKind.i64 1)],argTypes:=#[3] },type:=u,pos:=ps,after:=ed,guard:=gd }).run Tryz.prog w=.ok (.enter 17 #[.int .i64 1]) w:=by
 unfold execOp
 go_simp
theorem run_likesG (a:Act) (w:World) (d t0 t1:Nat) (u:TypeId) (ps:String) (ed:Array Edge) (gd:Option (Nat × Bool)) (x0 x1:Value) (h0:a.eval (.tmp t0)=x0) (h1:a.eval (.tmp t1)=x1) :
  (execOp a.eval { dst:=some d,op:=Op.call { callee:=Callee.value (Operand.func 14),args:=#[Operand.tmp t0,Operand.tmp t1],argTypes:=#[32,32] },type:=u,pos:=ps,after:=ed,guard:=gd }).run Tryz.prog w=.ok (.enter 14 #[x0,x1]) w:=by
 unfold execOp
 go_simp
 rw [← h0,← h1]
 simp [Act.eval]
theorem run_sumG (a:Act) (w:World) (d t0:Nat) (u:TypeId) (ps:String) (ed:Array Edge) (gd:Option (Nat × Bool)) (x0:Value) (h0:a.eval (.tmp t0)=x0) :
  (execOp a.eval { dst:=some d,op:=Op.call { callee:=Callee.value (Operand.func 16),args:=#[Operand.tmp t0],argTypes:=#[32] },type:=u,pos:=ps,after:=ed,guard:=gd }).run Tryz.prog w=.ok (.enter 16 #[x0]) w:=by
 unfold execOp
 go_simp
 rw [← h0]
 simp [Act.eval]
def opGt0:Oper:={ dst:=some 123,op:=Op.move (Operand.tmp 19),type := 34,pos := "keep.go:256",after:=#[],guard:=none }
def opGt1:Oper:={ dst:=some 124,op:=Op.binOp BinOp.eql 34 (Operand.tmp 123) (Operand.const Value.nilIface) 34,type := 4,pos := "keep.go:256",after:=#[⟨0,.data⟩],guard:=none }
def opGt2:Oper:={ dst:=some 125,op:=Op.move (Operand.tmp 124),type := 4,pos := "keep.go:256",after:=#[⟨1,.data⟩],guard:=none }
def opGt3:Oper:={ dst:=some 126,op:=Op.move (Operand.tmp 21),type := 34,pos := "keep.go:256",after:=#[⟨2,.guard⟩],guard:=some (2,true) }
def opGt4:Oper:={ dst:=some 127,op:=Op.binOp BinOp.eql 34 (Operand.tmp 126) (Operand.const Value.nilIface) 34,type := 4,pos := "keep.go:256",after:=#[⟨3,.data⟩,⟨2,.guard⟩],guard:=some (2,true) }
def opGt5:Oper:={ dst:=some 128,op:=Op.pick (Operand.tmp 125) (Operand.tmp 127) (Operand.const (Value.bool false)),type := 4,pos := "keep.go:256",after:=#[⟨2,.data⟩,⟨4,.data⟩],guard:=none }
def opGt6:Oper:={ dst:=some 129,op:=Op.move (Operand.tmp 128),type := 4,pos := "keep.go:256",after:=#[⟨5,.data⟩,⟨2,.chain⟩],guard:=none }
def opGt7:Oper:={ dst:=some 130,op:=Op.move (Operand.tmp 23),type := 34,pos := "keep.go:256",after:=#[⟨6,.guard⟩],guard:=some (6,true) }
def opGt8:Oper:={ dst:=some 131,op:=Op.binOp BinOp.eql 34 (Operand.tmp 130) (Operand.const Value.nilIface) 34,type := 4,pos := "keep.go:256",after:=#[⟨7,.data⟩,⟨6,.guard⟩],guard:=some (6,true) }
def opGt9:Oper:={ dst:=some 132,op:=Op.pick (Operand.tmp 129) (Operand.tmp 131) (Operand.const (Value.bool false)),type := 4,pos := "keep.go:256",after:=#[⟨6,.data⟩,⟨8,.data⟩],guard:=none }
def opGt10:Oper:={ dst:=some 133,op:=Op.move (Operand.tmp 132),type := 4,pos := "keep.go:256",after:=#[⟨9,.data⟩,⟨6,.chain⟩],guard:=none }
def opGt11:Oper:={ dst:=some 134,op:=Op.move (Operand.tmp 25),type := 34,pos := "keep.go:256",after:=#[⟨10,.guard⟩],guard:=some (10,true) }
def opGt12:Oper:={ dst:=some 135,op:=Op.binOp BinOp.eql 34 (Operand.tmp 134) (Operand.const Value.nilIface) 34,type := 4,pos := "keep.go:256",after:=#[⟨11,.data⟩,⟨10,.guard⟩],guard:=some (10,true) }
def opGt13:Oper:={ dst:=some 136,op:=Op.pick (Operand.tmp 133) (Operand.tmp 135) (Operand.const (Value.bool false)),type := 4,pos := "keep.go:256",after:=#[⟨10,.data⟩,⟨12,.data⟩],guard:=none }
def opGt14:Oper:={ dst:=some 137,op:=Op.move (Operand.tmp 136),type := 4,pos := "keep.go:256",after:=#[⟨13,.data⟩,⟨10,.chain⟩],guard:=none }
def opGt15:Oper:={ dst:=some 138,op:=Op.move (Operand.tmp 18),type := 32,pos := "keep.go:256",after:=#[⟨14,.guard⟩],guard:=some (14,true) }
def opGt16:Oper:={ dst:=some 139,op:=Op.move (Operand.tmp 20),type := 32,pos := "keep.go:256",after:=#[⟨14,.guard⟩],guard:=some (14,true) }
def opGt17:Oper:={ dst:=some 140,op:=Op.call { callee:=Callee.value (Operand.func 14),args:=#[Operand.tmp 138,Operand.tmp 139],argTypes:=#[32,32] },type := 4,pos := "keep.go:256",after:=#[⟨15,.data⟩,⟨16,.data⟩,⟨14,.chain⟩,⟨14,.guard⟩],guard:=some (14,true) }
def opGt18:Oper:={ dst:=some 141,op:=Op.pick (Operand.tmp 137) (Operand.tmp 140) (Operand.const (Value.bool false)),type := 4,pos := "keep.go:256",after:=#[⟨14,.data⟩,⟨17,.data⟩],guard:=none }
def opGt19:Oper:={ dst:=some 142,op:=Op.move (Operand.tmp 141),type := 4,pos := "keep.go:256",after:=#[⟨18,.data⟩,⟨17,.chain⟩],guard:=none }
def opGt20:Oper:={ dst:=some 143,op:=Op.move (Operand.tmp 20),type := 32,pos := "keep.go:256",after:=#[⟨19,.guard⟩],guard:=some (19,true) }
def opGt21:Oper:={ dst:=some 144,op:=Op.call { callee:=Callee.value (Operand.func 16),args:=#[Operand.tmp 143],argTypes:=#[32] },type := 41,pos := "keep.go:256",after:=#[⟨20,.data⟩,⟨19,.chain⟩,⟨19,.guard⟩],guard:=some (19,true) }
def opGt22:Oper:={ dst:=some 145,op:=Op.call { callee:=Callee.value (Operand.func 17),args:=#[Operand.const (Value.int IntKind.i64 1)],argTypes:=#[3] },type := 41,pos := "keep.go:256",after:=#[⟨21,.chain⟩,⟨19,.guard⟩],guard:=some (19,true) }
def opGt23:Oper:={ dst:=some 146,op:=Op.call { callee:=Callee.value (Operand.func 15),args:=#[Operand.tmp 144,Operand.tmp 145],argTypes:=#[41,41] },type := 4,pos := "keep.go:256",after:=#[⟨21,.data⟩,⟨22,.data⟩,⟨22,.chain⟩,⟨19,.guard⟩],guard:=some (19,true) }
def opGt24:Oper:={ dst:=some 147,op:=Op.pick (Operand.tmp 142) (Operand.tmp 146) (Operand.const (Value.bool false)),type := 4,pos := "keep.go:256",after:=#[⟨19,.data⟩,⟨23,.data⟩],guard:=none }
def opGt25:Oper:={ dst:=some 148,op:=Op.move (Operand.tmp 147),type := 4,pos := "keep.go:256",after:=#[⟨24,.data⟩,⟨23,.chain⟩],guard:=none }
def opGt26:Oper:={ dst:=some 149,op:=Op.load 41 (Operand.tmp 24),type := 41,pos := "keep.go:256",after:=#[⟨25,.guard⟩],guard:=some (25,true) }
def opGt27:Oper:={ dst:=some 150,op:=Op.load 41 (Operand.tmp 22),type := 41,pos := "keep.go:256",after:=#[⟨25,.guard⟩],guard:=some (25,true) }
def opGt28:Oper:={ dst:=some 151,op:=Op.call { callee:=Callee.value (Operand.func 18),args:=#[Operand.tmp 149,Operand.tmp 150],argTypes:=#[41,41] },type := 3,pos := "keep.go:256",after:=#[⟨26,.data⟩,⟨27,.data⟩,⟨25,.chain⟩,⟨25,.guard⟩],guard:=some (25,true) }
def opGt29:Oper:={ dst:=some 152,op:=Op.binOp BinOp.geq 3 (Operand.tmp 151) (Operand.const (Value.int IntKind.i64 0)) 3,type := 4,pos := "keep.go:256",after:=#[⟨28,.data⟩,⟨25,.guard⟩],guard:=some (25,true) }
def opGt30:Oper:={ dst:=some 153,op:=Op.pick (Operand.tmp 148) (Operand.tmp 152) (Operand.const (Value.bool false)),type := 4,pos := "keep.go:256",after:=#[⟨25,.data⟩,⟨29,.data⟩],guard:=none }
def opGt31:Oper:={ dst:=some 154,op:=Op.move (Operand.tmp 153),type := 4,pos := "keep.go:256",after:=#[⟨30,.data⟩,⟨28,.chain⟩],guard:=none }
def opGt32:Oper:={ dst:=some 155,op:=Op.load 41 (Operand.tmp 24),type := 41,pos := "keep.go:256",after:=#[⟨31,.guard⟩],guard:=some (31,true) }
def opGt33:Oper:={ dst:=some 156,op:=Op.call { callee:=Callee.value (Operand.func 17),args:=#[Operand.const (Value.int IntKind.i64 1)],argTypes:=#[3] },type := 41,pos := "keep.go:256",after:=#[⟨31,.chain⟩,⟨31,.guard⟩],guard:=some (31,true) }
def opGt34:Oper:={ dst:=some 157,op:=Op.call { callee:=Callee.value (Operand.func 18),args:=#[Operand.tmp 155,Operand.tmp 156],argTypes:=#[41,41] },type := 3,pos := "keep.go:256",after:=#[⟨32,.data⟩,⟨33,.data⟩,⟨33,.chain⟩,⟨31,.guard⟩],guard:=some (31,true) }
def opGt35:Oper:={ dst:=some 158,op:=Op.binOp BinOp.leq 3 (Operand.tmp 157) (Operand.const (Value.int IntKind.i64 0)) 3,type := 4,pos := "keep.go:256",after:=#[⟨34,.data⟩,⟨31,.guard⟩],guard:=some (31,true) }
def opGt36:Oper:={ dst:=some 159,op:=Op.pick (Operand.tmp 154) (Operand.tmp 158) (Operand.const (Value.bool false)),type := 4,pos := "keep.go:256",after:=#[⟨31,.data⟩,⟨35,.data⟩],guard:=none }
def opGt37:Oper:={ dst:=some 12,op:=Op.assign (Operand.tmp 159),type := 4,pos := "keep.go:256",after:=#[⟨36,.data⟩,⟨34,.chain⟩,⟨0,.phase⟩,⟨1,.phase⟩,⟨2,.phase⟩,⟨3,.phase⟩,⟨4,.phase⟩,⟨5,.phase⟩,⟨6,.phase⟩,⟨7,.phase⟩,⟨8,.phase⟩,⟨9,.phase⟩,⟨10,.phase⟩,⟨11,.phase⟩,⟨12,.phase⟩,⟨13,.phase⟩,⟨14,.phase⟩,⟨15,.phase⟩,⟨16,.phase⟩,⟨17,.phase⟩,⟨18,.phase⟩,⟨19,.phase⟩,⟨20,.phase⟩,⟨21,.phase⟩,⟨22,.phase⟩,⟨23,.phase⟩,⟨24,.phase⟩,⟨25,.phase⟩,⟨26,.phase⟩,⟨27,.phase⟩,⟨28,.phase⟩,⟨29,.phase⟩,⟨30,.phase⟩,⟨31,.phase⟩,⟨32,.phase⟩,⟨33,.phase⟩,⟨34,.phase⟩,⟨35,.phase⟩,⟨36,.phase⟩],guard:=none }
def opGts:Array Oper:=#[opGt0,opGt1,opGt2,opGt3,opGt4,opGt5,opGt6,opGt7,opGt8,opGt9,opGt10,opGt11,opGt12,opGt13,opGt14,opGt15,opGt16,opGt17,opGt18,opGt19,opGt20,opGt21,opGt22,opGt23,opGt24,opGt25,opGt26,opGt27,opGt28,opGt29,opGt30,opGt31,opGt32,opGt33,opGt34,opGt35,opGt36,opGt37]
def opGtT (i:Nat):Nat:=match i with
 | 0=>123
 | 1=>124
 | 2=>125
 | 3=>126
 | 4=>127
 | 5=>128
 | 6=>129
 | 7=>130
 | 8=>131
 | 9=>132
 | 10=>133
 | 11=>134
 | 12=>135
 | 13=>136
 | 14=>137
 | 15=>138
 | 16=>139
 | 17=>140
 | 18=>141
 | 19=>142
 | 20=>143
 | 21=>144
 | 22=>145
 | 23=>146
 | 24=>147
 | 25=>148
 | 26=>149
 | 27=>150
 | 28=>151
 | 29=>152
 | 30=>153
 | 31=>154
 | 32=>155
 | 33=>156
 | 34=>157
 | 35=>158
 | 36=>159
 | _=>12
def opGtC (bb:Nat) (bd:Nat) (n:Nat) (g22:Nat) (g24:Nat) (s1:Bool) (x1:Int) (y1:Int) (p1:Option Addr) (s2:Bool) (x2:Int) (y2:Int) (p2:Option Addr) (ws:Bool) (wx:Int) (S:Rat) (r1:Int) (r2:Int) (i:Nat) (w:World) (v:Value):Prop:=match i with
 | 0=>v=.nilIface
 | 1=>v=.bool true
 | 2=>v=.bool true
 | 3=>v=.nilIface
 | 4=>v=.bool true
 | 5=>v=.bool true
 | 6=>v=.bool true
 | 7=>v=.nilIface
 | 8=>v=.bool true
 | 9=>v=.bool true
 | 10=>v=.bool true
 | 11=>v=.nilIface
 | 12=>v=.bool true
 | 13=>v=.bool true
 | 14=>v=.bool true
 | 15=>v=.slice (some ⟨bb,0,none⟩) n n
 | 16=>v=.slice (some ⟨bd,0,none⟩) n n
 | 17=>v=.bool true
 | 18=>v=.bool true
 | 19=>v=.bool true
 | 20=>v=.slice (some ⟨bd,0,none⟩) n n
 | 21=>FracAt w v S
 | 22=>v=.agg #[.bool ws,.int .u64 wx,.int .u64 0,.pointer none]
 | 23=>v=.bool true
 | 24=>v=.bool true
 | 25=>v=.bool true
 | 26=>v=.agg #[.bool s1,.int .u64 x1,.int .u64 y1,.pointer p1]
 | 27=>v=.agg #[.bool s2,.int .u64 x2,.int .u64 y2,.pointer p2]
 | 28=>v=.int .i64 r1
 | 29=>v=.bool true
 | 30=>v=.bool true
 | 31=>v=.bool true
 | 32=>v=.agg #[.bool s1,.int .u64 x1,.int .u64 y1,.pointer p1]
 | 33=>v=.agg #[.bool ws,.int .u64 wx,.int .u64 0,.pointer none]
 | 34=>v=.int .i64 r2
 | 35=>v=.bool true
 | 36=>v=.bool true
 | _=>v=.bool true
theorem opGtC_but {bb:Nat} {bd:Nat} {n:Nat} {g22:Nat} {g24:Nat} {s1:Bool} {x1:Int} {y1:Int} {p1:Option Addr} {s2:Bool} {x2:Int} {y2:Int} {p2:Option Addr} {ws:Bool} {wx:Int} {S:Rat} {r1:Int} {r2:Int} {i:Nat} {w w':World} {v:Value} (h:opGtC bb bd n g22 g24 s1 x1 y1 p1 s2 x2 y2 p2 ws wx S r1 r2 i w v) (hi:i<38) (hb:But [] w w'):opGtC bb bd n g22 g24 s1 x1 y1 p1 s2 x2 y2 p2 ws wx S r1 r2 i w' v:=by
 have:i=0∨i=1∨i=2∨i=3∨i=4∨i=5∨i=6∨i=7∨i=8∨i=9∨i=10∨i=11∨i=12∨i=13∨i=14∨i=15∨i=16∨i=17∨i=18∨i=19∨i=20∨i=21∨i=22∨i=23∨i=24∨i=25∨i=26∨i=27∨i=28∨i=29∨i=30∨i=31∨i=32∨i=33∨i=34∨i=35∨i=36∨i=37:=by omega
 rcases this with rfl | rfl | rfl | rfl | rfl | rfl | rfl | rfl | rfl | rfl | rfl | rfl | rfl | rfl | rfl | rfl | rfl | rfl | rfl | rfl | rfl | rfl | rfl | rfl | rfl | rfl | rfl | rfl | rfl | rfl | rfl | rfl | rfl | rfl | rfl | rfl | rfl | rfl
 all_goals first | exact h | exact FracAt.but h hb | exact FracsAt.but h hb
theorem opGtT_inj:∀ i j,i<38→j<38→opGtT i=opGtT j→i=j:=fun i j hi hj=>(by decide:∀ i,i<38→∀ j,j<38→opGtT i=opGtT j→i=j) i hi j hj
theorem meets_region18 (id:Nat) (Q:Exit→Act→World→Prop) (base:Act) (W0:World) (bb:Nat) (bd:Nat) (n:Nat) (g22:Nat) (g24:Nat) (s1:Bool) (x1:Int) (y1:Int) (p1:Option Addr) (s2:Bool) (x2:Int) (y2:Int) (p2:Option Addr) (ws:Bool) (wx:Int) (S:Rat) (r1:Int) (r2:Int) (hs:159<base.tmps.size) (e19:base.eval (.tmp 19)=.nilIface) (e21:base.eval (.tmp 21)=.nilIface) (e23:base.eval (.tmp 23)=.nilIface) (e25:base.eval (.tmp 25)=.nilIface) (e18:base.eval (.tmp 18)=.slice (some ⟨bb,0,none⟩) n n) (e20:base.eval (.tmp 20)=.slice (some ⟨bd,0,none⟩) n n) (e22:base.eval (.tmp 22)=.pointer (some ⟨g22,0,none⟩)) (e24:base.eval (.tmp 24)=.pointer (some ⟨g24,0,none⟩))
  (c1:P4o W0 g24 0 s1 x1 y1 p1) (c2:P4o W0 g22 0 s2 x2 y2 p2) (hr1:0≤r1) (hr2:r2≤0) (LK:∀ w,But [] W0 w→Calls Tryz.prog 14 #[.slice (some ⟨bb,0,none⟩) n n,.slice (some ⟨bd,0,none⟩) n n] w fun e w'=>e=.returned (.bool true)∧But [] w w') (SU:∀ w,But [] W0 w→Calls Tryz.prog 16 #[.slice (some ⟨bd,0,none⟩) n n] w fun e w'=>∃ v,e=.returned v∧FracAt w' v S∧But [] w w') (WH:∀ w,Calls Tryz.prog 17 #[.int .i64 1] w fun e w'=>e=.returned (.agg #[.bool ws,.int .u64 wx,.int .u64 0,.pointer none])∧But [] w w') (LI:∀ w,But [] W0 w→∀ v,FracAt w v S→Calls Tryz.prog 15 #[v,.agg #[.bool ws,.int .u64 wx,.int .u64 0,.pointer none]] w fun e w'=>e=.returned (.bool true)∧But [] w w') (C1:∀ w,But [] W0 w→Calls Tryz.prog 18 #[.agg #[.bool s1,.int .u64 x1,.int .u64 y1,.pointer p1],.agg #[.bool s2,.int .u64 x2,.int .u64 y2,.pointer p2]] w fun e w'=>e=.returned (.int .i64 r1)∧But [] w w') (C2:∀ w,But [] W0 w→Calls Tryz.prog 18 #[.agg #[.bool s1,.int .u64 x1,.int .u64 y1,.pointer p1],.agg #[.bool ws,.int .u64 wx,.int .u64 0,.pointer none]] w fun e w'=>e=.returned (.int .i64 r2)∧But [] w w')
  (hQ:∀ w (v21:Value),But [] W0 w→Q .normal (putted base [(123,.nilIface),(124,.bool true),(125,.bool true),(126,.nilIface),(127,.bool true),(128,.bool true),(129,.bool true),(130,.nilIface),(131,.bool true),(132,.bool true),(133,.bool true),(134,.nilIface),(135,.bool true),(136,.bool true),(137,.bool true),(138,.slice (some ⟨bb,0,none⟩) n n),(139,.slice (some ⟨bd,0,none⟩) n n),(140,.bool true),(141,.bool true),(142,.bool true),(143,.slice (some ⟨bd,0,none⟩) n n),(144,v21),(145,.agg #[.bool ws,.int .u64 wx,.int .u64 0,.pointer none]),(146,.bool true),(147,.bool true),(148,.bool true),(149,.agg #[.bool s1,.int .u64 x1,.int .u64 y1,.pointer p1]),(150,.agg #[.bool s2,.int .u64 x2,.int .u64 y2,.pointer p2]),(151,.int .i64 r1),(152,.bool true),(153,.bool true),(154,.bool true),(155,.agg #[.bool s1,.int .u64 x1,.int .u64 y1,.pointer p1]),(156,.agg #[.bool ws,.int .u64 wx,.int .u64 0,.pointer none]),(157,.int .i64 r2),(158,.bool true),(159,.bool true),(12,.bool true)]) w) :
  (Code.region id opGts true).wp Tryz.prog Q base W0:=by
 have hdr:∀ {w},But [] W0.drew w→But [] W0 w:=fun h=>(But.refl _ _).drew.trans' h
 have hT:∀ i,i<38→opGtT i<base.tmps.size:=fun i hi=>by
  have h:opGtT i≤159:=by revert i;decide
  omega
 refine region_go (by kernel_rfl) (low_of (by kernel_rfl)) (opGtC bb bd n g22 g24 s1 x1 y1 p1 s2 x2 y2 p2 ws wx S r1 r2) opGtT (by kernel_rfl) ?_ opGtT_inj hT (fun i w w' v hi h hb=>opGtC_but h hi hb) ?_ ?_
 ·intro i o j want ho hg w v hv
  have hi:i<38:=(Array.getElem?_eq_some_iff.1 ho).1
  have:i=0∨i=1∨i=2∨i=3∨i=4∨i=5∨i=6∨i=7∨i=8∨i=9∨i=10∨i=11∨i=12∨i=13∨i=14∨i=15∨i=16∨i=17∨i=18∨i=19∨i=20∨i=21∨i=22∨i=23∨i=24∨i=25∨i=26∨i=27∨i=28∨i=29∨i=30∨i=31∨i=32∨i=33∨i=34∨i=35∨i=36∨i=37:=by omega
  rcases this with rfl | rfl | rfl | rfl | rfl | rfl | rfl | rfl | rfl | rfl | rfl | rfl | rfl | rfl | rfl | rfl | rfl | rfl | rfl | rfl | rfl | rfl | rfl | rfl | rfl | rfl | rfl | rfl | rfl | rfl | rfl | rfl | rfl | rfl | rfl | rfl | rfl | rfl
  ·obtain rfl:=Option.some.inj ((show opGts[0]? = some opGt0 from rfl).symm.trans ho)
   exact absurd (show (none:Option (Nat × Bool))=some (j,want) from hg) (by simp)
  ·obtain rfl:=Option.some.inj ((show opGts[1]? = some opGt1 from rfl).symm.trans ho)
   exact absurd (show (none:Option (Nat × Bool))=some (j,want) from hg) (by simp)
  ·obtain rfl:=Option.some.inj ((show opGts[2]? = some opGt2 from rfl).symm.trans ho)
   exact absurd (show (none:Option (Nat × Bool))=some (j,want) from hg) (by simp)
  ·obtain rfl:=Option.some.inj ((show opGts[3]? = some opGt3 from rfl).symm.trans ho)
   obtain ⟨rfl,rfl⟩:=Prod.mk.inj (Option.some.inj (show some (2,true)=some (j,want) from hg))
   exact hv
  ·obtain rfl:=Option.some.inj ((show opGts[4]? = some opGt4 from rfl).symm.trans ho)
   obtain ⟨rfl,rfl⟩:=Prod.mk.inj (Option.some.inj (show some (2,true)=some (j,want) from hg))
   exact hv
  ·obtain rfl:=Option.some.inj ((show opGts[5]? = some opGt5 from rfl).symm.trans ho)
   exact absurd (show (none:Option (Nat × Bool))=some (j,want) from hg) (by simp)
  ·obtain rfl:=Option.some.inj ((show opGts[6]? = some opGt6 from rfl).symm.trans ho)
   exact absurd (show (none:Option (Nat × Bool))=some (j,want) from hg) (by simp)
  ·obtain rfl:=Option.some.inj ((show opGts[7]? = some opGt7 from rfl).symm.trans ho)
   obtain ⟨rfl,rfl⟩:=Prod.mk.inj (Option.some.inj (show some (6,true)=some (j,want) from hg))
   exact hv
  ·obtain rfl:=Option.some.inj ((show opGts[8]? = some opGt8 from rfl).symm.trans ho)
   obtain ⟨rfl,rfl⟩:=Prod.mk.inj (Option.some.inj (show some (6,true)=some (j,want) from hg))
   exact hv
  ·obtain rfl:=Option.some.inj ((show opGts[9]? = some opGt9 from rfl).symm.trans ho)
   exact absurd (show (none:Option (Nat × Bool))=some (j,want) from hg) (by simp)
  ·obtain rfl:=Option.some.inj ((show opGts[10]? = some opGt10 from rfl).symm.trans ho)
   exact absurd (show (none:Option (Nat × Bool))=some (j,want) from hg) (by simp)
  ·obtain rfl:=Option.some.inj ((show opGts[11]? = some opGt11 from rfl).symm.trans ho)
   obtain ⟨rfl,rfl⟩:=Prod.mk.inj (Option.some.inj (show some (10,true)=some (j,want) from hg))
   exact hv
  ·obtain rfl:=Option.some.inj ((show opGts[12]? = some opGt12 from rfl).symm.trans ho)
   obtain ⟨rfl,rfl⟩:=Prod.mk.inj (Option.some.inj (show some (10,true)=some (j,want) from hg))
   exact hv
  ·obtain rfl:=Option.some.inj ((show opGts[13]? = some opGt13 from rfl).symm.trans ho)
   exact absurd (show (none:Option (Nat × Bool))=some (j,want) from hg) (by simp)
  ·obtain rfl:=Option.some.inj ((show opGts[14]? = some opGt14 from rfl).symm.trans ho)
   exact absurd (show (none:Option (Nat × Bool))=some (j,want) from hg) (by simp)
  ·obtain rfl:=Option.some.inj ((show opGts[15]? = some opGt15 from rfl).symm.trans ho)
   obtain ⟨rfl,rfl⟩:=Prod.mk.inj (Option.some.inj (show some (14,true)=some (j,want) from hg))
   exact hv
  ·obtain rfl:=Option.some.inj ((show opGts[16]? = some opGt16 from rfl).symm.trans ho)
   obtain ⟨rfl,rfl⟩:=Prod.mk.inj (Option.some.inj (show some (14,true)=some (j,want) from hg))
   exact hv
  ·obtain rfl:=Option.some.inj ((show opGts[17]? = some opGt17 from rfl).symm.trans ho)
   obtain ⟨rfl,rfl⟩:=Prod.mk.inj (Option.some.inj (show some (14,true)=some (j,want) from hg))
   exact hv
  ·obtain rfl:=Option.some.inj ((show opGts[18]? = some opGt18 from rfl).symm.trans ho)
   exact absurd (show (none:Option (Nat × Bool))=some (j,want) from hg) (by simp)
  ·obtain rfl:=Option.some.inj ((show opGts[19]? = some opGt19 from rfl).symm.trans ho)
   exact absurd (show (none:Option (Nat × Bool))=some (j,want) from hg) (by simp)
  ·obtain rfl:=Option.some.inj ((show opGts[20]? = some opGt20 from rfl).symm.trans ho)
   obtain ⟨rfl,rfl⟩:=Prod.mk.inj (Option.some.inj (show some (19,true)=some (j,want) from hg))
   exact hv
  ·obtain rfl:=Option.some.inj ((show opGts[21]? = some opGt21 from rfl).symm.trans ho)
   obtain ⟨rfl,rfl⟩:=Prod.mk.inj (Option.some.inj (show some (19,true)=some (j,want) from hg))
   exact hv
  ·obtain rfl:=Option.some.inj ((show opGts[22]? = some opGt22 from rfl).symm.trans ho)
   obtain ⟨rfl,rfl⟩:=Prod.mk.inj (Option.some.inj (show some (19,true)=some (j,want) from hg))
   exact hv
  ·obtain rfl:=Option.some.inj ((show opGts[23]? = some opGt23 from rfl).symm.trans ho)
   obtain ⟨rfl,rfl⟩:=Prod.mk.inj (Option.some.inj (show some (19,true)=some (j,want) from hg))
   exact hv
  ·obtain rfl:=Option.some.inj ((show opGts[24]? = some opGt24 from rfl).symm.trans ho)
   exact absurd (show (none:Option (Nat × Bool))=some (j,want) from hg) (by simp)
  ·obtain rfl:=Option.some.inj ((show opGts[25]? = some opGt25 from rfl).symm.trans ho)
   exact absurd (show (none:Option (Nat × Bool))=some (j,want) from hg) (by simp)
  ·obtain rfl:=Option.some.inj ((show opGts[26]? = some opGt26 from rfl).symm.trans ho)
   obtain ⟨rfl,rfl⟩:=Prod.mk.inj (Option.some.inj (show some (25,true)=some (j,want) from hg))
   exact hv
  ·obtain rfl:=Option.some.inj ((show opGts[27]? = some opGt27 from rfl).symm.trans ho)
   obtain ⟨rfl,rfl⟩:=Prod.mk.inj (Option.some.inj (show some (25,true)=some (j,want) from hg))
   exact hv
  ·obtain rfl:=Option.some.inj ((show opGts[28]? = some opGt28 from rfl).symm.trans ho)
   obtain ⟨rfl,rfl⟩:=Prod.mk.inj (Option.some.inj (show some (25,true)=some (j,want) from hg))
   exact hv
  ·obtain rfl:=Option.some.inj ((show opGts[29]? = some opGt29 from rfl).symm.trans ho)
   obtain ⟨rfl,rfl⟩:=Prod.mk.inj (Option.some.inj (show some (25,true)=some (j,want) from hg))
   exact hv
  ·obtain rfl:=Option.some.inj ((show opGts[30]? = some opGt30 from rfl).symm.trans ho)
   exact absurd (show (none:Option (Nat × Bool))=some (j,want) from hg) (by simp)
  ·obtain rfl:=Option.some.inj ((show opGts[31]? = some opGt31 from rfl).symm.trans ho)
   exact absurd (show (none:Option (Nat × Bool))=some (j,want) from hg) (by simp)
  ·obtain rfl:=Option.some.inj ((show opGts[32]? = some opGt32 from rfl).symm.trans ho)
   obtain ⟨rfl,rfl⟩:=Prod.mk.inj (Option.some.inj (show some (31,true)=some (j,want) from hg))
   exact hv
  ·obtain rfl:=Option.some.inj ((show opGts[33]? = some opGt33 from rfl).symm.trans ho)
   obtain ⟨rfl,rfl⟩:=Prod.mk.inj (Option.some.inj (show some (31,true)=some (j,want) from hg))
   exact hv
  ·obtain rfl:=Option.some.inj ((show opGts[34]? = some opGt34 from rfl).symm.trans ho)
   obtain ⟨rfl,rfl⟩:=Prod.mk.inj (Option.some.inj (show some (31,true)=some (j,want) from hg))
   exact hv
  ·obtain rfl:=Option.some.inj ((show opGts[35]? = some opGt35 from rfl).symm.trans ho)
   obtain ⟨rfl,rfl⟩:=Prod.mk.inj (Option.some.inj (show some (31,true)=some (j,want) from hg))
   exact hv
  ·obtain rfl:=Option.some.inj ((show opGts[36]? = some opGt36 from rfl).symm.trans ho)
   exact absurd (show (none:Option (Nat × Bool))=some (j,want) from hg) (by simp)
  ·obtain rfl:=Option.some.inj ((show opGts[37]? = some opGt37 from rfl).symm.trans ho)
   exact absurd (show (none:Option (Nat × Bool))=some (j,want) from hg) (by simp)
 ·intro i o a w K ho hH he hdep hk
  have hi:i<38:=(Array.getElem?_eq_some_iff.1 ho).1
  have hD:=dep_have (ps:=[(1,0),(2,1),(3,2),(4,2),(4,3),(5,2),(5,4),(6,2),(6,5),(7,6),(8,6),(8,7),(9,6),(9,8),(10,6),(10,9),(11,10),(12,10),(12,11),(13,10),(13,12),(14,10),(14,13),(15,14),(16,14),(17,14),(17,15),(17,16),(18,14),(18,17),(19,17),(19,18),(20,19),(21,19),(21,20),(22,19),(22,21),(23,19),(23,21),(23,22),(24,19),(24,23),(25,23),(25,24),(26,25),(27,25),(28,25),(28,26),(28,27),(29,25),(29,28),(30,25),(30,29),(31,28),(31,30),(32,31),(33,31),(34,31),(34,32),(34,33),(35,31),(35,34),(36,31),(36,35),(37,0),(37,1),(37,2),(37,3),(37,4),(37,5),(37,6),(37,7),(37,8),(37,9),(37,10),(37,11),(37,12),(37,13),(37,14),(37,15),(37,16),(37,17),(37,18),(37,19),(37,20),(37,21),(37,22),(37,23),(37,24),(37,25),(37,26),(37,27),(37,28),(37,29),(37,30),(37,31),(37,32),(37,33),(37,34),(37,35),(37,36)]) (by kernel_rfl) ho (fun j=>opGtC bb bd n g22 g24 s1 x1 y1 p1 s2 x2 y2 p2 ws wx S r1 r2 j w (a.eval (.tmp (opGtT j)))) hdep
  have e19':=(he 19 (fun j hj e=>absurd e.symm (by revert j;decide))).trans e19
  have e21':=(he 21 (fun j hj e=>absurd e.symm (by revert j;decide))).trans e21
  have e23':=(he 23 (fun j hj e=>absurd e.symm (by revert j;decide))).trans e23
  have e25':=(he 25 (fun j hj e=>absurd e.symm (by revert j;decide))).trans e25
  have e18':=(he 18 (fun j hj e=>absurd e.symm (by revert j;decide))).trans e18
  have e20':=(he 20 (fun j hj e=>absurd e.symm (by revert j;decide))).trans e20
  have e22':=(he 22 (fun j hj e=>absurd e.symm (by revert j;decide))).trans e22
  have e24':=(he 24 (fun j hj e=>absurd e.symm (by revert j;decide))).trans e24
  have:i=0∨i=1∨i=2∨i=3∨i=4∨i=5∨i=6∨i=7∨i=8∨i=9∨i=10∨i=11∨i=12∨i=13∨i=14∨i=15∨i=16∨i=17∨i=18∨i=19∨i=20∨i=21∨i=22∨i=23∨i=24∨i=25∨i=26∨i=27∨i=28∨i=29∨i=30∨i=31∨i=32∨i=33∨i=34∨i=35∨i=36∨i=37:=by omega
  rcases this with rfl | rfl | rfl | rfl | rfl | rfl | rfl | rfl | rfl | rfl | rfl | rfl | rfl | rfl | rfl | rfl | rfl | rfl | rfl | rfl | rfl | rfl | rfl | rfl | rfl | rfl | rfl | rfl | rfl | rfl | rfl | rfl | rfl | rfl | rfl | rfl | rfl | rfl
  ·obtain rfl:=Option.some.inj ((show opGts[0]? = some opGt0 from rfl).symm.trans ho)
   exact wp_value (run_mvK a w _ _ _ _ _ _ _ e19') (hk _ _ (But.refl _ _) rfl)
  ·obtain rfl:=Option.some.inj ((show opGts[1]? = some opGt1 from rfl).symm.trans ho)
   exact wp_value (run_eqGn a w _ _ _ _ _ _ (hD 0 (by simp))) (hk _ _ (But.refl _ _) rfl)
  ·obtain rfl:=Option.some.inj ((show opGts[2]? = some opGt2 from rfl).symm.trans ho)
   exact wp_value (run_mvK a w _ _ _ _ _ _ _ (hD 1 (by simp))) (hk _ _ (But.refl _ _) rfl)
  ·obtain rfl:=Option.some.inj ((show opGts[3]? = some opGt3 from rfl).symm.trans ho)
   exact wp_value (run_mvK a w _ _ _ _ _ _ _ e21') (hk _ _ (But.refl _ _) rfl)
  ·obtain rfl:=Option.some.inj ((show opGts[4]? = some opGt4 from rfl).symm.trans ho)
   exact wp_value (run_eqGn a w _ _ _ _ _ _ (hD 3 (by simp))) (hk _ _ (But.refl _ _) rfl)
  ·obtain rfl:=Option.some.inj ((show opGts[5]? = some opGt5 from rfl).symm.trans ho)
   exact wp_value (run_pickG a w _ _ _ _ _ _ _ _ (hD 2 (by simp)) (hD 4 (by simp))) (hk _ _ (But.refl _ _) rfl)
  ·obtain rfl:=Option.some.inj ((show opGts[6]? = some opGt6 from rfl).symm.trans ho)
   exact wp_value (run_mvK a w _ _ _ _ _ _ _ (hD 5 (by simp))) (hk _ _ (But.refl _ _) rfl)
  ·obtain rfl:=Option.some.inj ((show opGts[7]? = some opGt7 from rfl).symm.trans ho)
   exact wp_value (run_mvK a w _ _ _ _ _ _ _ e23') (hk _ _ (But.refl _ _) rfl)
  ·obtain rfl:=Option.some.inj ((show opGts[8]? = some opGt8 from rfl).symm.trans ho)
   exact wp_value (run_eqGn a w _ _ _ _ _ _ (hD 7 (by simp))) (hk _ _ (But.refl _ _) rfl)
  ·obtain rfl:=Option.some.inj ((show opGts[9]? = some opGt9 from rfl).symm.trans ho)
   exact wp_value (run_pickG a w _ _ _ _ _ _ _ _ (hD 6 (by simp)) (hD 8 (by simp))) (hk _ _ (But.refl _ _) rfl)
  ·obtain rfl:=Option.some.inj ((show opGts[10]? = some opGt10 from rfl).symm.trans ho)
   exact wp_value (run_mvK a w _ _ _ _ _ _ _ (hD 9 (by simp))) (hk _ _ (But.refl _ _) rfl)
  ·obtain rfl:=Option.some.inj ((show opGts[11]? = some opGt11 from rfl).symm.trans ho)
   exact wp_value (run_mvK a w _ _ _ _ _ _ _ e25') (hk _ _ (But.refl _ _) rfl)
  ·obtain rfl:=Option.some.inj ((show opGts[12]? = some opGt12 from rfl).symm.trans ho)
   exact wp_value (run_eqGn a w _ _ _ _ _ _ (hD 11 (by simp))) (hk _ _ (But.refl _ _) rfl)
  ·obtain rfl:=Option.some.inj ((show opGts[13]? = some opGt13 from rfl).symm.trans ho)
   exact wp_value (run_pickG a w _ _ _ _ _ _ _ _ (hD 10 (by simp)) (hD 12 (by simp))) (hk _ _ (But.refl _ _) rfl)
  ·obtain rfl:=Option.some.inj ((show opGts[14]? = some opGt14 from rfl).symm.trans ho)
   exact wp_value (run_mvK a w _ _ _ _ _ _ _ (hD 13 (by simp))) (hk _ _ (But.refl _ _) rfl)
  ·obtain rfl:=Option.some.inj ((show opGts[15]? = some opGt15 from rfl).symm.trans ho)
   exact wp_value (run_mvK a w _ _ _ _ _ _ _ e18') (hk _ _ (But.refl _ _) rfl)
  ·obtain rfl:=Option.some.inj ((show opGts[16]? = some opGt16 from rfl).symm.trans ho)
   exact wp_value (run_mvK a w _ _ _ _ _ _ _ e20') (hk _ _ (But.refl _ _) rfl)
  ·obtain rfl:=Option.some.inj ((show opGts[17]? = some opGt17 from rfl).symm.trans ho)
   exact wp_enter (run_likesG a w _ _ _ _ _ _ _ _ _ (hD 15 (by simp)) (hD 16 (by simp))) (R:=fun w' v=>But [] w w'∧v=_) ((LK w (hdr hH)).mono fun e w' ⟨he,hb⟩=>⟨_,he,hb,rfl⟩) (fun v w' hv=>hk v w' hv.1 hv.2)
  ·obtain rfl:=Option.some.inj ((show opGts[18]? = some opGt18 from rfl).symm.trans ho)
   exact wp_value (run_pickG a w _ _ _ _ _ _ _ _ (hD 14 (by simp)) (hD 17 (by simp))) (hk _ _ (But.refl _ _) rfl)
  ·obtain rfl:=Option.some.inj ((show opGts[19]? = some opGt19 from rfl).symm.trans ho)
   exact wp_value (run_mvK a w _ _ _ _ _ _ _ (hD 18 (by simp))) (hk _ _ (But.refl _ _) rfl)
  ·obtain rfl:=Option.some.inj ((show opGts[20]? = some opGt20 from rfl).symm.trans ho)
   exact wp_value (run_mvK a w _ _ _ _ _ _ _ e20') (hk _ _ (But.refl _ _) rfl)
  ·obtain rfl:=Option.some.inj ((show opGts[21]? = some opGt21 from rfl).symm.trans ho)
   exact wp_enter (run_sumG a w _ _ _ _ _ _ _ (hD 20 (by simp))) (R:=fun w' v=>FracAt w' v (S)∧But [] w w') (SU w (hdr hH)) (fun v w' hv=>hk v w' hv.2 hv.1)
  ·obtain rfl:=Option.some.inj ((show opGts[22]? = some opGt22 from rfl).symm.trans ho)
   exact wp_enter (run_oneG a w _ _ _ _ _) (R:=fun w' v=>But [] w w'∧v=_) ((WH w).mono fun e w' ⟨he,hb⟩=>⟨_,he,hb,rfl⟩) (fun v w' hv=>hk v w' hv.1 hv.2)
  ·obtain rfl:=Option.some.inj ((show opGts[23]? = some opGt23 from rfl).symm.trans ho)
   exact wp_enter (run_likeK a w _ _ _ _ _ _ _ _ _ rfl (hD 22 (by simp))) (R:=fun w' v=>But [] w w'∧v=_) ((LI w (hdr hH) _ (hD 21 (by simp))).mono fun e w' ⟨he,hb⟩=>⟨_,he,hb,rfl⟩) (fun v w' hv=>hk v w' hv.1 hv.2)
  ·obtain rfl:=Option.some.inj ((show opGts[24]? = some opGt24 from rfl).symm.trans ho)
   exact wp_value (run_pickG a w _ _ _ _ _ _ _ _ (hD 19 (by simp)) (hD 23 (by simp))) (hk _ _ (But.refl _ _) rfl)
  ·obtain rfl:=Option.some.inj ((show opGts[25]? = some opGt25 from rfl).symm.trans ho)
   exact wp_value (run_mvK a w _ _ _ _ _ _ _ (hD 24 (by simp))) (hk _ _ (But.refl _ _) rfl)
  ·obtain rfl:=Option.some.inj ((show opGts[26]? = some opGt26 from rfl).symm.trans ho)
   exact wp_value (run_loadK a w _ _ _ _ _ _ g24 0 _ _ _ _ e24' (c1.but (hdr hH) (by simp))) (hk _ _ (But.refl _ _) rfl)
  ·obtain rfl:=Option.some.inj ((show opGts[27]? = some opGt27 from rfl).symm.trans ho)
   exact wp_value (run_loadK a w _ _ _ _ _ _ g22 0 _ _ _ _ e22' (c2.but (hdr hH) (by simp))) (hk _ _ (But.refl _ _) rfl)
  ·obtain rfl:=Option.some.inj ((show opGts[28]? = some opGt28 from rfl).symm.trans ho)
   exact wp_enter (run_cmpK a w _ _ _ _ _ _ _ _ _ (hD 26 (by simp)) (hD 27 (by simp))) (R:=fun w' v=>But [] w w'∧v=_) ((C1 w (hdr hH)).mono fun e w' ⟨he,hb⟩=>⟨_,he,hb,rfl⟩) (fun v w' hv=>hk v w' hv.1 hv.2)
  ·obtain rfl:=Option.some.inj ((show opGts[29]? = some opGt29 from rfl).symm.trans ho)
   exact wp_value (run_geG0 a w _ _ _ _ _ _ _ hr1 (hD 28 (by simp))) (hk _ _ (But.refl _ _) rfl)
  ·obtain rfl:=Option.some.inj ((show opGts[30]? = some opGt30 from rfl).symm.trans ho)
   exact wp_value (run_pickG a w _ _ _ _ _ _ _ _ (hD 25 (by simp)) (hD 29 (by simp))) (hk _ _ (But.refl _ _) rfl)
  ·obtain rfl:=Option.some.inj ((show opGts[31]? = some opGt31 from rfl).symm.trans ho)
   exact wp_value (run_mvK a w _ _ _ _ _ _ _ (hD 30 (by simp))) (hk _ _ (But.refl _ _) rfl)
  ·obtain rfl:=Option.some.inj ((show opGts[32]? = some opGt32 from rfl).symm.trans ho)
   exact wp_value (run_loadK a w _ _ _ _ _ _ g24 0 _ _ _ _ e24' (c1.but (hdr hH) (by simp))) (hk _ _ (But.refl _ _) rfl)
  ·obtain rfl:=Option.some.inj ((show opGts[33]? = some opGt33 from rfl).symm.trans ho)
   exact wp_enter (run_oneG a w _ _ _ _ _) (R:=fun w' v=>But [] w w'∧v=_) ((WH w).mono fun e w' ⟨he,hb⟩=>⟨_,he,hb,rfl⟩) (fun v w' hv=>hk v w' hv.1 hv.2)
  ·obtain rfl:=Option.some.inj ((show opGts[34]? = some opGt34 from rfl).symm.trans ho)
   exact wp_enter (run_cmpK a w _ _ _ _ _ _ _ _ _ (hD 32 (by simp)) (hD 33 (by simp))) (R:=fun w' v=>But [] w w'∧v=_) ((C2 w (hdr hH)).mono fun e w' ⟨he,hb⟩=>⟨_,he,hb,rfl⟩) (fun v w' hv=>hk v w' hv.1 hv.2)
  ·obtain rfl:=Option.some.inj ((show opGts[35]? = some opGt35 from rfl).symm.trans ho)
   exact wp_value (run_leG0 a w _ _ _ _ _ _ _ hr2 (hD 34 (by simp))) (hk _ _ (But.refl _ _) rfl)
  ·obtain rfl:=Option.some.inj ((show opGts[36]? = some opGt36 from rfl).symm.trans ho)
   exact wp_value (run_pickG a w _ _ _ _ _ _ _ _ (hD 31 (by simp)) (hD 35 (by simp))) (hk _ _ (But.refl _ _) rfl)
  ·obtain rfl:=Option.some.inj ((show opGts[37]? = some opGt37 from rfl).symm.trans ho)
   exact wp_value (run_asK a w _ _ _ _ _ _ _ (hD 36 (by simp))) (hk _ _ (But.refl _ _) rfl)
 ·intro a w h
  have ea:=h.puts hT (fun i=>match i with
   | 0=>.nilIface
   | 1=>.bool true
   | 2=>.bool true
   | 3=>.nilIface
   | 4=>.bool true
   | 5=>.bool true
   | 6=>.bool true
   | 7=>.nilIface
   | 8=>.bool true
   | 9=>.bool true
   | 10=>.bool true
   | 11=>.nilIface
   | 12=>.bool true
   | 13=>.bool true
   | 14=>.bool true
   | 15=>.slice (some ⟨bb,0,none⟩) n n
   | 16=>.slice (some ⟨bd,0,none⟩) n n
   | 17=>.bool true
   | 18=>.bool true
   | 19=>.bool true
   | 20=>.slice (some ⟨bd,0,none⟩) n n
   | 21=>a.eval (.tmp 144)
   | 22=>.agg #[.bool ws,.int .u64 wx,.int .u64 0,.pointer none]
   | 23=>.bool true
   | 24=>.bool true
   | 25=>.bool true
   | 26=>.agg #[.bool s1,.int .u64 x1,.int .u64 y1,.pointer p1]
   | 27=>.agg #[.bool s2,.int .u64 x2,.int .u64 y2,.pointer p2]
   | 28=>.int .i64 r1
   | 29=>.bool true
   | 30=>.bool true
   | 31=>.bool true
   | 32=>.agg #[.bool s1,.int .u64 x1,.int .u64 y1,.pointer p1]
   | 33=>.agg #[.bool ws,.int .u64 wx,.int .u64 0,.pointer none]
   | 34=>.int .i64 r2
   | 35=>.bool true
   | 36=>.bool true
   | _=>.bool true) (fun i hi=>by
   have hi':i<38:=hi
   have hc:=h.has i hi rfl
   have:i=0∨i=1∨i=2∨i=3∨i=4∨i=5∨i=6∨i=7∨i=8∨i=9∨i=10∨i=11∨i=12∨i=13∨i=14∨i=15∨i=16∨i=17∨i=18∨i=19∨i=20∨i=21∨i=22∨i=23∨i=24∨i=25∨i=26∨i=27∨i=28∨i=29∨i=30∨i=31∨i=32∨i=33∨i=34∨i=35∨i=36∨i=37:=by omega
   rcases this with rfl | rfl | rfl | rfl | rfl | rfl | rfl | rfl | rfl | rfl | rfl | rfl | rfl | rfl | rfl | rfl | rfl | rfl | rfl | rfl | rfl | rfl | rfl | rfl | rfl | rfl | rfl | rfl | rfl | rfl | rfl | rfl | rfl | rfl | rfl | rfl | rfl | rfl
   all_goals first | exact hc | rfl)
  rw [ea]
  exact hQ w (a.eval (.tmp 144)) (hdr h.but)
end Go.Proofs.YthlnhheblhapgaaGreatDoor
