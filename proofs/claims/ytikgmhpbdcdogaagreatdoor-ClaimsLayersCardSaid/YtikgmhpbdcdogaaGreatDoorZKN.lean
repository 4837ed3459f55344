/- Whether a fraction is a chance, and not a certain one, as the Go text of package claims tells; what a comparison tells. -/
import Derived.Test.YtikgmhpbdcdogaaGreatDoorZK1
import Derived.Test.YtikgmhpbdcdogaaGreatDoorZKM
namespace Go.Proofs.YtikgmhpbdcdogaaGreatDoor
open Go.RowKit

theorem cmpZ_tells (x y : Rat) (r : Int) (hr : r = cmpZ (x.num * (y.den : Int)) (y.num * (x.den : Int))) : (r < 0 ↔ x < y)∧(0 < r ↔ y < x)∧(r = 0 ↔ x = y):=by
 have h1 : x < y ↔ x.num * (y.den : Int) < y.num * (x.den : Int):=Rat.lt_iff x y
 have h2 : y < x ↔ y.num * (x.den : Int) < x.num * (y.den : Int):=Rat.lt_iff y x
 have h3 : x = y ↔ x.num * (y.den : Int) = y.num * (x.den : Int):=by
  constructor
  ·intro h; rw [h]
  ·intro h
   exact Rat.le_antisymm ((Rat.le_iff _ _).2 (by omega)) ((Rat.le_iff _ _).2 (by omega))
 rw [h1,h2,h3,hr]
 unfold cmpZ
 split
 ·omega
 ·split <;> omega
theorem run_andFK (a : Act) (w : World) (d t1 t2 : Nat) (u : TypeId) (ps : String) (ed : Array Edge) (gd : Option (Nat × Bool)) (v : Value) (h1 : a.eval (.tmp t1) = .bool false) (h2 : a.eval (.tmp t2) = v) :
  (execOp a.eval { dst:=some d,op:=Op.pick (.tmp t1) (.tmp t2) (.const (.bool false)),type:=u,pos:=ps,after:=ed,guard:=gd }).run Tryz.prog w = .ok (.value (.bool false)) w:=by
 unfold execOp
 simp only [h1,h2]
 go_simp
def opKk0 : Oper:={ dst:=some 3,op:=Op.load 29 (Operand.tmp 1),type:=29,pos:= "claims.go:114",after:=#[],guard:=none }
def opKk1 : Oper:={ dst:=some 4,op:=Op.call { callee:=Callee.value (Operand.func 15),args:=#[Operand.tmp 3],argTypes:=#[29] },type:=3,pos:= "claims.go:114",after:=#[{ on:=0,ground:=Ground.data }],guard:=none }
def opKk2 : Oper:={ dst:=some 5,op:=Op.binOp BinOp.geq 3 (Operand.tmp 4) (Operand.const (Value.int IntKind.i64 0)) 3,type:=4,pos:= "claims.go:114",after:=#[{ on:=1,ground:=Ground.data }],guard:=none }
def opKk3 : Oper:={ dst:=some 6,op:=Op.move (Operand.tmp 5),type:=4,pos:= "claims.go:114",after:=#[{ on:=2,ground:=Ground.data },{ on:=1,ground:=Ground.chain }],guard:=none }
def opKk4 : Oper:={ dst:=some 7,op:=Op.load 29 (Operand.tmp 1),type:=29,pos:= "claims.go:114",after:=#[{ on:=3,ground:=Ground.guard }],guard:=some (3,true) }
def opKk5 : Oper:={ dst:=some 8,op:=Op.call { callee:=Callee.value (Operand.func 24),args:=#[Operand.const (Value.int IntKind.i64 1)],argTypes:=#[3] },type:=29,pos:= "claims.go:114",after:=#[{ on:=3,ground:=Ground.chain },{ on:=3,ground:=Ground.guard }],guard:=some (3,true) }
def opKk6 : Oper:={ dst:=some 9,op:=Op.call { callee:=Callee.value (Operand.func 22),args:=#[Operand.tmp 7,Operand.tmp 8],argTypes:=#[29,29] },type:=3,pos:= "claims.go:114",after:=#[{ on:=4,ground:=Ground.data },{ on:=5,ground:=Ground.data },{ on:=5,ground:=Ground.chain },{ on:=3,ground:=Ground.guard }],guard:=some (3,true) }
def opKk7 : Oper:={ dst:=some 10,op:=Op.binOp BinOp.lss 3 (Operand.tmp 9) (Operand.const (Value.int IntKind.i64 0)) 3,type:=4,pos:= "claims.go:114",after:=#[{ on:=6,ground:=Ground.data },{ on:=3,ground:=Ground.guard }],guard:=some (3,true) }
def opKk8 : Oper:={ dst:=some 11,op:=Op.pick (Operand.tmp 6) (Operand.tmp 10) (Operand.const (Value.bool false)),type:=4,pos:= "claims.go:114",after:=#[{ on:=3,ground:=Ground.data },{ on:=7,ground:=Ground.data }],guard:=none }
def opKk9 : Oper:={ dst:=some 2,op:=Op.assign (Operand.tmp 11),type:=4,pos:= "claims.go:114",after:=#[{ on:=8,ground:=Ground.data },{ on:=6,ground:=Ground.chain },{ on:=0,ground:=Ground.phase },{ on:=1,ground:=Ground.phase },{ on:=2,ground:=Ground.phase },{ on:=3,ground:=Ground.phase },{ on:=4,ground:=Ground.phase },{ on:=5,ground:=Ground.phase },{ on:=6,ground:=Ground.phase },{ on:=7,ground:=Ground.phase },{ on:=8,ground:=Ground.phase }],guard:=none }
def opKks : Array Oper:=#[opKk0,opKk1,opKk2,opKk3,opKk4,opKk5,opKk6,opKk7,opKk8,opKk9]
def opKkT (i : Nat) : Nat:=match i with
 | 0 => 3
 | 1 => 4
 | 2 => 5
 | 3 => 6
 | 4 => 7
 | 5 => 8
 | 6 => 9
 | 7 => 10
 | 8 => 11
 | _ => 2
/-- what each operation's value is -/
def opKkC (s1 : Bool) (x1 : Int) (y1 : Int) (p1 : Option Addr) (sg : Int) (i : Nat) (_w : World) (v : Value) : Prop:=match i with
 | 0 => v = .agg #[.bool s1,.int .u64 x1,.int .u64 y1,.pointer p1]
 | 1 => v = .int .i64 sg
 | 2 => v = .bool false
 | 3 => v = .bool false
 | 4 => v = undef
 | 5 => v = undef
 | 6 => v = undef
 | 7 => v = undef
 | 8 => v = .bool false
 | _ => v = .bool false
def opKkK (i : Nat) : Bool:=match i with
 | 4 => true
 | 5 => true
 | 6 => true
 | 7 => true
 | _ => false
theorem opKkT_inj : ∀ i j,i < 10→j < 10→opKkT i = opKkT j→i = j:=fun i j hi hj => (by decide : ∀ i,i < 10→∀ j,j < 10→opKkT i = opKkT j→i = j) i hi j hj
set_option maxHeartbeats 4000000 in
set_option maxRecDepth 100000 in
theorem below_neg (id : Nat) (Q : Exit→Act→World→Prop) (base : Act) (W0 : World) (s1 : Bool) (x1 : Int) (y1 : Int) (p1 : Option Addr) (sg : Int) (hs : 11 < base.tmps.size) (g1 : Nat) (e1 : base.eval (.tmp 1) = .pointer (some ⟨g1,0,none⟩))
  (hsg : ¬ 0 ≤ sg) (c1 : P4 W0 g1 s1 x1 y1 p1)
  (SG : ∀ w,But [] W0 w→Calls Tryz.prog 15 #[.agg #[.bool s1,.int .u64 x1,.int .u64 y1,.pointer p1]] w fun e w' => e = .returned (.int .i64 sg)∧But [] w w')
  (hQ : ∀ w,But [] W0 w→Q .normal (putted base [(3,.agg #[.bool s1,.int .u64 x1,.int .u64 y1,.pointer p1]),(4,.int .i64 sg),(5,.bool false),(6,.bool false),(7,undef),(8,undef),(9,undef),(10,undef),(11,.bool false),(2,.bool false)]) w) :
  (Code.region id opKks true).wp Tryz.prog Q base W0:=by
 have hdr : ∀ {w},But [] W0.drew w→But [] W0 w:=fun h => (But.refl _ _).drew.trans' h
 have hT : ∀ i,i < 10→opKkT i < base.tmps.size:=fun i hi => by
  have h : opKkT i ≤ 11:=by revert i; decide
  omega
 have hCb : ∀ i w w' v,i < 10→opKkC s1 x1 y1 p1 sg i w v→opKkC s1 x1 y1 p1 sg i w' v:=fun i w w' v hi h => by
  have : i = 0 ∨ i = 1 ∨ i = 2 ∨ i = 3 ∨ i = 4 ∨ i = 5 ∨ i = 6 ∨ i = 7 ∨ i = 8 ∨ i = 9:=by omega
  rcases this with rfl | rfl | rfl | rfl | rfl | rfl | rfl | rfl | rfl | rfl
  ·exact (show v = .agg #[.bool s1,.int .u64 x1,.int .u64 y1,.pointer p1] from h)
  ·exact (show v = .int .i64 sg from h)
  ·exact (show v = .bool false from h)
  ·exact (show v = .bool false from h)
  ·exact (show v = undef from h)
  ·exact (show v = undef from h)
  ·exact (show v = undef from h)
  ·exact (show v = undef from h)
  ·exact (show v = .bool false from h)
  ·exact (show v = .bool false from h)
 refine region_skip (by kernel_rfl) (low_of (by kernel_rfl)) (opKkC s1 x1 y1 p1 sg) opKkT (by kernel_rfl) opKkK ?_ ?_ ?_ opKkT_inj hT (fun i w w' v hi h _ => hCb i w w' v hi h) ?_ ?_
 ·intro i o j want ho hg w v hv
  have hi : i < 10:=(Array.getElem?_eq_some_iff.1 ho).1
  have : i = 0 ∨ i = 1 ∨ i = 2 ∨ i = 3 ∨ i = 4 ∨ i = 5 ∨ i = 6 ∨ i = 7 ∨ i = 8 ∨ i = 9:=by omega
  rcases this with rfl | rfl | rfl | rfl | rfl | rfl | rfl | rfl | rfl | rfl
  ·obtain rfl:=Option.some.inj ((show opKks[0]? = some opKk0 from rfl).symm.trans ho)
   exact absurd (show (none : Option (Nat × Bool)) = some (j,want) from hg) (by simp)
  ·obtain rfl:=Option.some.inj ((show opKks[1]? = some opKk1 from rfl).symm.trans ho)
   exact absurd (show (none : Option (Nat × Bool)) = some (j,want) from hg) (by simp)
  ·obtain rfl:=Option.some.inj ((show opKks[2]? = some opKk2 from rfl).symm.trans ho)
   exact absurd (show (none : Option (Nat × Bool)) = some (j,want) from hg) (by simp)
  ·obtain rfl:=Option.some.inj ((show opKks[3]? = some opKk3 from rfl).symm.trans ho)
   exact absurd (show (none : Option (Nat × Bool)) = some (j,want) from hg) (by simp)
  ·obtain rfl:=Option.some.inj ((show opKks[4]? = some opKk4 from rfl).symm.trans ho)
   obtain ⟨rfl,rfl⟩:=Prod.mk.inj (Option.some.inj (show some (3,true) = some (j,want) from hg))
   exact hv
  ·obtain rfl:=Option.some.inj ((show opKks[5]? = some opKk5 from rfl).symm.trans ho)
   obtain ⟨rfl,rfl⟩:=Prod.mk.inj (Option.some.inj (show some (3,true) = some (j,want) from hg))
   exact hv
  ·obtain rfl:=Option.some.inj ((show opKks[6]? = some opKk6 from rfl).symm.trans ho)
   obtain ⟨rfl,rfl⟩:=Prod.mk.inj (Option.some.inj (show some (3,true) = some (j,want) from hg))
   exact hv
  ·obtain rfl:=Option.some.inj ((show opKks[7]? = some opKk7 from rfl).symm.trans ho)
   obtain ⟨rfl,rfl⟩:=Prod.mk.inj (Option.some.inj (show some (3,true) = some (j,want) from hg))
   exact hv
  ·obtain rfl:=Option.some.inj ((show opKks[8]? = some opKk8 from rfl).symm.trans ho)
   exact absurd (show (none : Option (Nat × Bool)) = some (j,want) from hg) (by simp)
  ·obtain rfl:=Option.some.inj ((show opKks[9]? = some opKk9 from rfl).symm.trans ho)
   exact absurd (show (none : Option (Nat × Bool)) = some (j,want) from hg) (by simp)
 ·intro i o ho hk hg
  have hi : i < 10:=(Array.getElem?_eq_some_iff.1 ho).1
  have : i = 0 ∨ i = 1 ∨ i = 2 ∨ i = 3 ∨ i = 4 ∨ i = 5 ∨ i = 6 ∨ i = 7 ∨ i = 8 ∨ i = 9:=by omega
  rcases this with rfl | rfl | rfl | rfl | rfl | rfl | rfl | rfl | rfl | rfl
  ·exact absurd (show false = true from hk) (by simp)
  ·exact absurd (show false = true from hk) (by simp)
  ·exact absurd (show false = true from hk) (by simp)
  ·exact absurd (show false = true from hk) (by simp)
  ·obtain rfl:=Option.some.inj ((show opKks[4]? = some opKk4 from rfl).symm.trans ho)
   exact absurd (show some (3,true) = (none : Option (Nat × Bool)) from hg) (by simp)
  ·obtain rfl:=Option.some.inj ((show opKks[5]? = some opKk5 from rfl).symm.trans ho)
   exact absurd (show some (3,true) = (none : Option (Nat × Bool)) from hg) (by simp)
  ·obtain rfl:=Option.some.inj ((show opKks[6]? = some opKk6 from rfl).symm.trans ho)
   exact absurd (show some (3,true) = (none : Option (Nat × Bool)) from hg) (by simp)
  ·obtain rfl:=Option.some.inj ((show opKks[7]? = some opKk7 from rfl).symm.trans ho)
   exact absurd (show some (3,true) = (none : Option (Nat × Bool)) from hg) (by simp)
  ·exact absurd (show false = true from hk) (by simp)
  ·exact absurd (show false = true from hk) (by simp)
 ·intro i w hk
  by_cases hi : i < 10
  ·have : i = 0 ∨ i = 1 ∨ i = 2 ∨ i = 3 ∨ i = 4 ∨ i = 5 ∨ i = 6 ∨ i = 7 ∨ i = 8 ∨ i = 9:=by omega
   rcases this with rfl | rfl | rfl | rfl | rfl | rfl | rfl | rfl | rfl | rfl
   ·exact absurd (show false = true from hk) (by simp)
   ·exact absurd (show false = true from hk) (by simp)
   ·exact absurd (show false = true from hk) (by simp)
   ·exact absurd (show false = true from hk) (by simp)
   ·exact (show undef = undef from rfl)
   ·exact (show undef = undef from rfl)
   ·exact (show undef = undef from rfl)
   ·exact (show undef = undef from rfl)
   ·exact absurd (show false = true from hk) (by simp)
   ·exact absurd (show false = true from hk) (by simp)
  ·exfalso
   unfold opKkK at hk
   split at hk
   ·omega
   ·omega
   ·omega
   ·omega
   ·simp at hk
 ·intro i o a w K hki ho hH he hdep hk
  have hi : i < 10:=(Array.getElem?_eq_some_iff.1 ho).1
  have hD:=dep_have (ps:=[(1,0),(2,1),(3,1),(3,2),(4,3),(5,3),(6,3),(6,4),(6,5),(7,3),(7,6),(8,3),(8,7),(9,0),(9,1),(9,2),(9,3),(9,4),(9,5),(9,6),(9,7),(9,8)]) (by kernel_rfl) ho (fun j => opKkC s1 x1 y1 p1 sg j w (a.eval (.tmp (opKkT j)))) hdep
  have e1':=(he 1 (fun j hj e => absurd e.symm (by revert j; decide))).trans e1
  have : i = 0 ∨ i = 1 ∨ i = 2 ∨ i = 3 ∨ i = 4 ∨ i = 5 ∨ i = 6 ∨ i = 7 ∨ i = 8 ∨ i = 9:=by omega
  rcases this with rfl | rfl | rfl | rfl | rfl | rfl | rfl | rfl | rfl | rfl
  ·obtain rfl:=Option.some.inj ((show opKks[0]? = some opKk0 from rfl).symm.trans ho)
   exact wp_value (run_loadK a w _ _ _ _ _ _ g1 0 _ _ _ _ e1' (c1.but (hdr hH) (by simp))) (hk _ _ (But.refl _ _) rfl)
  ·obtain rfl:=Option.some.inj ((show opKks[1]? = some opKk1 from rfl).symm.trans ho)
   exact wp_enter (run_signK a w _ _ _ _ _ _ _ (hD 0 (by simp))) (R:=fun w' v => But [] w w'∧v = _) ((SG w (hdr hH)).mono fun e w' ⟨he,hb⟩ => ⟨_,he,hb,rfl⟩) (fun v w' hv => hk v w' hv.1 hv.2)
  ·obtain rfl:=Option.some.inj ((show opKks[2]? = some opKk2 from rfl).symm.trans ho)
   refine wp_value (run_ge0K a w _ _ _ _ _ _ _ (hD 1 (by simp))) (hk _ _ (But.refl _ _) ?_)
   show Value.bool _ = Value.bool _
   rw [decide_eq_false hsg]
  ·obtain rfl:=Option.some.inj ((show opKks[3]? = some opKk3 from rfl).symm.trans ho)
   exact wp_value (run_mvK a w _ _ _ _ _ _ _ (hD 2 (by simp))) (hk _ _ (But.refl _ _) rfl)
  ·exact absurd (show true = false from hki) (by simp)
  ·exact absurd (show true = false from hki) (by simp)
  ·exact absurd (show true = false from hki) (by simp)
  ·exact absurd (show true = false from hki) (by simp)
  ·obtain rfl:=Option.some.inj ((show opKks[8]? = some opKk8 from rfl).symm.trans ho)
   exact wp_value (run_andFK a w _ _ _ _ _ _ _ _ (hD 3 (by simp)) rfl) (hk _ _ (But.refl _ _) rfl)
  ·obtain rfl:=Option.some.inj ((show opKks[9]? = some opKk9 from rfl).symm.trans ho)
   exact wp_value (run_asK a w _ _ _ _ _ _ _ (hD 8 (by simp))) (hk _ _ (But.refl _ _) rfl)
 ·intro a w h
  have ea:=h.puts hT (fun i => match i with
   | 0 => .agg #[.bool s1,.int .u64 x1,.int .u64 y1,.pointer p1]
   | 1 => .int .i64 sg
   | 2 => .bool false
   | 3 => .bool false
   | 4 => undef
   | 5 => undef
   | 6 => undef
   | 7 => undef
   | 8 => .bool false
   | _ => .bool false) (fun i hi => by
   have hi' : i < 10:=hi
   have hc:=h.has i hi rfl
   have : i = 0 ∨ i = 1 ∨ i = 2 ∨ i = 3 ∨ i = 4 ∨ i = 5 ∨ i = 6 ∨ i = 7 ∨ i = 8 ∨ i = 9:=by omega
   rcases this with rfl | rfl | rfl | rfl | rfl | rfl | rfl | rfl | rfl | rfl
   all_goals first | exact hc | rfl)
  rw [ea]
  exact hQ w (hdr h.but)
set_option maxHeartbeats 8000000 in
set_option maxRecDepth 100000 in
theorem below1_any (vf : Value) (f : Rat) (w : World) (hf : FracAt w vf f) (lf : Len f 1000000) :
  Calls Tryz.prog 56 #[vf] w fun e w' => e = .returned (.bool (decide (0 ≤ f∧f < 1)))∧But [] w w':=by
 have h0n : 0 ≤ f ↔ 0 ≤ f.num:=Rat.num_nonneg.symm
 obtain ⟨x1,y1,p1,rfl,-⟩:=hf.agg
 generalize hsf : decide (f.num < 0) = s1 at *
 clear hsf
 obtain ⟨sg,hsg⟩ : ∃ sg,sg = f.num.sign:=⟨_,rfl⟩
 have hs0 : 0 ≤ sg ↔ 0 ≤ f.num:=by
  rw [hsg]
  rcases Int.lt_trichotomy f.num 0 with h | h | h
  ·rw [Int.sign_eq_neg_one_of_neg h]; omega
  ·rw [h]; decide
  ·rw [Int.sign_eq_one_of_pos h]; omega
 have bA : But [] w (w.alloc (.cells #[.bool s1,.int .u64 x1,.int .u64 y1,.pointer p1] 29)):=(But.refl _ _).alloc _
 have SG:=hide (fun W (h : But [] w W) => fracSign_any _ f W (hf.but h))
 rw [← hsg] at SG
 have X1:=hide (BoxAt.new w s1 x1 y1 p1 f 29 hf)
 have c1 : P4 (w.alloc (.cells #[.bool s1,.int .u64 x1,.int .u64 y1,.pointer p1] 29)) w.heap.size s1 x1 y1 p1:=⟨by simp,by simp,by simp,by simp⟩
 have C1:=hide c1
 have HF:=hide hf
 have BA:=hide bA
 have HS0:=hide hs0
 have H0N:=hide h0n
 clear hf c1 bA hsg hs0 h0n
 go_enter Tryz.func56,Tryz.ntmps56
 go_wp2
 generalize w.heap.size = g1 at *
 generalize w.alloc (.cells #[.bool s1,.int .u64 x1,.int .u64 y1,.pointer p1] 29) = U at *
 by_cases hp : 0 ≤ sg
 ·obtain ⟨ws,wx,FW,CW⟩:=whole_is 1 (by omega) (by omega)
  obtain ⟨r,hr⟩ : ∃ r,r = cmpZ (f.num * ((((1 : Int) : Rat)).den : Int)) ((((1 : Int) : Rat)).num * (f.den : Int)):=⟨_,rfl⟩
  have hlt:=(cmpZ_tells f ((1 : Int) : Rat) r hr).1
  refine below_region 1 _ _ U s1 x1 y1 p1 sg ws wx r (by simp) g1 (by simp [Act.eval]) hp (unhide C1) (fun w' hb => unhide SG w' ((unhide BA).trans' hb)) CW (fun w' hb => fracCmp_any _ _ f ((1 : Int) : Rat) w' ((unhide HF).but ((unhide BA).trans' hb)) (FW w') (lf.mono (by omega)) ((len_int 1 (by decide)).mono (by omega)) r hr) ?_
  intro w1 hb1
  simp only [putted,List.foldl_cons,List.foldl_nil,Act.put,List.setIfInBounds_toArray,List.set_cons_zero,List.set_cons_succ]
  have e : decide (r < 0) = decide (0 ≤ f∧f < 1):=by
   have hz : 0 ≤ f:=(unhide H0N).2 ((unhide HS0).1 hp)
   by_cases h : r < 0
   ·rw [decide_eq_true h,decide_eq_true ⟨hz,hlt.1 h⟩]
   ·rw [decide_eq_false h,decide_eq_false (fun hh => h (hlt.2 hh.2))]
  rw [e]
  go_wp2
  go_ret
  exact ⟨rfl,(unhide BA).trans' hb1⟩
 ·refine below_neg 1 _ _ U s1 x1 y1 p1 sg (by simp) g1 (by simp [Act.eval]) hp (unhide C1) (fun w' hb => unhide SG w' ((unhide BA).trans' hb)) ?_
  intro w1 hb1
  simp only [putted,List.foldl_cons,List.foldl_nil,Act.put,List.setIfInBounds_toArray,List.set_cons_zero,List.set_cons_succ]
  have e : false = decide (0 ≤ f∧f < 1):=by
   rw [decide_eq_false]
   intro hh
   exact hp ((unhide HS0).2 ((unhide H0N).1 hh.1))
  rw [e]
  go_wp2
  go_ret
  exact ⟨rfl,(unhide BA).trans' hb1⟩
end Go.Proofs.YtikgmhpbdcdogaaGreatDoor

namespace Go.Proofs.YtikgmhpbdcdogaaGreatDoor
open Go.RowKit

/-- a place of the call's own for a fraction, blank yet -/
def LaidK (B : Nat) (w : World) (v : Value) : Prop:=∃ b,v = .pointer (some ⟨b,0,none⟩)∧B ≤ b∧P4 w b false 0 0 none∧∀ j,w.frozen? ⟨b,j,none⟩ = false
theorem LaidK.but {B : Nat} {w w' : World} {v : Value} (h : LaidK B w v) (hb : But [] w w') : LaidK B w' v:=by
 obtain ⟨b,h1,h2,h3,h4⟩:=h
 have hl : b < w.heap.size:=lt_of_cell h3.1
 exact ⟨b,h1,h2,h3.but hb (by simp),fun j => (hb.frozen (p:=⟨b,j,none⟩) hl (by simp)).trans (h4 j)⟩
theorem run_allocK (a : Act) (w : World) (d : Nat) (u : TypeId) (ps : String) (ed : Array Edge) :
  (execOp a.eval { dst:=some d,op:=Op.alloc 29,type:=u,pos:=ps,after:=ed,guard:=none }).run Tryz.prog w = .ok (.value (.pointer (some ⟨w.heap.size,0,none⟩))) (w.alloc (.cells #[.bool false,.int .u64 0,.int .u64 0,.pointer none] 29)):=by
 unfold execOp
 go_simp
theorem run_le0K (a : Act) (w : World) (d t : Nat) (u : TypeId) (ps : String) (ed : Array Edge) (gd : Option (Nat × Bool)) (x : Int) (h : a.eval (.tmp t) = .int .i64 x) :
  (execOp a.eval { dst:=some d,op:=Op.binOp BinOp.leq 3 (.tmp t) (.const (.int .i64 0)) 3,type:=u,pos:=ps,after:=ed,guard:=gd }).run Tryz.prog w = .ok (.value (.bool (decide (x ≤ 0)))) w:=by
 have e : a.eval (.const (.int .i64 0)) = .int .i64 0:=rfl
 unfold execOp
 simp only [h,e]
 go_simp
theorem run_gt0K (a : Act) (w : World) (d t : Nat) (u : TypeId) (ps : String) (ed : Array Edge) (gd : Option (Nat × Bool)) (x : Int) (h : a.eval (.tmp t) = .int .i64 x) :
  (execOp a.eval { dst:=some d,op:=Op.binOp BinOp.gtr 3 (.tmp t) (.const (.int .i64 0)) 3,type:=u,pos:=ps,after:=ed,guard:=gd }).run Tryz.prog w = .ok (.value (.bool (decide (0 < x)))) w:=by
 have e : a.eval (.const (.int .i64 0)) = .int .i64 0:=rfl
 unfold execOp
 simp only [h,e]
 go_simp
theorem run_orFK (a : Act) (w : World) (d t1 t2 : Nat) (u : TypeId) (ps : String) (ed : Array Edge) (gd : Option (Nat × Bool)) (v : Value) (h1 : a.eval (.tmp t1) = .bool false) (h2 : a.eval (.tmp t2) = v) :
  (execOp a.eval { dst:=some d,op:=Op.pick (.tmp t1) (.const (.bool true)) (.tmp t2),type:=u,pos:=ps,after:=ed,guard:=gd }).run Tryz.prog w = .ok (.value v) w:=by
 unfold execOp
 simp only [h1,h2]
 go_simp
theorem run_orTK (a : Act) (w : World) (d t1 t2 : Nat) (u : TypeId) (ps : String) (ed : Array Edge) (gd : Option (Nat × Bool)) (v : Value) (h1 : a.eval (.tmp t1) = .bool true) (h2 : a.eval (.tmp t2) = v) :
  (execOp a.eval { dst:=some d,op:=Op.pick (.tmp t1) (.const (.bool true)) (.tmp t2),type:=u,pos:=ps,after:=ed,guard:=gd }).run Tryz.prog w = .ok (.value (.bool true)) w:=by
 unfold execOp
 simp only [h1,h2]
 go_simp
theorem run_as0K (a : Act) (w : World) (d : Nat) (u : TypeId) (ps : String) (ed : Array Edge) (gd : Option (Nat × Bool)) (n : Int) :
  (execOp a.eval { dst:=some d,op:=Op.assign (Operand.const (Value.int IntKind.i64 n)),type:=u,pos:=ps,after:=ed,guard:=gd }).run Tryz.prog w = .ok (.value (.int .i64 n)) w:=by
 unfold execOp
 go_simp
theorem run_index0K (a : Act) (w : World) (d t1 : Nat) (u : TypeId) (ps : String) (ed : Array Edge) (gd : Option (Nat × Bool)) (b off n c : Nat) (hn0 : 0 < n) (_hn : n < 1000000) (h1 : a.eval (.tmp t1) = .slice (some ⟨b,off,none⟩) n c) :
  (execOp a.eval { dst:=some d,op:=Op.indexAddr 38 (.tmp t1) (Operand.const (Value.int IntKind.i64 0)),type:=u,pos:=ps,after:=ed,guard:=gd }).run Tryz.prog w = .ok (.value (.pointer (some ⟨b,off,none⟩))) w:=by
 have e : a.eval (.const (.int .i64 0)) = .int .i64 0:=rfl
 have hz : (0 : Int) < (n : Int):=by omega
 unfold execOp
 simp only [h1,e]
 go_simp
def opKl0 : Oper:={ dst:=some 14,op:=Op.load 29 (Operand.tmp 3),type:=29,pos:= "claims.go:80",after:=#[],guard:=none }
def opKl1 : Oper:={ dst:=some 15,op:=Op.call { callee:=Callee.value (Operand.func 15),args:=#[Operand.tmp 14],argTypes:=#[29] },type:=3,pos:= "claims.go:80",after:=#[{ on:=0,ground:=Ground.data }],guard:=none }
def opKl2 : Oper:={ dst:=some 16,op:=Op.binOp BinOp.leq 3 (Operand.tmp 15) (Operand.const (Value.int IntKind.i64 0)) 3,type:=4,pos:= "claims.go:80",after:=#[{ on:=1,ground:=Ground.data }],guard:=none }
def opKl3 : Oper:={ dst:=some 17,op:=Op.move (Operand.tmp 16),type:=4,pos:= "claims.go:80",after:=#[{ on:=2,ground:=Ground.data },{ on:=1,ground:=Ground.chain }],guard:=none }
def opKl4 : Oper:={ dst:=some 18,op:=Op.load 29 (Operand.tmp 3),type:=29,pos:= "claims.go:80",after:=#[{ on:=3,ground:=Ground.guard }],guard:=some (3,false) }
def opKl5 : Oper:={ dst:=some 19,op:=Op.call { callee:=Callee.value (Operand.func 24),args:=#[Operand.const (Value.int IntKind.i64 1)],argTypes:=#[3] },type:=29,pos:= "claims.go:80",after:=#[{ on:=3,ground:=Ground.chain },{ on:=3,ground:=Ground.guard }],guard:=some (3,false) }
def opKl6 : Oper:={ dst:=some 20,op:=Op.call { callee:=Callee.value (Operand.func 22),args:=#[Operand.tmp 18,Operand.tmp 19],argTypes:=#[29,29] },type:=3,pos:= "claims.go:80",after:=#[{ on:=4,ground:=Ground.data },{ on:=5,ground:=Ground.data },{ on:=5,ground:=Ground.chain },{ on:=3,ground:=Ground.guard }],guard:=some (3,false) }
def opKl7 : Oper:={ dst:=some 21,op:=Op.binOp BinOp.gtr 3 (Operand.tmp 20) (Operand.const (Value.int IntKind.i64 0)) 3,type:=4,pos:= "claims.go:80",after:=#[{ on:=6,ground:=Ground.data },{ on:=3,ground:=Ground.guard }],guard:=some (3,false) }
def opKl8 : Oper:={ dst:=some 22,op:=Op.pick (Operand.tmp 17) (Operand.const (Value.bool true)) (Operand.tmp 21),type:=4,pos:= "claims.go:80",after:=#[{ on:=3,ground:=Ground.data },{ on:=7,ground:=Ground.data }],guard:=none }
def opKls : Array Oper:=#[opKl0,opKl1,opKl2,opKl3,opKl4,opKl5,opKl6,opKl7,opKl8]
def opKlT (i : Nat) : Nat:=match i with
 | 0 => 14
 | 1 => 15
 | 2 => 16
 | 3 => 17
 | 4 => 18
 | 5 => 19
 | 6 => 20
 | 7 => 21
 | _ => 22
/-- what each operation's value is -/
def opKlC (s1 : Bool) (x1 : Int) (y1 : Int) (p1 : Option Addr) (sg : Int) (ws : Bool) (wx : Int) (r : Int) (i : Nat) (_w : World) (v : Value) : Prop:=match i with
 | 0 => v = .agg #[.bool s1,.int .u64 x1,.int .u64 y1,.pointer p1]
 | 1 => v = .int .i64 sg
 | 2 => v = .bool false
 | 3 => v = .bool false
 | 4 => v = .agg #[.bool s1,.int .u64 x1,.int .u64 y1,.pointer p1]
 | 5 => v = .agg #[.bool ws,.int .u64 wx,.int .u64 0,.pointer none]
 | 6 => v = .int .i64 r
 | 7 => v = .bool (decide (0 < r))
 | _ => v = .bool (decide (0 < r))
theorem opKlC_but {s1 : Bool} {x1 : Int} {y1 : Int} {p1 : Option Addr} {sg : Int} {ws : Bool} {wx : Int} {r : Int} {i : Nat} {w w' : World} {v : Value} (h : opKlC s1 x1 y1 p1 sg ws wx r i w v) (hi : i < 9) (_hb : But [] w w') : opKlC s1 x1 y1 p1 sg ws wx r i w' v:=by
 have : i = 0 ∨ i = 1 ∨ i = 2 ∨ i = 3 ∨ i = 4 ∨ i = 5 ∨ i = 6 ∨ i = 7 ∨ i = 8:=by omega
 rcases this with rfl | rfl | rfl | rfl | rfl | rfl | rfl | rfl | rfl
 all_goals first | exact h | exact FracAt.but h hb | exact FracsAt.but h hb
theorem opKlT_inj : ∀ i j,i < 9→j < 9→opKlT i = opKlT j→i = j:=fun i j hi hj => (by decide : ∀ i,i < 9→∀ j,j < 9→opKlT i = opKlT j→i = j) i hi j hj
set_option maxHeartbeats 4000000 in
set_option maxRecDepth 100000 in
theorem quant_region4 (id : Nat) (Q : Exit→Act→World→Prop) (base : Act) (W0 : World) (s1 : Bool) (x1 : Int) (y1 : Int) (p1 : Option Addr) (sg : Int) (ws : Bool) (wx : Int) (r : Int) (hs : 22 < base.tmps.size) (g3 : Nat) (e3 : base.eval (.tmp 3) = .pointer (some ⟨g3,0,none⟩))
  (hsg : ¬ sg ≤ 0) (c1 : P4 W0 g3 s1 x1 y1 p1)
  (SG : ∀ w,But [] W0 w→Calls Tryz.prog 15 #[.agg #[.bool s1,.int .u64 x1,.int .u64 y1,.pointer p1]] w fun e w' => e = .returned (.int .i64 sg)∧But [] w w')
  (WH : ∀ w,Calls Tryz.prog 24 #[.int .i64 1] w fun e w' => e = .returned (.agg #[.bool ws,.int .u64 wx,.int .u64 0,.pointer none])∧But [] w w')
  (CM : ∀ w,But [] W0 w→Calls Tryz.prog 22 #[.agg #[.bool s1,.int .u64 x1,.int .u64 y1,.pointer p1],.agg #[.bool ws,.int .u64 wx,.int .u64 0,.pointer none]] w fun e w' => e = .returned (.int .i64 r)∧But [] w w')
  (hQ : ∀ w,But [] W0 w→Q .normal (putted base [(14,.agg #[.bool s1,.int .u64 x1,.int .u64 y1,.pointer p1]),(15,.int .i64 sg),(16,.bool false),(17,.bool false),(18,.agg #[.bool s1,.int .u64 x1,.int .u64 y1,.pointer p1]),(19,.agg #[.bool ws,.int .u64 wx,.int .u64 0,.pointer none]),(20,.int .i64 r),(21,.bool (decide (0 < r))),(22,.bool (decide (0 < r)))]) w) :
  (Code.region id opKls true).wp Tryz.prog Q base W0:=by
 have hdr : ∀ {w},But [] W0.drew w→But [] W0 w:=fun h => (But.refl _ _).drew.trans' h
 have hT : ∀ i,i < 9→opKlT i < base.tmps.size:=fun i hi => by
  have h : opKlT i ≤ 22:=by revert i; decide
  omega
 refine region_go (by kernel_rfl) (low_of (by kernel_rfl)) (opKlC s1 x1 y1 p1 sg ws wx r) opKlT (by kernel_rfl) ?_ opKlT_inj hT (fun i w w' v hi h hb => opKlC_but h hi hb) ?_ ?_
 ·intro i o j want ho hg w v hv
  have hi : i < 9:=(Array.getElem?_eq_some_iff.1 ho).1
  have : i = 0 ∨ i = 1 ∨ i = 2 ∨ i = 3 ∨ i = 4 ∨ i = 5 ∨ i = 6 ∨ i = 7 ∨ i = 8:=by omega
  rcases this with rfl | rfl | rfl | rfl | rfl | rfl | rfl | rfl | rfl
  ·obtain rfl:=Option.some.inj ((show opKls[0]? = some opKl0 from rfl).symm.trans ho)
   exact absurd (show (none : Option (Nat × Bool)) = some (j,want) from hg) (by simp)
  ·obtain rfl:=Option.some.inj ((show opKls[1]? = some opKl1 from rfl).symm.trans ho)
   exact absurd (show (none : Option (Nat × Bool)) = some (j,want) from hg) (by simp)
  ·obtain rfl:=Option.some.inj ((show opKls[2]? = some opKl2 from rfl).symm.trans ho)
   exact absurd (show (none : Option (Nat × Bool)) = some (j,want) from hg) (by simp)
  ·obtain rfl:=Option.some.inj ((show opKls[3]? = some opKl3 from rfl).symm.trans ho)
   exact absurd (show (none : Option (Nat × Bool)) = some (j,want) from hg) (by simp)
  ·obtain rfl:=Option.some.inj ((show opKls[4]? = some opKl4 from rfl).symm.trans ho)
   obtain ⟨rfl,rfl⟩:=Prod.mk.inj (Option.some.inj (show some (3,false) = some (j,want) from hg))
   exact hv
  ·obtain rfl:=Option.some.inj ((show opKls[5]? = some opKl5 from rfl).symm.trans ho)
   obtain ⟨rfl,rfl⟩:=Prod.mk.inj (Option.some.inj (show some (3,false) = some (j,want) from hg))
   exact hv
  ·obtain rfl:=Option.some.inj ((show opKls[6]? = some opKl6 from rfl).symm.trans ho)
   obtain ⟨rfl,rfl⟩:=Prod.mk.inj (Option.some.inj (show some (3,false) = some (j,want) from hg))
   exact hv
  ·obtain rfl:=Option.some.inj ((show opKls[7]? = some opKl7 from rfl).symm.trans ho)
   obtain ⟨rfl,rfl⟩:=Prod.mk.inj (Option.some.inj (show some (3,false) = some (j,want) from hg))
   exact hv
  ·obtain rfl:=Option.some.inj ((show opKls[8]? = some opKl8 from rfl).symm.trans ho)
   exact absurd (show (none : Option (Nat × Bool)) = some (j,want) from hg) (by simp)
 ·intro i o a w K ho hH he hdep hk
  have hi : i < 9:=(Array.getElem?_eq_some_iff.1 ho).1
  have hD:=dep_have (ps:=[(1,0),(2,1),(3,1),(3,2),(4,3),(5,3),(6,3),(6,4),(6,5),(7,3),(7,6),(8,3),(8,7)]) (by kernel_rfl) ho (fun j => opKlC s1 x1 y1 p1 sg ws wx r j w (a.eval (.tmp (opKlT j)))) hdep
  have e3':=(he 3 (fun j hj e => absurd e.symm (by revert j; decide))).trans e3
  have : i = 0 ∨ i = 1 ∨ i = 2 ∨ i = 3 ∨ i = 4 ∨ i = 5 ∨ i = 6 ∨ i = 7 ∨ i = 8:=by omega
  rcases this with rfl | rfl | rfl | rfl | rfl | rfl | rfl | rfl | rfl
  ·obtain rfl:=Option.some.inj ((show opKls[0]? = some opKl0 from rfl).symm.trans ho)
   exact wp_value (run_loadK a w _ _ _ _ _ _ g3 0 _ _ _ _ e3' (c1.but (hdr hH) (by simp))) (hk _ _ (But.refl _ _) rfl)
  ·obtain rfl:=Option.some.inj ((show opKls[1]? = some opKl1 from rfl).symm.trans ho)
   exact wp_enter (run_signK a w _ _ _ _ _ _ _ (hD 0 (by simp))) (R:=fun w' v => But [] w w'∧v = _) ((SG w (hdr hH)).mono fun e w' ⟨he,hb⟩ => ⟨_,he,hb,rfl⟩) (fun v w' hv => hk v w' hv.1 hv.2)
  ·obtain rfl:=Option.some.inj ((show opKls[2]? = some opKl2 from rfl).symm.trans ho)
   refine wp_value (run_le0K a w _ _ _ _ _ _ _ (hD 1 (by simp))) (hk _ _ (But.refl _ _) ?_)
   show Value.bool _ = Value.bool _
   rw [decide_eq_false hsg]
  ·obtain rfl:=Option.some.inj ((show opKls[3]? = some opKl3 from rfl).symm.trans ho)
   exact wp_value (run_mvK a w _ _ _ _ _ _ _ (hD 2 (by simp))) (hk _ _ (But.refl _ _) rfl)
  ·obtain rfl:=Option.some.inj ((show opKls[4]? = some opKl4 from rfl).symm.trans ho)
   exact wp_value (run_loadK a w _ _ _ _ _ _ g3 0 _ _ _ _ e3' (c1.but (hdr hH) (by simp))) (hk _ _ (But.refl _ _) rfl)
  ·obtain rfl:=Option.some.inj ((show opKls[5]? = some opKl5 from rfl).symm.trans ho)
   exact wp_enter (run_oneK a w _ _ _ _ _ 1) (R:=fun w' v => But [] w w'∧v = _) ((WH w).mono fun e w' ⟨he,hb⟩ => ⟨_,he,hb,rfl⟩) (fun v w' hv => hk v w' hv.1 hv.2)
  ·obtain rfl:=Option.some.inj ((show opKls[6]? = some opKl6 from rfl).symm.trans ho)
   exact wp_enter (run_cmpK a w _ _ _ _ _ _ _ _ _ (hD 4 (by simp)) (hD 5 (by simp))) (R:=fun w' v => But [] w w'∧v = _) ((CM w (hdr hH)).mono fun e w' ⟨he,hb⟩ => ⟨_,he,hb,rfl⟩) (fun v w' hv => hk v w' hv.1 hv.2)
  ·obtain rfl:=Option.some.inj ((show opKls[7]? = some opKl7 from rfl).symm.trans ho)
   exact wp_value (run_gt0K a w _ _ _ _ _ _ _ (hD 6 (by simp))) (hk _ _ (But.refl _ _) rfl)
  ·obtain rfl:=Option.some.inj ((show opKls[8]? = some opKl8 from rfl).symm.trans ho)
   exact wp_value (run_orFK a w _ _ _ _ _ _ _ _ (hD 3 (by simp)) (hD 7 (by simp))) (hk _ _ (But.refl _ _) rfl)
 ·intro a w h
  have ea:=h.puts hT (fun i => match i with
   | 0 => .agg #[.bool s1,.int .u64 x1,.int .u64 y1,.pointer p1]
   | 1 => .int .i64 sg
   | 2 => .bool false
   | 3 => .bool false
   | 4 => .agg #[.bool s1,.int .u64 x1,.int .u64 y1,.pointer p1]
   | 5 => .agg #[.bool ws,.int .u64 wx,.int .u64 0,.pointer none]
   | 6 => .int .i64 r
   | 7 => .bool (decide (0 < r))
   | _ => .bool (decide (0 < r))) (fun i hi => by
   have hi' : i < 9:=hi
   have hc:=h.has i hi rfl
   have : i = 0 ∨ i = 1 ∨ i = 2 ∨ i = 3 ∨ i = 4 ∨ i = 5 ∨ i = 6 ∨ i = 7 ∨ i = 8:=by omega
   rcases this with rfl | rfl | rfl | rfl | rfl | rfl | rfl | rfl | rfl
   all_goals first | exact hc | rfl)
  rw [ea]
  exact hQ w (hdr h.but)
def opKm0 : Oper:={ dst:=some 14,op:=Op.load 29 (Operand.tmp 3),type:=29,pos:= "claims.go:80",after:=#[],guard:=none }
def opKm1 : Oper:={ dst:=some 15,op:=Op.call { callee:=Callee.value (Operand.func 15),args:=#[Operand.tmp 14],argTypes:=#[29] },type:=3,pos:= "claims.go:80",after:=#[{ on:=0,ground:=Ground.data }],guard:=none }
def opKm2 : Oper:={ dst:=some 16,op:=Op.binOp BinOp.leq 3 (Operand.tmp 15) (Operand.const (Value.int IntKind.i64 0)) 3,type:=4,pos:= "claims.go:80",after:=#[{ on:=1,ground:=Ground.data }],guard:=none }
def opKm3 : Oper:={ dst:=some 17,op:=Op.move (Operand.tmp 16),type:=4,pos:= "claims.go:80",after:=#[{ on:=2,ground:=Ground.data },{ on:=1,ground:=Ground.chain }],guard:=none }
def opKm4 : Oper:={ dst:=some 18,op:=Op.load 29 (Operand.tmp 3),type:=29,pos:= "claims.go:80",after:=#[{ on:=3,ground:=Ground.guard }],guard:=some (3,false) }
def opKm5 : Oper:={ dst:=some 19,op:=Op.call { callee:=Callee.value (Operand.func 24),args:=#[Operand.const (Value.int IntKind.i64 1)],argTypes:=#[3] },type:=29,pos:= "claims.go:80",after:=#[{ on:=3,ground:=Ground.chain },{ on:=3,ground:=Ground.guard }],guard:=some (3,false) }
def opKm6 : Oper:={ dst:=some 20,op:=Op.call { callee:=Callee.value (Operand.func 22),args:=#[Operand.tmp 18,Operand.tmp 19],argTypes:=#[29,29] },type:=3,pos:= "claims.go:80",after:=#[{ on:=4,ground:=Ground.data },{ on:=5,ground:=Ground.data },{ on:=5,ground:=Ground.chain },{ on:=3,ground:=Ground.guard }],guard:=some (3,false) }
def opKm7 : Oper:={ dst:=some 21,op:=Op.binOp BinOp.gtr 3 (Operand.tmp 20) (Operand.const (Value.int IntKind.i64 0)) 3,type:=4,pos:= "claims.go:80",after:=#[{ on:=6,ground:=Ground.data },{ on:=3,ground:=Ground.guard }],guard:=some (3,false) }
def opKm8 : Oper:={ dst:=some 22,op:=Op.pick (Operand.tmp 17) (Operand.const (Value.bool true)) (Operand.tmp 21),type:=4,pos:= "claims.go:80",after:=#[{ on:=3,ground:=Ground.data },{ on:=7,ground:=Ground.data }],guard:=none }
def opKms : Array Oper:=#[opKm0,opKm1,opKm2,opKm3,opKm4,opKm5,opKm6,opKm7,opKm8]
def opKmT (i : Nat) : Nat:=match i with
 | 0 => 14
 | 1 => 15
 | 2 => 16
 | 3 => 17
 | 4 => 18
 | 5 => 19
 | 6 => 20
 | 7 => 21
 | _ => 22
/-- what each operation's value is -/
def opKmC (s1 : Bool) (x1 : Int) (y1 : Int) (p1 : Option Addr) (sg : Int) (i : Nat) (_w : World) (v : Value) : Prop:=match i with
 | 0 => v = .agg #[.bool s1,.int .u64 x1,.int .u64 y1,.pointer p1]
 | 1 => v = .int .i64 sg
 | 2 => v = .bool true
 | 3 => v = .bool true
 | 4 => v = undef
 | 5 => v = undef
 | 6 => v = undef
 | 7 => v = undef
 | _ => v = .bool true
def opKmK (i : Nat) : Bool:=match i with
 | 4 => true
 | 5 => true
 | 6 => true
 | 7 => true
 | _ => false
theorem opKmT_inj : ∀ i j,i < 9→j < 9→opKmT i = opKmT j→i = j:=fun i j hi hj => (by decide : ∀ i,i < 9→∀ j,j < 9→opKmT i = opKmT j→i = j) i hi j hj
set_option maxHeartbeats 4000000 in
set_option maxRecDepth 100000 in
theorem quant_none4 (id : Nat) (Q : Exit→Act→World→Prop) (base : Act) (W0 : World) (s1 : Bool) (x1 : Int) (y1 : Int) (p1 : Option Addr) (sg : Int) (hs : 22 < base.tmps.size) (g3 : Nat) (e3 : base.eval (.tmp 3) = .pointer (some ⟨g3,0,none⟩))
  (hsg : sg ≤ 0) (c1 : P4 W0 g3 s1 x1 y1 p1)
  (SG : ∀ w,But [] W0 w→Calls Tryz.prog 15 #[.agg #[.bool s1,.int .u64 x1,.int .u64 y1,.pointer p1]] w fun e w' => e = .returned (.int .i64 sg)∧But [] w w')
  (hQ : ∀ w,But [] W0 w→Q .normal (putted base [(14,.agg #[.bool s1,.int .u64 x1,.int .u64 y1,.pointer p1]),(15,.int .i64 sg),(16,.bool true),(17,.bool true),(18,undef),(19,undef),(20,undef),(21,undef),(22,.bool true)]) w) :
  (Code.region id opKms true).wp Tryz.prog Q base W0:=by
 have hdr : ∀ {w},But [] W0.drew w→But [] W0 w:=fun h => (But.refl _ _).drew.trans' h
 have hT : ∀ i,i < 9→opKmT i < base.tmps.size:=fun i hi => by
  have h : opKmT i ≤ 22:=by revert i; decide
  omega
 have hCb : ∀ i w w' v,i < 9→opKmC s1 x1 y1 p1 sg i w v→opKmC s1 x1 y1 p1 sg i w' v:=fun i w w' v hi h => by
  have : i = 0 ∨ i = 1 ∨ i = 2 ∨ i = 3 ∨ i = 4 ∨ i = 5 ∨ i = 6 ∨ i = 7 ∨ i = 8:=by omega
  rcases this with rfl | rfl | rfl | rfl | rfl | rfl | rfl | rfl | rfl
  ·exact (show v = .agg #[.bool s1,.int .u64 x1,.int .u64 y1,.pointer p1] from h)
  ·exact (show v = .int .i64 sg from h)
  ·exact (show v = .bool true from h)
  ·exact (show v = .bool true from h)
  ·exact (show v = undef from h)
  ·exact (show v = undef from h)
  ·exact (show v = undef from h)
  ·exact (show v = undef from h)
  ·exact (show v = .bool true from h)
 refine region_skip (by kernel_rfl) (low_of (by kernel_rfl)) (opKmC s1 x1 y1 p1 sg) opKmT (by kernel_rfl) opKmK ?_ ?_ ?_ opKmT_inj hT (fun i w w' v hi h _ => hCb i w w' v hi h) ?_ ?_
 ·intro i o j want ho hg w v hv
  have hi : i < 9:=(Array.getElem?_eq_some_iff.1 ho).1
  have : i = 0 ∨ i = 1 ∨ i = 2 ∨ i = 3 ∨ i = 4 ∨ i = 5 ∨ i = 6 ∨ i = 7 ∨ i = 8:=by omega
  rcases this with rfl | rfl | rfl | rfl | rfl | rfl | rfl | rfl | rfl
  ·obtain rfl:=Option.some.inj ((show opKms[0]? = some opKm0 from rfl).symm.trans ho)
   exact absurd (show (none : Option (Nat × Bool)) = some (j,want) from hg) (by simp)
  ·obtain rfl:=Option.some.inj ((show opKms[1]? = some opKm1 from rfl).symm.trans ho)
   exact absurd (show (none : Option (Nat × Bool)) = some (j,want) from hg) (by simp)
  ·obtain rfl:=Option.some.inj ((show opKms[2]? = some opKm2 from rfl).symm.trans ho)
   exact absurd (show (none : Option (Nat × Bool)) = some (j,want) from hg) (by simp)
  ·obtain rfl:=Option.some.inj ((show opKms[3]? = some opKm3 from rfl).symm.trans ho)
   exact absurd (show (none : Option (Nat × Bool)) = some (j,want) from hg) (by simp)
  ·obtain rfl:=Option.some.inj ((show opKms[4]? = some opKm4 from rfl).symm.trans ho)
   obtain ⟨rfl,rfl⟩:=Prod.mk.inj (Option.some.inj (show some (3,false) = some (j,want) from hg))
   exact hv
  ·obtain rfl:=Option.some.inj ((show opKms[5]? = some opKm5 from rfl).symm.trans ho)
   obtain ⟨rfl,rfl⟩:=Prod.mk.inj (Option.some.inj (show some (3,false) = some (j,want) from hg))
   exact hv
  ·obtain rfl:=Option.some.inj ((show opKms[6]? = some opKm6 from rfl).symm.trans ho)
   obtain ⟨rfl,rfl⟩:=Prod.mk.inj (Option.some.inj (show some (3,false) = some (j,want) from hg))
   exact hv
  ·obtain rfl:=Option.some.inj ((show opKms[7]? = some opKm7 from rfl).symm.trans ho)
   obtain ⟨rfl,rfl⟩:=Prod.mk.inj (Option.some.inj (show some (3,false) = some (j,want) from hg))
   exact hv
  ·obtain rfl:=Option.some.inj ((show opKms[8]? = some opKm8 from rfl).symm.trans ho)
   exact absurd (show (none : Option (Nat × Bool)) = some (j,want) from hg) (by simp)
 ·intro i o ho hk hg
  have hi : i < 9:=(Array.getElem?_eq_some_iff.1 ho).1
  have : i = 0 ∨ i = 1 ∨ i = 2 ∨ i = 3 ∨ i = 4 ∨ i = 5 ∨ i = 6 ∨ i = 7 ∨ i = 8:=by omega
  rcases this with rfl | rfl | rfl | rfl | rfl | rfl | rfl | rfl | rfl
  ·exact absurd (show false = true from hk) (by simp)
  ·exact absurd (show false = true from hk) (by simp)
  ·exact absurd (show false = true from hk) (by simp)
  ·exact absurd (show false = true from hk) (by simp)
  ·obtain rfl:=Option.some.inj ((show opKms[4]? = some opKm4 from rfl).symm.trans ho)
   exact absurd (show some (3,false) = (none : Option (Nat × Bool)) from hg) (by simp)
  ·obtain rfl:=Option.some.inj ((show opKms[5]? = some opKm5 from rfl).symm.trans ho)
   exact absurd (show some (3,false) = (none : Option (Nat × Bool)) from hg) (by simp)
  ·obtain rfl:=Option.some.inj ((show opKms[6]? = some opKm6 from rfl).symm.trans ho)
   exact absurd (show some (3,false) = (none : Option (Nat × Bool)) from hg) (by simp)
  ·obtain rfl:=Option.some.inj ((show opKms[7]? = some opKm7 from rfl).symm.trans ho)
   exact absurd (show some (3,false) = (none : Option (Nat × Bool)) from hg) (by simp)
  ·exact absurd (show false = true from hk) (by simp)
 ·intro i w hk
  by_cases hi : i < 9
  ·have : i = 0 ∨ i = 1 ∨ i = 2 ∨ i = 3 ∨ i = 4 ∨ i = 5 ∨ i = 6 ∨ i = 7 ∨ i = 8:=by omega
   rcases this with rfl | rfl | rfl | rfl | rfl | rfl | rfl | rfl | rfl
   ·exact absurd (show false = true from hk) (by simp)
   ·exact absurd (show false = true from hk) (by simp)
   ·exact absurd (show false = true from hk) (by simp)
   ·exact absurd (show false = true from hk) (by simp)
   ·exact (show undef = undef from rfl)
   ·exact (show undef = undef from rfl)
   ·exact (show undef = undef from rfl)
   ·exact (show undef = undef from rfl)
   ·exact absurd (show false = true from hk) (by simp)
  ·exfalso
   unfold opKmK at hk
   split at hk
   ·omega
   ·omega
   ·omega
   ·omega
   ·simp at hk
 ·intro i o a w K hki ho hH he hdep hk
  have hi : i < 9:=(Array.getElem?_eq_some_iff.1 ho).1
  have hD:=dep_have (ps:=[(1,0),(2,1),(3,1),(3,2),(4,3),(5,3),(6,3),(6,4),(6,5),(7,3),(7,6),(8,3),(8,7)]) (by kernel_rfl) ho (fun j => opKmC s1 x1 y1 p1 sg j w (a.eval (.tmp (opKmT j)))) hdep
  have e3':=(he 3 (fun j hj e => absurd e.symm (by revert j; decide))).trans e3
  have : i = 0 ∨ i = 1 ∨ i = 2 ∨ i = 3 ∨ i = 4 ∨ i = 5 ∨ i = 6 ∨ i = 7 ∨ i = 8:=by omega
  rcases this with rfl | rfl | rfl | rfl | rfl | rfl | rfl | rfl | rfl
  ·obtain rfl:=Option.some.inj ((show opKms[0]? = some opKm0 from rfl).symm.trans ho)
   exact wp_value (run_loadK a w _ _ _ _ _ _ g3 0 _ _ _ _ e3' (c1.but (hdr hH) (by simp))) (hk _ _ (But.refl _ _) rfl)
  ·obtain rfl:=Option.some.inj ((show opKms[1]? = some opKm1 from rfl).symm.trans ho)
   exact wp_enter (run_signK a w _ _ _ _ _ _ _ (hD 0 (by simp))) (R:=fun w' v => But [] w w'∧v = _) ((SG w (hdr hH)).mono fun e w' ⟨he,hb⟩ => ⟨_,he,hb,rfl⟩) (fun v w' hv => hk v w' hv.1 hv.2)
  ·obtain rfl:=Option.some.inj ((show opKms[2]? = some opKm2 from rfl).symm.trans ho)
   refine wp_value (run_le0K a w _ _ _ _ _ _ _ (hD 1 (by simp))) (hk _ _ (But.refl _ _) ?_)
   show Value.bool _ = Value.bool _
   rw [decide_eq_true hsg]
  ·obtain rfl:=Option.some.inj ((show opKms[3]? = some opKm3 from rfl).symm.trans ho)
   exact wp_value (run_mvK a w _ _ _ _ _ _ _ (hD 2 (by simp))) (hk _ _ (But.refl _ _) rfl)
  ·exact absurd (show true = false from hki) (by simp)
  ·exact absurd (show true = false from hki) (by simp)
  ·exact absurd (show true = false from hki) (by simp)
  ·exact absurd (show true = false from hki) (by simp)
  ·obtain rfl:=Option.some.inj ((show opKms[8]? = some opKm8 from rfl).symm.trans ho)
   exact wp_value (run_orTK a w _ _ _ _ _ _ _ _ (hD 3 (by simp)) rfl) (hk _ _ (But.refl _ _) rfl)
 ·intro a w h
  have ea:=h.puts hT (fun i => match i with
   | 0 => .agg #[.bool s1,.int .u64 x1,.int .u64 y1,.pointer p1]
   | 1 => .int .i64 sg
   | 2 => .bool true
   | 3 => .bool true
   | 4 => undef
   | 5 => undef
   | 6 => undef
   | 7 => undef
   | _ => .bool true) (fun i hi => by
   have hi' : i < 9:=hi
   have hc:=h.has i hi rfl
   have : i = 0 ∨ i = 1 ∨ i = 2 ∨ i = 3 ∨ i = 4 ∨ i = 5 ∨ i = 6 ∨ i = 7 ∨ i = 8:=by omega
   rcases this with rfl | rfl | rfl | rfl | rfl | rfl | rfl | rfl | rfl
   all_goals first | exact hc | rfl)
  rw [ea]
  exact hQ w (hdr h.but)
def opKn0 : Oper:={ dst:=some 24,op:=Op.move (Operand.tmp 0),type:=38,pos:= "claims.go:83",after:=#[{ on:=4,ground:=Ground.gcOnly Departure.lateStores }],guard:=none }
def opKn1 : Oper:={ dst:=some 25,op:=Op.indexAddr 38 (Operand.tmp 24) (Operand.const (Value.int IntKind.i64 0)),type:=0,pos:= "claims.go:83",after:=#[{ on:=0,ground:=Ground.data },{ on:=4,ground:=Ground.gcOnly Departure.lateStores }],guard:=none }
def opKn2 : Oper:={ dst:=some 26,op:=Op.load 29 (Operand.tmp 25),type:=29,pos:= "claims.go:83",after:=#[{ on:=1,ground:=Ground.data },{ on:=4,ground:=Ground.gcOnly Departure.lateStores }],guard:=none }
def opKn3 : Oper:={ dst:=some 8,op:=Op.alloc 29,type:=0,pos:= "claims.go:83",after:=#[],guard:=none }
def opKn4 : Oper:={ dst:=some 7,op:=Op.assign (Operand.const (Value.int IntKind.i64 0)),type:=3,pos:= "claims.go:83",after:=#[{ on:=0,ground:=Ground.textOnly Departure.lateStores },{ on:=1,ground:=Ground.textOnly Departure.lateStores },{ on:=2,ground:=Ground.textOnly Departure.lateStores },{ on:=3,ground:=Ground.phase }],guard:=none }
def opKn5 : Oper:={ dst:=none,op:=Op.store 29 (Operand.tmp 8) (Operand.tmp 26),type:=0,pos:= "claims.go:83",after:=#[{ on:=3,ground:=Ground.data },{ on:=2,ground:=Ground.data },{ on:=4,ground:=Ground.chain },{ on:=0,ground:=Ground.phase },{ on:=1,ground:=Ground.phase },{ on:=2,ground:=Ground.phase },{ on:=3,ground:=Ground.phase },{ on:=4,ground:=Ground.phase }],guard:=none }
def opKns : Array Oper:=#[opKn0,opKn1,opKn2,opKn3,opKn4,opKn5]
def opKnT (i : Nat) : Nat:=match i with
 | 0 => 24
 | 1 => 25
 | 2 => 26
 | 3 => 8
 | _ => 7
/-- what each operation's value is -/
def opKnC (b : Nat) (off : Nat) (N : Nat) (cp : Nat) (B : Nat) (_s1 : Bool) (_x1 : Int) (_y1 : Int) (_p1 : Option Addr) (f1 : Rat) (i : Nat) (w : World) (v : Value) : Prop:=match i with
 | 0 => v = .slice (some ⟨b,off,none⟩) N cp
 | 1 => v = .pointer (some ⟨b,off,none⟩)
 | 2 => FracAt w v f1
 | 3 => LaidK B w v
 | _ => v = .int .i64 0
theorem opKnC_but {b : Nat} {off : Nat} {N : Nat} {cp : Nat} {B : Nat} {s1 : Bool} {x1 : Int} {y1 : Int} {p1 : Option Addr} {f1 : Rat} {i : Nat} {w w' : World} {v : Value} (h : opKnC b off N cp B s1 x1 y1 p1 f1 i w v) (hi : i < 5) (hb : But [] w w') : opKnC b off N cp B s1 x1 y1 p1 f1 i w' v:=by
 have : i = 0 ∨ i = 1 ∨ i = 2 ∨ i = 3 ∨ i = 4:=by omega
 rcases this with rfl | rfl | rfl | rfl | rfl
 all_goals first | exact h | exact FracAt.but h hb | exact FracsAt.but h hb | exact LaidK.but h hb
theorem opKnT_inj : ∀ i j,i < 5→j < 5→opKnT i = opKnT j→i = j:=fun i j hi hj => (by decide : ∀ i,i < 5→∀ j,j < 5→opKnT i = opKnT j→i = j) i hi j hj
set_option maxRecDepth 100000 in
theorem quant_region6 (id : Nat) (Q : Exit→Act→World→Prop) (base : Act) (W0 : World) (b : Nat) (off : Nat) (N : Nat) (cp : Nat) (B : Nat) (s1 : Bool) (x1 : Int) (y1 : Int) (p1 : Option Addr) (f1 : Rat) (hs : 26 < base.tmps.size) (hBW : B ≤ W0.heap.size) (e0 : base.eval (.tmp 0) = .slice (some ⟨b,off,none⟩) N cp)
  (hN0 : 0 < N) (hN2 : N < 1000000) (c1 : P4o W0 b off s1 x1 y1 p1) (hf1 : FracAt W0 (.agg #[.bool s1,.int .u64 x1,.int .u64 y1,.pointer p1]) f1)
  (hQ : ∀ w1 bn s' x' y' p',But [] W0 w1→B ≤ bn→P4 w1 bn false 0 0 none→(∀ j,w1.frozen? ⟨bn,j,none⟩ = false)→FracAt w1 (.agg #[.bool s',.int .u64 x',.int .u64 y',.pointer p']) (f1)→Q .normal (putted base [(24,.slice (some ⟨b,off,none⟩) N cp),(25,.pointer (some ⟨b,off,none⟩)),(26,(.agg #[.bool s',.int .u64 x',.int .u64 y',.pointer p'])),(8,.pointer (some ⟨bn,0,none⟩)),(7,.int .i64 0)]) (put4 w1 bn s' x' y' p')) :
  (Code.region id opKns true).wp Tryz.prog Q base W0:=by
 have hdr : ∀ {w},But [] W0.drew w→But [] W0 w:=fun h => (But.refl _ _).drew.trans' h
 have hT : ∀ i,i < 5→opKnT i < base.tmps.size:=fun i hi => by
  have h : opKnT i ≤ 26:=by revert i; decide
  omega
 refine region_flow (by kernel_rfl) (low_of (by kernel_rfl)) (fun i o ho => (calm_of (ops:=opKns) (by kernel_rfl) i o ho).1)
  (fun _ w => But [] W0.drew w) (opKnC b off N cp B s1 x1 y1 p1 f1) opKnT 5 rfl opKnT_inj hT (But.refl _ _)
  (fun i hi => ?_) ?_ (fun a w => ∃ w1 bn s' x' y' p',a = putted base [(24,.slice (some ⟨b,off,none⟩) N cp),(25,.pointer (some ⟨b,off,none⟩)),(26,(.agg #[.bool s',.int .u64 x',.int .u64 y',.pointer p'])),(8,.pointer (some ⟨bn,0,none⟩)),(7,.int .i64 0)]∧w = put4 w1 bn s' x' y' p'∧But [] W0 w1∧B ≤ bn∧P4 w1 bn false 0 0 none∧(∀ j,w1.frozen? ⟨bn,j,none⟩ = false)∧FracAt w1 (.agg #[.bool s',.int .u64 x',.int .u64 y',.pointer p']) (f1)) ?_ ?_
 ·exact dep_of (ops:=opKns) (ps:=[(5,0),(5,1),(5,2),(5,3),(5,4)]) (by kernel_rfl) 5 i (by
   have : i = 0 ∨ i = 1 ∨ i = 2 ∨ i = 3 ∨ i = 4:=by omega
   rcases this with rfl | rfl | rfl | rfl | rfl <;> simp)
 ·intro dn i o a w K hi ho hdi hH he hdep hK
  have hD:=fun j hj => (dep_have (ps:=[(1,0),(2,1),(4,3)]) (by kernel_rfl) ho (fun j => dn j = true∧opKnC b off N cp B s1 x1 y1 p1 f1 j w (a.eval (.tmp (opKnT j)))) hdep j hj).2
  have hk : ∀ v w',But [] w w'→opKnC b off N cp B s1 x1 y1 p1 f1 i w' v→K (a.put (some (opKnT i)) v) w':=fun v w' hb hv => hK v w' (hH.trans' hb) (fun j hj _ u hu => opKnC_but hu hj hb) hv
  have e0':=(he 0 (fun j hj e => absurd e.symm (by revert j; decide))).trans e0
  have : i = 0 ∨ i = 1 ∨ i = 2 ∨ i = 3 ∨ i = 4:=by omega
  rcases this with rfl | rfl | rfl | rfl | rfl
  ·obtain rfl:=Option.some.inj ((show opKns[0]? = some opKn0 from rfl).symm.trans ho)
   exact wp_value (run_mvK a w _ _ _ _ _ _ _ e0') (hk _ _ (But.refl _ _) rfl)
  ·obtain rfl:=Option.some.inj ((show opKns[1]? = some opKn1 from rfl).symm.trans ho)
   exact wp_value (run_index0K a w _ _ _ _ _ _ b off N cp hN0 hN2 (hD 0 (by simp))) (hk _ _ (But.refl _ _) rfl)
  ·obtain rfl:=Option.some.inj ((show opKns[2]? = some opKn2 from rfl).symm.trans ho)
   exact wp_value (run_loadK a w _ _ _ _ _ _ b off _ _ _ _ (hD 1 (by simp)) (c1.but (hdr hH) (by simp))) (hk _ _ (But.refl _ _) (show FracAt _ _ f1 from hf1.but (hdr hH)))
  ·obtain rfl:=Option.some.inj ((show opKns[3]? = some opKn3 from rfl).symm.trans ho)
   exact wp_value (run_allocK a w _ _ _ _) (hk _ _ ((But.refl _ _).alloc _) ⟨w.heap.size,rfl,Nat.le_trans hBW (hdr hH).size,⟨by simp,by simp,by simp,by simp⟩,fun j => by simp⟩)
  ·obtain rfl:=Option.some.inj ((show opKns[4]? = some opKn4 from rfl).symm.trans ho)
   exact wp_value (run_as0K a w _ _ _ _ _ 0) (hk _ _ (But.refl _ _) rfl)
 ·intro dn o a w K ho hall h hK
  obtain rfl:=Option.some.inj ((show opKns[5]? = some opKn5 from rfl).symm.trans ho)
  have cl : FracAt w (a.eval (.tmp 26)) (f1):=h.has 2 (by omega) (hall 2 (by omega))
  obtain ⟨bn,eb,hb1,hb2,hb3⟩ : LaidK B w (a.eval (.tmp 8)):=h.has 3 (by omega) (hall 3 (by omega))
  have cl':=cl
  obtain ⟨x',y',p',ev,-⟩:=cl.agg
  rw [ev] at cl'
  have ea:=h.puts hT (fun i => match i with
   | 0 => .slice (some ⟨b,off,none⟩) N cp
   | 1 => .pointer (some ⟨b,off,none⟩)
   | 2 => .agg #[.bool (decide ((f1).num < 0)),.int .u64 x',.int .u64 y',.pointer p']
   | 3 => .pointer (some ⟨bn,0,none⟩)
   | _ => .int .i64 0) (fun i hi => by
   have hc:=h.has i hi (hall i hi)
   have : i = 0 ∨ i = 1 ∨ i = 2 ∨ i = 3 ∨ i = 4:=by omega
   rcases this with rfl | rfl | rfl | rfl | rfl
   all_goals first | exact ev | exact eb | exact hc | rfl)
  exact wp_skipped (run_store4 a w _ _ _ _ _ bn _ x' y' p' eb ev hb2 hb3) (hK _ _ ⟨w,bn,_,x',y',p',ea,rfl,hdr h.mem,hb1,hb2,hb3,cl'⟩)
 ·rintro a w ⟨w1,bn,s',x',y',p',rfl,rfl,h1,h2,h3,h4,h5⟩
  exact hQ  w1 bn s' x' y' p' h1 h2 h3 h4 h5
def opKo0 : Oper:={ dst:=some 33,op:=Op.load 29 (Operand.tmp 8),type:=29,pos:= "claims.go:86",after:=#[],guard:=none }
def opKo1 : Oper:={ dst:=some 34,op:=Op.move (Operand.tmp 0),type:=38,pos:= "claims.go:86",after:=#[],guard:=none }
def opKo2 : Oper:={ dst:=some 35,op:=Op.move (Operand.tmp 7),type:=3,pos:= "claims.go:86",after:=#[],guard:=none }
def opKo3 : Oper:={ dst:=some 36,op:=Op.indexAddr 38 (Operand.tmp 34) (Operand.tmp 35),type:=0,pos:= "claims.go:86",after:=#[{ on:=1,ground:=Ground.data },{ on:=2,ground:=Ground.data }],guard:=none }
def opKo4 : Oper:={ dst:=some 37,op:=Op.load 29 (Operand.tmp 36),type:=29,pos:= "claims.go:86",after:=#[{ on:=3,ground:=Ground.data }],guard:=none }
def opKo5 : Oper:={ dst:=some 38,op:=Op.call { callee:=Callee.value (Operand.func 19),args:=#[Operand.tmp 33,Operand.tmp 37],argTypes:=#[29,29] },type:=29,pos:= "claims.go:86",after:=#[{ on:=0,ground:=Ground.data },{ on:=4,ground:=Ground.data }],guard:=none }
def opKo6 : Oper:={ dst:=none,op:=Op.store 29 (Operand.tmp 8) (Operand.tmp 38),type:=0,pos:= "claims.go:86",after:=#[{ on:=5,ground:=Ground.data },{ on:=5,ground:=Ground.chain },{ on:=0,ground:=Ground.phase },{ on:=1,ground:=Ground.phase },{ on:=2,ground:=Ground.phase },{ on:=3,ground:=Ground.phase },{ on:=4,ground:=Ground.phase },{ on:=5,ground:=Ground.phase }],guard:=none }
def opKos : Array Oper:=#[opKo0,opKo1,opKo2,opKo3,opKo4,opKo5,opKo6]
def opKoT (i : Nat) : Nat:=match i with
 | 0 => 33
 | 1 => 34
 | 2 => 35
 | 3 => 36
 | 4 => 37
 | _ => 38
/-- what each operation's value is -/
def opKoC (b : Nat) (off : Nat) (N : Nat) (cp : Nat) (ka : Nat) (s1 : Bool) (x1 : Int) (y1 : Int) (p1 : Option Addr) (s2 : Bool) (x2 : Int) (y2 : Int) (p2 : Option Addr) (f1 : Rat) (f2 : Rat) (i : Nat) (w : World) (v : Value) : Prop:=match i with
 | 0 => v = .agg #[.bool s1,.int .u64 x1,.int .u64 y1,.pointer p1]
 | 1 => v = .slice (some ⟨b,off,none⟩) N cp
 | 2 => v = .int .i64 (ka : Int)
 | 3 => v = .pointer (some ⟨b,off + ka * 4,none⟩)
 | 4 => v = .agg #[.bool s2,.int .u64 x2,.int .u64 y2,.pointer p2]
 | _ => FracAt w v (f1 + f2)
theorem opKoC_but {b : Nat} {off : Nat} {N : Nat} {cp : Nat} {ka : Nat} {s1 : Bool} {x1 : Int} {y1 : Int} {p1 : Option Addr} {s2 : Bool} {x2 : Int} {y2 : Int} {p2 : Option Addr} {f1 : Rat} {f2 : Rat} {i : Nat} {w w' : World} {v : Value} (h : opKoC b off N cp ka s1 x1 y1 p1 s2 x2 y2 p2 f1 f2 i w v) (hi : i < 6) (hb : But [] w w') : opKoC b off N cp ka s1 x1 y1 p1 s2 x2 y2 p2 f1 f2 i w' v:=by
 have : i = 0 ∨ i = 1 ∨ i = 2 ∨ i = 3 ∨ i = 4 ∨ i = 5:=by omega
 rcases this with rfl | rfl | rfl | rfl | rfl | rfl
 all_goals first | exact h | exact FracAt.but h hb | exact FracsAt.but h hb
theorem opKoT_inj : ∀ i j,i < 6→j < 6→opKoT i = opKoT j→i = j:=fun i j hi hj => (by decide : ∀ i,i < 6→∀ j,j < 6→opKoT i = opKoT j→i = j) i hi j hj
set_option maxHeartbeats 4000000 in
set_option maxRecDepth 100000 in
theorem quant_region9 (id : Nat) (Q : Exit→Act→World→Prop) (base : Act) (W0 : World) (b : Nat) (off : Nat) (N : Nat) (cp : Nat) (ka : Nat) (s1 : Bool) (x1 : Int) (y1 : Int) (p1 : Option Addr) (s2 : Bool) (x2 : Int) (y2 : Int) (p2 : Option Addr) (f1 : Rat) (f2 : Rat) (gb : Nat) {sb : Bool} {xb yb : Int} {pb : Option Addr} (hs : 38 < base.tmps.size) (eb : base.eval (.tmp 8) = .pointer (some ⟨gb,0,none⟩)) (cb : P4 W0 gb sb xb yb pb) (fzb : ∀ j,W0.frozen? ⟨gb,j,none⟩ = false) (e0 : base.eval (.tmp 0) = .slice (some ⟨b,off,none⟩) N cp) (e7 : base.eval (.tmp 7) = .int .i64 (ka : Int))
  (hka : ka < N) (hN2 : N < 1000000) (c1 : P4 W0 gb s1 x1 y1 p1) (c2 : P4o W0 b (off + ka * 4) s2 x2 y2 p2)
  (AD : ∀ w,But [] W0 w→Calls Tryz.prog 19 #[.agg #[.bool s1,.int .u64 x1,.int .u64 y1,.pointer p1],.agg #[.bool s2,.int .u64 x2,.int .u64 y2,.pointer p2]] w fun e w' => ∃ v,e = .returned v∧FracAt w' v (f1 + f2)∧But [] w w')
  (hQ : ∀ w1 s' x' y' p',But [] W0 w1→FracAt w1 (.agg #[.bool s',.int .u64 x',.int .u64 y',.pointer p']) (f1 + f2)→Q .normal (putted base [(33,.agg #[.bool s1,.int .u64 x1,.int .u64 y1,.pointer p1]),(34,.slice (some ⟨b,off,none⟩) N cp),(35,.int .i64 (ka : Int)),(36,.pointer (some ⟨b,off + ka * 4,none⟩)),(37,.agg #[.bool s2,.int .u64 x2,.int .u64 y2,.pointer p2]),(38,(.agg #[.bool s',.int .u64 x',.int .u64 y',.pointer p']))]) (put4 w1 gb s' x' y' p')) :
  (Code.region id opKos true).wp Tryz.prog Q base W0:=by
 have hdr : ∀ {w},But [] W0.drew w→But [] W0 w:=fun h => (But.refl _ _).drew.trans' h
 have lgb : gb < W0.heap.size:=lt_of_cell cb.1
 have hT : ∀ i,i < 6→opKoT i < base.tmps.size:=fun i hi => by
  have h : opKoT i ≤ 38:=by revert i; decide
  omega
 refine region_flow (by kernel_rfl) (low_of (by kernel_rfl)) (fun i o ho => (calm_of (ops:=opKos) (by kernel_rfl) i o ho).1)
  (fun _ w => But [] W0.drew w) (opKoC b off N cp ka s1 x1 y1 p1 s2 x2 y2 p2 f1 f2) opKoT 6 rfl opKoT_inj hT (But.refl _ _)
  (fun i hi => ?_) ?_ (fun a w => ∃ w1 s' x' y' p',a = putted base [(33,.agg #[.bool s1,.int .u64 x1,.int .u64 y1,.pointer p1]),(34,.slice (some ⟨b,off,none⟩) N cp),(35,.int .i64 (ka : Int)),(36,.pointer (some ⟨b,off + ka * 4,none⟩)),(37,.agg #[.bool s2,.int .u64 x2,.int .u64 y2,.pointer p2]),(38,(.agg #[.bool s',.int .u64 x',.int .u64 y',.pointer p']))]∧w = put4 w1 gb s' x' y' p'∧But [] W0 w1∧FracAt w1 (.agg #[.bool s',.int .u64 x',.int .u64 y',.pointer p']) (f1 + f2)) ?_ ?_
 ·exact dep_of (ops:=opKos) (ps:=[(6,0),(6,1),(6,2),(6,3),(6,4),(6,5)]) (by kernel_rfl) 6 i (by
   have : i = 0 ∨ i = 1 ∨ i = 2 ∨ i = 3 ∨ i = 4 ∨ i = 5:=by omega
   rcases this with rfl | rfl | rfl | rfl | rfl | rfl <;> simp)
 ·intro dn i o a w K hi ho hdi hH he hdep hK
  have hD:=fun j hj => (dep_have (ps:=[(3,1),(3,2),(4,3),(5,0),(5,4)]) (by kernel_rfl) ho (fun j => dn j = true∧opKoC b off N cp ka s1 x1 y1 p1 s2 x2 y2 p2 f1 f2 j w (a.eval (.tmp (opKoT j)))) hdep j hj).2
  have hk : ∀ v w',But [] w w'→opKoC b off N cp ka s1 x1 y1 p1 s2 x2 y2 p2 f1 f2 i w' v→K (a.put (some (opKoT i)) v) w':=fun v w' hb hv => hK v w' (hH.trans' hb) (fun j hj _ u hu => opKoC_but hu hj hb) hv
  have eb':=(he 8 (fun j hj e => absurd e.symm (by revert j; decide))).trans eb
  have e0':=(he 0 (fun j hj e => absurd e.symm (by revert j; decide))).trans e0
  have e7':=(he 7 (fun j hj e => absurd e.symm (by revert j; decide))).trans e7
  have : i = 0 ∨ i = 1 ∨ i = 2 ∨ i = 3 ∨ i = 4 ∨ i = 5:=by omega
  rcases this with rfl | rfl | rfl | rfl | rfl | rfl
  ·obtain rfl:=Option.some.inj ((show opKos[0]? = some opKo0 from rfl).symm.trans ho)
   exact wp_value (run_loadK a w _ _ _ _ _ _ gb 0 _ _ _ _ eb' (c1.but (hdr hH) (by simp))) (hk _ _ (But.refl _ _) rfl)
  ·obtain rfl:=Option.some.inj ((show opKos[1]? = some opKo1 from rfl).symm.trans ho)
   exact wp_value (run_mvK a w _ _ _ _ _ _ _ e0') (hk _ _ (But.refl _ _) rfl)
  ·obtain rfl:=Option.some.inj ((show opKos[2]? = some opKo2 from rfl).symm.trans ho)
   exact wp_value (run_mvK a w _ _ _ _ _ _ _ e7') (hk _ _ (But.refl _ _) rfl)
  ·obtain rfl:=Option.some.inj ((show opKos[3]? = some opKo3 from rfl).symm.trans ho)
   exact wp_value (run_indexLK a w _ _ _ _ _ _ _ b off N cp ka hka hN2 (hD 1 (by simp)) (hD 2 (by simp))) (hk _ _ (But.refl _ _) rfl)
  ·obtain rfl:=Option.some.inj ((show opKos[4]? = some opKo4 from rfl).symm.trans ho)
   exact wp_value (run_loadK a w _ _ _ _ _ _ b _ _ _ _ _ (hD 3 (by simp)) (c2.but (hdr hH) (by simp))) (hk _ _ (But.refl _ _) rfl)
  ·obtain rfl:=Option.some.inj ((show opKos[5]? = some opKo5 from rfl).symm.trans ho)
   exact wp_enter (run_addK a w _ _ _ _ _ _ _ _ _ (hD 0 (by simp)) (hD 4 (by simp))) (R:=fun w' v => FracAt w' v (f1 + f2)∧But [] w w') (AD w (hdr hH)) (fun v w' hv => hk v w' hv.2 hv.1)
 ·intro dn o a w K ho hall h hK
  obtain rfl:=Option.some.inj ((show opKos[6]? = some opKo6 from rfl).symm.trans ho)
  have eb':=(h.eval 8 (fun j hj e => absurd e.symm (by revert j; decide))).trans eb
  have cl : FracAt w (a.eval (.tmp 38)) (f1 + f2):=h.has 5 (by omega) (hall 5 (by omega))
  have cl':=cl
  obtain ⟨x',y',p',ev,-⟩:=cl.agg
  rw [ev] at cl'
  have ea:=h.puts hT (fun i => match i with
   | 0 => .agg #[.bool s1,.int .u64 x1,.int .u64 y1,.pointer p1]
   | 1 => .slice (some ⟨b,off,none⟩) N cp
   | 2 => .int .i64 (ka : Int)
   | 3 => .pointer (some ⟨b,off + ka * 4,none⟩)
   | 4 => .agg #[.bool s2,.int .u64 x2,.int .u64 y2,.pointer p2]
   | _ => .agg #[.bool (decide ((f1 + f2).num < 0)),.int .u64 x',.int .u64 y',.pointer p']) (fun i hi => by
   have hc:=h.has i hi (hall i hi)
   have : i = 0 ∨ i = 1 ∨ i = 2 ∨ i = 3 ∨ i = 4 ∨ i = 5:=by omega
   rcases this with rfl | rfl | rfl | rfl | rfl | rfl
   all_goals first | exact ev | exact hc | rfl)
  exact wp_skipped (run_store4 a w _ _ _ _ _ gb _ x' y' p' eb' ev (cb.but (hdr h.mem) (by simp)) (fun j => ((hdr h.mem).frozen (p:=⟨gb,j,none⟩) lgb (by simp)).trans (fzb j))) (hK _ _ ⟨w,_,x',y',p',ea,rfl,hdr h.mem,cl'⟩)
 ·rintro a w ⟨w1,s',x',y',p',rfl,rfl,h1,h2⟩
  exact hQ  w1 s' x' y' p' h1 h2
end Go.Proofs.YtikgmhpbdcdogaaGreatDoor

namespace Go.Proofs.YtikgmhpbdcdogaaGreatDoor
open Go.RowKit

theorem run_subK (a : Act) (w : World) (d t1 t2 : Nat) (u : TypeId) (ps : String) (ed : Array Edge) (gd : Option (Nat × Bool)) (x1 x2 : Value) (h1 : a.eval (.tmp t1) = x1) (h2 : a.eval (.tmp t2) = x2) :
  (execOp a.eval { dst:=some d,op:=Op.call { callee:=Callee.value (Operand.func 57),args:=#[Operand.tmp t1,Operand.tmp t2],argTypes:=#[29,29] },type:=u,pos:=ps,after:=ed,guard:=gd }).run Tryz.prog w = .ok (.enter 57 #[x1,x2]) w:=by
 unfold execOp
 go_simp
 rw [← h1,← h2]
 simp [Act.eval]
def opKq0 : Oper:={ dst:=some 23,op:=Op.call { callee:=Callee.value (Operand.func 24),args:=#[Operand.const (Value.int IntKind.i64 1)],argTypes:=#[3] },type:=29,pos:= "claims.go:99",after:=#[],guard:=none }
def opKq1 : Oper:={ dst:=some 24,op:=Op.load 29 (Operand.tmp 3),type:=29,pos:= "claims.go:99",after:=#[],guard:=none }
def opKq2 : Oper:={ dst:=some 25,op:=Op.call { callee:=Callee.value (Operand.func 57),args:=#[Operand.tmp 23,Operand.tmp 24],argTypes:=#[29,29] },type:=29,pos:= "claims.go:99",after:=#[{ on:=0,ground:=Ground.data },{ on:=1,ground:=Ground.data },{ on:=0,ground:=Ground.chain }],guard:=none }
def opKq3 : Oper:={ dst:=some 7,op:=Op.alloc 29,type:=0,pos:= "claims.go:99",after:=#[],guard:=none }
def opKq4 : Oper:={ dst:=none,op:=Op.store 29 (Operand.tmp 7) (Operand.tmp 25),type:=0,pos:= "claims.go:99",after:=#[{ on:=3,ground:=Ground.data },{ on:=2,ground:=Ground.data },{ on:=2,ground:=Ground.chain },{ on:=0,ground:=Ground.phase },{ on:=1,ground:=Ground.phase },{ on:=2,ground:=Ground.phase },{ on:=3,ground:=Ground.phase }],guard:=none }
def opKqs : Array Oper:=#[opKq0,opKq1,opKq2,opKq3,opKq4]
def opKqT (i : Nat) : Nat:=match i with
 | 0 => 23
 | 1 => 24
 | 2 => 25
 | _ => 7
/-- what each operation's value is -/
def opKqC (B : Nat) (s1 : Bool) (x1 : Int) (y1 : Int) (p1 : Option Addr) (ws : Bool) (wx : Int) (f1 : Rat) (i : Nat) (w : World) (v : Value) : Prop:=match i with
 | 0 => v = .agg #[.bool ws,.int .u64 wx,.int .u64 0,.pointer none]
 | 1 => v = .agg #[.bool s1,.int .u64 x1,.int .u64 y1,.pointer p1]
 | 2 => FracAt w v (((1 : Int) : Rat) - f1)
 | _ => LaidK B w v
theorem opKqC_but {B : Nat} {s1 : Bool} {x1 : Int} {y1 : Int} {p1 : Option Addr} {ws : Bool} {wx : Int} {f1 : Rat} {i : Nat} {w w' : World} {v : Value} (h : opKqC B s1 x1 y1 p1 ws wx f1 i w v) (hi : i < 4) (hb : But [] w w') : opKqC B s1 x1 y1 p1 ws wx f1 i w' v:=by
 have : i = 0 ∨ i = 1 ∨ i = 2 ∨ i = 3:=by omega
 rcases this with rfl | rfl | rfl | rfl
 all_goals first | exact h | exact FracAt.but h hb | exact FracsAt.but h hb | exact LaidK.but h hb
theorem opKqT_inj : ∀ i j,i < 4→j < 4→opKqT i = opKqT j→i = j:=fun i j hi hj => (by decide : ∀ i,i < 4→∀ j,j < 4→opKqT i = opKqT j→i = j) i hi j hj
set_option maxRecDepth 100000 in
theorem worst_region6 (id : Nat) (Q : Exit→Act→World→Prop) (base : Act) (W0 : World) (B : Nat) (s1 : Bool) (x1 : Int) (y1 : Int) (p1 : Option Addr) (ws : Bool) (wx : Int) (f1 : Rat) (hs : 25 < base.tmps.size) (g3 : Nat) (hBW : B ≤ W0.heap.size) (e3 : base.eval (.tmp 3) = .pointer (some ⟨g3,0,none⟩))
  (c1 : P4 W0 g3 s1 x1 y1 p1)
  (WH : ∀ w,Calls Tryz.prog 24 #[.int .i64 1] w fun e w' => e = .returned (.agg #[.bool ws,.int .u64 wx,.int .u64 0,.pointer none])∧But [] w w')
  (SU : ∀ w,But [] W0 w→Calls Tryz.prog 57 #[.agg #[.bool ws,.int .u64 wx,.int .u64 0,.pointer none],.agg #[.bool s1,.int .u64 x1,.int .u64 y1,.pointer p1]] w fun e w' => ∃ v,e = .returned v∧FracAt w' v (((1 : Int) : Rat) - f1)∧But [] w w')
  (hQ : ∀ w1 bn s' x' y' p',But [] W0 w1→B ≤ bn→P4 w1 bn false 0 0 none→(∀ j,w1.frozen? ⟨bn,j,none⟩ = false)→FracAt w1 (.agg #[.bool s',.int .u64 x',.int .u64 y',.pointer p']) (((1 : Int) : Rat) - f1)→Q .normal (putted base [(23,.agg #[.bool ws,.int .u64 wx,.int .u64 0,.pointer none]),(24,.agg #[.bool s1,.int .u64 x1,.int .u64 y1,.pointer p1]),(25,(.agg #[.bool s',.int .u64 x',.int .u64 y',.pointer p'])),(7,.pointer (some ⟨bn,0,none⟩))]) (put4 w1 bn s' x' y' p')) :
  (Code.region id opKqs true).wp Tryz.prog Q base W0:=by
 have hdr : ∀ {w},But [] W0.drew w→But [] W0 w:=fun h => (But.refl _ _).drew.trans' h
 have hT : ∀ i,i < 4→opKqT i < base.tmps.size:=fun i hi => by
  have h : opKqT i ≤ 25:=by revert i; decide
  omega
 refine region_flow (by kernel_rfl) (low_of (by kernel_rfl)) (fun i o ho => (calm_of (ops:=opKqs) (by kernel_rfl) i o ho).1)
  (fun _ w => But [] W0.drew w) (opKqC B s1 x1 y1 p1 ws wx f1) opKqT 4 rfl opKqT_inj hT (But.refl _ _)
  (fun i hi => ?_) ?_ (fun a w => ∃ w1 bn s' x' y' p',a = putted base [(23,.agg #[.bool ws,.int .u64 wx,.int .u64 0,.pointer none]),(24,.agg #[.bool s1,.int .u64 x1,.int .u64 y1,.pointer p1]),(25,(.agg #[.bool s',.int .u64 x',.int .u64 y',.pointer p'])),(7,.pointer (some ⟨bn,0,none⟩))]∧w = put4 w1 bn s' x' y' p'∧But [] W0 w1∧B ≤ bn∧P4 w1 bn false 0 0 none∧(∀ j,w1.frozen? ⟨bn,j,none⟩ = false)∧FracAt w1 (.agg #[.bool s',.int .u64 x',.int .u64 y',.pointer p']) (((1 : Int) : Rat) - f1)) ?_ ?_
 ·exact dep_of (ops:=opKqs) (ps:=[(4,0),(4,1),(4,2),(4,3)]) (by kernel_rfl) 4 i (by
   have : i = 0 ∨ i = 1 ∨ i = 2 ∨ i = 3:=by omega
   rcases this with rfl | rfl | rfl | rfl <;> simp)
 ·intro dn i o a w K hi ho hdi hH he hdep hK
  have hD:=fun j hj => (dep_have (ps:=[(2,0),(2,1)]) (by kernel_rfl) ho (fun j => dn j = true∧opKqC B s1 x1 y1 p1 ws wx f1 j w (a.eval (.tmp (opKqT j)))) hdep j hj).2
  have hk : ∀ v w',But [] w w'→opKqC B s1 x1 y1 p1 ws wx f1 i w' v→K (a.put (some (opKqT i)) v) w':=fun v w' hb hv => hK v w' (hH.trans' hb) (fun j hj _ u hu => opKqC_but hu hj hb) hv
  have e3':=(he 3 (fun j hj e => absurd e.symm (by revert j; decide))).trans e3
  have : i = 0 ∨ i = 1 ∨ i = 2 ∨ i = 3:=by omega
  rcases this with rfl | rfl | rfl | rfl
  ·obtain rfl:=Option.some.inj ((show opKqs[0]? = some opKq0 from rfl).symm.trans ho)
   exact wp_enter (run_oneK a w _ _ _ _ _ 1) (R:=fun w' v => But [] w w'∧v = _) ((WH w).mono fun e w' ⟨he,hb⟩ => ⟨_,he,hb,rfl⟩) (fun v w' hv => hk v w' hv.1 hv.2)
  ·obtain rfl:=Option.some.inj ((show opKqs[1]? = some opKq1 from rfl).symm.trans ho)
   exact wp_value (run_loadK a w _ _ _ _ _ _ g3 0 _ _ _ _ e3' (c1.but (hdr hH) (by simp))) (hk _ _ (But.refl _ _) rfl)
  ·obtain rfl:=Option.some.inj ((show opKqs[2]? = some opKq2 from rfl).symm.trans ho)
   exact wp_enter (run_subK a w _ _ _ _ _ _ _ _ _ (hD 0 (by simp)) (hD 1 (by simp))) (R:=fun w' v => FracAt w' v (((1 : Int) : Rat) - f1)∧But [] w w') (SU w (hdr hH)) (fun v w' hv => hk v w' hv.2 hv.1)
  ·obtain rfl:=Option.some.inj ((show opKqs[3]? = some opKq3 from rfl).symm.trans ho)
   exact wp_value (run_allocK a w _ _ _ _) (hk _ _ ((But.refl _ _).alloc _) ⟨w.heap.size,rfl,Nat.le_trans hBW (hdr hH).size,⟨by simp,by simp,by simp,by simp⟩,fun j => by simp⟩)
 ·intro dn o a w K ho hall h hK
  obtain rfl:=Option.some.inj ((show opKqs[4]? = some opKq4 from rfl).symm.trans ho)
  have cl : FracAt w (a.eval (.tmp 25)) (((1 : Int) : Rat) - f1):=h.has 2 (by omega) (hall 2 (by omega))
  obtain ⟨bn,eb,hb1,hb2,hb3⟩ : LaidK B w (a.eval (.tmp 7)):=h.has 3 (by omega) (hall 3 (by omega))
  have cl':=cl
  obtain ⟨x',y',p',ev,-⟩:=cl.agg
  rw [ev] at cl'
  have ea:=h.puts hT (fun i => match i with
   | 0 => .agg #[.bool ws,.int .u64 wx,.int .u64 0,.pointer none]
   | 1 => .agg #[.bool s1,.int .u64 x1,.int .u64 y1,.pointer p1]
   | 2 => .agg #[.bool (decide ((((1 : Int) : Rat) - f1).num < 0)),.int .u64 x',.int .u64 y',.pointer p']
   | _ => .pointer (some ⟨bn,0,none⟩)) (fun i hi => by
   have hc:=h.has i hi (hall i hi)
   have : i = 0 ∨ i = 1 ∨ i = 2 ∨ i = 3:=by omega
   rcases this with rfl | rfl | rfl | rfl
   all_goals first | exact ev | exact eb | exact hc | rfl)
  exact wp_skipped (run_store4 a w _ _ _ _ _ bn _ x' y' p' eb ev hb2 hb3) (hK _ _ ⟨w,bn,_,x',y',p',ea,rfl,hdr h.mem,hb1,hb2,hb3,cl'⟩)
 ·rintro a w ⟨w1,bn,s',x',y',p',rfl,rfl,h1,h2,h3,h4,h5⟩
  exact hQ  w1 bn s' x' y' p' h1 h2 h3 h4 h5
def opKr0 : Oper:={ dst:=some 39,op:=Op.load 29 (Operand.tmp 9),type:=29,pos:= "claims.go:107",after:=#[],guard:=none }
def opKr1 : Oper:={ dst:=some 40,op:=Op.load 29 (Operand.tmp 11),type:=29,pos:= "claims.go:107",after:=#[],guard:=none }
def opKr2 : Oper:={ dst:=some 41,op:=Op.move (Operand.tmp 10),type:=3,pos:= "claims.go:107",after:=#[],guard:=none }
def opKr3 : Oper:={ dst:=some 42,op:=Op.call { callee:=Callee.value (Operand.func 24),args:=#[Operand.tmp 41],argTypes:=#[3] },type:=29,pos:= "claims.go:107",after:=#[{ on:=2,ground:=Ground.data }],guard:=none }
def opKr4 : Oper:={ dst:=some 43,op:=Op.call { callee:=Callee.value (Operand.func 32),args:=#[Operand.tmp 40,Operand.tmp 42],argTypes:=#[29,29] },type:=29,pos:= "claims.go:107",after:=#[{ on:=1,ground:=Ground.data },{ on:=3,ground:=Ground.data },{ on:=3,ground:=Ground.chain }],guard:=none }
def opKr5 : Oper:={ dst:=some 44,op:=Op.call { callee:=Callee.value (Operand.func 19),args:=#[Operand.tmp 39,Operand.tmp 43],argTypes:=#[29,29] },type:=29,pos:= "claims.go:107",after:=#[{ on:=0,ground:=Ground.data },{ on:=4,ground:=Ground.data },{ on:=4,ground:=Ground.chain }],guard:=none }
def opKr6 : Oper:={ dst:=none,op:=Op.store 29 (Operand.tmp 9) (Operand.tmp 44),type:=0,pos:= "claims.go:107",after:=#[{ on:=5,ground:=Ground.data },{ on:=5,ground:=Ground.chain },{ on:=0,ground:=Ground.phase },{ on:=1,ground:=Ground.phase },{ on:=2,ground:=Ground.phase },{ on:=3,ground:=Ground.phase },{ on:=4,ground:=Ground.phase },{ on:=5,ground:=Ground.phase }],guard:=none }
def opKrs : Array Oper:=#[opKr0,opKr1,opKr2,opKr3,opKr4,opKr5,opKr6]
/-- what each operation's value is -/
def opKrC (s1 : Bool) (x1 y1 : Int) (p1 : Option Addr) (s2 : Bool) (x2 y2 : Int) (p2 : Option Addr) (k : Int) (ws : Bool) (wx : Int) (f1 f2 : Rat) (i : Nat) (w : World) (v : Value) : Prop:=match i with
 | 0 => v = .agg #[.bool s1,.int .u64 x1,.int .u64 y1,.pointer p1]
 | 1 => v = .agg #[.bool s2,.int .u64 x2,.int .u64 y2,.pointer p2]
 | 2 => v = .int .i64 k
 | 3 => v = .agg #[.bool ws,.int .u64 wx,.int .u64 0,.pointer none]
 | 4 => FracAt w v (f2 * ((k : Int) : Rat))
 | _ => FracAt w v (f1 + f2 * ((k : Int) : Rat))
set_option maxHeartbeats 4000000 in
set_option maxRecDepth 100000 in
theorem worst_region15 (id l0 n0 : Nat) (Q : Exit→Act→World→Prop) (base : Act) (W0 : World) (s1 : Bool) (x1 y1 : Int) (p1 : Option Addr) (s2 : Bool) (x2 y2 : Int) (p2 : Option Addr) (k : Int) (ws : Bool) (wx : Int) (f1 f2 : Rat) (g9 g11 : Nat)
  (hs : 44 < base.tmps.size) (e9 : base.eval (.tmp 9) = .pointer (some ⟨g9,0,none⟩)) (e11 : base.eval (.tmp 11) = .pointer (some ⟨g11,0,none⟩)) (e10 : base.eval (.tmp 10) = .int .i64 k)
  (c1 : P4 W0 g9 s1 x1 y1 p1) (fz : ∀ j,W0.frozen? ⟨g9,j,none⟩ = false) (c2 : P4 W0 g11 s2 x2 y2 p2)
  (WH : ∀ w,Calls Tryz.prog 24 #[.int .i64 k] w fun e w' => e = .returned (.agg #[.bool ws,.int .u64 wx,.int .u64 0,.pointer none])∧But [] w w')
  (MU : ∀ w,But [] W0 w→Calls Tryz.prog 32 #[.agg #[.bool s2,.int .u64 x2,.int .u64 y2,.pointer p2],.agg #[.bool ws,.int .u64 wx,.int .u64 0,.pointer none]] w fun e w' => ∃ v,e = .returned v∧FracAt w' v (f2 * ((k : Int) : Rat))∧But [] w w')
  (AD : ∀ w v,But [] W0 w→FracAt w v (f2 * ((k : Int) : Rat))→Calls Tryz.prog 19 #[.agg #[.bool s1,.int .u64 x1,.int .u64 y1,.pointer p1],v] w fun e w' => ∃ v,e = .returned v∧FracAt w' v (f1 + f2 * ((k : Int) : Rat))∧But [] w w')
  (hQ : ∀ a w1 s' x' y' p',But [] W0 w1→FracAt w1 (.agg #[.bool s',.int .u64 x',.int .u64 y',.pointer p']) (f1 + f2 * ((k : Int) : Rat))→Q .normal a (put4 w1 g9 s' x' y' p')) :
  (Code.region id opKrs true).wpIn (Fence.wide.inRound l0) n0 Tryz.prog Q base W0:=by
 have lg : g9 < W0.heap.size:=lt_of_cell c1.1
 have hdr : ∀ {w},But [] W0.drew w→But [] W0 w:=fun h => (But.refl _ _).drew.trans' h
 refine region_flowR (by kernel_rfl) (calm_of (by kernel_rfl)) (low_of (by kernel_rfl))
  (opKrC s1 x1 y1 p1 s2 x2 y2 p2 k ws wx f1 f2) (fun i => 39 + i) 6 rfl (fun i j _ _ e => by omega) (fun i hi => by omega) ?_ (fun i hi => ?_) ?_
  (fun w => ∃ w1 s' x' y' p',w = put4 w1 g9 s' x' y' p'∧But [] W0 w1∧FracAt w1 (.agg #[.bool s',.int .u64 x',.int .u64 y',.pointer p']) (f1 + f2 * ((k : Int) : Rat))) ?_ ?_
 ·intro i w w' v hi h hb
  have : i = 0 ∨ i = 1 ∨ i = 2 ∨ i = 3 ∨ i = 4 ∨ i = 5:=by omega
  rcases this with rfl | rfl | rfl | rfl | rfl | rfl
  all_goals first | exact h | exact FracAt.but h hb
 ·have hh:=dep_of (ops:=opKrs) (ps:=[(6,0),(6,1),(6,2),(6,3),(6,4),(6,5)]) (by kernel_rfl) 6 i (by
   have : i = 0 ∨ i = 1 ∨ i = 2 ∨ i = 3 ∨ i = 4 ∨ i = 5:=by omega
   rcases this with rfl | rfl | rfl | rfl | rfl | rfl <;> simp)
  exact hh
 ·intro i o a w K hi ho hH he hdep hk
  have : i = 0 ∨ i = 1 ∨ i = 2 ∨ i = 3 ∨ i = 4 ∨ i = 5:=by omega
  have hD:=dep_have (ps:=[(3,2),(4,1),(4,3),(5,0),(5,4)]) (by kernel_rfl) ho (fun j => opKrC s1 x1 y1 p1 s2 x2 y2 p2 k ws wx f1 f2 j w (a.eval (.tmp (39 + j)))) hdep
  have e9':=(he 9 (fun j _ => by omega)).trans e9
  have e11':=(he 11 (fun j _ => by omega)).trans e11
  have e10':=(he 10 (fun j _ => by omega)).trans e10
  rcases this with rfl | rfl | rfl | rfl | rfl | rfl
  ·obtain rfl:=Option.some.inj ((show opKrs[0]? = some opKr0 from rfl).symm.trans ho)
   exact wp_value (run_loadK a w _ _ _ _ _ _ g9 0 _ _ _ _ e9' (c1.but (hdr hH) (by simp))) (hk _ _ (But.refl _ _) rfl)
  ·obtain rfl:=Option.some.inj ((show opKrs[1]? = some opKr1 from rfl).symm.trans ho)
   exact wp_value (run_loadK a w _ _ _ _ _ _ g11 0 _ _ _ _ e11' (c2.but (hdr hH) (by simp))) (hk _ _ (But.refl _ _) rfl)
  ·obtain rfl:=Option.some.inj ((show opKrs[2]? = some opKr2 from rfl).symm.trans ho)
   exact wp_value (run_mvK a w _ _ _ _ _ _ _ e10') (hk _ _ (But.refl _ _) rfl)
  ·obtain rfl:=Option.some.inj ((show opKrs[3]? = some opKr3 from rfl).symm.trans ho)
   exact wp_enter (run_wholeK a w _ _ _ _ _ _ _ (hD 2 (by simp))) (R:=fun w' v => But [] w w'∧v = _) ((WH w).mono fun e w' ⟨he,hb⟩ => ⟨_,he,hb,rfl⟩) (fun v w' hv => hk v w' hv.1 hv.2)
  ·obtain rfl:=Option.some.inj ((show opKrs[4]? = some opKr4 from rfl).symm.trans ho)
   exact wp_enter (run_mulK a w _ _ _ _ _ _ _ _ _ (hD 1 (by simp)) (hD 3 (by simp))) (R:=fun w' v => FracAt w' v (f2 * ((k : Int) : Rat))∧But [] w w') (MU w (hdr hH)) (fun v w' hv => hk v w' hv.2 hv.1)
  ·obtain rfl:=Option.some.inj ((show opKrs[5]? = some opKr5 from rfl).symm.trans ho)
   exact wp_enter (run_addK a w _ _ _ _ _ _ _ _ _ (hD 0 (by simp)) rfl) (R:=fun w' v => FracAt w' v (f1 + f2 * ((k : Int) : Rat))∧But [] w w') (AD w _ (hdr hH) (hD 4 (by simp))) (fun v w' hv => hk v w' hv.2 hv.1)
 ·intro o a w K ho hb he hall hK
  have e9':=(he 9 (fun j _ => by omega)).trans e9
  obtain rfl:=Option.some.inj ((show opKrs[6]? = some opKr6 from rfl).symm.trans ho)
  have h7 : FracAt w (a.eval (.tmp 44)) (f1 + f2 * ((k : Int) : Rat)):=hall 5 (by omega)
  have h7':=h7
  obtain ⟨x',y',p',ev,-⟩:=h7.agg
  rw [ev] at h7'
  exact wp_skipped (run_store4 a w _ _ _ _ _ g9 _ x' y' p' e9' ev (c1.but (hdr hb) (by simp)) (fun j => ((hdr hb).frozen (p:=⟨g9,j,none⟩) lg (by simp)).trans (fz j))) (hK _ _ ⟨w,_,x',y',p',rfl,hdr hb,h7'⟩)
 ·rintro a w ⟨w1,s',x',y',p',rfl,h1,h2⟩
  exact hQ a w1 s' x' y' p' h1 h2
end Go.Proofs.YtikgmhpbdcdogaaGreatDoor

namespace Go.Proofs.YtikgmhpbdcdogaaGreatDoor
open Go.RowKit

theorem chk_some {fs : List Rat} (h : chkE fs = 0) : 0 < fs.length∧fs.length ≤ 201∧(∀ f ∈ fs,0 ≤ f)∧sumR fs = 1:=by
 unfold chkE at h
 by_cases h1 : fs.length < 1 ∨ 201 < fs.length
 ·rw [if_pos h1] at h; simp at h
 ·rw [if_neg h1] at h
  by_cases h2 : fs.any (fun f => decide (f.num < 0)) = true
  ·rw [if_pos h2] at h; simp at h
  ·rw [if_neg h2] at h
   by_cases h3 : sumR fs = 1
   ·refine ⟨by omega,by omega,fun f hf => ?_,h3⟩
    have h4 : fs.any (fun f => decide (f.num < 0)) = false:=by simpa using h2
    rw [List.any_eq_false] at h4
    have:=h4 f hf
    simp at this
    exact this
   ·rw [if_neg h3] at h; simp at h
set_option maxHeartbeats 16000000 in
set_option maxRecDepth 100000 in
theorem lawQuantile_ok (b off cap n : Nat) (fs : List Rat) (c : Nat) (vch : Value) (ch : Rat) (w : World) (hv : FracsAt w (.slice (some ⟨b,off,none⟩) n cap) fs) (hN : n = fs.length) (hck : chkE fs = 0) (hch : FracAt w vch ch) (lf : ∀ f ∈ fs,Len f c) (hc : c ≤ 100) (lch : Len ch 1000) :
  Calls Tryz.prog 23 #[.slice (some ⟨b,off,none⟩) n cap,vch] w fun e w' => But [] w w'∧(((ch ≤ 0 ∨ 1 < ch)∧e = .returned (.tuple #[.int .i64 0,.iface 54 (.int .i64 2)])) ∨ (¬ (ch ≤ 0 ∨ 1 < ch)∧∃ k : Nat,k < n∧e = .returned (.tuple #[.int .i64 (k : Int),.nilIface])∧sumR (fs.take k) < ch)):=by
 obtain ⟨hn0,hn1,hpos,hone⟩:=chk_some hck
 have CH:=hide (fun W (h : But [] w W) => lawCheck_any _ fs c W (hv.but h) (by omega) lf hc)
 rw [hck] at CH
 obtain ⟨x1,y1,p1,rfl,-⟩:=hch.agg
 generalize hsf : decide (ch.num < 0) = s1 at *
 clear hsf
 obtain ⟨sg,hsg⟩ : ∃ sg,sg = ch.num.sign:=⟨_,rfl⟩
 have hs0 : sg ≤ 0 ↔ ch ≤ 0:=by
  have h1 : ch ≤ 0 ↔ ch.num ≤ 0:=by
   rw [Rat.le_iff]
   simp
  rw [h1,hsg]
  rcases Int.lt_trichotomy ch.num 0 with h | h | h
  ·rw [Int.sign_eq_neg_one_of_neg h]; omega
  ·rw [h]; decide
  ·rw [Int.sign_eq_one_of_pos h]; omega
 have SG:=hide (fun W (h : But [] w W) => fracSign_any _ ch W (hch.but h))
 rw [← hsg] at SG
 have bA : But [] w (w.alloc (.cells #[.bool s1,.int .u64 x1,.int .u64 y1,.pointer p1] 29)):=(But.refl _ _).alloc _
 have X3:=hide (BoxAt.new w s1 x1 y1 p1 ch 29 hch)
 have c3 : P4 (w.alloc (.cells #[.bool s1,.int .u64 x1,.int .u64 y1,.pointer p1] 29)) w.heap.size s1 x1 y1 p1:=⟨by simp,by simp,by simp,by simp⟩
 have C3:=hide c3
 have BA:=hide bA
 have HS0:=hide hs0
 have HV:=hide hv
 have HCH:=hide hch
 have HN:=hide hN
 have HONE:=hide hone
 have hnn : n < 1000000:=by omega
 have hn0' : 0 < n:=by omega
 clear hv hch bA c3 hs0 hsg hN hone
 go_enter Tryz.func23,Tryz.ntmps23
 go_wp2_with fail
 refine (unhide CH _ (unhide BA)).mono ?_
 rintro e w1 ⟨rfl,hb1⟩
 have B1:=hide ((unhide BA).trans' hb1)
 have X31:=hide ((unhide X3).but hb1)
 have C31:=hide ((unhide C3).but hb1 (by simp))
 clear hb1 CH X3 BA C3
 generalize hg3 : w.heap.size = g3 at *
 rw [show errV 0 = .nilIface from rfl]
 go_wp2
 by_cases hp : sg ≤ 0
 ·refine quant_none4 4 _ _ w1 s1 x1 y1 p1 sg (by simp) g3 (by simp [Act.eval]) hp (unhide C31) (fun w' hb => unhide SG w' ((unhide B1).trans' hb)) ?_
  intro w2 hb2
  have B2:=hide ((unhide B1).trans' hb2)
  simp only [putted,List.foldl_cons,List.foldl_nil,Act.put,List.setIfInBounds_toArray,List.set_cons_zero,List.set_cons_succ]
  clear hb2
  go_wp2
  exact bodyPost_ret (v:=.tuple #[.int .i64 0,.iface 54 (.int .i64 2)]) (by simp [results,Tryz.results23,go_sem]) rfl ⟨unhide B2,.inl ⟨.inl ((unhide HS0).1 hp),rfl⟩⟩
 ·obtain ⟨ws,wx,FW,CW⟩:=whole_is 1 (by omega) (by omega)
  obtain ⟨r,hr⟩ : ∃ r,r = cmpZ (ch.num * ((((1 : Int) : Rat)).den : Int)) ((((1 : Int) : Rat)).num * (ch.den : Int)):=⟨_,rfl⟩
  have hgt:=(cmpZ_tells ch ((1 : Int) : Rat) r hr).2.1
  refine quant_region4 4 _ _ w1 s1 x1 y1 p1 sg ws wx r (by simp) g3 (by simp [Act.eval]) hp (unhide C31) (fun w' hb => unhide SG w' ((unhide B1).trans' hb)) CW (fun w' hb => fracCmp_any _ _ ch ((1 : Int) : Rat) w' ((unhide HCH).but ((unhide B1).trans' hb)) (FW w') (lch.mono (by omega)) ((len_int 1 (by decide)).mono (by omega)) r hr) ?_
  intro w2 hb2
  have B2:=hide ((unhide B1).trans' hb2)
  have X32:=hide ((unhide X31).but hb2)
  simp only [putted,List.foldl_cons,List.foldl_nil,Act.put,List.setIfInBounds_toArray,List.set_cons_zero,List.set_cons_succ]
  have HGT:=hide hgt
  clear hb2 hgt hr X31 C31 B1 FW CW
  by_cases hr0 : 0 < r
  ·rw [decide_eq_true hr0]
   go_wp2
   exact bodyPost_ret (v:=.tuple #[.int .i64 0,.iface 54 (.int .i64 2)]) (by simp [results,Tryz.results23,go_sem]) rfl ⟨unhide B2,.inl ⟨.inr ((unhide HGT).1 hr0),rfl⟩⟩
  ·rw [decide_eq_false hr0]
   have hno : ¬ (ch ≤ 0 ∨ 1 < ch):=fun h => h.elim (fun h => hp ((unhide HS0).2 h)) (fun h => hr0 ((unhide HGT).2 h))
   have HNO:=hide hno
   clear hno HGT
   go_wp2
   obtain ⟨sr,xr,yr,pr,r0,hfr⟩:=((unhide HV).but (unhide B2)).get 0 (by omega)
   rw [Nat.zero_mul,Nat.add_zero] at r0
   refine quant_region6 6 _ _ w2 b off n cap w2.heap.size sr xr yr pr _ (by simp) (Nat.le_refl _) (by simp [Act.eval]) hn0' hnn r0 hfr ?_
   intro w3 g8 s8 x8 y8 p8 hb3 hg8 hP8 hz8 hf8
   simp only [putted,List.foldl_cons,List.foldl_nil,Act.put,List.setIfInBounds_toArray,List.set_cons_zero,List.set_cons_succ]
   have hP:=put4_but w3 g8 s8 x8 y8 p8
   have x8' : BoxAt (put4 w3 g8 s8 x8 y8 p8) g8 (fs[0]?.getD 0):=BoxAt.put (f:=0) ⟨⟨false,0,0,none,hP8,zero_at _⟩,hz8⟩ hf8
   have hl3 : g3 < w2.heap.size:=(unhide X32).lt
   have x3' : BoxAt (put4 w3 g8 s8 x8 y8 p8) g3 ch:=((unhide X32).but hb3).beside hP (by simp; omega) (fun g hg => by simp at hg; subst hg; exact ⟨_,hP8.1⟩)
   have bN : But [] w (put4 w3 g8 s8 x8 y8 p8):=((unhide B2).trans' hb3).trans hP (fun x hx => by simp at hx; subst hx; exact .inr (by have:=(unhide B2).size; omega))
   have o8 : w.heap.size ≤ g8:=by have:=(unhide B2).size; omega
   have n38 : g3 ≠ g8:=by omega
   have X8:=hide x8'
   have X3':=hide x3'
   have BN:=hide bN
   generalize put4 w3 g8 s8 x8 y8 p8 = V at *
   clear x8' x3' bN hP hb3 hg8 hP8 hz8 hf8 r0 hfr X32 B2 hl3
   go_wp2
   go_loopw [7] (fun iv wr => ∃ k : Nat,k < n∧iv = .int .i64 (k : Int)∧Hid (BoxAt wr g8 (sumR (fs.take (k + 1)))∧BoxAt wr g3 ch∧sumR (fs.take k) < ch∧But [] w wr)) (fun iv _ => n - (intOf iv).toNat)
   case atStart =>
    refine ⟨0,hn0',rfl,?_,unhide X3',?_,unhide BN⟩
    ·have e:=sumR_take fs 0 hn0
     have e0 : sumR (fs.take 0) = 0:=rfl
     rw [e,e0,Rat.zero_add]
     exact unhide X8
    ·show (0 : Rat) < ch
     exact Rat.not_le.1 (fun h => unhide HNO (.inl h))
   case round =>
    obtain ⟨k,hk,rfl,HI⟩:=hrel
    rename World => wr
    clear X8 X3' BN
    have hkl : k < fs.length:=by have:=unhide HN; omega
    obtain ⟨⟨⟨t8,a8,b8,q8,⟨d0,d1,d2,d3⟩,hf8⟩,z8⟩,⟨⟨t3,a3,b3,q3,⟨c0,c1,c2,c3⟩,hf3⟩,z3⟩,hbel,hbw⟩:=unhide HI
    obtain ⟨r,hr⟩ : ∃ r,r = cmpZ ((sumR (fs.take (k + 1))).num * (ch.den : Int)) (ch.num * ((sumR (fs.take (k + 1))).den : Int)):=⟨_,rfl⟩
    have hlt:=(cmpZ_tells (sumR (fs.take (k + 1))) ch r hr).1
    have ls:=len_sumR c fs lf (k + 1) (by omega)
    have hkc : (k + 1) * (c + 1) ≤ 201 * 101:=Nat.mul_le_mul (by omega) (by omega)
    have CM:=hide (fracCmp_any _ _ _ ch wr hf8 hf3 (ls.mono (by omega)) (lch.mono (by omega)) r hr)
    have HLT:=hide hlt
    have HF8:=hide hf8
    clear hlt hr hf8 hf3 hbel hbw ls
    go_wp2_with fail
    refine (unhide CM).mono ?_
    rintro e w4 ⟨rfl,hb4⟩
    have J8:=hide ((unhide HI).1.but hb4)
    have J3:=hide ((unhide HI).2.1.but hb4)
    have JB:=hide ((unhide HI).2.2.2.trans' hb4)
    have JL:=hide (unhide HI).2.2.1
    clear hb4 CM d0 d1 d2 d3 c0 c1 c2 c3 z8 z3 HI HF8
    by_cases hr1 : r < 0
    ·have hk1 : k + 1 < n:=by
      rcases Nat.lt_or_ge (k + 1) n with h | h
      ·exact h
      ·exfalso
       have hlt:=(unhide HLT).1 hr1
       rw [List.take_of_length_le (by have:=unhide HN; omega),unhide HONE] at hlt
       exact unhide HNO (.inr hlt)
     go_wp2
     rw [show ((k : Int) + 1) = ((k + 1 : Nat) : Int) from by omega]
     obtain ⟨⟨t8',a8',b8',q8',c8,hf8⟩,z8⟩:=unhide J8
     obtain ⟨sr,xr,yr,pr,r0,hfr⟩:=((unhide HV).but (unhide JB)).get (k + 1) hk1
     have hk1l : k + 1 < fs.length:=by have:=unhide HN; omega
     have lr : Len (fs[k + 1]?.getD 0) c:=by rw [List.getElem?_eq_getElem hk1l]; exact lf _ (List.getElem_mem hk1l)
     have ls:=len_sumR c fs lf (k + 1) (by omega)
     refine quant_region9 9 _ _ w4 b off n cap (k + 1) t8' a8' b8' q8' sr xr yr pr _ _ g8 (by simp) (by simp [Act.eval]) c8 z8 (by simp [Act.eval]) (by simp [Act.eval]) hk1 hnn c8 r0 (fun w' hb => fracAdd_gen 200000 200000 (by omega) _ _ _ _ w' (hf8.but hb) (hfr.but hb) (ls.mono (by omega)) (lr.mono (by omega))) ?_
     intro w5 s9 x9 y9 p9 hb5 hf9
     simp only [putted,List.foldl_cons,List.foldl_nil,Act.put,List.setIfInBounds_toArray,List.set_cons_zero,List.set_cons_succ]
     rw [← sumR_take fs (k + 1) hk1l] at hf9
     have hP:=put4_but w5 g8 s9 x9 y9 p9
     have M8:=hide (((unhide J8).but hb5).put hf9)
     have M3:=hide (((unhide J3).but hb5).beside hP (by simp; omega) (fun g hg => by simp at hg; subst hg; exact ((unhide J8).but hb5).bool))
     have MB:=hide (((unhide JB).trans' hb5).trans hP (fun x hx => by simp at hx; subst hx; exact .inr o8))
     have ML:=hide ((unhide HLT).1 hr1)
     generalize put4 w5 g8 s9 x9 y9 p9 = V5 at *
     clear hP hf9 hb5 c8 r0 hf8 hfr z8 J8 J3 JB JL ls lr HLT
     go_wp2
     exact ⟨⟨k + 1,hk1,rfl,unhide M8,unhide M3,unhide ML,unhide MB⟩,by simp [intOf]; omega⟩
    ·go_wp2
     exact bodyPost_ret (v:=.tuple #[.int .i64 (k : Int),.nilIface]) (by simp [results,Tryz.results23,go_sem]) rfl ⟨unhide JB,.inr ⟨unhide HNO,k,hk,rfl,unhide JL⟩⟩
end Go.Proofs.YtikgmhpbdcdogaaGreatDoor
