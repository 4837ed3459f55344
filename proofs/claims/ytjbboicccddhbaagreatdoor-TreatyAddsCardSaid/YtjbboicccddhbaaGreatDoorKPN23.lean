/- A region that draws its order and writes nothing but its own slots: values made one of the other, in whatever order, some of them only if a test says so. -/
import Derived.Test.YtjbboicccddhbaaGreatDoorKPBX
import Derived.Test.YtjbboicccddhbaaGreatDoorKPPh
namespace Go.Proofs.YtjbboicccddhbaaGreatDoor
open Go.RowKit

def Down (ops : Array Oper) (d : Nat→Bool) : Prop:=∀ i o,ops[i]? = some o→d i = true→∀ e ∈ o.after,Region.binds .any e = true→d e.on = true
structure Run (W : World) (ops : Array Oper) (base : Act) (C : Nat→World→Value→Prop) (T : Nat→Nat) (d : Nat→Bool) (a : Act) (w : World) : Prop where
 down : Down ops d
 but : But [] W w
 size : a.tmps.size = base.tmps.size
 defers : a.defers = base.defers
 rest : ∀ t,(∀ j,j < ops.size→d j = true→t ≠ T j)→a.tmps[t]? = base.tmps[t]?
 has : ∀ i,i < ops.size→d i = true→C i w (a.eval (.tmp (T i)))
theorem Run.eval {W : World} {ops : Array Oper} {base : Act} {C : Nat→World→Value→Prop} {T : Nat→Nat} {d : Nat→Bool} {a : Act} {w : World} (h : Run W ops base C T d a w) (t : Nat) (ht : ∀ j,j < ops.size→d j = true→t ≠ T j) : a.eval (.tmp t) = base.eval (.tmp t):=by
 show a.tmps.getD t undef = base.tmps.getD t undef
 simp only [Array.getD_eq_getD_getElem?,h.rest t ht]
theorem Run.next {W : World} {ops : Array Oper} {base : Act} {C : Nat→World→Value→Prop} {T : Nat→Nat} {d : Nat→Bool} {a : Act} {w : World} (h : Run W ops base C T d a w)
  (hinj : ∀ i j,i < ops.size→j < ops.size→T i = T j→i = j) (hT : ∀ i,i < ops.size→T i < base.tmps.size) (hC : ∀ i w w' v,i < ops.size→C i w v→But [] w w'→C i w' v)
  (i : Nat) (o : Oper) (ho : ops[i]? = some o) (hdep : ∀ e ∈ o.after,Region.binds .any e = true→d e.on = true) (v : Value) (w' : World) (hb : But [] w w') (hv : C i w' v) : Run W ops base C T (came d i) (a.put (some (T i)) v) w':=by
 have hi : i < ops.size:=(Array.getElem?_eq_some_iff.1 ho).1
 refine ⟨fun j oj hj hd e he hbi => ?_,h.but.trans' hb,by rw [size_putted]; exact h.size,h.defers,fun t ht => ?_,fun j hj hd => ?_⟩
 ·by_cases e1 : e.on = i
  ·rw [e1]; exact came_self d i
  ·rw [came_ne d e1]
   by_cases e2 : j = i
   ·subst e2
    rw [ho] at hj
    obtain rfl:=Option.some.inj hj
    exact hdep e he hbi
   ·rw [came_ne d e2] at hd
    exact h.down j oj hj hd e he hbi
 ·rw [slot_put,if_neg (fun e => ht i hi (came_self d i) e.symm)]
  exact h.rest t (fun j hj hd => by
   by_cases e : j = i
   ·subst e; exact ht j hj (came_self d j)
   ·exact ht j hj (by rw [came_ne d e]; exact hd))
 ·by_cases e : j = i
  ·subst e
   rw [at_eq a (T j) v (by rw [h.size]; exact hT j hj)]
   exact hv
  ·rw [came_ne d e] at hd
   rw [at_ne a (T i) (T j) v (fun e2 => e (hinj j i hj hi e2))]
   exact hC j w w' _ hj (h.has j hj hd) hb

/-- every operation writes the slot T says; one with a test stands behind it -/
def plainOps (ops : Array Oper) (T : Nat→Nat) : Bool:=(List.range ops.size).all fun i => match ops[i]? with
 | some o => (o.dst == some (T i)) && (match o.guard with | none => true | some (j,_) => decide (j < ops.size) && o.after.any fun e => Region.binds .any e && e.on == j)
 | none => true
theorem plain_of {ops : Array Oper} {T : Nat→Nat} (h : plainOps ops T = true) : ∀ (i : Nat) (o : Oper),ops[i]? = some o→o.dst = some (T i)∧∀ j want,o.guard = some (j,want)→j < ops.size∧∃ e ∈ o.after,Region.binds .any e = true∧e.on = j:=fun i o ho => by
 have hi : i < ops.size:=(Array.getElem?_eq_some_iff.1 ho).1
 unfold plainOps at h
 rw [List.all_eq_true] at h
 have h1:=h i (List.mem_range.2 hi)
 simp only [ho,Bool.and_eq_true,beq_iff_eq] at h1
 refine ⟨h1.1,fun j want hg => ?_⟩
 have h2:=h1.2
 rw [hg] at h2
 simp only [Bool.and_eq_true,decide_eq_true_eq] at h2
 refine ⟨h2.1,?_⟩
 have h3:=h2.2
 rw [Array.any_eq_true] at h3
 obtain ⟨k,hk,h4⟩:=h3
 simp only [Bool.and_eq_true,beq_iff_eq] at h4
 exact ⟨o.after[k],Array.getElem_mem hk,h4.1,h4.2⟩
theorem region_go {P : Program} {id : Nat} {ops : Array Oper} {Q : Exit→Act→World→Prop} {base : Act} {W0 : World} (hm : P.follows .mixedOrders = true)
  (hlow : ∀ i o,ops[i]? = some o→∀ e ∈ o.after,Region.binds .any e = true→e.on < i)
  (C : Nat→World→Value→Prop) (T : Nat→Nat) (hpl : plainOps ops T = true)
  (hgd : ∀ (i : Nat) (o : Oper) (j : Nat) (want : Bool),ops[i]? = some o→o.guard = some (j,want)→∀ w v,C j w v→v = .bool want)
  (hinj : ∀ i j,i < ops.size→j < ops.size→T i = T j→i = j) (hT : ∀ i,i < ops.size→T i < base.tmps.size) (hC : ∀ i w w' v,i < ops.size→C i w v→But [] w w'→C i w' v)
  (hstep : ∀ (i : Nat) (o : Oper) (a : Act) (w : World) (K : Act→World→Prop),ops[i]? = some o→But [] W0.drew w→(∀ t,(∀ j,j < ops.size→t = T j→∃ oj,ops[j]? = some oj∧∃ e ∈ oj.after,Region.binds .any e = true∧e.on = i)→a.eval (.tmp t) = base.eval (.tmp t))→(∀ e ∈ o.after,Region.binds .any e = true→C e.on w (a.eval (.tmp (T e.on))))→(∀ v w',But [] w w'→C i w' v→K (a.put o.dst v) w')→o.wp P a w K Q)
  (hend : ∀ a w,Run W0.drew ops base C T (fun _ => true) a w→Q .normal a w) :
  (Code.region id ops true).wp P Q base W0:=by
 have hp:=plain_of hpl
 refine region_inv hm hlow (fun d a w => Run W0.drew ops base C T d a w) ?_ ?_ ?_
 ·exact ⟨fun _ _ _ h => by simp at h,But.refl _ _,rfl,rfl,fun _ _ => rfl,fun _ _ h => by simp at h⟩
 ·intro d a w hd h
  refine hend a w ⟨fun _ _ _ _ _ _ _ => rfl,h.but,h.size,h.defers,fun t ht => h.rest t (fun j hj _ => ht j hj rfl),fun i hi _ => h.has i hi (hd i hi)⟩
 ·intro d i o a w ho hdi hdep h
  have hi : i < ops.size:=(Array.getElem?_eq_some_iff.1 ho).1
  obtain ⟨hdst,hg⟩:=hp i o ho
  have hw : Region.wanted o (yielded ops a.tmps) = true:=by
   unfold Region.wanted
   cases hgo : o.guard with
   | none => rfl
   | some jw =>
    obtain ⟨j,want⟩:=jw
    obtain ⟨hj,e,he,hbi,hon⟩:=hg j want hgo
    have hdj : d j = true:=by rw [← hon]; exact hdep e he hbi
    have hv:=hgd i o j want ho hgo w _ (h.has j hj hdj)
    have hoj:=Array.getElem?_eq_getElem hj
    have hdj2:=(hp j _ hoj).1
    have hsl:=slot_is hv (by rw [h.size]; exact hT j hj)
    show (yielded ops a.tmps j == some want) = true
    unfold yielded
    rw [hoj,Option.bind_some,hdj2,Option.bind_some,hsl]
    simp
  unfold wpOp
  simp only [ho,hw,if_true]
  refine .inl (hstep i o a w _ ho h.but (fun t ht => h.eval t (fun j hj hd e => ?_)) (fun e he hb => h.has _ (by have:=hlow i o ho e he hb; omega) (hdep e he hb)) (fun v w' hb hv => ?_))
  ·obtain ⟨oj,hoj,ed,hed,hbi,hon⟩:=ht j hj e
   have:=h.down j oj hoj hd ed hed hbi
   rw [hon,hdi] at this
   simp at this
  ·rw [hdst]
   exact h.next hinj hT hC i o ho hdep v w' hb hv
theorem Run.puts {W : World} {ops : Array Oper} {base : Act} {C : Nat→World→Value→Prop} {T : Nat→Nat} {a : Act} {w : World} (h : Run W ops base C T (fun _ => true) a w) (hT : ∀ i,i < ops.size→T i < base.tmps.size) (V : Nat→Value) (hV : ∀ i,i < ops.size→a.eval (.tmp (T i)) = V i) : a = putted base ((List.range ops.size).map fun i => (T i,V i)):=by
 refine putted_eq _ base a h.defers h.size (fun p hp => ?_) (fun t ht => ?_)
 ·obtain ⟨i,hi,rfl⟩:=List.mem_map.1 hp
  have hi':=List.mem_range.1 hi
  exact slot_is (hV i hi') (by rw [h.size]; exact hT i hi')
 ·refine h.rest t (fun j hj _ e => ?_)
  exact ht (T j,V j) (List.mem_map.2 ⟨j,List.mem_range.2 hj,rfl⟩) e
end Go.Proofs.YtjbboicccddhbaaGreatDoor

namespace Go.Proofs.YtjbboicccddhbaaGreatDoor
open Go.RowKit
set_option linter.unusedVariables false

theorem run_mvK (a : Act) (w : World) (d t : Nat) (u : TypeId) (ps : String) (ed : Array Edge) (gd : Option (Nat × Bool)) (N : Value) (h : a.eval (.tmp t) = N) :
  (execOp a.eval { dst:=some d,op:=Op.move (.tmp t),type:=u,pos:=ps,after:=ed,guard:=gd }).run Tryz.prog w = .ok (.value N) w:=by
 unfold execOp
 simp only [h]
 go_simp
theorem run_loadK (a : Act) (w : World) (d t : Nat) (u : TypeId) (ps : String) (ed : Array Edge) (gd : Option (Nat × Bool)) (b o : Nat) (s : Bool) (x y : Int) (p : Option Addr) (h1 : a.eval (.tmp t) = .pointer (some ⟨b,o,none⟩)) (hc : P4o w b o s x y p) :
  (execOp a.eval { dst:=some d,op:=Op.load 27 (.tmp t),type:=u,pos:=ps,after:=ed,guard:=gd }).run Tryz.prog w = .ok (.value (.agg #[.bool s,.int .u64 x,.int .u64 y,.pointer p])) w:=by
 obtain ⟨c0,c1,c2,c3⟩:=hc
 unfold execOp
 simp only [h1]
 go_simp
theorem run_exK (a : Act) (w : World) (d t1 k : Nat) (u : TypeId) (ps : String) (ed : Array Edge) (gd : Option (Nat × Bool)) (xs : Array Value) (v : Value) (h1 : a.eval (.tmp t1) = .tuple xs) (h2 : xs[k]? = some v) :
  (execOp a.eval { dst:=some d,op:=Op.extract (.tmp t1) k,type:=u,pos:=ps,after:=ed,guard:=gd }).run Tryz.prog w = .ok (.value v) w:=by
 unfold execOp
 simp only [h1]
 go_simp
theorem run_asK (a : Act) (w : World) (d t : Nat) (u : TypeId) (ps : String) (ed : Array Edge) (gd : Option (Nat × Bool)) (N : Value) (h : a.eval (.tmp t) = N) :
  (execOp a.eval { dst:=some d,op:=Op.assign (.tmp t),type:=u,pos:=ps,after:=ed,guard:=gd }).run Tryz.prog w = .ok (.value N) w:=by
 unfold execOp
 simp only [h]
 go_simp
theorem run_mulK (a : Act) (w : World) (d t1 t2 : Nat) (u : TypeId) (ps : String) (ed : Array Edge) (gd : Option (Nat × Bool)) (x1 x2 : Value) (h1 : a.eval (.tmp t1) = x1) (h2 : a.eval (.tmp t2) = x2) :
  (execOp a.eval { dst:=some d,op:=Op.call { callee:=Callee.value (Operand.func 37),args:=#[Operand.tmp t1,Operand.tmp t2],argTypes:=#[27,27] },type:=u,pos:=ps,after:=ed,guard:=gd }).run Tryz.prog w = .ok (.enter 37 #[x1,x2]) w:=by
 unfold execOp
 go_simp
 rw [← h1,← h2]
 simp [Act.eval]
theorem run_wholeK (a : Act) (w : World) (d t1 : Nat) (u : TypeId) (ps : String) (ed : Array Edge) (gd : Option (Nat × Bool)) (x1 : Value) (h1 : a.eval (.tmp t1) = x1) :
  (execOp a.eval { dst:=some d,op:=Op.call { callee:=Callee.value (Operand.func 16),args:=#[Operand.tmp t1],argTypes:=#[3] },type:=u,pos:=ps,after:=ed,guard:=gd }).run Tryz.prog w = .ok (.enter 16 #[x1]) w:=by
 unfold execOp
 go_simp
 rw [← h1]
 simp [Act.eval]
end Go.Proofs.YtjbboicccddhbaaGreatDoor

namespace Go.Proofs.YtjbboicccddhbaaGreatDoor
open Go.RowKit

/-- the leading 64 bits of a number -/
def leadW (X : Nat) : Nat:=topW X * 2 ^ lz (topW X) + (if (wd 18446744073709551616 X).length ≤ 1 then 0 else (wd 18446744073709551616 X)[(wd 18446744073709551616 X).length - 2]?.getD 0 / 2 ^ (64 - lz (topW X)))
/-- how many bits are behind them, and 63 -/
def leadN (X : Nat) : Nat:=64 * ((wd 18446744073709551616 X).length - 1) + 63 - lz (topW X)
theorem lead_ok (X : Nat) (h : 0 < X) : Lead X (leadW X) (leadN X):=by
 obtain ⟨t1,t2,-,-⟩:=top_pos X h
 obtain ⟨l1,l2,l3,-⟩:=lz_facts (topW X) t1 t2
 have hl : 0 < (wd 18446744073709551616 X).length:=by rw [Nat.pos_iff_ne_zero]; intro e; rw [wd_len_zero (by omega)] at e; omega
 unfold leadW leadN
 by_cases h1 : (wd 18446744073709551616 X).length ≤ 1
 ·have hX : X < 18446744073709551616:=by
   have:=lt_of_wd_length (B:=18446744073709551616) (by omega) X 1 h1
   rw [Nat.pow_one] at this; exact this
  have e : topW X = X:=by unfold topW; rw [wd_word X h hX]; rfl
  rw [if_pos h1,Nat.add_zero,show (wd 18446744073709551616 X).length - 1 = 0 from by omega,Nat.mul_zero,Nat.zero_add]
  rw [e] at l1 l2 l3 ⊢
  exact lead_one X _ l1 l3 l2
 ·rw [if_neg h1]
  obtain ⟨m,hm⟩ : ∃ m,(wd 18446744073709551616 X).length = m + 2:=⟨(wd 18446744073709551616 X).length - 2,by omega⟩
  have e2:=vl_take_lt (wd 18446744073709551616 X) m (by omega) (wd_mem (by omega) X)
  have e3:=mem_getD (wd_mem (B:=18446744073709551616) (by omega) X) (by omega : 0 < 18446744073709551616) m
  have e4:=vl_split 18446744073709551616 (wd 18446744073709551616 X) m (by omega)
  have e5:=vl_drop 18446744073709551616 (wd 18446744073709551616 X) (m + 1) (by omega)
  rw [List.drop_eq_nil_of_le (by omega : (wd 18446744073709551616 X).length ≤ m + 1 + 1)] at e5
  rw [vl_wd (by omega),e5] at e4
  rw [show (wd 18446744073709551616 X)[m + 1]?.getD 0 = topW X from by unfold topW; rw [hm]; rfl] at e4
  rw [show (wd 18446744073709551616 X).length - 2 = m from by omega,show (wd 18446744073709551616 X).length - 1 = m + 1 from by omega]
  simp only [vl,Nat.mul_zero,Nat.add_zero] at e4
  exact (lead_more X _ _ m _ (topW X) (lz (topW X)) rfl e4 e2 e3 l1 l3 l2).1

set_option maxHeartbeats 4000000 in
set_option maxRecDepth 100000 in
theorem leading_any (v : Value) (X : Nat) (hX : 0 < X) (w : World) (hv : Sl .u64 w v (wd 18446744073709551616 X)) (hl : (wd 18446744073709551616 X).length < 134217728) (x : Nat) (N : Int) (hx : Hid (x = leadW X)) (hN : Hid (N = (leadN X : Int) - 63)) :
  Calls Tryz.prog 196 #[v] w fun e w' => e = .returned (.tuple #[.int .u64 (x : Int),.int .i64 N])∧w' = w:=by
 obtain ⟨t1,t2,-,-⟩:=top_pos X hX
 obtain ⟨hs,l2,l3,-⟩:=lz_facts (topW X) t1 t2
 have LZ:=hide (fun W => lead_any (topW X) t1 t2 W)
 rcases hv.open with ⟨e,-⟩ | ⟨hp,b,o,c,rfl,hc,-,hcell⟩
 ·rw [wd_nil_iff (by omega)] at e; omega
 have hct:=hcell ((wd 18446744073709551616 X).length - 1) (by omega)
 rw [show (wd 18446744073709551616 X)[(wd 18446744073709551616 X).length - 1]?.getD 0 = topW X from rfl] at hct
 have E0 : IntKind.u64.wrap (((topW X : Nat) : Int) * 2 ^ lz (topW X)) = ((topW X * 2 ^ lz (topW X) : Nat) : Int):=by
  have e : ((topW X : Nat) : Int) * 2 ^ lz (topW X) = ((topW X * 2 ^ lz (topW X) : Nat) : Int):=by simp
  rw [e,IntKind.wrap_u64]; omega
 unfold leadW at hx
 unfold leadN at hN
 by_cases h1 : (wd 18446744073709551616 X).length ≤ 1
 ·have hl1 : (wd 18446744073709551616 X).length = 1:=by omega
  rw [if_pos h1,Nat.add_zero] at hx
  rw [hl1] at hct hN ⊢
  rw [Nat.sub_self,Nat.add_zero] at hct
  have hNN : Hid (N = -((lz (topW X) : Nat) : Int)):=by
   show _ = _; rw [unhide hN]; omega
  clear hcell hN hv
  generalize topW X * 2 ^ lz (topW X) = y at *
  generalize lz (topW X) = s at *
  generalize topW X = t at *
  have HX : x = y:=unhide hx
  subst HX
  have HN : N = -(s : Int):=unhide hNN
  subst HN
  go_enter Tryz.func196,Tryz.ntmps196
  go_wp2_with fail
  refine (unhide LZ _).mono ?_
  rintro e w1 ⟨rfl,hw⟩
  obtain rfl:=hw.symm
  clear hw
  go_wp2
  go_ret2
  exact ⟨rfl,rfl⟩
 ·rw [if_neg h1] at hx
  have hc2:=hcell ((wd 18446744073709551616 X).length - 2) (by omega)
  have e3:=mem_getD (wd_mem (B:=18446744073709551616) (by omega) X) (by omega : 0 < 18446744073709551616) ((wd 18446744073709551616 X).length - 2)
  generalize (wd 18446744073709551616 X)[(wd 18446744073709551616 X).length - 2]?.getD 0 = y at *
  have hu : y / 2 ^ (64 - lz (topW X)) < 2 ^ lz (topW X):=by
   have hB : 18446744073709551616 = 2 ^ (64 - lz (topW X)) * 2 ^ lz (topW X):=by rw [← Nat.pow_add,show 64 - lz (topW X) + lz (topW X) = 64 from by omega]
   rw [Nat.div_lt_iff_lt_mul (Nat.pow_pos (by omega)),Nat.mul_comm,← hB]; exact e3
  have hub : y / 2 ^ (64 - lz (topW X)) < 18446744073709551616:=Nat.lt_of_le_of_lt (Nat.div_le_self _ _) e3
  have hor : topW X * 2 ^ lz (topW X) ||| y / 2 ^ (64 - lz (topW X)) = topW X * 2 ^ lz (topW X) + y / 2 ^ (64 - lz (topW X)):=by
   rw [Nat.mul_comm,Nat.two_pow_add_eq_or_of_lt hu]
  have E1 : bits .or .u64 ((topW X * 2 ^ lz (topW X) : Nat) : Int) ((y / 2 ^ (64 - lz (topW X)) : Nat) : Int) = ((topW X * 2 ^ lz (topW X) + y / 2 ^ (64 - lz (topW X)) : Nat) : Int):=by
   rw [bits_or_u64_nat _ _ l2 hub,hor]
  have E2 : ((y : Nat) : Int) / 2 ^ (64 - lz (topW X)) = ((y / 2 ^ (64 - lz (topW X)) : Nat) : Int):=by simp
  have E3 : (64 - ((lz (topW X) : Nat) : Int)).toNat = 64 - lz (topW X):=by omega
  clear hcell hv hor hu
  generalize topW X * 2 ^ lz (topW X) + y / 2 ^ (64 - lz (topW X)) = z at *
  generalize y / 2 ^ (64 - lz (topW X)) = q at *
  generalize topW X * 2 ^ lz (topW X) = p at *
  generalize lz (topW X) = s at *
  generalize topW X = t at *
  generalize (wd 18446744073709551616 X).length = n at *
  have HX : x = z:=unhide hx
  subst HX
  have HN : N = ((n : Int) - 1) * 64 - s:=by rw [unhide hN]; omega
  subst HN
  obtain ⟨m,rfl⟩ : ∃ m,n = m + 2:=⟨n - 2,by omega⟩
  rw [show m + 2 - 1 = m + 1 from rfl] at hct
  rw [show m + 2 - 2 = m from rfl] at hc2
  have hm0 : (0 : Int) ≤ (m : Int):=by omega
  clear hx hN
  go_enter Tryz.func196,Tryz.ntmps196
  go_wp2_with fail
  refine (unhide LZ _).mono ?_
  rintro e w1 ⟨rfl,hw⟩
  obtain rfl:=hw.symm
  clear hw
  go_wp2
  go_ret2
  refine ⟨?_,rfl⟩
  go_num
end Go.Proofs.YtjbboicccddhbaaGreatDoor

namespace Go.Proofs.YtjbboicccddhbaaGreatDoor
open Go.RowKit

/-- the leading 64 bits of a product, or up to eight less -/
def prodW (A C : Nat) : Nat:=if leadW A * leadW C / 18446744073709551616 < 9223372036854775808 then leadW A * leadW C / 18446744073709551616 * 2 + leadW A * leadW C % 18446744073709551616 / 9223372036854775808 else leadW A * leadW C / 18446744073709551616
/-- how many bits are behind them, and 126 -/
def prodK (A C : Nat) : Nat:=if leadW A * leadW C / 18446744073709551616 < 9223372036854775808 then leadN A + leadN C + 63 else leadN A + leadN C + 64
theorem prod_ok (A C : Nat) (hA : 0 < A) (hC : 0 < C) : LeadP (A * C) (prodW A C) (prodK A C):=by
 have h:=lead_ok A hA
 have g:=lead_ok C hC
 unfold prodW prodK
 split
 ·exact leadP_low h g (by assumption)
 ·exact leadP_high h g (by omega)
theorem leadN_le (X : Nat) (n : Nat) (h : (wd 18446744073709551616 X).length < n) : leadN X ≤ 64 * n:=by unfold leadN; omega
theorem prodK_le (A C n : Nat) (hA : (wd 18446744073709551616 A).length < n) (hC : (wd 18446744073709551616 C).length < n) : prodK A C ≤ 128 * n + 64:=by
 have h1:=leadN_le A n hA
 have h2:=leadN_le C n hC
 unfold prodK
 split <;> omega

set_option maxHeartbeats 4000000 in
set_option maxRecDepth 100000 in
theorem leadingProduct_any (va vc : Value) (A C : Nat) (hA : 0 < A) (hC : 0 < C) (w : World) (ha : Sl .u64 w va (wd 18446744073709551616 A)) (hc : Sl .u64 w vc (wd 18446744073709551616 C)) (hla : (wd 18446744073709551616 A).length < 134217728) (hlc : (wd 18446744073709551616 C).length < 134217728) (p : Nat) (K : Int) (hp : Hid (p = prodW A C)) (hK : Hid (K = (prodK A C : Int) - 126)) :
  Calls Tryz.prog 162 #[va,vc] w fun e w' => e = .returned (.tuple #[.int .u64 (p : Int),.int .i64 K])∧w' = w:=by
 have LA:=hide (leading_any va A hA w ha hla (leadW A) ((leadN A : Int) - 63) rfl rfl)
 have LC:=hide (leading_any vc C hC w hc hlc (leadW C) ((leadN C : Int) - 63) rfl rfl)
 have ba:=(lead_ok A hA).hi
 have bc:=(lead_ok C hC).hi
 have na:=leadN_le A _ hla
 have nc:=leadN_le C _ hlc
 have MU:=hide (fun W => Tryz.bits_Mul64 (leadW A) (leadW C) ba bc W)
 have hzB : leadW A * leadW C / 18446744073709551616 < 18446744073709551616:=by rw [Nat.div_lt_iff_lt_mul (by omega)]; exact Nat.mul_lt_mul'' ba bc
 have hzL : leadW A * leadW C % 18446744073709551616 < 18446744073709551616:=Nat.mod_lt _ (by omega)
 unfold prodW at hp
 unfold prodK at hK
 obtain ⟨aa,ca,rfl,-,-⟩:=ha
 obtain ⟨ac,cc,rfl,-,-⟩:=hc
 generalize (wd 18446744073709551616 A).length = la at *
 generalize (wd 18446744073709551616 C).length = lc at *
 generalize leadW A * leadW C / 18446744073709551616 = hi at *
 generalize leadW A * leadW C % 18446744073709551616 = lo at *
 generalize leadW A = x at *
 generalize leadW C = y at *
 generalize leadN A = n at *
 generalize leadN C = m at *
 by_cases hh : hi < 9223372036854775808
 ·rw [if_pos hh] at hp hK
  have d1 : ((hi : Int) / 9223372036854775808 == 0) = true:=beq_iff_eq.2 (by omega)
  have hor : bits .or .u64 ((hi * 2 : Nat) : Int) ((lo / 9223372036854775808 : Nat) : Int) = ((hi * 2 + lo / 9223372036854775808 : Nat) : Int):=by
   rw [bits_or_u64_nat _ _ (by omega) (by omega)]
   have:=Nat.two_pow_add_eq_or_of_lt (i:=1) (b:=lo / 9223372036854775808) (by omega) hi
   rw [Nat.pow_one,Nat.mul_comm] at this
   rw [this]
  have e1 : IntKind.u64.wrap ((hi : Int) * 2) = ((hi * 2 : Nat) : Int):=by rw [IntKind.wrap_u64]; omega
  have e2 : (lo : Int) / 9223372036854775808 = ((lo / 9223372036854775808 : Nat) : Int):=by simp
  generalize hi * 2 + lo / 9223372036854775808 = z at *
  generalize lo / 9223372036854775808 = z2 at *
  generalize hi * 2 = z1 at *
  have HP : p = z:=unhide hp
  subst HP
  have HK : K = (n : Int) + m - 63:=by rw [unhide hK]; omega
  subst HK
  clear hp hK
  go_enter Tryz.func162,Tryz.ntmps162
  go_wp2_with fail
  refine (unhide LA).mono ?_
  rintro e w1 ⟨rfl,hw⟩
  obtain rfl:=hw.symm
  clear hw
  go_wp2_with fail
  refine (unhide LC).mono ?_
  rintro e w1 ⟨rfl,hw⟩
  obtain rfl:=hw.symm
  clear hw
  go_wp2_with fail
  refine (unhide MU _).mono ?_
  rintro e w1 ⟨rfl,hw⟩
  obtain rfl:=hw.symm
  clear hw
  go_wp2
  go_ret2
  refine ⟨?_,rfl⟩
  go_num
 ·rw [if_neg hh] at hp hK
  have d1 : ((hi : Int) / 9223372036854775808 == 0) = false:=beq_eq_false_iff_ne.2 (by omega)
  have HP : p = hi:=unhide hp
  subst HP
  have HK : K = (n : Int) + m - 62:=by rw [unhide hK]; omega
  subst HK
  clear hp hK
  go_enter Tryz.func162,Tryz.ntmps162
  go_wp2_with fail
  refine (unhide LA).mono ?_
  rintro e w1 ⟨rfl,hw⟩
  obtain rfl:=hw.symm
  clear hw
  go_wp2_with fail
  refine (unhide LC).mono ?_
  rintro e w1 ⟨rfl,hw⟩
  obtain rfl:=hw.symm
  clear hw
  go_wp2_with fail
  refine (unhide MU _).mono ?_
  rintro e w1 ⟨rfl,hw⟩
  obtain rfl:=hw.symm
  clear hw
  go_wp2
  go_ret2
  refine ⟨?_,rfl⟩
  go_num
end Go.Proofs.YtjbboicccddhbaaGreatDoor

namespace Go.Proofs.YtjbboicccddhbaaGreatDoor
open Go.RowKit

theorem cmpN_one {x y : Nat} (h : y < x) : cmpN x y = 1:=by unfold cmpN; rw [if_neg (by omega),if_neg (by omega)]

set_option maxHeartbeats 8000000 in
set_option maxRecDepth 100000 in
theorem cmpProducts_any (va vb vc vd : Value) (A B C D : Nat) (w : World) (ha : Sl .u64 w va (wd 18446744073709551616 A)) (hb : Sl .u64 w vb (wd 18446744073709551616 B)) (hc : Sl .u64 w vc (wd 18446744073709551616 C)) (hd : Sl .u64 w vd (wd 18446744073709551616 D)) (hla : (wd 18446744073709551616 A).length < 33554432) (hlb : (wd 18446744073709551616 B).length < 33554432) (hlc : (wd 18446744073709551616 C).length < 33554432) (hld : (wd 18446744073709551616 D).length < 33554432) (r : Int) (hr : Hid (r = cmpN (A * B) (C * D))) :
  Calls Tryz.prog 119 #[va,vb,vc,vd] w fun e w' => e = .returned (.int .i64 r)∧But [] w w':=by
 have wm : ∀ X Y : Nat,(wd 18446744073709551616 X).length < 33554432→(wd 18446744073709551616 Y).length < 33554432→(wd 18446744073709551616 (X * Y)).length < 67108864:=fun X Y h1 h2 => by
  have:=wd_len_mul X Y; omega
 have M1 : Hid (∀ W,But [] w W→Calls Tryz.prog 60 #[va,vb] W fun e w' => ∃ v',e = .returned v'∧Sl .u64 w' v' (wd 18446744073709551616 (A * B))∧But [] W w'∧MulAt W.heap.size v' va vb A B):=fun W hB => natMul_any va vb A B W (ha.but_nil hB) (hb.but_nil hB) (by omega)
 have M2 : Hid (∀ W,But [] w W→Calls Tryz.prog 60 #[vc,vd] W fun e w' => ∃ v',e = .returned v'∧Sl .u64 w' v' (wd 18446744073709551616 (C * D))∧But [] W w'∧MulAt W.heap.size v' vc vd C D):=fun W hB => natMul_any vc vd C D W (hc.but_nil hB) (hd.but_nil hB) (by omega)
 have CM : Hid (∀ W v1 v2,Sl .u64 W v1 (wd 18446744073709551616 (A * B))→Sl .u64 W v2 (wd 18446744073709551616 (C * D))→Calls Tryz.prog 106 #[v1,v2] W fun e w' => e = .returned (.int .i64 r)∧∃ q,w' = W.drewN q):=fun W v1 v2 h1 h2 => by
  rw [unhide hr]
  have l1:=wm A B hla hlb
  have l2:=wm C D hlc hld
  exact natCmp_any v1 v2 _ _ W h1 h2 (by omega) (by omega)
 have zl : ∀ X : Nat,((wd 18446744073709551616 X).length = 0 ↔ X = 0):=fun X => wd_len_zero (by omega) X
 have LP1 : Hid (∀ p K,0 < A→0 < B→Hid (p = prodW A B)→Hid (K = (prodK A B : Int) - 126)→Calls Tryz.prog 162 #[va,vb] w fun e w' => e = .returned (.tuple #[.int .u64 (p : Int),.int .i64 K])∧w' = w):=fun p K h1 h2 h3 h4 => leadingProduct_any va vb A B h1 h2 w ha hb (by omega) (by omega) p K h3 h4
 have LP2 : Hid (∀ p K,0 < C→0 < D→Hid (p = prodW C D)→Hid (K = (prodK C D : Int) - 126)→Calls Tryz.prog 162 #[vc,vd] w fun e w' => e = .returned (.tuple #[.int .u64 (p : Int),.int .i64 K])∧w' = w):=fun p K h1 h2 h3 h4 => leadingProduct_any vc vd C D h1 h2 w hc hd (by omega) (by omega) p K h3 h4
 have ZA:=zl A
 have ZB:=zl B
 have ZC:=zl C
 have ZD:=zl D
 have kl1:=prodK_le A B _ hla hlb
 have kl2:=prodK_le C D _ hlc hld
 obtain ⟨aa,ca,rfl,-,-⟩:=ha
 obtain ⟨ab,cb,rfl,-,-⟩:=hb
 obtain ⟨ac,cc,rfl,-,-⟩:=hc
 obtain ⟨ad,cd,rfl,-,-⟩:=hd
 clear zl wm
 generalize (wd 18446744073709551616 A).length = la at *
 generalize (wd 18446744073709551616 B).length = lb at *
 generalize (wd 18446744073709551616 C).length = lc at *
 generalize (wd 18446744073709551616 D).length = ld at *
 by_cases h0 : la = 0 ∨ lb = 0 ∨ lc = 0 ∨ ld = 0
 ·clear LP1 LP2 kl1 kl2 ZA ZB ZC ZD hr
  by_cases z1 : la = 0
  ·have q1 : ((la : Int) == 0) = true:=beq_iff_eq.2 (by omega)
   clear h0 z1
   go_enter Tryz.func119,Tryz.ntmps119
   go_wp2_with fail
   refine (unhide M1 _ (But.refl _ _)).mono ?_
   rintro e w1 ⟨v1,rfl,hv1,hb1,-⟩
   have H1:=hide hv1
   have B1:=hide hb1
   clear hv1 hb1
   go_wp2_with fail
   refine (unhide M2 _ (unhide B1)).mono ?_
   rintro e w2 ⟨v2,rfl,hv2,hb2,-⟩
   have H2:=hide hv2
   have H1':=hide ((unhide H1).but_nil hb2)
   have B2 : Hid (But [] w w2):=(unhide B1).trans' hb2
   clear hv2 hb2 H1
   go_wp2_with fail
   refine (unhide CM _ _ _ (unhide H1') (unhide H2)).mono ?_
   rintro e w3 ⟨rfl,q,rfl⟩
   go_wp2
   go_ret
   exact ⟨rfl,(unhide B2).drewN q⟩
  ·have q1 : ((la : Int) == 0) = false:=beq_eq_false_iff_ne.2 (by omega)
   by_cases z2 : lb = 0
   ·have q2 : ((lb : Int) == 0) = true:=beq_iff_eq.2 (by omega)
    clear h0 z2
    go_enter Tryz.func119,Tryz.ntmps119
    go_wp2_with fail
    refine (unhide M1 _ (But.refl _ _)).mono ?_
    rintro e w1 ⟨v1,rfl,hv1,hb1,-⟩
    have H1:=hide hv1
    have B1:=hide hb1
    clear hv1 hb1
    go_wp2_with fail
    refine (unhide M2 _ (unhide B1)).mono ?_
    rintro e w2 ⟨v2,rfl,hv2,hb2,-⟩
    have H2:=hide hv2
    have H1':=hide ((unhide H1).but_nil hb2)
    have B2 : Hid (But [] w w2):=(unhide B1).trans' hb2
    clear hv2 hb2 H1
    go_wp2_with fail
    refine (unhide CM _ _ _ (unhide H1') (unhide H2)).mono ?_
    rintro e w3 ⟨rfl,q,rfl⟩
    go_wp2
    go_ret
    exact ⟨rfl,(unhide B2).drewN q⟩
   ·have q2 : ((lb : Int) == 0) = false:=beq_eq_false_iff_ne.2 (by omega)
    by_cases z3 : lc = 0
    ·have q3 : ((lc : Int) == 0) = true:=beq_iff_eq.2 (by omega)
     clear h0 z3
     go_enter Tryz.func119,Tryz.ntmps119
     go_wp2_with fail
     refine (unhide M1 _ (But.refl _ _)).mono ?_
     rintro e w1 ⟨v1,rfl,hv1,hb1,-⟩
     have H1:=hide hv1
     have B1:=hide hb1
     clear hv1 hb1
     go_wp2_with fail
     refine (unhide M2 _ (unhide B1)).mono ?_
     rintro e w2 ⟨v2,rfl,hv2,hb2,-⟩
     have H2:=hide hv2
     have H1':=hide ((unhide H1).but_nil hb2)
     have B2 : Hid (But [] w w2):=(unhide B1).trans' hb2
     clear hv2 hb2 H1
     go_wp2_with fail
     refine (unhide CM _ _ _ (unhide H1') (unhide H2)).mono ?_
     rintro e w3 ⟨rfl,q,rfl⟩
     go_wp2
     go_ret
     exact ⟨rfl,(unhide B2).drewN q⟩
    ·have q3 : ((lc : Int) == 0) = false:=beq_eq_false_iff_ne.2 (by omega)
     have q4 : ((ld : Int) == 0) = true:=beq_iff_eq.2 (by omega)
     clear h0
     go_enter Tryz.func119,Tryz.ntmps119
     go_wp2_with fail
     refine (unhide M1 _ (But.refl _ _)).mono ?_
     rintro e w1 ⟨v1,rfl,hv1,hb1,-⟩
     have H1:=hide hv1
     have B1:=hide hb1
     clear hv1 hb1
     go_wp2_with fail
     refine (unhide M2 _ (unhide B1)).mono ?_
     rintro e w2 ⟨v2,rfl,hv2,hb2,-⟩
     have H2:=hide hv2
     have H1':=hide ((unhide H1).but_nil hb2)
     have B2 : Hid (But [] w w2):=(unhide B1).trans' hb2
     clear hv2 hb2 H1
     go_wp2_with fail
     refine (unhide CM _ _ _ (unhide H1') (unhide H2)).mono ?_
     rintro e w3 ⟨rfl,q,rfl⟩
     go_wp2
     go_ret
     exact ⟨rfl,(unhide B2).drewN q⟩
 ·have hA : 0 < A:=by omega
  have hB : 0 < B:=by omega
  have hC : 0 < C:=by omega
  have hD : 0 < D:=by omega
  have P1:=prod_ok A B hA hB
  have P2:=prod_ok C D hC hD
  have x1:=P1.hi
  have x2:=P2.hi
  have FAR1:=hide (fun h => leadP_far P1 P2 h)
  have FAR2:=hide (fun h => leadP_far P2 P1 h)
  have NEAR1 : Hid (prodK A B = prodK C D→prodW C D + 8 ≤ prodW A B→C * D < A * B):=fun e h => leadP_near P1 (e ▸ P2) h
  have NEAR2 : Hid (prodK A B = prodK C D→prodW A B + 8 ≤ prodW C D→A * B < C * D):=fun e h => leadP_near P2 (e ▸ P1) h
  have L1:=hide (unhide LP1 (prodW A B) ((prodK A B : Int) - 126) hA hB rfl rfl)
  have L2:=hide (unhide LP2 (prodW C D) ((prodK C D : Int) - 126) hC hD rfl rfl)
  have nz1 : ((la : Int) == 0) = false:=beq_eq_false_iff_ne.2 (by omega)
  have nz2 : ((lb : Int) == 0) = false:=beq_eq_false_iff_ne.2 (by omega)
  have nz3 : ((lc : Int) == 0) = false:=beq_eq_false_iff_ne.2 (by omega)
  have nz4 : ((ld : Int) == 0) = false:=beq_eq_false_iff_ne.2 (by omega)
  clear LP1 LP2 P1 P2 ZA ZB ZC ZD
  generalize prodW A B = x at *
  generalize prodW C D = y at *
  generalize prodK A B = n at *
  generalize prodK C D = m at *
  obtain ⟨N,hN⟩ : ∃ N,N = (n : Int) - 126:=⟨_,rfl⟩
  obtain ⟨M,hM⟩ : ∃ M,M = (m : Int) - 126:=⟨_,rfl⟩
  rw [← hN] at L1
  rw [← hM] at L2
  have F1 : Hid (M + 1 < N→C * D < A * B):=fun h => unhide FAR1 (by omega)
  have F2 : Hid (N + 1 < M→A * B < C * D):=fun h => unhide FAR2 (by omega)
  have G1 : Hid (N = M→y + 8 ≤ x→C * D < A * B):=fun h h2 => unhide NEAR1 (by omega) h2
  have G2 : Hid (N = M→x + 8 ≤ y→A * B < C * D):=fun h h2 => unhide NEAR2 (by omega) h2
  have n1 : -126 ≤ N:=by omega
  have n2 : N ≤ 4294967424:=by omega
  have m1 : -126 ≤ M:=by omega
  have m2 : M ≤ 4294967424:=by omega
  clear FAR1 FAR2 NEAR1 NEAR2 hN hM kl1 kl2 h0
  by_cases c1 : M + 1 < N
  ·have ER : Hid (r = 1):=by show _ = _; rw [unhide hr,cmpN_one (unhide F1 c1)]
   clear hr F1 F2 G1 G2
   have d1 : decide (M + 1 < N) = true:=decide_eq_true c1
   go_enter Tryz.func119,Tryz.ntmps119
   go_wp2_with fail
   refine (unhide L1).mono ?_
   rintro e w1 ⟨rfl,hw⟩
   obtain rfl:=hw.symm
   clear hw
   go_wp2_with fail
   refine (unhide L2).mono ?_
   rintro e w1 ⟨rfl,hw⟩
   obtain rfl:=hw.symm
   clear hw
   go_wp2
   go_ret
   exact ⟨by rw [unhide ER]; rfl,But.refl _ _⟩
  ·have d1 : decide (M + 1 < N) = false:=decide_eq_false c1
   by_cases c2 : N = M
   ·have d2 : (N == M) = true:=beq_iff_eq.2 c2
    have c3 : ¬ (N + 1 < M):=by omega
    have d3 : decide (N + 1 < M) = false:=decide_eq_false c3
    rcases Nat.lt_trichotomy x y with hxy | hxy | hxy
    ·have d4 : decide ((y : Int) < (x : Int)) = false:=decide_eq_false (by omega)
     have d5 : decide ((x : Int) < (y : Int)) = true:=decide_eq_true (by omega)
     have d7 : IntKind.u64.wrap ((y : Int) - (x : Int)) = (y : Int) - (x : Int):=by rw [IntKind.wrap_u64]; omega
     by_cases c4 : x + 8 ≤ y
     ·have ER : Hid (r = -1):=by show _ = _; rw [unhide hr,cmpN_lt (unhide G2 c2 c4)]
      clear hr F1 F2 G1 G2
      have d6 : decide (8 ≤ (y : Int) - (x : Int)) = true:=decide_eq_true (by omega)
      go_enter Tryz.func119,Tryz.ntmps119
      go_wp2_with fail
      refine (unhide L1).mono ?_
      rintro e w1 ⟨rfl,hw⟩
      obtain rfl:=hw.symm
      clear hw
      go_wp2_with fail
      refine (unhide L2).mono ?_
      rintro e w1 ⟨rfl,hw⟩
      obtain rfl:=hw.symm
      clear hw
      go_wp2
      go_ret
      exact ⟨by rw [unhide ER]; rfl,But.refl _ _⟩
     ·have d6 : decide (8 ≤ (y : Int) - (x : Int)) = false:=decide_eq_false (by omega)
      clear hr F1 F2 G1 G2
      go_enter Tryz.func119,Tryz.ntmps119
      go_wp2_with fail
      refine (unhide L1).mono ?_
      rintro e w1 ⟨rfl,hw⟩
      obtain rfl:=hw.symm
      clear hw
      go_wp2_with fail
      refine (unhide L2).mono ?_
      rintro e w1 ⟨rfl,hw⟩
      obtain rfl:=hw.symm
      clear hw
      go_wp2_with fail
      refine (unhide M1 _ (But.refl _ _)).mono ?_
      rintro e w1 ⟨v1,rfl,hv1,hb1,-⟩
      have H1:=hide hv1
      have B1:=hide hb1
      clear hv1 hb1
      go_wp2_with fail
      refine (unhide M2 _ (unhide B1)).mono ?_
      rintro e w2 ⟨v2,rfl,hv2,hb2,-⟩
      have H2:=hide hv2
      have H1':=hide ((unhide H1).but_nil hb2)
      have B2 : Hid (But [] w w2):=(unhide B1).trans' hb2
      clear hv2 hb2 H1
      go_wp2_with fail
      refine (unhide CM _ _ _ (unhide H1') (unhide H2)).mono ?_
      rintro e w3 ⟨rfl,q,rfl⟩
      go_wp2
      go_ret
      exact ⟨rfl,(unhide B2).drewN q⟩
    ·have d4 : decide ((y : Int) < (x : Int)) = false:=decide_eq_false (by omega)
     have d5 : decide ((x : Int) < (y : Int)) = false:=decide_eq_false (by omega)
     clear hr F1 F2 G1 G2
     go_enter Tryz.func119,Tryz.ntmps119
     go_wp2_with fail
     refine (unhide L1).mono ?_
     rintro e w1 ⟨rfl,hw⟩
     obtain rfl:=hw.symm
     clear hw
     go_wp2_with fail
     refine (unhide L2).mono ?_
     rintro e w1 ⟨rfl,hw⟩
     obtain rfl:=hw.symm
     clear hw
     go_wp2_with fail
     refine (unhide M1 _ (But.refl _ _)).mono ?_
     rintro e w1 ⟨v1,rfl,hv1,hb1,-⟩
     have H1:=hide hv1
     have B1:=hide hb1
     clear hv1 hb1
     go_wp2_with fail
     refine (unhide M2 _ (unhide B1)).mono ?_
     rintro e w2 ⟨v2,rfl,hv2,hb2,-⟩
     have H2:=hide hv2
     have H1':=hide ((unhide H1).but_nil hb2)
     have B2 : Hid (But [] w w2):=(unhide B1).trans' hb2
     clear hv2 hb2 H1
     go_wp2_with fail
     refine (unhide CM _ _ _ (unhide H1') (unhide H2)).mono ?_
     rintro e w3 ⟨rfl,q,rfl⟩
     go_wp2
     go_ret
     exact ⟨rfl,(unhide B2).drewN q⟩
    ·have d4 : decide ((y : Int) < (x : Int)) = true:=decide_eq_true (by omega)
     have d5 : decide ((x : Int) < (y : Int)) = false:=decide_eq_false (by omega)
     have d7 : IntKind.u64.wrap ((x : Int) - (y : Int)) = (x : Int) - (y : Int):=by rw [IntKind.wrap_u64]; omega
     by_cases c4 : y + 8 ≤ x
     ·have ER : Hid (r = 1):=by show _ = _; rw [unhide hr,cmpN_one (unhide G1 c2 c4)]
      clear hr F1 F2 G1 G2
      have d6 : decide (8 ≤ (x : Int) - (y : Int)) = true:=decide_eq_true (by omega)
      go_enter Tryz.func119,Tryz.ntmps119
      go_wp2_with fail
      refine (unhide L1).mono ?_
      rintro e w1 ⟨rfl,hw⟩
      obtain rfl:=hw.symm
      clear hw
      go_wp2_with fail
      refine (unhide L2).mono ?_
      rintro e w1 ⟨rfl,hw⟩
      obtain rfl:=hw.symm
      clear hw
      go_wp2
      go_ret
      exact ⟨by rw [unhide ER]; rfl,But.refl _ _⟩
     ·have d6 : decide (8 ≤ (x : Int) - (y : Int)) = false:=decide_eq_false (by omega)
      clear hr F1 F2 G1 G2
      go_enter Tryz.func119,Tryz.ntmps119
      go_wp2_with fail
      refine (unhide L1).mono ?_
      rintro e w1 ⟨rfl,hw⟩
      obtain rfl:=hw.symm
      clear hw
      go_wp2_with fail
      refine (unhide L2).mono ?_
      rintro e w1 ⟨rfl,hw⟩
      obtain rfl:=hw.symm
      clear hw
      go_wp2_with fail
      refine (unhide M1 _ (But.refl _ _)).mono ?_
      rintro e w1 ⟨v1,rfl,hv1,hb1,-⟩
      have H1:=hide hv1
      have B1:=hide hb1
      clear hv1 hb1
      go_wp2_with fail
      refine (unhide M2 _ (unhide B1)).mono ?_
      rintro e w2 ⟨v2,rfl,hv2,hb2,-⟩
      have H2:=hide hv2
      have H1':=hide ((unhide H1).but_nil hb2)
      have B2 : Hid (But [] w w2):=(unhide B1).trans' hb2
      clear hv2 hb2 H1
      go_wp2_with fail
      refine (unhide CM _ _ _ (unhide H1') (unhide H2)).mono ?_
      rintro e w3 ⟨rfl,q,rfl⟩
      go_wp2
      go_ret
      exact ⟨rfl,(unhide B2).drewN q⟩
   ·have d2 : (N == M) = false:=beq_eq_false_iff_ne.2 c2
    by_cases c3 : N + 1 < M
    ·have ER : Hid (r = -1):=by show _ = _; rw [unhide hr,cmpN_lt (unhide F2 c3)]
     clear hr F1 F2 G1 G2
     have d3 : decide (N + 1 < M) = true:=decide_eq_true c3
     go_enter Tryz.func119,Tryz.ntmps119
     go_wp2_with fail
     refine (unhide L1).mono ?_
     rintro e w1 ⟨rfl,hw⟩
     obtain rfl:=hw.symm
     clear hw
     go_wp2_with fail
     refine (unhide L2).mono ?_
     rintro e w1 ⟨rfl,hw⟩
     obtain rfl:=hw.symm
     clear hw
     go_wp2
     go_ret
     exact ⟨by rw [unhide ER]; rfl,But.refl _ _⟩
    ·have d3 : decide (N + 1 < M) = false:=decide_eq_false c3
     clear hr F1 F2 G1 G2
     go_enter Tryz.func119,Tryz.ntmps119
     go_wp2_with fail
     refine (unhide L1).mono ?_
     rintro e w1 ⟨rfl,hw⟩
     obtain rfl:=hw.symm
     clear hw
     go_wp2_with fail
     refine (unhide L2).mono ?_
     rintro e w1 ⟨rfl,hw⟩
     obtain rfl:=hw.symm
     clear hw
     go_wp2_with fail
     refine (unhide M1 _ (But.refl _ _)).mono ?_
     rintro e w1 ⟨v1,rfl,hv1,hb1,-⟩
     have H1:=hide hv1
     have B1:=hide hb1
     clear hv1 hb1
     go_wp2_with fail
     refine (unhide M2 _ (unhide B1)).mono ?_
     rintro e w2 ⟨v2,rfl,hv2,hb2,-⟩
     have H2:=hide hv2
     have H1':=hide ((unhide H1).but_nil hb2)
     have B2 : Hid (But [] w w2):=(unhide B1).trans' hb2
     clear hv2 hb2 H1
     go_wp2_with fail
     refine (unhide CM _ _ _ (unhide H1') (unhide H2)).mono ?_
     rintro e w3 ⟨rfl,q,rfl⟩
     go_wp2
     go_ret
     exact ⟨rfl,(unhide B2).drewN q⟩
end Go.Proofs.YtjbboicccddhbaaGreatDoor

namespace Go.Proofs.YtjbboicccddhbaaGreatDoor
open Go.RowKit

theorem region_skip {P : Program} {id : Nat} {ops : Array Oper} {Q : Exit→Act→World→Prop} {base : Act} {W0 : World} (hm : P.follows .mixedOrders = true)
  (hlow : ∀ i o,ops[i]? = some o→∀ e ∈ o.after,Region.binds .any e = true→e.on < i)
  (C : Nat→World→Value→Prop) (T : Nat→Nat) (hpl : plainOps ops T = true) (sk : Nat→Bool)
  (hgd : ∀ (i : Nat) (o : Oper) (j : Nat) (want : Bool),ops[i]? = some o→o.guard = some (j,want)→∀ w v,C j w v→v = .bool (if sk i then !want else want))
  (hsk : ∀ (i : Nat) (o : Oper),ops[i]? = some o→sk i = true→o.guard ≠ none) (hCs : ∀ i w,sk i = true→C i w undef)
  (hinj : ∀ i j,i < ops.size→j < ops.size→T i = T j→i = j) (hT : ∀ i,i < ops.size→T i < base.tmps.size) (hC : ∀ i w w' v,i < ops.size→C i w v→But [] w w'→C i w' v)
  (hstep : ∀ (i : Nat) (o : Oper) (a : Act) (w : World) (K : Act→World→Prop),sk i = false→ops[i]? = some o→But [] W0.drew w→(∀ t,(∀ j,j < ops.size→t = T j→∃ oj,ops[j]? = some oj∧∃ e ∈ oj.after,Region.binds .any e = true∧e.on = i)→a.eval (.tmp t) = base.eval (.tmp t))→(∀ e ∈ o.after,Region.binds .any e = true→C e.on w (a.eval (.tmp (T e.on))))→(∀ v w',But [] w w'→C i w' v→K (a.put o.dst v) w')→o.wp P a w K Q)
  (hend : ∀ a w,Run W0.drew ops base C T (fun _ => true) a w→Q .normal a w) :
  (Code.region id ops true).wp P Q base W0:=by
 have hp:=plain_of hpl
 refine region_inv hm hlow (fun d a w => Run W0.drew ops base C T d a w) ?_ ?_ ?_
 ·exact ⟨fun _ _ _ h => by simp at h,But.refl _ _,rfl,rfl,fun _ _ => rfl,fun _ _ h => by simp at h⟩
 ·intro d a w hd h
  refine hend a w ⟨fun _ _ _ _ _ _ _ => rfl,h.but,h.size,h.defers,fun t ht => h.rest t (fun j hj _ => ht j hj rfl),fun i hi _ => h.has i hi (hd i hi)⟩
 ·intro d i o a w ho hdi hdep h
  have hi : i < ops.size:=(Array.getElem?_eq_some_iff.1 ho).1
  obtain ⟨hdst,hg⟩:=hp i o ho
  have hw : Region.wanted o (yielded ops a.tmps) = !sk i:=by
   unfold Region.wanted
   cases hgo : o.guard with
   | none =>
    have : sk i = false:=by
     cases e : sk i with
     | false => rfl
     | true => exact absurd hgo (hsk i o ho e)
    rw [this]; rfl
   | some jw =>
    obtain ⟨j,want⟩:=jw
    obtain ⟨hj,e,he,hbi,hon⟩:=hg j want hgo
    have hdj : d j = true:=by rw [← hon]; exact hdep e he hbi
    have hv:=hgd i o j want ho hgo w _ (h.has j hj hdj)
    have hoj:=Array.getElem?_eq_getElem hj
    have hdj2:=(hp j _ hoj).1
    have hsl:=slot_is hv (by rw [h.size]; exact hT j hj)
    show (yielded ops a.tmps j == some want) = !sk i
    unfold yielded
    rw [hoj,Option.bind_some,hdj2,Option.bind_some,hsl]
    cases sk i <;> cases want <;> rfl
  unfold wpOp
  by_cases es : sk i = true
  ·rw [es] at hw
   simp only [ho,hw,Bool.not_true,Bool.false_eq_true,if_false]
   rw [hdst]
   exact h.next hinj hT hC i o ho hdep undef w (But.refl _ _) (hCs i w es)
  ·have es' : sk i = false:=by simpa using es
   rw [es'] at hw
   simp only [ho,hw,Bool.not_false,if_true]
   refine .inl (hstep i o a w _ es' ho h.but (fun t ht => h.eval t (fun j hj hd e => ?_)) (fun e he hb => h.has _ (by have:=hlow i o ho e he hb; omega) (hdep e he hb)) (fun v w' hb hv => ?_))
   ·obtain ⟨oj,hoj,ed,hed,hbi,hon⟩:=ht j hj e
    have:=h.down j oj hoj hd ed hed hbi
    rw [hon,hdi] at this
    simp at this
   ·rw [hdst]
    exact h.next hinj hT hC i o ho hdep v w' hb hv
end Go.Proofs.YtjbboicccddhbaaGreatDoor

namespace Go.Proofs.YtjbboicccddhbaaGreatDoor
open Go.RowKit
set_option linter.unusedVariables false

theorem run_loadS (a : Act) (w : World) (d t : Nat) (u : TypeId) (ps : String) (ed : Array Edge) (gd : Option (Nat × Bool)) (b : Nat) (s : ByteArray) (h1 : a.eval (.tmp t) = .pointer (some ⟨b,0,none⟩)) (hc : w.cell? ⟨b,0,none⟩ = some (.string s)) :
  (execOp a.eval { dst:=some d,op:=Op.load 9 (.tmp t),type:=u,pos:=ps,after:=ed,guard:=gd }).run Tryz.prog w = .ok (.value (.string s)) w:=by
 unfold execOp
 simp only [h1]
 go_simp
theorem run_asC (a : Act) (w : World) (d : Nat) (u : TypeId) (ps : String) (ed : Array Edge) (gd : Option (Nat × Bool)) (v : Value) :
  (execOp a.eval { dst:=some d,op:=Op.assign (.const v),type:=u,pos:=ps,after:=ed,guard:=gd }).run Tryz.prog w = .ok (.value v) w:=by
 unfold execOp
 go_simp
def opTi0 : Oper:={ dst:=some 7,op:=Op.load 9 (Operand.tmp 1),type := 9,pos := "lines.go:13",after:=#[{ on:=1,ground:=Ground.gcOnly Departure.lateStores }],guard:=none }
def opTi1 : Oper:={ dst:=some 3,op:=Op.assign (Operand.const (Value.int IntKind.i64 0)),type := 3,pos := "lines.go:13",after:=#[{ on:=0,ground:=Ground.textOnly Departure.lateStores }],guard:=none }
def opTi2 : Oper:={ dst:=some 4,op:=Op.assign (Operand.tmp 7),type := 9,pos := "lines.go:13",after:=#[{ on:=0,ground:=Ground.data },{ on:=1,ground:=Ground.chain },{ on:=0,ground:=Ground.phase },{ on:=1,ground:=Ground.phase }],guard:=none }
def opTis : Array Oper:=#[opTi0,opTi1,opTi2]
def opTiT (i : Nat) : Nat:=match i with
 | 0 => 7
 | 1 => 3
 | _ => 4
/-- what each operation's value is -/
def opTiC (t : ByteArray) (i : Nat) (_w : World) (v : Value) : Prop:=match i with
 | 0 => v = .string t
 | 1 => v = .int .i64 0
 | _ => v = .string t
theorem opTiC_but {t : ByteArray} {i : Nat} {w w' : World} {v : Value} (h : opTiC t i w v) (hi : i < 3) (hb : But [] w w') : opTiC t i w' v:=by
 have : i = 0 ∨ i = 1 ∨ i = 2:=by omega
 rcases this with rfl | rfl | rfl
 all_goals first | exact h | exact FracAt.but h hb | exact FracsAt.but h hb
theorem opTiT_inj : ∀ i j,i < 3→j < 3→opTiT i = opTiT j→i = j:=fun i j hi hj => (by decide : ∀ i,i < 3→∀ j,j < 3→opTiT i = opTiT j→i = j) i hi j hj
set_option maxRecDepth 100000 in
theorem lines_region0 (id : Nat) (Q : Exit→Act→World→Prop) (base : Act) (W0 : World) (t : ByteArray) (hs : 7 < base.tmps.size) (g1 : Nat) (e1 : base.eval (.tmp 1) = .pointer (some ⟨g1,0,none⟩))
  (ct : W0.cell? ⟨g1,0,none⟩ = some (.string t))
  (hQ : ∀ w,But [] W0 w→Q .normal (putted base [(7,.string t),(3,.int .i64 0),(4,.string t)]) w) :
  (Code.region id opTis true).wp Tryz.prog Q base W0:=by
 have hdr : ∀ {w},But [] W0.drew w→But [] W0 w:=fun h => (But.refl _ _).drew.trans' h
 have hT : ∀ i,i < 3→opTiT i < base.tmps.size:=fun i hi => by
  have h : opTiT i ≤ 7:=by revert i; decide
  omega
 refine region_go (by kernel_rfl) (low_of (by kernel_rfl)) (opTiC t) opTiT (by kernel_rfl) ?_ opTiT_inj hT (fun i w w' v hi h hb => opTiC_but h hi hb) ?_ ?_
 ·intro i o j want ho hg w v hv
  have hi : i < 3:=(Array.getElem?_eq_some_iff.1 ho).1
  have : i = 0 ∨ i = 1 ∨ i = 2:=by omega
  rcases this with rfl | rfl | rfl
  ·obtain rfl:=Option.some.inj ((show opTis[0]? = some opTi0 from rfl).symm.trans ho)
   exact absurd (show (none : Option (Nat × Bool)) = some (j,want) from hg) (by simp)
  ·obtain rfl:=Option.some.inj ((show opTis[1]? = some opTi1 from rfl).symm.trans ho)
   exact absurd (show (none : Option (Nat × Bool)) = some (j,want) from hg) (by simp)
  ·obtain rfl:=Option.some.inj ((show opTis[2]? = some opTi2 from rfl).symm.trans ho)
   exact absurd (show (none : Option (Nat × Bool)) = some (j,want) from hg) (by simp)
 ·intro i o a w K ho hH he hdep hk
  have hi : i < 3:=(Array.getElem?_eq_some_iff.1 ho).1
  have hD:=dep_have (ps:=[(2,0),(2,1)]) (by kernel_rfl) ho (fun j => opTiC t j w (a.eval (.tmp (opTiT j)))) hdep
  have e1':=(he 1 (fun j hj e => absurd e.symm (by revert j; decide))).trans e1
  have : i = 0 ∨ i = 1 ∨ i = 2:=by omega
  rcases this with rfl | rfl | rfl
  ·obtain rfl:=Option.some.inj ((show opTis[0]? = some opTi0 from rfl).symm.trans ho)
   exact wp_value (run_loadS a w _ _ _ _ _ _ g1 t e1' ((hdr hH).cell_some ct (by simp))) (hk _ _ (But.refl _ _) rfl)
  ·obtain rfl:=Option.some.inj ((show opTis[1]? = some opTi1 from rfl).symm.trans ho)
   exact wp_value (run_asC a w _ _ _ _ _ _) (hk _ _ (But.refl _ _) rfl)
  ·obtain rfl:=Option.some.inj ((show opTis[2]? = some opTi2 from rfl).symm.trans ho)
   exact wp_value (run_asK a w _ _ _ _ _ _ _ (hD 0 (by simp))) (hk _ _ (But.refl _ _) rfl)
 ·intro a w h
  have ea:=h.puts hT (fun i => match i with
   | 0 => .string t
   | 1 => .int .i64 0
   | _ => .string t) (fun i hi => by
   have hi' : i < 3:=hi
   have hc:=h.has i hi rfl
   have : i = 0 ∨ i = 1 ∨ i = 2:=by omega
   rcases this with rfl | rfl | rfl
   all_goals first | exact hc | rfl)
  rw [ea]
  exact hQ w (hdr h.but)
end Go.Proofs.YtjbboicccddhbaaGreatDoor
