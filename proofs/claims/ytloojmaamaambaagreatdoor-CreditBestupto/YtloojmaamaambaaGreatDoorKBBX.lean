/- Single operations, boxes that hold fractions, and what stays where blocks turn that hold no cells. -/
import Derived.Test.YtloojmaamaambaaGreatDoorKBF4
namespace Go.Proofs.YtloojmaamaambaaGreatDoor
open Go.RowKit

theorem run_store4 (a : Act) (w : World) (t1 t2 : Nat) (u : TypeId) (ps : String) (ed : Array Edge) (g : Nat) (s : Bool) (x y : Int) (p : Option Addr) {s' : Bool} {x' y' : Int} {p' : Option Addr} (h1 : a.eval (.tmp t1) = .pointer (some ⟨g,0,none⟩)) (h2 : a.eval (.tmp t2) = .agg #[.bool s,.int .u64 x,.int .u64 y,.pointer p]) (hc : P4 w g s' x' y' p') (fz : ∀ j,w.frozen? ⟨g,j,none⟩ = false) :
  (execOp a.eval { dst:=none,op:=Op.store 29 (.tmp t1) (.tmp t2),type:=u,pos:=ps,after:=ed,guard:=none }).run Tryz.prog w = .ok .skip ((((w.setCell ⟨g,0,none⟩ (.bool s)).setCell ⟨g,1,none⟩ (.int .u64 x)).setCell ⟨g,2,none⟩ (.int .u64 y)).setCell ⟨g,3,none⟩ (.pointer p)):=by
 obtain ⟨c0,c1,c2,c3⟩:=hc
 unfold execOp
 simp only [h1,h2]
 go_simp
/-- four cells written, at a block -/
def put4 (w : World) (g : Nat) (s : Bool) (x y : Int) (p : Option Addr) : World:=(((w.setCell ⟨g,0,none⟩ (.bool s)).setCell ⟨g,1,none⟩ (.int .u64 x)).setCell ⟨g,2,none⟩ (.int .u64 y)).setCell ⟨g,3,none⟩ (.pointer p)
theorem put4_but (w : World) (g : Nat) (s : Bool) (x y : Int) (p : Option Addr) : But [g] w (put4 w g s x y p):=(((((But.refl [g] w).setCell (.inl (by simp)) _).setCell (.inl (by simp)) _).setCell (.inl (by simp)) _).setCell (.inl (by simp)) _)
theorem put4_p4 (w : World) (g : Nat) (s : Bool) (x y : Int) (p : Option Addr) {s' : Bool} {x' y' : Int} {p' : Option Addr} (hc : P4 w g s' x' y' p') : P4 (put4 w g s x y p) g s x y p:=by
 obtain ⟨h1,-⟩:=set4_all w g (.bool s) (.int .u64 x) (.int .u64 y) (.pointer p) (by rw [hc.1]; rfl) (by rw [hc.2.1]; rfl) (by rw [hc.2.2.1]; rfl) (by rw [hc.2.2.2]; rfl)
 exact ⟨h1 0 (by omega),h1 1 (by omega),h1 2 (by omega),h1 3 (by omega)⟩
theorem put4_fz (w : World) (g : Nat) (s : Bool) (x y : Int) (p : Option Addr) (b j : Nat) : (put4 w g s x y p).frozen? ⟨b,j,none⟩ = w.frozen? ⟨b,j,none⟩:=by
 unfold put4
 simp only [World.frozen?_setCell]
/-- no operation has a guard, none defers -/
def calmOps (ops : Array Oper) : Bool:=(List.range ops.size).all fun i => match ops[i]? with
 | some o => o.guard.isNone && (match o.op with | .defer _ => false | _ => true)
 | none => true
theorem calm_of {ops : Array Oper} (h : calmOps ops = true) : ∀ (i : Nat) (o : Oper),ops[i]? = some o→o.guard = none∧∀ c,o.op ≠ .defer c:=fun i o ho => by
 have hi : i < ops.size:=(Array.getElem?_eq_some_iff.1 ho).1
 unfold calmOps at h
 rw [List.all_eq_true] at h
 have h1:=h i (List.mem_range.2 hi)
 simp only [ho,Bool.and_eq_true,Option.isNone_iff_eq_none] at h1
 exact ⟨h1.1,fun c e => by rw [e] at h1; simp at h1⟩
theorem dep_have {ops : Array Oper} {ps : List (Nat × Nat)} (h : depOps ops ps = true) {i : Nat} {o : Oper} (ho : ops[i]? = some o) (R : Nat→Prop) (hdep : ∀ e ∈ o.after,Region.binds .any e = true→R e.on) (j : Nat) (hij : (i,j) ∈ ps) : R j:=by
 obtain ⟨o',ho',ed,hed,hbi,rfl⟩:=dep_of h i j hij
 rw [ho] at ho'
 obtain rfl:=Option.some.inj ho'
 exact hdep ed hed hbi
/-- a box that holds a fraction, and may be written -/
def BoxAt (w : World) (g : Nat) (f : Rat) : Prop:=(∃ s x y p,P4 w g s x y p∧FracAt w (.agg #[.bool s,.int .u64 x,.int .u64 y,.pointer p]) f)∧∀ j,w.frozen? ⟨g,j,none⟩ = false
theorem BoxAt.but {A B : World} {g : Nat} {f : Rat} (h : BoxAt A g f) (hb : But [] A B) : BoxAt B g f:=by
 obtain ⟨⟨s,x,y,p,h1,h2⟩,h3⟩:=h
 have hl : g < A.heap.size:=lt_of_cell h1.1
 exact ⟨⟨s,x,y,p,h1.but hb (by simp),h2.but hb⟩,fun j => (hb.frozen (p:=⟨g,j,none⟩) hl (by simp)).trans (h3 j)⟩
theorem BoxAt.beside {A B : World} {g : Nat} {f : Rat} {l : List Nat} (h : BoxAt A g f) (hb : But l A B) (hn : g ∉ l) (hc : ∀ g ∈ l,∃ s,A.cell? ⟨g,0,none⟩ = some (.bool s)) : BoxAt B g f:=by
 obtain ⟨⟨s,x,y,p,h1,h2⟩,h3⟩:=h
 have hl : g < A.heap.size:=lt_of_cell h1.1
 exact ⟨⟨s,x,y,p,h1.but hb hn,h2.beside hb hc⟩,fun j => (hb.frozen (p:=⟨g,j,none⟩) hl hn).trans (h3 j)⟩
theorem BoxAt.put {w : World} {g : Nat} {f f' : Rat} (h : BoxAt w g f) {s : Bool} {x y : Int} {p : Option Addr} (hf : FracAt w (.agg #[.bool s,.int .u64 x,.int .u64 y,.pointer p]) f') : BoxAt (put4 w g s x y p) g f':=by
 obtain ⟨⟨s0,x0,y0,p0,h1,h2⟩,h3⟩:=h
 exact ⟨⟨s,x,y,p,put4_p4 w g s x y p h1,hf.over h1.1 (put4_but w g s x y p)⟩,fun j => (put4_fz w g s x y p g j).trans (h3 j)⟩
theorem BoxAt.new (w : World) (s : Bool) (x y : Int) (p : Option Addr) (f : Rat) (t : TypeId) (h : FracAt w (.agg #[.bool s,.int .u64 x,.int .u64 y,.pointer p]) f) : BoxAt (w.alloc (.cells #[.bool s,.int .u64 x,.int .u64 y,.pointer p] t)) w.heap.size f :=
 ⟨⟨s,x,y,p,⟨by simp,by simp,by simp,by simp⟩,h.but ((But.refl _ _).alloc _)⟩,fun j => by simp⟩
theorem BoxAt.lt {w : World} {g : Nat} {f : Rat} (h : BoxAt w g f) : g < w.heap.size:=by
 obtain ⟨⟨s,x,y,p,h1,-⟩,-⟩:=h
 exact lt_of_cell h1.1
theorem BoxAt.bool {w : World} {g : Nat} {f : Rat} (h : BoxAt w g f) : ∃ s,w.cell? ⟨g,0,none⟩ = some (.bool s):=by
 obtain ⟨⟨s,x,y,p,h1,-⟩,-⟩:=h
 exact ⟨s,h1.1⟩
theorem FracsAt.get {w : World} {b off n cap : Nat} {fs : List Rat} (h : FracsAt w (.slice (some ⟨b,off,none⟩) n cap) fs) (i : Nat) (hi : i < n) : ∃ s x y p,P4o w b (off + i * 4) s x y p∧FracAt w (.agg #[.bool s,.int .u64 x,.int .u64 y,.pointer p]) (fs[i]?.getD 0):=by
 obtain ⟨a,cap',e,-,h⟩:=h
 simp only [Value.slice.injEq] at e
 obtain ⟨rfl,rfl,-⟩:=e
 obtain ⟨b',off',e2,s,x,y,p,h1,h2⟩:=h i fs[i] (List.getElem?_eq_getElem hi)
 simp only [Option.some.injEq,Addr.mk.injEq] at e2
 obtain ⟨rfl,rfl,-⟩:=e2
 exact ⟨s,x,y,p,h1,by rw [List.getElem?_eq_getElem hi]; exact h2⟩
/-- a fraction that comes back, in its four parts -/
theorem in_parts {P : Program} {f : FuncId} {args : Array Value} {w : World} {r : Rat} (h : Calls P f args w fun e w' => ∃ v,e = .returned v∧FracAt w' v r∧But [] w w') :
  Calls P f args w fun e w' => ∃ s x y p,e = .returned (.agg #[.bool s,.int .u64 x,.int .u64 y,.pointer p])∧FracAt w' (.agg #[.bool s,.int .u64 x,.int .u64 y,.pointer p]) r∧But [] w w' :=
 h.mono fun e w' ⟨v,he,hv,hb⟩ => by
  obtain ⟨x,y,p,rfl,-⟩:=hv.agg
  exact ⟨_,x,y,p,he,hv,hb⟩
theorem zero_at (w : World) : FracAt w (.agg #[.bool false,.int .u64 0,.int .u64 0,.pointer none]) 0:=.inl ⟨by decide,by decide,rfl⟩
theorem info_frac : ∃ i,Tryz.prog.info? 29 = some i∧i.zero = some (.agg #[.bool false,.int .u64 0,.int .u64 0,.pointer none])∧i.size = 4∧i.bytes = 32:=by
 have h : (Tryz.prog.info? 29).map (fun i => (i.zero,i.size,i.bytes)) = some (some (.agg #[.bool false,.int .u64 0,.int .u64 0,.pointer none]),4,32):=by kernel_rfl
 cases e : Tryz.prog.info? 29 with
 | none => rw [e] at h; simp at h
 | some i =>
  rw [e] at h
  simp only [Option.map_some,Option.some.injEq,Prod.mk.injEq] at h
  exact ⟨i,rfl,h.1,h.2.1,h.2.2⟩
theorem run_makeF (wx : World) (n : Nat) (h : n < 1000000) : (Instr.makeSlice 33 (.int .i64 (n : Int)) (.int .i64 (n : Int))).run Tryz.prog wx = .ok (.slice (some ⟨wx.heap.size,0,none⟩) n n) (wx.alloc (.cells (madeCells #[.bool false,.int .u64 0,.int .u64 0,.pointer none] (n * 4)) 29)):=by
 obtain ⟨ti,hi,hz,hs,hbt⟩:=info_frac
 have hmk:=run_make (P:=Tryz.prog) wx 33 29 ti _ Tryz.underlying33 hi hz .i64 .i64 (n : Int) (n : Int) (by omega) (by omega) (by rw [hbt]; omega) (by omega)
 rw [hs,Int.toNat_natCast] at hmk
 exact hmk
theorem made_four (n o : Nat) (h : o < n * 4) : (madeCells #[Value.bool false,.int .u64 0,.int .u64 0,.pointer none] (n * 4))[o]? = (#[Value.bool false,.int .u64 0,.int .u64 0,.pointer none] : Array Value)[o % 4]?:=by
 unfold madeCells
 rw [Array.getElem?_map,Array.getElem?_eq_getElem (by simpa using h),Array.getElem_range,Option.map_some]
 have : o % 4 = 0 ∨ o % 4 = 1 ∨ o % 4 = 2 ∨ o % 4 = 3:=by omega
 show some ((#[Value.bool false,.int .u64 0,.int .u64 0,.pointer none] : Array Value)[o % 4]!) = _
 rcases this with e | e | e | e <;> (rw [e]; rfl)
end Go.Proofs.YtloojmaamaambaaGreatDoor

namespace Go.Proofs.YtloojmaamaambaaGreatDoor
open Go.RowKit

def Down (ops : Array Oper) (d : Nat→Bool) : Prop:=∀ i o,ops[i]? = some o→d i = true→∀ e ∈ o.after,Region.binds .any e = true→d e.on = true
structure Run (W : World) (ops : Array Oper) (base : Act) (C : Nat→World→Value→Prop) (T : Nat→Nat) (d : Nat→Bool) (a : Act) (w : World) : Prop where
 down : Down ops d
 but : But [] W w
 size : a.tmps.size = base.tmps.size
 defers : a.defers = base.defers
 rest : ∀ t,(∀ j,j < ops.size→d j = true→t ≠ T j)→a.tmps[t]? = base.tmps[t]?
 has : ∀ i,i < ops.size→d i = true→C i w (a.eval (.tmp (T i)))
theorem Run.eval {W : World} {ops : Array Oper} {base : Act} {C : Nat→World→Value→Prop} {T : Nat→Nat} {d : Nat→Bool} {a : Act} {w : World} (h : Run W ops base C T d a w) (t : Nat) (ht : ∀ j,j < ops.size→d j = true→t ≠ T j) : a.eval (.tmp t) = base.eval (.tmp t):=by
 show a.tmps.getD t undef = base.tmps.getD t undef
 simp only [Array.getD_eq_getD_getElem?,h.rest t ht]
theorem Run.next {W : World} {ops : Array Oper} {base : Act} {C : Nat→World→Value→Prop} {T : Nat→Nat} {d : Nat→Bool} {a : Act} {w : World} (h : Run W ops base C T d a w)
  (hinj : ∀ i j,i < ops.size→j < ops.size→T i = T j→i = j) (hT : ∀ i,i < ops.size→T i < base.tmps.size) (hC : ∀ i w w' v,i < ops.size→C i w v→But [] w w'→C i w' v)
  (i : Nat) (o : Oper) (ho : ops[i]? = some o) (hdep : ∀ e ∈ o.after,Region.binds .any e = true→d e.on = true) (v : Value) (w' : World) (hb : But [] w w') (hv : C i w' v) : Run W ops base C T (came d i) (a.put (some (T i)) v) w':=by
 have hi : i < ops.size:=(Array.getElem?_eq_some_iff.1 ho).1
 refine ⟨fun j oj hj hd e he hbi => ?_,h.but.trans' hb,by rw [size_putted]; exact h.size,h.defers,fun t ht => ?_,fun j hj hd => ?_⟩
 ·by_cases e1 : e.on = i
  ·rw [e1]; exact came_self d i
  ·rw [came_ne d e1]
   by_cases e2 : j = i
   ·subst e2
    rw [ho] at hj
    obtain rfl:=Option.some.inj hj
    exact hdep e he hbi
   ·rw [came_ne d e2] at hd
    exact h.down j oj hj hd e he hbi
 ·rw [slot_put,if_neg (fun e => ht i hi (came_self d i) e.symm)]
  exact h.rest t (fun j hj hd => by
   by_cases e : j = i
   ·subst e; exact ht j hj (came_self d j)
   ·exact ht j hj (by rw [came_ne d e]; exact hd))
 ·by_cases e : j = i
  ·subst e
   rw [at_eq a (T j) v (by rw [h.size]; exact hT j hj)]
   exact hv
  ·rw [came_ne d e] at hd
   rw [at_ne a (T i) (T j) v (fun e2 => e (hinj j i hj hi e2))]
   exact hC j w w' _ hj (h.has j hj hd) hb

/-- every operation writes the slot T says; one with a test stands behind it -/
def plainOps (ops : Array Oper) (T : Nat→Nat) : Bool:=(List.range ops.size).all fun i => match ops[i]? with
 | some o => (o.dst == some (T i)) && (match o.guard with | none => true | some (j,_) => decide (j < ops.size) && o.after.any fun e => Region.binds .any e && e.on == j)
 | none => true
theorem plain_of {ops : Array Oper} {T : Nat→Nat} (h : plainOps ops T = true) : ∀ (i : Nat) (o : Oper),ops[i]? = some o→o.dst = some (T i)∧∀ j want,o.guard = some (j,want)→j < ops.size∧∃ e ∈ o.after,Region.binds .any e = true∧e.on = j:=fun i o ho => by
 have hi : i < ops.size:=(Array.getElem?_eq_some_iff.1 ho).1
 unfold plainOps at h
 rw [List.all_eq_true] at h
 have h1:=h i (List.mem_range.2 hi)
 simp only [ho,Bool.and_eq_true,beq_iff_eq] at h1
 refine ⟨h1.1,fun j want hg => ?_⟩
 have h2:=h1.2
 rw [hg] at h2
 simp only [Bool.and_eq_true,decide_eq_true_eq] at h2
 refine ⟨h2.1,?_⟩
 have h3:=h2.2
 rw [Array.any_eq_true] at h3
 obtain ⟨k,hk,h4⟩:=h3
 simp only [Bool.and_eq_true,beq_iff_eq] at h4
 exact ⟨o.after[k],Array.getElem_mem hk,h4.1,h4.2⟩
theorem region_go {P : Program} {id : Nat} {ops : Array Oper} {Q : Exit→Act→World→Prop} {base : Act} {W0 : World} (hm : P.follows .mixedOrders = true)
  (hlow : ∀ i o,ops[i]? = some o→∀ e ∈ o.after,Region.binds .any e = true→e.on < i)
  (C : Nat→World→Value→Prop) (T : Nat→Nat) (hpl : plainOps ops T = true)
  (hgd : ∀ (i : Nat) (o : Oper) (j : Nat) (want : Bool),ops[i]? = some o→o.guard = some (j,want)→∀ w v,C j w v→v = .bool want)
  (hinj : ∀ i j,i < ops.size→j < ops.size→T i = T j→i = j) (hT : ∀ i,i < ops.size→T i < base.tmps.size) (hC : ∀ i w w' v,i < ops.size→C i w v→But [] w w'→C i w' v)
  (hstep : ∀ (i : Nat) (o : Oper) (a : Act) (w : World) (K : Act→World→Prop),ops[i]? = some o→But [] W0.drew w→(∀ t,(∀ j,j < ops.size→t = T j→∃ oj,ops[j]? = some oj∧∃ e ∈ oj.after,Region.binds .any e = true∧e.on = i)→a.eval (.tmp t) = base.eval (.tmp t))→(∀ e ∈ o.after,Region.binds .any e = true→C e.on w (a.eval (.tmp (T e.on))))→(∀ v w',But [] w w'→C i w' v→K (a.put o.dst v) w')→o.wp P a w K Q)
  (hend : ∀ a w,Run W0.drew ops base C T (fun _ => true) a w→Q .normal a w) :
  (Code.region id ops true).wp P Q base W0:=by
 have hp:=plain_of hpl
 refine region_inv hm hlow (fun d a w => Run W0.drew ops base C T d a w) ?_ ?_ ?_
 ·exact ⟨fun _ _ _ h => by simp at h,But.refl _ _,rfl,rfl,fun _ _ => rfl,fun _ _ h => by simp at h⟩
 ·intro d a w hd h
  refine hend a w ⟨fun _ _ _ _ _ _ _ => rfl,h.but,h.size,h.defers,fun t ht => h.rest t (fun j hj _ => ht j hj rfl),fun i hi _ => h.has i hi (hd i hi)⟩
 ·intro d i o a w ho hdi hdep h
  have hi : i < ops.size:=(Array.getElem?_eq_some_iff.1 ho).1
  obtain ⟨hdst,hg⟩:=hp i o ho
  have hw : Region.wanted o (yielded ops a.tmps) = true:=by
   unfold Region.wanted
   cases hgo : o.guard with
   | none => rfl
   | some jw =>
    obtain ⟨j,want⟩:=jw
    obtain ⟨hj,e,he,hbi,hon⟩:=hg j want hgo
    have hdj : d j = true:=by rw [← hon]; exact hdep e he hbi
    have hv:=hgd i o j want ho hgo w _ (h.has j hj hdj)
    have hoj:=Array.getElem?_eq_getElem hj
    have hdj2:=(hp j _ hoj).1
    have hsl:=slot_is hv (by rw [h.size]; exact hT j hj)
    show (yielded ops a.tmps j == some want) = true
    unfold yielded
    rw [hoj,Option.bind_some,hdj2,Option.bind_some,hsl]
    simp
  unfold wpOp
  simp only [ho,hw,if_true]
  refine .inl (hstep i o a w _ ho h.but (fun t ht => h.eval t (fun j hj hd e => ?_)) (fun e he hb => h.has _ (by have:=hlow i o ho e he hb; omega) (hdep e he hb)) (fun v w' hb hv => ?_))
  ·obtain ⟨oj,hoj,ed,hed,hbi,hon⟩:=ht j hj e
   have:=h.down j oj hoj hd ed hed hbi
   rw [hon,hdi] at this
   simp at this
  ·rw [hdst]
   exact h.next hinj hT hC i o ho hdep v w' hb hv
theorem Run.puts {W : World} {ops : Array Oper} {base : Act} {C : Nat→World→Value→Prop} {T : Nat→Nat} {a : Act} {w : World} (h : Run W ops base C T (fun _ => true) a w) (hT : ∀ i,i < ops.size→T i < base.tmps.size) (V : Nat→Value) (hV : ∀ i,i < ops.size→a.eval (.tmp (T i)) = V i) : a = putted base ((List.range ops.size).map fun i => (T i,V i)):=by
 refine putted_eq _ base a h.defers h.size (fun p hp => ?_) (fun t ht => ?_)
 ·obtain ⟨i,hi,rfl⟩:=List.mem_map.1 hp
  have hi':=List.mem_range.1 hi
  exact slot_is (hV i hi') (by rw [h.size]; exact hT i hi')
 ·refine h.rest t (fun j hj _ e => ?_)
  exact ht (T j,V j) (List.mem_map.2 ⟨j,List.mem_range.2 hj,rfl⟩) e
end Go.Proofs.YtloojmaamaambaaGreatDoor

namespace Go.Proofs.YtloojmaamaambaaGreatDoor
open Go.RowKit

theorem run_loadK (a : Act) (w : World) (d t : Nat) (u : TypeId) (ps : String) (ed : Array Edge) (gd : Option (Nat × Bool)) (b o : Nat) (s : Bool) (x y : Int) (p : Option Addr) (h1 : a.eval (.tmp t) = .pointer (some ⟨b,o,none⟩)) (hc : P4o w b o s x y p) :
  (execOp a.eval { dst:=some d,op:=Op.load 29 (.tmp t),type:=u,pos:=ps,after:=ed,guard:=gd }).run Tryz.prog w = .ok (.value (.agg #[.bool s,.int .u64 x,.int .u64 y,.pointer p])) w:=by
 obtain ⟨c0,c1,c2,c3⟩:=hc
 unfold execOp
 simp only [h1]
 go_simp
theorem run_addK (a : Act) (w : World) (d t1 t2 : Nat) (u : TypeId) (ps : String) (ed : Array Edge) (gd : Option (Nat × Bool)) (x1 x2 : Value) (h1 : a.eval (.tmp t1) = x1) (h2 : a.eval (.tmp t2) = x2) :
  (execOp a.eval { dst:=some d,op:=Op.call { callee:=Callee.value (Operand.func 22),args:=#[Operand.tmp t1,Operand.tmp t2],argTypes:=#[29,29] },type:=u,pos:=ps,after:=ed,guard:=gd }).run Tryz.prog w = .ok (.enter 22 #[x1,x2]) w:=by
 unfold execOp
 go_simp
 rw [← h1,← h2]
 simp [Act.eval]
theorem run_mulK (a : Act) (w : World) (d t1 t2 : Nat) (u : TypeId) (ps : String) (ed : Array Edge) (gd : Option (Nat × Bool)) (x1 x2 : Value) (h1 : a.eval (.tmp t1) = x1) (h2 : a.eval (.tmp t2) = x2) :
  (execOp a.eval { dst:=some d,op:=Op.call { callee:=Callee.value (Operand.func 33),args:=#[Operand.tmp t1,Operand.tmp t2],argTypes:=#[29,29] },type:=u,pos:=ps,after:=ed,guard:=gd }).run Tryz.prog w = .ok (.enter 33 #[x1,x2]) w:=by
 unfold execOp
 go_simp
 rw [← h1,← h2]
 simp [Act.eval]
theorem run_cmpK (a : Act) (w : World) (d t1 t2 : Nat) (u : TypeId) (ps : String) (ed : Array Edge) (gd : Option (Nat × Bool)) (x1 x2 : Value) (h1 : a.eval (.tmp t1) = x1) (h2 : a.eval (.tmp t2) = x2) :
  (execOp a.eval { dst:=some d,op:=Op.call { callee:=Callee.value (Operand.func 25),args:=#[Operand.tmp t1,Operand.tmp t2],argTypes:=#[29,29] },type:=u,pos:=ps,after:=ed,guard:=gd }).run Tryz.prog w = .ok (.enter 25 #[x1,x2]) w:=by
 unfold execOp
 go_simp
 rw [← h1,← h2]
 simp [Act.eval]
end Go.Proofs.YtloojmaamaambaaGreatDoor

namespace Go.Proofs.YtloojmaamaambaaGreatDoor
open Go.RowKit

theorem run_oneK (a : Act) (w : World) (d : Nat) (u : TypeId) (ps : String) (ed : Array Edge) (gd : Option (Nat × Bool)) (n : Int) :
  (execOp a.eval { dst:=some d,op:=Op.call { callee:=Callee.value (Operand.func 27),args:=#[Operand.const (Value.int IntKind.i64 n)],argTypes:=#[3] },type:=u,pos:=ps,after:=ed,guard:=gd }).run Tryz.prog w = .ok (.enter 27 #[.int .i64 n]) w:=by
 unfold execOp
 go_simp
theorem run_wholeK (a : Act) (w : World) (d t1 : Nat) (u : TypeId) (ps : String) (ed : Array Edge) (gd : Option (Nat × Bool)) (x1 : Value) (h1 : a.eval (.tmp t1) = x1) :
  (execOp a.eval { dst:=some d,op:=Op.call { callee:=Callee.value (Operand.func 27),args:=#[Operand.tmp t1],argTypes:=#[3] },type:=u,pos:=ps,after:=ed,guard:=gd }).run Tryz.prog w = .ok (.enter 27 #[x1]) w:=by
 unfold execOp
 go_simp
 rw [← h1]
 simp [Act.eval]
theorem run_mvK (a : Act) (w : World) (d t : Nat) (u : TypeId) (ps : String) (ed : Array Edge) (gd : Option (Nat × Bool)) (N : Value) (h : a.eval (.tmp t) = N) :
  (execOp a.eval { dst:=some d,op:=Op.move (.tmp t),type:=u,pos:=ps,after:=ed,guard:=gd }).run Tryz.prog w = .ok (.value N) w:=by
 unfold execOp
 simp only [h]
 go_simp
end Go.Proofs.YtloojmaamaambaaGreatDoor

namespace Go.Proofs.YtloojmaamaambaaGreatDoor
open Go.RowKit

/-- a block of n fractions, of which the first i are told -/
structure Row4 (w : World) (g n i : Nat) (F : Nat→Rat) : Prop where
 blank : ∀ j,i ≤ j→j < n→P4o w g (j * 4) false 0 0 none
 told : ∀ j,j < i→LiesAt w g (j * 4) (F j)
 loose : ∀ o,w.frozen? ⟨g,o,none⟩ = false
theorem Row4.made (w : World) (n : Nat) (F : Nat→Rat) : Row4 (w.alloc (.cells (madeCells #[Value.bool false,.int .u64 0,.int .u64 0,.pointer none] (n * 4)) 29)) w.heap.size n 0 F:=by
 have hc : ∀ j k,j < n→k < 4→(w.alloc (.cells (madeCells #[Value.bool false,.int .u64 0,.int .u64 0,.pointer none] (n * 4)) 29)).cell? ⟨w.heap.size,j * 4 + k,none⟩ = (#[Value.bool false,.int .u64 0,.int .u64 0,.pointer none] : Array Value)[k]?:=fun j k hj hk => by
  rw [World.cell?_alloc_new,made_four n _ (by omega),show (j * 4 + k) % 4 = k from by omega]
 exact ⟨fun j _ hj => ⟨hc j 0 hj (by omega),hc j 1 hj (by omega),hc j 2 hj (by omega),hc j 3 hj (by omega)⟩,fun j hj => by omega,fun o => by simp⟩
theorem Row4.but {w w' : World} {g n i : Nat} {F : Nat→Rat} (h : Row4 w g n i F) (hb : But [] w w') (hg : g < w.heap.size) : Row4 w' g n i F :=
 ⟨fun j h1 h2 => (h.blank j h1 h2).but hb (by simp),fun j hj => (h.told j hj).but hb,fun o => (hb.frozen (p:=⟨g,o,none⟩) hg (by simp)).trans (h.loose o)⟩
theorem Row4.bool {w : World} {g n i : Nat} {F : Nat→Rat} (h : Row4 w g n i F) (h0 : 0 < n) : ∃ s,w.cell? ⟨g,0,none⟩ = some (.bool s):=by
 rcases Nat.eq_zero_or_pos i with e | e
 ·subst e
  have a:=h.blank 0 (Nat.le_refl _) h0
  rw [Nat.zero_mul] at a
  exact ⟨_,a.1⟩
 ·obtain ⟨s,x,y,p,a,-⟩:=h.told 0 e
  rw [Nat.zero_mul] at a
  exact ⟨_,a.1⟩
theorem Row4.next {w : World} {g n i : Nat} {F : Nat→Rat} (h : Row4 w g n i F) (hi : i < n) (s1 : Bool) (x1 y1 : Int) (p1 : Option Addr) (h1 : FracAt w (.agg #[.bool s1,.int .u64 x1,.int .u64 y1,.pointer p1]) (F i)) :
  Row4 (w.setCells g (i * 4) [.bool s1,.int .u64 x1,.int .u64 y1,.pointer p1]) g n (i + 1) F:=by
 obtain ⟨c,hc⟩:=h.bool (by omega)
 have a1:=h.blank i (Nat.le_refl _) hi
 have hb:=but_setCells w g [.bool s1,.int .u64 x1,.int .u64 y1,.pointer p1] (i * 4)
 have some4 : ∀ k,k < 4→(w.cell? ⟨g,i * 4 + k,none⟩).isSome = true:=fun k hk => by
  have : k = 0 ∨ k = 1 ∨ k = 2 ∨ k = 3:=by omega
  rcases this with rfl | rfl | rfl | rfl
  ·rw [show i * 4 + 0 = i * 4 from rfl,a1.1]; rfl
  ·rw [a1.2.1]; rfl
  ·rw [a1.2.2.1]; rfl
  ·rw [a1.2.2.2]; rfl
 have hin : ∀ k (hk : k < 4),(w.setCells g (i * 4) [.bool s1,.int .u64 x1,.int .u64 y1,.pointer p1]).cell? ⟨g,i * 4 + k,none⟩ = some ([Value.bool s1,.int .u64 x1,.int .u64 y1,.pointer p1][k]'hk):=fun k hk =>
  World.cell?_setCells_in g [.bool s1,.int .u64 x1,.int .u64 y1,.pointer p1] (i * 4) w (fun j hj => some4 j hj) k hk
 have hout : ∀ o,o < i * 4 ∨ i * 4 + 4 ≤ o→(w.setCells g (i * 4) [.bool s1,.int .u64 x1,.int .u64 y1,.pointer p1]).cell? ⟨g,o,none⟩ = w.cell? ⟨g,o,none⟩:=fun o ho => World.cell?_setCells_out g _ (i * 4) w _ (fun _ _ => by simp; omega)
 have keep : ∀ o s x y p,o + 4 ≤ i * 4 ∨ i * 4 + 4 ≤ o→P4o w g o s x y p→P4o (w.setCells g (i * 4) [.bool s1,.int .u64 x1,.int .u64 y1,.pointer p1]) g o s x y p:=fun o s x y p ho hp => ⟨(hout o (by omega)).trans hp.1,(hout (o + 1) (by omega)).trans hp.2.1,(hout (o + 2) (by omega)).trans hp.2.2.1,(hout (o + 3) (by omega)).trans hp.2.2.2⟩
 have hfr : ∀ {v f},FracAt w v f→FracAt (w.setCells g (i * 4) [.bool s1,.int .u64 x1,.int .u64 y1,.pointer p1]) v f:=fun hf => hf.over hc hb
 refine ⟨fun j h1 h2 => keep _ _ _ _ _ (by omega) (h.blank j (by omega) h2),fun j hj => ?_,fun o => by rw [World.frozen?_setCells]; exact h.loose o⟩
 by_cases e : j = i
 ·subst e
  exact ⟨s1,x1,y1,p1,⟨hin 0 (by omega),hin 1 (by omega),hin 2 (by omega),hin 3 (by omega)⟩,hfr h1⟩
 ·obtain ⟨t1,u1,v1,q1,b1,f1⟩:=h.told j (by omega)
  exact ⟨t1,u1,v1,q1,keep _ _ _ _ _ (by omega) b1,hfr f1⟩
theorem Row4.fracs {w : World} {g n : Nat} {F : Nat→Rat} (h : Row4 w g n n F) : FracsAt w (.slice (some ⟨g,0,none⟩) n n) ((List.range n).map F) :=
 ⟨some ⟨g,0,none⟩,n,by simp,by simp,fun i f hf => by
  rw [List.getElem?_map] at hf
  by_cases hi : i < n
  ·rw [List.getElem?_range hi] at hf
   simp only [Option.map_some,Option.some.injEq] at hf
   subst hf
   exact ⟨g,0,rfl,by rw [Nat.zero_add]; exact h.told i hi⟩
  ·rw [List.getElem?_eq_none (by simp; omega)] at hf
   simp at hf⟩

end Go.Proofs.YtloojmaamaambaaGreatDoor

namespace Go.Proofs.YtloojmaamaambaaGreatDoor
open Go.RowKit

theorem run_store4o (a : Act) (w : World) (t1 t2 : Nat) (u : TypeId) (ps : String) (ed : Array Edge) (g o : Nat) (s : Bool) (x y : Int) (p : Option Addr) {s' : Bool} {x' y' : Int} {p' : Option Addr} (h1 : a.eval (.tmp t1) = .pointer (some ⟨g,o,none⟩)) (h2 : a.eval (.tmp t2) = .agg #[.bool s,.int .u64 x,.int .u64 y,.pointer p]) (hc : P4o w g o s' x' y' p') (fz : ∀ j,w.frozen? ⟨g,j,none⟩ = false) :
  (execOp a.eval { dst:=none,op:=Op.store 29 (.tmp t1) (.tmp t2),type:=u,pos:=ps,after:=ed,guard:=none }).run Tryz.prog w = .ok .skip (w.setCells g o [.bool s,.int .u64 x,.int .u64 y,.pointer p]):=by
 obtain ⟨c0,c1,c2,c3⟩:=hc
 unfold execOp
 simp only [h1,h2]
 go_simp
 rfl
theorem run_indexK (a : Act) (w : World) (d t1 t2 : Nat) (u : TypeId) (ps : String) (ed : Array Edge) (gd : Option (Nat × Bool)) (b off n c k : Nat) (hk : k < n) (_hn : n < 1000000) (h1 : a.eval (.tmp t1) = .slice (some ⟨b,off,none⟩) n c) (h2 : a.eval (.tmp t2) = .int .i64 (k : Int)) :
  (execOp a.eval { dst:=some d,op:=Op.indexAddr 33 (.tmp t1) (.tmp t2),type:=u,pos:=ps,after:=ed,guard:=gd }).run Tryz.prog w = .ok (.value (.pointer (some ⟨b,off + k * 4,none⟩))) w:=by
 unfold execOp
 simp only [h1,h2]
 go_simp
end Go.Proofs.YtloojmaamaambaaGreatDoor

namespace Go.Proofs.YtloojmaamaambaaGreatDoor
open Go.RowKit

theorem region_skip2 {P : Program} {id : Nat} {ops : Array Oper} {Q : Exit→Act→World→Prop} {base : Act} {W0 : World} (hm : P.follows .mixedOrders = true)
  (hlow : ∀ i o,ops[i]? = some o→∀ e ∈ o.after,Region.binds .any e = true→e.on < i)
  (C : Nat→World→Value→Prop) (T : Nat→Nat) (hpl : plainOps ops T = true) (sk : Nat→Bool)
  (hgd : ∀ (i : Nat) (o : Oper) (j : Nat) (want : Bool),ops[i]? = some o→o.guard = some (j,want)→∀ w v,C j w v→(sk i = true→v = undef ∨ v = .bool (!want))∧(sk i = false→v = .bool want))
  (hsk : ∀ (i : Nat) (o : Oper),ops[i]? = some o→sk i = true→o.guard ≠ none) (hCs : ∀ i w,sk i = true→C i w undef)
  (hinj : ∀ i j,i < ops.size→j < ops.size→T i = T j→i = j) (hT : ∀ i,i < ops.size→T i < base.tmps.size) (hC : ∀ i w w' v,i < ops.size→C i w v→But [] w w'→C i w' v)
  (hstep : ∀ (i : Nat) (o : Oper) (a : Act) (w : World) (K : Act→World→Prop),sk i = false→ops[i]? = some o→But [] W0.drew w→(∀ t,(∀ j,j < ops.size→t = T j→∃ oj,ops[j]? = some oj∧∃ e ∈ oj.after,Region.binds .any e = true∧e.on = i)→a.eval (.tmp t) = base.eval (.tmp t))→(∀ e ∈ o.after,Region.binds .any e = true→C e.on w (a.eval (.tmp (T e.on))))→(∀ v w',But [] w w'→C i w' v→K (a.put o.dst v) w')→o.wp P a w K Q)
  (hend : ∀ a w,Run W0.drew ops base C T (fun _ => true) a w→Q .normal a w) :
  (Code.region id ops true).wp P Q base W0:=by
 have hp:=plain_of hpl
 refine region_inv hm hlow (fun d a w => Run W0.drew ops base C T d a w) ?_ ?_ ?_
 ·exact ⟨fun _ _ _ h => by simp at h,But.refl _ _,rfl,rfl,fun _ _ => rfl,fun _ _ h => by simp at h⟩
 ·intro d a w hd h
  refine hend a w ⟨fun _ _ _ _ _ _ _ => rfl,h.but,h.size,h.defers,fun t ht => h.rest t (fun j hj _ => ht j hj rfl),fun i hi _ => h.has i hi (hd i hi)⟩
 ·intro d i o a w ho hdi hdep h
  have hi : i < ops.size:=(Array.getElem?_eq_some_iff.1 ho).1
  obtain ⟨hdst,hg⟩:=hp i o ho
  have hw : Region.wanted o (yielded ops a.tmps) = !sk i:=by
   unfold Region.wanted
   cases hgo : o.guard with
   | none =>
    have : sk i = false:=by
     cases e : sk i with
     | false => rfl
     | true => exact absurd hgo (hsk i o ho e)
    rw [this]; rfl
   | some jw =>
    obtain ⟨j,want⟩:=jw
    obtain ⟨hj,e,he,hbi,hon⟩:=hg j want hgo
    have hdj : d j = true:=by rw [← hon]; exact hdep e he hbi
    have hv:=hgd i o j want ho hgo w _ (h.has j hj hdj)
    have hoj:=Array.getElem?_eq_getElem hj
    have hdj2:=(hp j _ hoj).1
    have hlt : T j < a.tmps.size:=by rw [h.size]; exact hT j hj
    show (yielded ops a.tmps j == some want) = !sk i
    cases es : sk i with
    | false =>
     have hsl:=slot_is (hv.2 es) hlt
     unfold yielded
     rw [hoj,Option.bind_some,hdj2,Option.bind_some,hsl]
     cases want <;> rfl
    | true =>
     rcases hv.1 es with hu | hu
     ·have hsl:=slot_is hu hlt
      unfold yielded
      rw [hoj,Option.bind_some,hdj2,Option.bind_some,hsl]
      cases want <;> rfl
     ·have hsl:=slot_is hu hlt
      unfold yielded
      rw [hoj,Option.bind_some,hdj2,Option.bind_some,hsl]
      cases want <;> rfl
  unfold wpOp
  by_cases es : sk i = true
  ·rw [es] at hw
   simp only [ho,hw,Bool.not_true,Bool.false_eq_true,if_false]
   rw [hdst]
   exact h.next hinj hT hC i o ho hdep undef w (But.refl _ _) (hCs i w es)
  ·have es' : sk i = false:=by simpa using es
   rw [es'] at hw
   simp only [ho,hw,Bool.not_false,if_true]
   refine .inl (hstep i o a w _ es' ho h.but (fun t ht => h.eval t (fun j hj hd e => ?_)) (fun e he hb => h.has _ (by have:=hlow i o ho e he hb; omega) (hdep e he hb)) (fun v w' hb hv => ?_))
   ·obtain ⟨oj,hoj,ed,hed,hbi,hon⟩:=ht j hj e
    have:=h.down j oj hoj hd ed hed hbi
    rw [hon,hdi] at this
    simp at this
   ·rw [hdst]
    exact h.next hinj hT hC i o ho hdep v w' hb hv
end Go.Proofs.YtloojmaamaambaaGreatDoor
