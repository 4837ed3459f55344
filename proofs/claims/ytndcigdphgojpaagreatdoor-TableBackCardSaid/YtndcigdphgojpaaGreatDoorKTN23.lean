/- Lists of fractions in memory. -/
import Derived.Laws.AppendOwn
import Derived.Test.YtndcigdphgojpaaGreatDoorKTF4
import Derived.Test.YtndcigdphgojpaaGreatDoorKTPh
namespace Go.Proofs.YtndcigdphgojpaaGreatDoor
open Go.RowKit

/-- a fraction's four parts lie at a block, from an offset on -/
def P4o (w : World) (b o : Nat) (s : Bool) (x y : Int) (p : Option Addr) : Prop:=w.cell? ⟨b,o,none⟩ = some (.bool s)∧w.cell? ⟨b,o + 1,none⟩ = some (.int .u64 x)∧w.cell? ⟨b,o + 2,none⟩ = some (.int .u64 y)∧w.cell? ⟨b,o + 3,none⟩ = some (.pointer p)
theorem P4o.but {w w' : World} {b o : Nat} {s : Bool} {x y : Int} {p : Option Addr} {l : List Nat} (h : P4o w b o s x y p) (hb : But l w w') (hn : b ∉ l) : P4o w' b o s x y p:=⟨hb.cell_some h.1 hn,hb.cell_some h.2.1 hn,hb.cell_some h.2.2.1 hn,hb.cell_some h.2.2.2 hn⟩
/-- the fraction f lies at a block, from an offset on -/
def LiesAt (w : World) (b o : Nat) (f : Rat) : Prop:=∃ s x y p,P4o w b o s x y p∧FracAt w (.agg #[.bool s,.int .u64 x,.int .u64 y,.pointer p]) f
theorem LiesAt.but {w w' : World} {b o : Nat} {f : Rat} (h : LiesAt w b o f) (hb : But [] w w') : LiesAt w' b o f:=by
 obtain ⟨s,x,y,p,h1,h2⟩:=h
 exact ⟨s,x,y,p,h1.but hb (by simp),h2.but hb⟩
/-- words stay where blocks turn that hold something else at some place -/
theorem Sl.beside {k : IntKind} {w w' : World} {v : Value} {xs : List Nat} {l : List Nat} (h : Sl k w v xs) (hb : But l w w') (hc : ∀ g ∈ l,∃ i s,w.cell? ⟨g,i,none⟩ = some (.bool s)) : Sl k w' v xs:=by
 obtain ⟨a,cap,rfl,hcp,h,hi⟩:=h
 rcases Nat.eq_zero_or_pos xs.length with h0 | h0
 ·exact ⟨a,cap,rfl,hcp,fun i hi => by omega,fun b off e h1 => by omega⟩
 ·refine Sl.but (xs:=xs) ⟨a,cap,rfl,hcp,h,hi⟩ hb (fun b off cap' n e hm => ?_)
  simp only [Value.slice.injEq] at e
  obtain ⟨rfl,-,-⟩:=e
  obtain ⟨i,s,hs⟩:=hc b hm
  exact (hi _ _ rfl h0).ne hs (by simp) rfl
/-- a fraction stays where places turn that have a Boolean first -/
theorem FracAt.beside {w W : World} {v : Value} {f : Rat} {l : List Nat} (h : FracAt w v f) (hb : But l w W) (hc : ∀ g ∈ l,∃ s,w.cell? ⟨g,0,none⟩ = some (.bool s)) : FracAt W v f:=by
 rcases h with h1 | ⟨h1,b,v1,v2,h2,h3,h4,h5,h6⟩
 ·exact .inl h1
 ·have hbg : b ∉ l:=fun hm => by
   obtain ⟨s,hs⟩:=hc b hm
   obtain ⟨a,cap,rfl,-⟩:=h5
   rw [hs] at h3
   simp at h3
  exact .inr ⟨h1,b,v1,v2,h2,hb.cell_some h3 hbg,hb.cell_some h4 hbg,h5.beside hb (fun g hg => ⟨0,hc g hg⟩),h6.beside hb (fun g hg => ⟨0,hc g hg⟩)⟩
/-- the slice v holds the fractions fs -/
def FracsAt (w : World) (v : Value) (fs : List Rat) : Prop:=∃ a cap,v = .slice a fs.length cap∧fs.length ≤ cap∧∀ i f,fs[i]? = some f→∃ b off,a = some ⟨b,off,none⟩∧LiesAt w b (off + i * 4) f
theorem FracsAt.nil (w : World) : FracsAt w (.slice none 0 0) []:=⟨none,0,rfl,Nat.le_refl _,fun i f h => by simp at h⟩
theorem FracsAt.but {w w' : World} {v : Value} {fs : List Rat} (h : FracsAt w v fs) (hb : But [] w w') : FracsAt w' v fs:=by
 obtain ⟨a,cap,e,hc,h⟩:=h
 refine ⟨a,cap,e,hc,fun i f hf => ?_⟩
 obtain ⟨b,off,e1,h1⟩:=h i f hf
 exact ⟨b,off,e1,h1.but hb⟩
/-- empty, or at an address -/
theorem FracsAt.open {w : World} {v : Value} {fs : List Rat} (h : FracsAt w v fs) :
  (fs = []∧∃ a cap,v = .slice a 0 cap) ∨ (0 < fs.length∧∃ b off cap,v = .slice (some ⟨b,off,none⟩) fs.length cap∧fs.length ≤ cap∧∀ i f,fs[i]? = some f→LiesAt w b (off + i * 4) f):=by
 obtain ⟨a,cap,rfl,hc,h⟩:=h
 rcases Nat.eq_zero_or_pos fs.length with h0 | h0
 ·exact .inl ⟨List.length_eq_zero_iff.1 h0,a,cap,by rw [h0]⟩
 ·obtain ⟨b,off,rfl,-⟩:=h 0 fs[0] (List.getElem?_eq_getElem h0)
  refine .inr ⟨h0,b,off,cap,rfl,hc,fun i f hf => ?_⟩
  obtain ⟨b',off',e,h2⟩:=h i f hf
  simp only [Option.some.injEq,Addr.mk.injEq] at e
  obtain ⟨rfl,rfl,_⟩:=e
  exact h2
/-- the parts of values, one behind the other -/
def parts4 (vs : List Value) : List Value:=vs.flatMap fun v => v.cells.toList
/-- a row of the call's own that holds fractions' values holds the fractions -/
structure Holds4 (w : World) (base : Nat) (e : TypeId) (v : Value) (fs : List Rat) (vs : List Value) : Prop where
 own : w.ownsRow base e 4 v fs.length (parts4 vs)
 len : vs.length = fs.length
 val : ∀ (i : Nat) (f : Rat),fs[i]? = some f→∃ s x y p,vs[i]? = some (Value.agg #[.bool s,.int .u64 x,.int .u64 y,.pointer p])∧FracAt w (.agg #[.bool s,.int .u64 x,.int .u64 y,.pointer p]) f
theorem parts4_get : ∀ (vs : List Value),(∀ v ∈ vs,v.cells.size = 4)→∀ (i k : Nat) (v : Value),vs[i]? = some v→k < 4→(parts4 vs)[4 * i + k]? = v.cells[k]?
 | [],_,i,k,v,e,_ => by simp at e
 | u :: vs,h,0,k,v,e,hk => by
  have hu:=h u (by simp)
  simp only [List.getElem?_cons_zero,Option.some.injEq] at e
  subst e
  unfold parts4
  rw [List.flatMap_cons,Nat.mul_zero,Nat.zero_add,List.getElem?_append_left (by rw [Array.length_toList,hu]; exact hk)]
  simp
 | u :: vs,h,i + 1,k,v,e,hk => by
  have hu:=h u (by simp)
  have ih:=parts4_get vs (fun x hx => h x (by simp [hx])) i k v (by simpa using e) hk
  unfold parts4 at ih ⊢
  rw [List.flatMap_cons,List.getElem?_append_right (by rw [Array.length_toList,hu]; omega),Array.length_toList,hu,show 4 * (i + 1) + k - 4 = 4 * i + k from by omega]
  exact ih
theorem parts4_append (vs us : List Value) : parts4 (vs ++ us) = parts4 vs ++ parts4 us:=by unfold parts4; rw [List.flatMap_append]
theorem Holds4.fracs {w : World} {base : Nat} {e : TypeId} {v : Value} {fs : List Rat} {vs : List Value} (h : Holds4 w base e v fs vs) : FracsAt w v fs:=by
 have h4 : ∀ u ∈ vs,u.cells.size = 4:=fun u hu => by
  obtain ⟨i,hi,rfl⟩:=List.mem_iff_getElem.1 hu
  obtain ⟨s,x,y,p,e,-⟩:=h.val i (fs[i]'(by rw [← h.len]; exact hi)) (List.getElem?_eq_getElem (by rw [← h.len]; exact hi))
  rw [List.getElem?_eq_getElem hi] at e
  rw [Option.some.inj e]
  rfl
 obtain ⟨hl,⟨rfl,h0⟩ | ⟨g,cap,cur,rfl,hg,hb,hn,hm,hs,ht⟩⟩:=id h.own
 ·have : fs = []:=List.length_eq_zero_iff.1 h0
  subst this
  exact FracsAt.nil w
 ·refine ⟨_,cap,rfl,hn,fun i f hf => ⟨g,0,rfl,?_⟩⟩
  obtain ⟨s,x,y,p,e1,e2⟩:=h.val i f hf
  have cell : ∀ k,k < 4→w.cell? ⟨g,0 + i * 4 + k,none⟩ = (#[Value.bool s,.int .u64 x,.int .u64 y,.pointer p] : Array Value)[k]?:=fun k hk => by
   have h1:=parts4_get vs h4 i k _ e1 hk
   have h2:=h.own.cells (g:=g) rfl
   have hlt : k < (#[Value.bool s,.int .u64 x,.int .u64 y,.pointer p] : Array Value).size:=hk
   have h3:=h2 (4 * i + k) _ (h1.trans (Array.getElem?_eq_getElem hlt))
   have h5 : (⟨g,0,none⟩ : Addr).add (4 * i + k) = ⟨g,0 + i * 4 + k,none⟩:=by
    by_cases hz : 4 * i + k = 0
    ·simp only [Addr.add,hz,if_true,Addr.mk.injEq,true_and,and_true]; omega
    ·simp only [Addr.add,hz,if_false,Addr.mk.injEq,true_and,and_true]; omega
   rw [h5] at h3
   rw [h3]
   exact (Array.getElem?_eq_getElem hlt).symm
  exact ⟨s,x,y,p,⟨cell 0 (by omega),cell 1 (by omega),cell 2 (by omega),cell 3 (by omega)⟩,e2⟩
end Go.Proofs.YtndcigdphgojpaaGreatDoor

namespace Go.Proofs.YtndcigdphgojpaaGreatDoor
open Go.RowKit

theorem run_store4 (a : Act) (w : World) (t1 t2 : Nat) (u : TypeId) (ps : String) (ed : Array Edge) (g : Nat) (s : Bool) (x y : Int) (p : Option Addr) {s' : Bool} {x' y' : Int} {p' : Option Addr} (h1 : a.eval (.tmp t1) = .pointer (some ⟨g,0,none⟩)) (h2 : a.eval (.tmp t2) = .agg #[.bool s,.int .u64 x,.int .u64 y,.pointer p]) (hc : P4 w g s' x' y' p') (fz : ∀ j,w.frozen? ⟨g,j,none⟩ = false) :
  (execOp a.eval { dst:=none,op:=Op.store 36 (.tmp t1) (.tmp t2),type:=u,pos:=ps,after:=ed,guard:=none }).run Tryz.prog w = .ok .skip ((((w.setCell ⟨g,0,none⟩ (.bool s)).setCell ⟨g,1,none⟩ (.int .u64 x)).setCell ⟨g,2,none⟩ (.int .u64 y)).setCell ⟨g,3,none⟩ (.pointer p)):=by
 obtain ⟨c0,c1,c2,c3⟩:=hc
 unfold execOp
 simp only [h1,h2]
 go_simp
/-- four cells written, at a block -/
def put4 (w : World) (g : Nat) (s : Bool) (x y : Int) (p : Option Addr) : World:=(((w.setCell ⟨g,0,none⟩ (.bool s)).setCell ⟨g,1,none⟩ (.int .u64 x)).setCell ⟨g,2,none⟩ (.int .u64 y)).setCell ⟨g,3,none⟩ (.pointer p)
theorem put4_but (w : World) (g : Nat) (s : Bool) (x y : Int) (p : Option Addr) : But [g] w (put4 w g s x y p):=(((((But.refl [g] w).setCell (.inl (by simp)) _).setCell (.inl (by simp)) _).setCell (.inl (by simp)) _).setCell (.inl (by simp)) _)
theorem put4_p4 (w : World) (g : Nat) (s : Bool) (x y : Int) (p : Option Addr) {s' : Bool} {x' y' : Int} {p' : Option Addr} (hc : P4 w g s' x' y' p') : P4 (put4 w g s x y p) g s x y p:=by
 obtain ⟨h1,-⟩:=set4_all w g (.bool s) (.int .u64 x) (.int .u64 y) (.pointer p) (by rw [hc.1]; rfl) (by rw [hc.2.1]; rfl) (by rw [hc.2.2.1]; rfl) (by rw [hc.2.2.2]; rfl)
 exact ⟨h1 0 (by omega),h1 1 (by omega),h1 2 (by omega),h1 3 (by omega)⟩
theorem put4_fz (w : World) (g : Nat) (s : Bool) (x y : Int) (p : Option Addr) (b j : Nat) : (put4 w g s x y p).frozen? ⟨b,j,none⟩ = w.frozen? ⟨b,j,none⟩:=by
 unfold put4
 simp only [World.frozen?_setCell]
/-- no operation has a guard, none defers -/
def calmOps (ops : Array Oper) : Bool:=(List.range ops.size).all fun i => match ops[i]? with
 | some o => o.guard.isNone && (match o.op with | .defer _ => false | _ => true)
 | none => true
theorem calm_of {ops : Array Oper} (h : calmOps ops = true) : ∀ (i : Nat) (o : Oper),ops[i]? = some o→o.guard = none∧∀ c,o.op ≠ .defer c:=fun i o ho => by
 have hi : i < ops.size:=(Array.getElem?_eq_some_iff.1 ho).1
 unfold calmOps at h
 rw [List.all_eq_true] at h
 have h1:=h i (List.mem_range.2 hi)
 simp only [ho,Bool.and_eq_true,Option.isNone_iff_eq_none] at h1
 exact ⟨h1.1,fun c e => by rw [e] at h1; simp at h1⟩
theorem dep_have {ops : Array Oper} {ps : List (Nat × Nat)} (h : depOps ops ps = true) {i : Nat} {o : Oper} (ho : ops[i]? = some o) (R : Nat→Prop) (hdep : ∀ e ∈ o.after,Region.binds .any e = true→R e.on) (j : Nat) (hij : (i,j) ∈ ps) : R j:=by
 obtain ⟨o',ho',ed,hed,hbi,rfl⟩:=dep_of h i j hij
 rw [ho] at ho'
 obtain rfl:=Option.some.inj ho'
 exact hdep ed hed hbi
/-- a box that holds a fraction, and may be written -/
def BoxAt (w : World) (g : Nat) (f : Rat) : Prop:=(∃ s x y p,P4 w g s x y p∧FracAt w (.agg #[.bool s,.int .u64 x,.int .u64 y,.pointer p]) f)∧∀ j,w.frozen? ⟨g,j,none⟩ = false
theorem BoxAt.but {A B : World} {g : Nat} {f : Rat} (h : BoxAt A g f) (hb : But [] A B) : BoxAt B g f:=by
 obtain ⟨⟨s,x,y,p,h1,h2⟩,h3⟩:=h
 have hl : g < A.heap.size:=lt_of_cell h1.1
 exact ⟨⟨s,x,y,p,h1.but hb (by simp),h2.but hb⟩,fun j => (hb.frozen (p:=⟨g,j,none⟩) hl (by simp)).trans (h3 j)⟩
theorem BoxAt.beside {A B : World} {g : Nat} {f : Rat} {l : List Nat} (h : BoxAt A g f) (hb : But l A B) (hn : g ∉ l) (hc : ∀ g ∈ l,∃ s,A.cell? ⟨g,0,none⟩ = some (.bool s)) : BoxAt B g f:=by
 obtain ⟨⟨s,x,y,p,h1,h2⟩,h3⟩:=h
 have hl : g < A.heap.size:=lt_of_cell h1.1
 exact ⟨⟨s,x,y,p,h1.but hb hn,h2.beside hb hc⟩,fun j => (hb.frozen (p:=⟨g,j,none⟩) hl hn).trans (h3 j)⟩
theorem BoxAt.put {w : World} {g : Nat} {f f' : Rat} (h : BoxAt w g f) {s : Bool} {x y : Int} {p : Option Addr} (hf : FracAt w (.agg #[.bool s,.int .u64 x,.int .u64 y,.pointer p]) f') : BoxAt (put4 w g s x y p) g f':=by
 obtain ⟨⟨s0,x0,y0,p0,h1,h2⟩,h3⟩:=h
 exact ⟨⟨s,x,y,p,put4_p4 w g s x y p h1,hf.over h1.1 (put4_but w g s x y p)⟩,fun j => (put4_fz w g s x y p g j).trans (h3 j)⟩
theorem BoxAt.new (w : World) (s : Bool) (x y : Int) (p : Option Addr) (f : Rat) (t : TypeId) (h : FracAt w (.agg #[.bool s,.int .u64 x,.int .u64 y,.pointer p]) f) : BoxAt (w.alloc (.cells #[.bool s,.int .u64 x,.int .u64 y,.pointer p] t)) w.heap.size f :=
 ⟨⟨s,x,y,p,⟨by simp,by simp,by simp,by simp⟩,h.but ((But.refl _ _).alloc _)⟩,fun j => by simp⟩
theorem BoxAt.lt {w : World} {g : Nat} {f : Rat} (h : BoxAt w g f) : g < w.heap.size:=by
 obtain ⟨⟨s,x,y,p,h1,-⟩,-⟩:=h
 exact lt_of_cell h1.1
theorem BoxAt.bool {w : World} {g : Nat} {f : Rat} (h : BoxAt w g f) : ∃ s,w.cell? ⟨g,0,none⟩ = some (.bool s):=by
 obtain ⟨⟨s,x,y,p,h1,-⟩,-⟩:=h
 exact ⟨s,h1.1⟩
theorem FracsAt.get {w : World} {b off n cap : Nat} {fs : List Rat} (h : FracsAt w (.slice (some ⟨b,off,none⟩) n cap) fs) (i : Nat) (hi : i < n) : ∃ s x y p,P4o w b (off + i * 4) s x y p∧FracAt w (.agg #[.bool s,.int .u64 x,.int .u64 y,.pointer p]) (fs[i]?.getD 0):=by
 obtain ⟨a,cap',e,-,h⟩:=h
 simp only [Value.slice.injEq] at e
 obtain ⟨rfl,rfl,-⟩:=e
 obtain ⟨b',off',e2,s,x,y,p,h1,h2⟩:=h i fs[i] (List.getElem?_eq_getElem hi)
 simp only [Option.some.injEq,Addr.mk.injEq] at e2
 obtain ⟨rfl,rfl,-⟩:=e2
 exact ⟨s,x,y,p,h1,by rw [List.getElem?_eq_getElem hi]; exact h2⟩
theorem zero_at (w : World) : FracAt w (.agg #[.bool false,.int .u64 0,.int .u64 0,.pointer none]) 0:=.inl ⟨by decide,by decide,rfl⟩
theorem info_frac : ∃ i,Tryz.prog.info? 36 = some i∧i.zero = some (.agg #[.bool false,.int .u64 0,.int .u64 0,.pointer none])∧i.size = 4∧i.bytes = 32:=by
 have h : (Tryz.prog.info? 36).map (fun i => (i.zero,i.size,i.bytes)) = some (some (.agg #[.bool false,.int .u64 0,.int .u64 0,.pointer none]),4,32):=by kernel_rfl
 cases e : Tryz.prog.info? 36 with
 | none => rw [e] at h; simp at h
 | some i =>
  rw [e] at h
  simp only [Option.map_some,Option.some.injEq,Prod.mk.injEq] at h
  exact ⟨i,rfl,h.1,h.2.1,h.2.2⟩
theorem run_makeF (wx : World) (n : Nat) (h : n < 1000000) : (Instr.makeSlice 43 (.int .i64 (n : Int)) (.int .i64 (n : Int))).run Tryz.prog wx = .ok (.slice (some ⟨wx.heap.size,0,none⟩) n n) (wx.alloc (.cells (madeCells #[.bool false,.int .u64 0,.int .u64 0,.pointer none] (n * 4)) 36)):=by
 obtain ⟨ti,hi,hz,hs,hbt⟩:=info_frac
 have hmk:=run_make (P:=Tryz.prog) wx 43 36 ti _ Tryz.underlying43 hi hz .i64 .i64 (n : Int) (n : Int) (by omega) (by omega) (by rw [hbt]; omega) (by omega)
 rw [hs,Int.toNat_natCast] at hmk
 exact hmk
theorem made_four (n o : Nat) (h : o < n * 4) : (madeCells #[Value.bool false,.int .u64 0,.int .u64 0,.pointer none] (n * 4))[o]? = (#[Value.bool false,.int .u64 0,.int .u64 0,.pointer none] : Array Value)[o % 4]?:=by
 unfold madeCells
 rw [Array.getElem?_map,Array.getElem?_eq_getElem (by simpa using h),Array.getElem_range,Option.map_some]
 have : o % 4 = 0 ∨ o % 4 = 1 ∨ o % 4 = 2 ∨ o % 4 = 3:=by omega
 show some ((#[Value.bool false,.int .u64 0,.int .u64 0,.pointer none] : Array Value)[o % 4]!) = _
 rcases this with e | e | e | e <;> (rw [e]; rfl)
end Go.Proofs.YtndcigdphgojpaaGreatDoor

namespace Go.Proofs.YtndcigdphgojpaaGreatDoor
open Go.RowKit

/-- the leading 64 bits of a number -/
def leadW (X : Nat) : Nat:=topW X * 2 ^ lz (topW X) + (if (wd 18446744073709551616 X).length ≤ 1 then 0 else (wd 18446744073709551616 X)[(wd 18446744073709551616 X).length - 2]?.getD 0 / 2 ^ (64 - lz (topW X)))
/-- how many bits are behind them, and 63 -/
def leadN (X : Nat) : Nat:=64 * ((wd 18446744073709551616 X).length - 1) + 63 - lz (topW X)
theorem lead_ok (X : Nat) (h : 0 < X) : Lead X (leadW X) (leadN X):=by
 obtain ⟨t1,t2,-,-⟩:=top_pos X h
 obtain ⟨l1,l2,l3,-⟩:=lz_facts (topW X) t1 t2
 have hl : 0 < (wd 18446744073709551616 X).length:=by rw [Nat.pos_iff_ne_zero]; intro e; rw [wd_len_zero (by omega)] at e; omega
 unfold leadW leadN
 by_cases h1 : (wd 18446744073709551616 X).length ≤ 1
 ·have hX : X < 18446744073709551616:=by
   have:=lt_of_wd_length (B:=18446744073709551616) (by omega) X 1 h1
   rw [Nat.pow_one] at this; exact this
  have e : topW X = X:=by unfold topW; rw [wd_word X h hX]; rfl
  rw [if_pos h1,Nat.add_zero,show (wd 18446744073709551616 X).length - 1 = 0 from by omega,Nat.mul_zero,Nat.zero_add]
  rw [e] at l1 l2 l3 ⊢
  exact lead_one X _ l1 l3 l2
 ·rw [if_neg h1]
  obtain ⟨m,hm⟩ : ∃ m,(wd 18446744073709551616 X).length = m + 2:=⟨(wd 18446744073709551616 X).length - 2,by omega⟩
  have e2:=vl_take_lt (wd 18446744073709551616 X) m (by omega) (wd_mem (by omega) X)
  have e3:=mem_getD (wd_mem (B:=18446744073709551616) (by omega) X) (by omega : 0 < 18446744073709551616) m
  have e4:=vl_split 18446744073709551616 (wd 18446744073709551616 X) m (by omega)
  have e5:=vl_drop 18446744073709551616 (wd 18446744073709551616 X) (m + 1) (by omega)
  rw [List.drop_eq_nil_of_le (by omega : (wd 18446744073709551616 X).length ≤ m + 1 + 1)] at e5
  rw [vl_wd (by omega),e5] at e4
  rw [show (wd 18446744073709551616 X)[m + 1]?.getD 0 = topW X from by unfold topW; rw [hm]; rfl] at e4
  rw [show (wd 18446744073709551616 X).length - 2 = m from by omega,show (wd 18446744073709551616 X).length - 1 = m + 1 from by omega]
  simp only [vl,Nat.mul_zero,Nat.add_zero] at e4
  exact (lead_more X _ _ m _ (topW X) (lz (topW X)) rfl e4 e2 e3 l1 l3 l2).1

set_option maxHeartbeats 4000000 in
set_option maxRecDepth 100000 in
theorem leading_any (v : Value) (X : Nat) (hX : 0 < X) (w : World) (hv : Sl .u64 w v (wd 18446744073709551616 X)) (hl : (wd 18446744073709551616 X).length < 134217728) (x : Nat) (N : Int) (hx : Hid (x = leadW X)) (hN : Hid (N = (leadN X : Int) - 63)) :
  Calls Tryz.prog 148 #[v] w fun e w' => e = .returned (.tuple #[.int .u64 (x : Int),.int .i64 N])∧w' = w:=by
 obtain ⟨t1,t2,-,-⟩:=top_pos X hX
 obtain ⟨hs,l2,l3,-⟩:=lz_facts (topW X) t1 t2
 have LZ:=hide (fun W => lead_any (topW X) t1 t2 W)
 rcases hv.open with ⟨e,-⟩ | ⟨hp,b,o,c,rfl,hc,-,hcell⟩
 ·rw [wd_nil_iff (by omega)] at e; omega
 have hct:=hcell ((wd 18446744073709551616 X).length - 1) (by omega)
 rw [show (wd 18446744073709551616 X)[(wd 18446744073709551616 X).length - 1]?.getD 0 = topW X from rfl] at hct
 have E0 : IntKind.u64.wrap (((topW X : Nat) : Int) * 2 ^ lz (topW X)) = ((topW X * 2 ^ lz (topW X) : Nat) : Int):=by
  have e : ((topW X : Nat) : Int) * 2 ^ lz (topW X) = ((topW X * 2 ^ lz (topW X) : Nat) : Int):=by simp
  rw [e,IntKind.wrap_u64]; omega
 unfold leadW at hx
 unfold leadN at hN
 by_cases h1 : (wd 18446744073709551616 X).length ≤ 1
 ·have hl1 : (wd 18446744073709551616 X).length = 1:=by omega
  rw [if_pos h1,Nat.add_zero] at hx
  rw [hl1] at hct hN ⊢
  rw [Nat.sub_self,Nat.add_zero] at hct
  have hNN : Hid (N = -((lz (topW X) : Nat) : Int)):=by
   show _ = _; rw [unhide hN]; omega
  clear hcell hN hv
  generalize topW X * 2 ^ lz (topW X) = y at *
  generalize lz (topW X) = s at *
  generalize topW X = t at *
  have HX : x = y:=unhide hx
  subst HX
  have HN : N = -(s : Int):=unhide hNN
  subst HN
  go_enter Tryz.func148,Tryz.ntmps148
  go_wp2_with fail
  refine (unhide LZ _).mono ?_
  rintro e w1 ⟨rfl,hw⟩
  obtain rfl:=hw.symm
  clear hw
  go_wp2
  go_ret2
  exact ⟨rfl,rfl⟩
 ·rw [if_neg h1] at hx
  have hc2:=hcell ((wd 18446744073709551616 X).length - 2) (by omega)
  have e3:=mem_getD (wd_mem (B:=18446744073709551616) (by omega) X) (by omega : 0 < 18446744073709551616) ((wd 18446744073709551616 X).length - 2)
  generalize (wd 18446744073709551616 X)[(wd 18446744073709551616 X).length - 2]?.getD 0 = y at *
  have hu : y / 2 ^ (64 - lz (topW X)) < 2 ^ lz (topW X):=by
   have hB : 18446744073709551616 = 2 ^ (64 - lz (topW X)) * 2 ^ lz (topW X):=by rw [← Nat.pow_add,show 64 - lz (topW X) + lz (topW X) = 64 from by omega]
   rw [Nat.div_lt_iff_lt_mul (Nat.pow_pos (by omega)),Nat.mul_comm,← hB]; exact e3
  have hub : y / 2 ^ (64 - lz (topW X)) < 18446744073709551616:=Nat.lt_of_le_of_lt (Nat.div_le_self _ _) e3
  have hor : topW X * 2 ^ lz (topW X) ||| y / 2 ^ (64 - lz (topW X)) = topW X * 2 ^ lz (topW X) + y / 2 ^ (64 - lz (topW X)):=by
   rw [Nat.mul_comm,Nat.two_pow_add_eq_or_of_lt hu]
  have E1 : bits .or .u64 ((topW X * 2 ^ lz (topW X) : Nat) : Int) ((y / 2 ^ (64 - lz (topW X)) : Nat) : Int) = ((topW X * 2 ^ lz (topW X) + y / 2 ^ (64 - lz (topW X)) : Nat) : Int):=by
   rw [bits_or_u64_nat _ _ l2 hub,hor]
  have E2 : ((y : Nat) : Int) / 2 ^ (64 - lz (topW X)) = ((y / 2 ^ (64 - lz (topW X)) : Nat) : Int):=by simp
  have E3 : (64 - ((lz (topW X) : Nat) : Int)).toNat = 64 - lz (topW X):=by omega
  clear hcell hv hor hu
  generalize topW X * 2 ^ lz (topW X) + y / 2 ^ (64 - lz (topW X)) = z at *
  generalize y / 2 ^ (64 - lz (topW X)) = q at *
  generalize topW X * 2 ^ lz (topW X) = p at *
  generalize lz (topW X) = s at *
  generalize topW X = t at *
  generalize (wd 18446744073709551616 X).length = n at *
  have HX : x = z:=unhide hx
  subst HX
  have HN : N = ((n : Int) - 1) * 64 - s:=by rw [unhide hN]; omega
  subst HN
  obtain ⟨m,rfl⟩ : ∃ m,n = m + 2:=⟨n - 2,by omega⟩
  rw [show m + 2 - 1 = m + 1 from rfl] at hct
  rw [show m + 2 - 2 = m from rfl] at hc2
  have hm0 : (0 : Int) ≤ (m : Int):=by omega
  clear hx hN
  go_enter Tryz.func148,Tryz.ntmps148
  go_wp2_with fail
  refine (unhide LZ _).mono ?_
  rintro e w1 ⟨rfl,hw⟩
  obtain rfl:=hw.symm
  clear hw
  go_wp2
  go_ret2
  refine ⟨?_,rfl⟩
  go_num
end Go.Proofs.YtndcigdphgojpaaGreatDoor

namespace Go.Proofs.YtndcigdphgojpaaGreatDoor
open Go.RowKit

/-- the leading 64 bits of a product, or up to eight less -/
def prodW (A C : Nat) : Nat:=if leadW A * leadW C / 18446744073709551616 < 9223372036854775808 then leadW A * leadW C / 18446744073709551616 * 2 + leadW A * leadW C % 18446744073709551616 / 9223372036854775808 else leadW A * leadW C / 18446744073709551616
/-- how many bits are behind them, and 126 -/
def prodK (A C : Nat) : Nat:=if leadW A * leadW C / 18446744073709551616 < 9223372036854775808 then leadN A + leadN C + 63 else leadN A + leadN C + 64
theorem prod_ok (A C : Nat) (hA : 0 < A) (hC : 0 < C) : LeadP (A * C) (prodW A C) (prodK A C):=by
 have h:=lead_ok A hA
 have g:=lead_ok C hC
 unfold prodW prodK
 split
 ·exact leadP_low h g (by assumption)
 ·exact leadP_high h g (by omega)
theorem leadN_le (X : Nat) (n : Nat) (h : (wd 18446744073709551616 X).length < n) : leadN X ≤ 64 * n:=by unfold leadN; omega
theorem prodK_le (A C n : Nat) (hA : (wd 18446744073709551616 A).length < n) (hC : (wd 18446744073709551616 C).length < n) : prodK A C ≤ 128 * n + 64:=by
 have h1:=leadN_le A n hA
 have h2:=leadN_le C n hC
 unfold prodK
 split <;> omega

set_option maxHeartbeats 4000000 in
set_option maxRecDepth 100000 in
theorem leadingProduct_any (va vc : Value) (A C : Nat) (hA : 0 < A) (hC : 0 < C) (w : World) (ha : Sl .u64 w va (wd 18446744073709551616 A)) (hc : Sl .u64 w vc (wd 18446744073709551616 C)) (hla : (wd 18446744073709551616 A).length < 134217728) (hlc : (wd 18446744073709551616 C).length < 134217728) (p : Nat) (K : Int) (hp : Hid (p = prodW A C)) (hK : Hid (K = (prodK A C : Int) - 126)) :
  Calls Tryz.prog 127 #[va,vc] w fun e w' => e = .returned (.tuple #[.int .u64 (p : Int),.int .i64 K])∧w' = w:=by
 have LA:=hide (leading_any va A hA w ha hla (leadW A) ((leadN A : Int) - 63) rfl rfl)
 have LC:=hide (leading_any vc C hC w hc hlc (leadW C) ((leadN C : Int) - 63) rfl rfl)
 have ba:=(lead_ok A hA).hi
 have bc:=(lead_ok C hC).hi
 have na:=leadN_le A _ hla
 have nc:=leadN_le C _ hlc
 have MU:=hide (fun W => Tryz.bits_Mul64 (leadW A) (leadW C) ba bc W)
 have hzB : leadW A * leadW C / 18446744073709551616 < 18446744073709551616:=by rw [Nat.div_lt_iff_lt_mul (by omega)]; exact Nat.mul_lt_mul'' ba bc
 have hzL : leadW A * leadW C % 18446744073709551616 < 18446744073709551616:=Nat.mod_lt _ (by omega)
 unfold prodW at hp
 unfold prodK at hK
 obtain ⟨aa,ca,rfl,-,-⟩:=ha
 obtain ⟨ac,cc,rfl,-,-⟩:=hc
 generalize (wd 18446744073709551616 A).length = la at *
 generalize (wd 18446744073709551616 C).length = lc at *
 generalize leadW A * leadW C / 18446744073709551616 = hi at *
 generalize leadW A * leadW C % 18446744073709551616 = lo at *
 generalize leadW A = x at *
 generalize leadW C = y at *
 generalize leadN A = n at *
 generalize leadN C = m at *
 by_cases hh : hi < 9223372036854775808
 ·rw [if_pos hh] at hp hK
  have d1 : ((hi : Int) / 9223372036854775808 == 0) = true:=beq_iff_eq.2 (by omega)
  have hor : bits .or .u64 ((hi * 2 : Nat) : Int) ((lo / 9223372036854775808 : Nat) : Int) = ((hi * 2 + lo / 9223372036854775808 : Nat) : Int):=by
   rw [bits_or_u64_nat _ _ (by omega) (by omega)]
   have:=Nat.two_pow_add_eq_or_of_lt (i:=1) (b:=lo / 9223372036854775808) (by omega) hi
   rw [Nat.pow_one,Nat.mul_comm] at this
   rw [this]
  have e1 : IntKind.u64.wrap ((hi : Int) * 2) = ((hi * 2 : Nat) : Int):=by rw [IntKind.wrap_u64]; omega
  have e2 : (lo : Int) / 9223372036854775808 = ((lo / 9223372036854775808 : Nat) : Int):=by simp
  generalize hi * 2 + lo / 9223372036854775808 = z at *
  generalize lo / 9223372036854775808 = z2 at *
  generalize hi * 2 = z1 at *
  have HP : p = z:=unhide hp
  subst HP
  have HK : K = (n : Int) + m - 63:=by rw [unhide hK]; omega
  subst HK
  clear hp hK
  go_enter Tryz.func127,Tryz.ntmps127
  go_wp2_with fail
  refine (unhide LA).mono ?_
  rintro e w1 ⟨rfl,hw⟩
  obtain rfl:=hw.symm
  clear hw
  go_wp2_with fail
  refine (unhide LC).mono ?_
  rintro e w1 ⟨rfl,hw⟩
  obtain rfl:=hw.symm
  clear hw
  go_wp2_with fail
  refine (unhide MU _).mono ?_
  rintro e w1 ⟨rfl,hw⟩
  obtain rfl:=hw.symm
  clear hw
  go_wp2
  go_ret2
  refine ⟨?_,rfl⟩
  go_num
 ·rw [if_neg hh] at hp hK
  have d1 : ((hi : Int) / 9223372036854775808 == 0) = false:=beq_eq_false_iff_ne.2 (by omega)
  have HP : p = hi:=unhide hp
  subst HP
  have HK : K = (n : Int) + m - 62:=by rw [unhide hK]; omega
  subst HK
  clear hp hK
  go_enter Tryz.func127,Tryz.ntmps127
  go_wp2_with fail
  refine (unhide LA).mono ?_
  rintro e w1 ⟨rfl,hw⟩
  obtain rfl:=hw.symm
  clear hw
  go_wp2_with fail
  refine (unhide LC).mono ?_
  rintro e w1 ⟨rfl,hw⟩
  obtain rfl:=hw.symm
  clear hw
  go_wp2_with fail
  refine (unhide MU _).mono ?_
  rintro e w1 ⟨rfl,hw⟩
  obtain rfl:=hw.symm
  clear hw
  go_wp2
  go_ret2
  refine ⟨?_,rfl⟩
  go_num
end Go.Proofs.YtndcigdphgojpaaGreatDoor

namespace Go.Proofs.YtndcigdphgojpaaGreatDoor
open Go.RowKit
set_option linter.unusedVariables false

/-- a block of n fractions, of which the first i are told -/
structure Row4 (w : World) (g n i : Nat) (F : Nat→Rat) : Prop where
 blank : ∀ j,i ≤ j→j < n→P4o w g (j * 4) false 0 0 none
 told : ∀ j,j < i→LiesAt w g (j * 4) (F j)
 loose : ∀ o,w.frozen? ⟨g,o,none⟩ = false
theorem Row4.made (w : World) (n : Nat) (F : Nat→Rat) : Row4 (w.alloc (.cells (madeCells #[Value.bool false,.int .u64 0,.int .u64 0,.pointer none] (n * 4)) 36)) w.heap.size n 0 F:=by
 have hc : ∀ j k,j < n→k < 4→(w.alloc (.cells (madeCells #[Value.bool false,.int .u64 0,.int .u64 0,.pointer none] (n * 4)) 36)).cell? ⟨w.heap.size,j * 4 + k,none⟩ = (#[Value.bool false,.int .u64 0,.int .u64 0,.pointer none] : Array Value)[k]?:=fun j k hj hk => by
  rw [World.cell?_alloc_new,made_four n _ (by omega),show (j * 4 + k) % 4 = k from by omega]
 exact ⟨fun j _ hj => ⟨hc j 0 hj (by omega),hc j 1 hj (by omega),hc j 2 hj (by omega),hc j 3 hj (by omega)⟩,fun j hj => by omega,fun o => by simp⟩
theorem Row4.but {w w' : World} {g n i : Nat} {F : Nat→Rat} (h : Row4 w g n i F) (hb : But [] w w') (hg : g < w.heap.size) : Row4 w' g n i F :=
 ⟨fun j h1 h2 => (h.blank j h1 h2).but hb (by simp),fun j hj => (h.told j hj).but hb,fun o => (hb.frozen (p:=⟨g,o,none⟩) hg (by simp)).trans (h.loose o)⟩
theorem Row4.bool {w : World} {g n i : Nat} {F : Nat→Rat} (h : Row4 w g n i F) (h0 : 0 < n) : ∃ s,w.cell? ⟨g,0,none⟩ = some (.bool s):=by
 rcases Nat.eq_zero_or_pos i with e | e
 ·subst e
  have a:=h.blank 0 (Nat.le_refl _) h0
  rw [Nat.zero_mul] at a
  exact ⟨_,a.1⟩
 ·obtain ⟨s,x,y,p,a,-⟩:=h.told 0 e
  rw [Nat.zero_mul] at a
  exact ⟨_,a.1⟩
theorem Row4.next {w : World} {g n i : Nat} {F : Nat→Rat} (h : Row4 w g n i F) (hi : i < n) (s1 : Bool) (x1 y1 : Int) (p1 : Option Addr) (h1 : FracAt w (.agg #[.bool s1,.int .u64 x1,.int .u64 y1,.pointer p1]) (F i)) :
  Row4 (w.setCells g (i * 4) [.bool s1,.int .u64 x1,.int .u64 y1,.pointer p1]) g n (i + 1) F:=by
 obtain ⟨c,hc⟩:=h.bool (by omega)
 have a1:=h.blank i (Nat.le_refl _) hi
 have hb:=but_setCells w g [.bool s1,.int .u64 x1,.int .u64 y1,.pointer p1] (i * 4)
 have some4 : ∀ k,k < 4→(w.cell? ⟨g,i * 4 + k,none⟩).isSome = true:=fun k hk => by
  have : k = 0 ∨ k = 1 ∨ k = 2 ∨ k = 3:=by omega
  rcases this with rfl | rfl | rfl | rfl
  ·rw [show i * 4 + 0 = i * 4 from rfl,a1.1]; rfl
  ·rw [a1.2.1]; rfl
  ·rw [a1.2.2.1]; rfl
  ·rw [a1.2.2.2]; rfl
 have hin : ∀ k (hk : k < 4),(w.setCells g (i * 4) [.bool s1,.int .u64 x1,.int .u64 y1,.pointer p1]).cell? ⟨g,i * 4 + k,none⟩ = some ([Value.bool s1,.int .u64 x1,.int .u64 y1,.pointer p1][k]'hk):=fun k hk =>
  World.cell?_setCells_in g [.bool s1,.int .u64 x1,.int .u64 y1,.pointer p1] (i * 4) w (fun j hj => some4 j hj) k hk
 have hout : ∀ o,o < i * 4 ∨ i * 4 + 4 ≤ o→(w.setCells g (i * 4) [.bool s1,.int .u64 x1,.int .u64 y1,.pointer p1]).cell? ⟨g,o,none⟩ = w.cell? ⟨g,o,none⟩:=fun o ho => World.cell?_setCells_out g _ (i * 4) w _ (fun _ _ => by simp; omega)
 have keep : ∀ o s x y p,o + 4 ≤ i * 4 ∨ i * 4 + 4 ≤ o→P4o w g o s x y p→P4o (w.setCells g (i * 4) [.bool s1,.int .u64 x1,.int .u64 y1,.pointer p1]) g o s x y p:=fun o s x y p ho hp => ⟨(hout o (by omega)).trans hp.1,(hout (o + 1) (by omega)).trans hp.2.1,(hout (o + 2) (by omega)).trans hp.2.2.1,(hout (o + 3) (by omega)).trans hp.2.2.2⟩
 have hfr : ∀ {v f},FracAt w v f→FracAt (w.setCells g (i * 4) [.bool s1,.int .u64 x1,.int .u64 y1,.pointer p1]) v f:=fun hf => hf.over hc hb
 refine ⟨fun j h1 h2 => keep _ _ _ _ _ (by omega) (h.blank j (by omega) h2),fun j hj => ?_,fun o => by rw [World.frozen?_setCells]; exact h.loose o⟩
 by_cases e : j = i
 ·subst e
  exact ⟨s1,x1,y1,p1,⟨hin 0 (by omega),hin 1 (by omega),hin 2 (by omega),hin 3 (by omega)⟩,hfr h1⟩
 ·obtain ⟨t1,u1,v1,q1,b1,f1⟩:=h.told j (by omega)
  exact ⟨t1,u1,v1,q1,keep _ _ _ _ _ (by omega) b1,hfr f1⟩
theorem Row4.fracs {w : World} {g n : Nat} {F : Nat→Rat} (h : Row4 w g n n F) : FracsAt w (.slice (some ⟨g,0,none⟩) n n) ((List.range n).map F) :=
 ⟨some ⟨g,0,none⟩,n,by simp,by simp,fun i f hf => by
  rw [List.getElem?_map] at hf
  by_cases hi : i < n
  ·rw [List.getElem?_range hi] at hf
   simp only [Option.map_some,Option.some.injEq] at hf
   subst hf
   exact ⟨g,0,rfl,by rw [Nat.zero_add]; exact h.told i hi⟩
  ·rw [List.getElem?_eq_none (by simp; omega)] at hf
   simp at hf⟩
end Go.Proofs.YtndcigdphgojpaaGreatDoor
