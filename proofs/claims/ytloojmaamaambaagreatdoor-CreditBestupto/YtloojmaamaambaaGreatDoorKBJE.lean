/- Kinds, mixes and lines of package credit in memory; the statements over them that draw their order. -/
import Derived.Test.YtloojmaamaambaaGreatDoorKBJA
namespace Go.Proofs.YtloojmaamaambaaGreatDoor
open Go.RowKit

/-- a box of so many cells, which may be written -/
structure SBox (w : World) (g : Nat) (vs : List Value) : Prop where
 cells : ∀ k v,vs[k]? = some v→w.cell? ⟨g,k,none⟩ = some v
 loose : ∀ j,w.frozen? ⟨g,j,none⟩ = false
theorem SBox.new (w : World) (vs : List Value) (t : TypeId) : SBox (w.alloc (.cells vs.toArray t)) w.heap.size vs :=
 ⟨fun k v h => by rw [World.cell?_alloc_new]; simpa using h,fun j => by simp⟩
theorem SBox.but {w w' : World} {g : Nat} {vs : List Value} {l : List Nat} (h : SBox w g vs) (hb : But l w w') (hn : g ∉ l) (h0 : 0 < vs.length) : SBox w' g vs:=by
 have hl : g < w.heap.size:=by
  have:=h.cells 0 vs[0] (List.getElem?_eq_getElem h0)
  exact lt_of_cell this
 exact ⟨fun k v hv => hb.cell_some (h.cells k v hv) hn,fun j => (hb.frozen (p:=⟨g,j,none⟩) hl hn).trans (h.loose j)⟩
theorem SBox.lt {w : World} {g : Nat} {vs : List Value} (h : SBox w g vs) (h0 : 0 < vs.length) : g < w.heap.size:=lt_of_cell (h.cells 0 vs[0] (List.getElem?_eq_getElem h0))
theorem SBox.some {w : World} {g : Nat} {vs : List Value} (h : SBox w g vs) (k : Nat) (hk : k < vs.length) : ∃ v,w.cell? ⟨g,k,none⟩ = some v:=⟨_,h.cells k vs[k] (List.getElem?_eq_getElem hk)⟩
theorem SBox.put {w : World} {g : Nat} {vs us : List Value} (h : SBox w g vs) (hl : us.length = vs.length) : SBox (w.setCells g 0 us) g us:=by
 refine ⟨fun k v hv => ?_,fun j => by rw [World.frozen?_setCells]; exact h.loose j⟩
 have hk : k < us.length:=(List.getElem?_eq_some_iff.1 hv).1
 have e:=World.cell?_setCells_in g us 0 w (fun j hj => by
  obtain ⟨v,hc⟩:=h.some j (by omega)
  rw [Nat.zero_add,hc]; rfl) k hk
 rw [Nat.zero_add] at e
 rw [e,← (List.getElem?_eq_some_iff.1 hv).2]
/-- the twelve cells of a kind -/
def K12 (w : World) (b o : Nat) (s1 : Bool) (x1 y1 : Int) (p1 : Option Addr) (s2 : Bool) (x2 y2 : Int) (p2 : Option Addr) (s3 : Bool) (x3 y3 : Int) (p3 : Option Addr) : Prop:=P4o w b o s1 x1 y1 p1∧P4o w b (o + 4) s2 x2 y2 p2∧P4o w b (o + 8) s3 x3 y3 p3
theorem K12.but {w w' : World} {b o : Nat} {s1 : Bool} {x1 y1 : Int} {p1 : Option Addr} {s2 : Bool} {x2 y2 : Int} {p2 : Option Addr} {s3 : Bool} {x3 y3 : Int} {p3 : Option Addr} {l : List Nat} (h : K12 w b o s1 x1 y1 p1 s2 x2 y2 p2 s3 x3 y3 p3) (hb : But l w w') (hn : b ∉ l) : K12 w' b o s1 x1 y1 p1 s2 x2 y2 p2 s3 x3 y3 p3:=⟨h.1.but hb hn,h.2.1.but hb hn,h.2.2.but hb hn⟩
/-- a kind: how likely it is, the mean of its years, how much they are spread -/
structure Kd where
 ch : Rat
 me : Rat
 sp : Rat
/-- the slice v holds these kinds (of numbers that lie in their places themselves, without a word elsewhere) -/
def KindsAt (w : World) (v : Value) (ks : List Kd) : Prop:=∃ a cap,v = .slice a ks.length cap∧ks.length ≤ cap∧∀ i k,ks[i]? = some k→∃ b off,a = some ⟨b,off,none⟩∧∃ s1 x1 y1 p1 s2 x2 y2 p2 s3 x3 y3 p3,K12 w b (off + i * 12) s1 x1 y1 p1 s2 x2 y2 p2 s3 x3 y3 p3∧(∀ W,FracAt W (.agg #[.bool s1,.int .u64 x1,.int .u64 y1,.pointer p1]) k.ch)∧(∀ W,FracAt W (.agg #[.bool s2,.int .u64 x2,.int .u64 y2,.pointer p2]) k.me)∧∀ W,FracAt W (.agg #[.bool s3,.int .u64 x3,.int .u64 y3,.pointer p3]) k.sp
theorem KindsAt.but {w w' : World} {v : Value} {ks : List Kd} (h : KindsAt w v ks) (hb : But [] w w') : KindsAt w' v ks:=by
 obtain ⟨a,cap,e,hc,h⟩:=h
 refine ⟨a,cap,e,hc,fun i k hk => ?_⟩
 obtain ⟨b,off,e1,s1,x1,y1,p1,s2,x2,y2,p2,s3,x3,y3,p3,h1,h2⟩:=h i k hk
 exact ⟨b,off,e1,s1,x1,y1,p1,s2,x2,y2,p2,s3,x3,y3,p3,h1.but hb (by simp),h2⟩
theorem KindsAt.get {w : World} {q : Option Addr} {n cap : Nat} {ks : List Kd} (h : KindsAt w (.slice q n cap) ks) (i : Nat) (hi : i < n) (k : Kd) (hk : ks[i]? = some k) : ∃ b off s1 x1 y1 p1 s2 x2 y2 p2 s3 x3 y3 p3,q = some ⟨b,off,none⟩∧K12 w b (off + i * 12) s1 x1 y1 p1 s2 x2 y2 p2 s3 x3 y3 p3∧(∀ W,FracAt W (.agg #[.bool s1,.int .u64 x1,.int .u64 y1,.pointer p1]) k.ch)∧(∀ W,FracAt W (.agg #[.bool s2,.int .u64 x2,.int .u64 y2,.pointer p2]) k.me)∧∀ W,FracAt W (.agg #[.bool s3,.int .u64 x3,.int .u64 y3,.pointer p3]) k.sp:=by
 obtain ⟨a,cap',e,-,h⟩:=h
 simp only [Value.slice.injEq] at e
 obtain ⟨rfl,rfl,-⟩:=e
 obtain ⟨b,off,e1,s1,x1,y1,p1,s2,x2,y2,p2,s3,x3,y3,p3,h1,h2⟩:=h i k hk
 exact ⟨b,off,s1,x1,y1,p1,s2,x2,y2,p2,s3,x3,y3,p3,e1,h1,h2⟩
theorem run_fK0 (a : Act) (w : World) (d t : Nat) (u : TypeId) (ps : String) (ed : Array Edge) (gd : Option (Nat × Bool)) (b : Nat) (h1 : a.eval (.tmp t) = .pointer (some ⟨b,0,none⟩)) :
  (execOp a.eval { dst:=some d,op:=Op.fieldAddr 79 (.tmp t) 0,type:=u,pos:=ps,after:=ed,guard:=gd }).run Tryz.prog w = .ok (.value (.pointer (some ⟨b,0,none⟩))) w:=by
 unfold execOp
 simp only [h1]
 go_simp
theorem run_fM0 (a : Act) (w : World) (d t : Nat) (u : TypeId) (ps : String) (ed : Array Edge) (gd : Option (Nat × Bool)) (b : Nat) (h1 : a.eval (.tmp t) = .pointer (some ⟨b,0,none⟩)) :
  (execOp a.eval { dst:=some d,op:=Op.fieldAddr 157 (.tmp t) 0,type:=u,pos:=ps,after:=ed,guard:=gd }).run Tryz.prog w = .ok (.value (.pointer (some ⟨b,0,none⟩))) w:=by
 unfold execOp
 simp only [h1]
 go_simp
theorem run_fM1 (a : Act) (w : World) (d t : Nat) (u : TypeId) (ps : String) (ed : Array Edge) (gd : Option (Nat × Bool)) (b : Nat) (h1 : a.eval (.tmp t) = .pointer (some ⟨b,0,none⟩)) :
  (execOp a.eval { dst:=some d,op:=Op.fieldAddr 157 (.tmp t) 1,type:=u,pos:=ps,after:=ed,guard:=gd }).run Tryz.prog w = .ok (.value (.pointer (some ⟨b,4,none⟩))) w:=by
 unfold execOp
 simp only [h1]
 go_simp
theorem run_fM2 (a : Act) (w : World) (d t : Nat) (u : TypeId) (ps : String) (ed : Array Edge) (gd : Option (Nat × Bool)) (b : Nat) (h1 : a.eval (.tmp t) = .pointer (some ⟨b,0,none⟩)) :
  (execOp a.eval { dst:=some d,op:=Op.fieldAddr 157 (.tmp t) 2,type:=u,pos:=ps,after:=ed,guard:=gd }).run Tryz.prog w = .ok (.value (.pointer (some ⟨b,8,none⟩))) w:=by
 unfold execOp
 simp only [h1]
 go_simp
theorem run_fL0 (a : Act) (w : World) (d t : Nat) (u : TypeId) (ps : String) (ed : Array Edge) (gd : Option (Nat × Bool)) (b : Nat) (h1 : a.eval (.tmp t) = .pointer (some ⟨b,0,none⟩)) :
  (execOp a.eval { dst:=some d,op:=Op.fieldAddr 81 (.tmp t) 0,type:=u,pos:=ps,after:=ed,guard:=gd }).run Tryz.prog w = .ok (.value (.pointer (some ⟨b,0,none⟩))) w:=by
 unfold execOp
 simp only [h1]
 go_simp
theorem run_fL1 (a : Act) (w : World) (d t : Nat) (u : TypeId) (ps : String) (ed : Array Edge) (gd : Option (Nat × Bool)) (b : Nat) (h1 : a.eval (.tmp t) = .pointer (some ⟨b,0,none⟩)) :
  (execOp a.eval { dst:=some d,op:=Op.fieldAddr 81 (.tmp t) 1,type:=u,pos:=ps,after:=ed,guard:=gd }).run Tryz.prog w = .ok (.value (.pointer (some ⟨b,4,none⟩))) w:=by
 unfold execOp
 simp only [h1]
 go_simp
theorem run_ldKd (a : Act) (w : World) (d t : Nat) (u : TypeId) (ps : String) (ed : Array Edge) (gd : Option (Nat × Bool)) (b : Nat) (s1 : Bool) (x1 y1 : Int) (p1 : Option Addr) (s2 : Bool) (x2 y2 : Int) (p2 : Option Addr) (s3 : Bool) (x3 y3 : Int) (p3 : Option Addr) (h1 : a.eval (.tmp t) = .pointer (some ⟨b,0,none⟩)) (hc : K12 w b 0 s1 x1 y1 p1 s2 x2 y2 p2 s3 x3 y3 p3) :
  (execOp a.eval { dst:=some d,op:=Op.load 79 (.tmp t),type:=u,pos:=ps,after:=ed,guard:=gd }).run Tryz.prog w = .ok (.value (.agg #[.bool s1,.int .u64 x1,.int .u64 y1,.pointer p1,.bool s2,.int .u64 x2,.int .u64 y2,.pointer p2,.bool s3,.int .u64 x3,.int .u64 y3,.pointer p3])) w:=by
 obtain ⟨⟨c0,c1,c2,c3⟩,⟨c4,c5,c6,c7⟩,⟨c8,c9,c10,c11⟩⟩:=hc
 simp only [Nat.zero_add,Nat.reduceAdd] at c0 c1 c2 c3 c4 c5 c6 c7 c8 c9 c10 c11
 unfold execOp
 simp only [h1]
 go_simp
theorem run_ldLn (a : Act) (w : World) (d t : Nat) (u : TypeId) (ps : String) (ed : Array Edge) (gd : Option (Nat × Bool)) (b : Nat) (s1 : Bool) (x1 y1 : Int) (p1 : Option Addr) (s2 : Bool) (x2 y2 : Int) (p2 : Option Addr) (h1 : a.eval (.tmp t) = .pointer (some ⟨b,0,none⟩)) (hc : SBox w b [.bool s1,.int .u64 x1,.int .u64 y1,.pointer p1,.bool s2,.int .u64 x2,.int .u64 y2,.pointer p2]) :
  (execOp a.eval { dst:=some d,op:=Op.load 81 (.tmp t),type:=u,pos:=ps,after:=ed,guard:=gd }).run Tryz.prog w = .ok (.value (.agg #[.bool s1,.int .u64 x1,.int .u64 y1,.pointer p1,.bool s2,.int .u64 x2,.int .u64 y2,.pointer p2])) w:=by
 have c0:=hc.cells 0 _ rfl
 have c1:=hc.cells 1 _ rfl
 have c2:=hc.cells 2 _ rfl
 have c3:=hc.cells 3 _ rfl
 have c4:=hc.cells 4 _ rfl
 have c5:=hc.cells 5 _ rfl
 have c6:=hc.cells 6 _ rfl
 have c7:=hc.cells 7 _ rfl
 unfold execOp
 simp only [h1]
 go_simp
theorem run_ofKd (a : Act) (w : World) (d t1 t2 : Nat) (u : TypeId) (ps : String) (ed : Array Edge) (gd : Option (Nat × Bool)) (f : FuncId) (x2 : Value) (h1 : a.eval (.tmp t1) = .func (.func f) #[] #[]) (h2 : a.eval (.tmp t2) = x2) (he : ∀ args W,(callFunc f args).run Tryz.prog W = .ok (.enter f args) W) :
  (execOp a.eval { dst:=some d,op:=Op.call { callee:=Callee.value (Operand.tmp t1),args:=#[Operand.tmp t2],argTypes:=#[79] },type:=u,pos:=ps,after:=ed,guard:=gd }).run Tryz.prog w = .ok (.enter f #[x2]) w:=by
 have h1' : a.tmps[t1]?.getD undef = .func (.func f) #[] #[]:=by rw [← Array.getD_eq_getD_getElem?]; exact h1
 have h2' : a.tmps[t2]?.getD undef = x2:=by rw [← Array.getD_eq_getD_getElem?]; exact h2
 simp [execOp,resolve,Deferred.ofValue,invoke,Act.eval,h1',h2',he,go_sem]
theorem run_mixJ (a : Act) (w : World) (d t0 t1 : Nat) (u : TypeId) (ps : String) (ed : Array Edge) (gd : Option (Nat × Bool)) (z0 z1 : Value) (h0 : a.eval (.tmp t0) = z0) (h1 : a.eval (.tmp t1) = z1) :
  (execOp a.eval { dst:=some d,op:=Op.call { callee:=Callee.value (Operand.func 106),args:=#[Operand.tmp t0,Operand.tmp t1],argTypes:=#[77,3] },type:=u,pos:=ps,after:=ed,guard:=gd }).run Tryz.prog w = .ok (.enter 106 #[z0,z1]) w:=by
 unfold execOp
 go_simp
 rw [← h0,← h1]
 simp [Act.eval]
theorem run_amissJ (a : Act) (w : World) (d t0 t1 : Nat) (u : TypeId) (ps : String) (ed : Array Edge) (gd : Option (Nat × Bool)) (z0 z1 : Value) (h0 : a.eval (.tmp t0) = z0) (h1 : a.eval (.tmp t1) = z1) :
  (execOp a.eval { dst:=some d,op:=Op.call { callee:=Callee.value (Operand.func 109),args:=#[Operand.tmp t0,Operand.tmp t1],argTypes:=#[157,81] },type:=u,pos:=ps,after:=ed,guard:=gd }).run Tryz.prog w = .ok (.enter 109 #[z0,z1]) w:=by
 unfold execOp
 go_simp
 rw [← h0,← h1]
 simp [Act.eval]
/-- a struct of fractions -/
def MixAt (f1 f2 f3 : Rat) (w : World) (v : Value) : Prop:=∃ s1 x1 y1 p1 s2 x2 y2 p2 s3 x3 y3 p3,v = .agg #[.bool s1,.int .u64 x1,.int .u64 y1,.pointer p1,.bool s2,.int .u64 x2,.int .u64 y2,.pointer p2,.bool s3,.int .u64 x3,.int .u64 y3,.pointer p3]∧FracAt w (.agg #[.bool s1,.int .u64 x1,.int .u64 y1,.pointer p1]) f1∧FracAt w (.agg #[.bool s2,.int .u64 x2,.int .u64 y2,.pointer p2]) f2∧FracAt w (.agg #[.bool s3,.int .u64 x3,.int .u64 y3,.pointer p3]) f3
theorem MixAt.but {f1 f2 f3 : Rat} {w w' : World} {v : Value} (h : MixAt f1 f2 f3 w v) (hb : But [] w w') : MixAt f1 f2 f3 w' v:=by
 obtain ⟨s1,x1,y1,p1,s2,x2,y2,p2,s3,x3,y3,p3,e,h1,h2,h3⟩:=h
 exact ⟨s1,x1,y1,p1,s2,x2,y2,p2,s3,x3,y3,p3,e,h1.but hb,h2.but hb,h3.but hb⟩
theorem run_bdMixAt (a : Act) (w : World) (d t1 t2 t3 : Nat) (u : TypeId) (ps : String) (ed : Array Edge) (gd : Option (Nat × Bool)) (s1 : Bool) (x1 y1 : Int) (p1 : Option Addr) (s2 : Bool) (x2 y2 : Int) (p2 : Option Addr) (s3 : Bool) (x3 y3 : Int) (p3 : Option Addr) (h1 : a.eval (.tmp t1) = .agg #[.bool s1,.int .u64 x1,.int .u64 y1,.pointer p1]) (h2 : a.eval (.tmp t2) = .agg #[.bool s2,.int .u64 x2,.int .u64 y2,.pointer p2]) (h3 : a.eval (.tmp t3) = .agg #[.bool s3,.int .u64 x3,.int .u64 y3,.pointer p3]) :
  (execOp a.eval { dst:=some d,op:=Op.build 157 #[(0,Operand.tmp t1),(1,Operand.tmp t2),(2,Operand.tmp t3)],type:=u,pos:=ps,after:=ed,guard:=gd }).run Tryz.prog w = .ok (.value (.agg #[.bool s1,.int .u64 x1,.int .u64 y1,.pointer p1,.bool s2,.int .u64 x2,.int .u64 y2,.pointer p2,.bool s3,.int .u64 x3,.int .u64 y3,.pointer p3])) w:=by
 unfold execOp
 simp only [List.map_toArray,List.map_cons,List.map_nil,h1,h2,h3]
 go_simp
theorem run_stMixAt (a : Act) (w : World) (t1 t2 : Nat) (u : TypeId) (ps : String) (ed : Array Edge) (gb : Nat) (s1 : Bool) (x1 y1 : Int) (p1 : Option Addr) (s2 : Bool) (x2 y2 : Int) (p2 : Option Addr) (s3 : Bool) (x3 y3 : Int) (p3 : Option Addr) {vb : List Value} (h1 : a.eval (.tmp t1) = .pointer (some ⟨gb,0,none⟩)) (h2 : a.eval (.tmp t2) = .agg #[.bool s1,.int .u64 x1,.int .u64 y1,.pointer p1,.bool s2,.int .u64 x2,.int .u64 y2,.pointer p2,.bool s3,.int .u64 x3,.int .u64 y3,.pointer p3]) (hc : SBox w gb vb) (hl : vb.length = 12) :
  (execOp a.eval { dst:=none,op:=Op.store 157 (.tmp t1) (.tmp t2),type:=u,pos:=ps,after:=ed,guard:=none }).run Tryz.prog w = .ok .skip (w.setCells gb 0 [.bool s1,.int .u64 x1,.int .u64 y1,.pointer p1,.bool s2,.int .u64 x2,.int .u64 y2,.pointer p2,.bool s3,.int .u64 x3,.int .u64 y3,.pointer p3]):=by
 obtain ⟨u0,c0⟩:=hc.some 0 (by omega)
 obtain ⟨u1,c1⟩:=hc.some 1 (by omega)
 obtain ⟨u2,c2⟩:=hc.some 2 (by omega)
 obtain ⟨u3,c3⟩:=hc.some 3 (by omega)
 obtain ⟨u4,c4⟩:=hc.some 4 (by omega)
 obtain ⟨u5,c5⟩:=hc.some 5 (by omega)
 obtain ⟨u6,c6⟩:=hc.some 6 (by omega)
 obtain ⟨u7,c7⟩:=hc.some 7 (by omega)
 obtain ⟨u8,c8⟩:=hc.some 8 (by omega)
 obtain ⟨u9,c9⟩:=hc.some 9 (by omega)
 obtain ⟨u10,c10⟩:=hc.some 10 (by omega)
 obtain ⟨u11,c11⟩:=hc.some 11 (by omega)
 have fz:=hc.loose
 unfold execOp
 simp only [h1,h2]
 go_simp
 rfl
/-- a struct of fractions -/
def LineAt (f1 f2 : Rat) (w : World) (v : Value) : Prop:=∃ s1 x1 y1 p1 s2 x2 y2 p2,v = .agg #[.bool s1,.int .u64 x1,.int .u64 y1,.pointer p1,.bool s2,.int .u64 x2,.int .u64 y2,.pointer p2]∧FracAt w (.agg #[.bool s1,.int .u64 x1,.int .u64 y1,.pointer p1]) f1∧FracAt w (.agg #[.bool s2,.int .u64 x2,.int .u64 y2,.pointer p2]) f2
theorem LineAt.but {f1 f2 : Rat} {w w' : World} {v : Value} (h : LineAt f1 f2 w v) (hb : But [] w w') : LineAt f1 f2 w' v:=by
 obtain ⟨s1,x1,y1,p1,s2,x2,y2,p2,e,h1,h2⟩:=h
 exact ⟨s1,x1,y1,p1,s2,x2,y2,p2,e,h1.but hb,h2.but hb⟩
theorem run_bdLineAt (a : Act) (w : World) (d t1 t2 : Nat) (u : TypeId) (ps : String) (ed : Array Edge) (gd : Option (Nat × Bool)) (s1 : Bool) (x1 y1 : Int) (p1 : Option Addr) (s2 : Bool) (x2 y2 : Int) (p2 : Option Addr) (h1 : a.eval (.tmp t1) = .agg #[.bool s1,.int .u64 x1,.int .u64 y1,.pointer p1]) (h2 : a.eval (.tmp t2) = .agg #[.bool s2,.int .u64 x2,.int .u64 y2,.pointer p2]) :
  (execOp a.eval { dst:=some d,op:=Op.build 81 #[(0,Operand.tmp t1),(1,Operand.tmp t2)],type:=u,pos:=ps,after:=ed,guard:=gd }).run Tryz.prog w = .ok (.value (.agg #[.bool s1,.int .u64 x1,.int .u64 y1,.pointer p1,.bool s2,.int .u64 x2,.int .u64 y2,.pointer p2])) w:=by
 unfold execOp
 simp only [List.map_toArray,List.map_cons,List.map_nil,h1,h2]
 go_simp
theorem run_stLineAt (a : Act) (w : World) (t1 t2 : Nat) (u : TypeId) (ps : String) (ed : Array Edge) (gb : Nat) (s1 : Bool) (x1 y1 : Int) (p1 : Option Addr) (s2 : Bool) (x2 y2 : Int) (p2 : Option Addr) {vb : List Value} (h1 : a.eval (.tmp t1) = .pointer (some ⟨gb,0,none⟩)) (h2 : a.eval (.tmp t2) = .agg #[.bool s1,.int .u64 x1,.int .u64 y1,.pointer p1,.bool s2,.int .u64 x2,.int .u64 y2,.pointer p2]) (hc : SBox w gb vb) (hl : vb.length = 8) :
  (execOp a.eval { dst:=none,op:=Op.store 81 (.tmp t1) (.tmp t2),type:=u,pos:=ps,after:=ed,guard:=none }).run Tryz.prog w = .ok .skip (w.setCells gb 0 [.bool s1,.int .u64 x1,.int .u64 y1,.pointer p1,.bool s2,.int .u64 x2,.int .u64 y2,.pointer p2]):=by
 obtain ⟨u0,c0⟩:=hc.some 0 (by omega)
 obtain ⟨u1,c1⟩:=hc.some 1 (by omega)
 obtain ⟨u2,c2⟩:=hc.some 2 (by omega)
 obtain ⟨u3,c3⟩:=hc.some 3 (by omega)
 obtain ⟨u4,c4⟩:=hc.some 4 (by omega)
 obtain ⟨u5,c5⟩:=hc.some 5 (by omega)
 obtain ⟨u6,c6⟩:=hc.some 6 (by omega)
 obtain ⟨u7,c7⟩:=hc.some 7 (by omega)
 have fz:=hc.loose
 unfold execOp
 simp only [h1,h2]
 go_simp
 rfl
def opJf0 : Oper:={ dst:=some 14,op:=Op.load 29 (Operand.tmp 5),type:=29,pos:= "line.go:66",after:=#[],guard:=none }
def opJf1 : Oper:={ dst:=some 15,op:=Op.fieldAddr 79 (Operand.tmp 7) 0,type:=0,pos:= "line.go:66",after:=#[],guard:=none }
def opJf2 : Oper:={ dst:=some 16,op:=Op.load 29 (Operand.tmp 15),type:=29,pos:= "line.go:66",after:=#[{ on:=1,ground:=Ground.data }],guard:=none }
def opJf3 : Oper:={ dst:=some 17,op:=Op.move (Operand.tmp 1),type:=208,pos:= "line.go:66",after:=#[],guard:=none }
def opJf4 : Oper:={ dst:=some 18,op:=Op.load 79 (Operand.tmp 7),type:=79,pos:= "line.go:66",after:=#[],guard:=none }
def opJf5 : Oper:={ dst:=some 19,op:=Op.call { callee:=Callee.value (Operand.tmp 17),args:=#[Operand.tmp 18],argTypes:=#[79] },type:=29,pos:= "line.go:66",after:=#[{ on:=3,ground:=Ground.data },{ on:=4,ground:=Ground.data }],guard:=none }
def opJf6 : Oper:={ dst:=some 20,op:=Op.call { callee:=Callee.value (Operand.func 33),args:=#[Operand.tmp 16,Operand.tmp 19],argTypes:=#[29,29] },type:=29,pos:= "line.go:66",after:=#[{ on:=2,ground:=Ground.data },{ on:=5,ground:=Ground.data },{ on:=5,ground:=Ground.chain }],guard:=none }
def opJf7 : Oper:={ dst:=some 21,op:=Op.call { callee:=Callee.value (Operand.func 22),args:=#[Operand.tmp 14,Operand.tmp 20],argTypes:=#[29,29] },type:=29,pos:= "line.go:66",after:=#[{ on:=0,ground:=Ground.data },{ on:=6,ground:=Ground.data },{ on:=6,ground:=Ground.chain }],guard:=none }
def opJf8 : Oper:={ dst:=none,op:=Op.store 29 (Operand.tmp 5) (Operand.tmp 21),type:=0,pos:= "line.go:66",after:=#[{ on:=7,ground:=Ground.data },{ on:=7,ground:=Ground.chain },{ on:=0,ground:=Ground.phase },{ on:=1,ground:=Ground.phase },{ on:=2,ground:=Ground.phase },{ on:=3,ground:=Ground.phase },{ on:=4,ground:=Ground.phase },{ on:=5,ground:=Ground.phase },{ on:=6,ground:=Ground.phase },{ on:=7,ground:=Ground.phase }],guard:=none }
def opJfs : Array Oper:=#[opJf0,opJf1,opJf2,opJf3,opJf4,opJf5,opJf6,opJf7,opJf8]
def opJfT (i : Nat) : Nat:=match i with
 | 0 => 14
 | 1 => 15
 | 2 => 16
 | 3 => 17
 | 4 => 18
 | 5 => 19
 | 6 => 20
 | _ => 21
/-- what each operation's value is -/
def opJfC (g7 : Nat) (s1 : Bool) (x1 : Int) (y1 : Int) (p1 : Option Addr) (s2 : Bool) (x2 : Int) (y2 : Int) (p2 : Option Addr) (s3 : Bool) (x3 : Int) (y3 : Int) (p3 : Option Addr) (s4 : Bool) (x4 : Int) (y4 : Int) (p4 : Option Addr) (fo : FuncId) (f1 : Rat) (f2 : Rat) (f3 : Rat) (i : Nat) (w : World) (v : Value) : Prop:=match i with
 | 0 => v = .agg #[.bool s1,.int .u64 x1,.int .u64 y1,.pointer p1]
 | 1 => v = .pointer (some ⟨g7,0,none⟩)
 | 2 => v = .agg #[.bool s2,.int .u64 x2,.int .u64 y2,.pointer p2]
 | 3 => v = .func (.func fo) #[] #[]
 | 4 => v = .agg #[.bool s2,.int .u64 x2,.int .u64 y2,.pointer p2,.bool s3,.int .u64 x3,.int .u64 y3,.pointer p3,.bool s4,.int .u64 x4,.int .u64 y4,.pointer p4]
 | 5 => FracAt w v f3
 | 6 => FracAt w v (f2 * f3)
 | _ => FracAt w v (f1 + f2 * f3)
theorem opJfC_but {g7 : Nat} {s1 : Bool} {x1 : Int} {y1 : Int} {p1 : Option Addr} {s2 : Bool} {x2 : Int} {y2 : Int} {p2 : Option Addr} {s3 : Bool} {x3 : Int} {y3 : Int} {p3 : Option Addr} {s4 : Bool} {x4 : Int} {y4 : Int} {p4 : Option Addr} {fo : FuncId} {f1 : Rat} {f2 : Rat} {f3 : Rat} {i : Nat} {w w' : World} {v : Value} (h : opJfC g7 s1 x1 y1 p1 s2 x2 y2 p2 s3 x3 y3 p3 s4 x4 y4 p4 fo f1 f2 f3 i w v) (hi : i < 8) (hb : But [] w w') : opJfC g7 s1 x1 y1 p1 s2 x2 y2 p2 s3 x3 y3 p3 s4 x4 y4 p4 fo f1 f2 f3 i w' v:=by
 have : i = 0 ∨ i = 1 ∨ i = 2 ∨ i = 3 ∨ i = 4 ∨ i = 5 ∨ i = 6 ∨ i = 7:=by omega
 rcases this with rfl | rfl | rfl | rfl | rfl | rfl | rfl | rfl
 all_goals first | exact h | exact FracAt.but h hb | exact FracsAt.but h hb
theorem opJfT_inj : ∀ i j,i < 8→j < 8→opJfT i = opJfT j→i = j:=fun i j hi hj => (by decide : ∀ i,i < 8→∀ j,j < 8→opJfT i = opJfT j→i = j) i hi j hj
set_option maxHeartbeats 8000000 in
set_option maxRecDepth 100000 in
theorem meanOf_region (id : Nat) (Q : Exit→Act→World→Prop) (base : Act) (W0 : World) (g7 : Nat) (s1 : Bool) (x1 : Int) (y1 : Int) (p1 : Option Addr) (s2 : Bool) (x2 : Int) (y2 : Int) (p2 : Option Addr) (s3 : Bool) (x3 : Int) (y3 : Int) (p3 : Option Addr) (s4 : Bool) (x4 : Int) (y4 : Int) (p4 : Option Addr) (fo : FuncId) (f1 : Rat) (f2 : Rat) (f3 : Rat) (gb : Nat) {sb : Bool} {xb yb : Int} {pb : Option Addr} (hs : 21 < base.tmps.size) (eb : base.eval (.tmp 5) = .pointer (some ⟨gb,0,none⟩)) (cb : P4 W0 gb sb xb yb pb) (fzb : ∀ j,W0.frozen? ⟨gb,j,none⟩ = false) (e7 : base.eval (.tmp 7) = .pointer (some ⟨g7,0,none⟩)) (e1 : base.eval (.tmp 1) = .func (.func fo) #[] #[])
  (c1 : P4 W0 gb s1 x1 y1 p1) (kd : K12 W0 g7 0 s2 x2 y2 p2 s3 x3 y3 p3 s4 x4 y4 p4) (EN : ∀ args W,(callFunc fo args).run Tryz.prog W = .ok (.enter fo args) W)
  (OF : ∀ w,But [] W0 w→Calls Tryz.prog fo #[.agg #[.bool s2,.int .u64 x2,.int .u64 y2,.pointer p2,.bool s3,.int .u64 x3,.int .u64 y3,.pointer p3,.bool s4,.int .u64 x4,.int .u64 y4,.pointer p4]] w fun e w' => ∃ v,e = .returned v∧FracAt w' v f3∧But [] w w')
  (MU : ∀ w,But [] W0 w→∀ v,FracAt w v f3→Calls Tryz.prog 33 #[.agg #[.bool s2,.int .u64 x2,.int .u64 y2,.pointer p2],v] w fun e w' => ∃ v,e = .returned v∧FracAt w' v (f2 * f3)∧But [] w w')
  (AD : ∀ w,But [] W0 w→∀ v,FracAt w v (f2 * f3)→Calls Tryz.prog 22 #[.agg #[.bool s1,.int .u64 x1,.int .u64 y1,.pointer p1],v] w fun e w' => ∃ v,e = .returned v∧FracAt w' v (f1 + f2 * f3)∧But [] w w')
  (hQ : ∀ w1 v5 v6 s' x' y' p',But [] W0 w1→FracAt w1 (.agg #[.bool s',.int .u64 x',.int .u64 y',.pointer p']) (f1 + f2 * f3)→Q .normal (putted base [(14,.agg #[.bool s1,.int .u64 x1,.int .u64 y1,.pointer p1]),(15,.pointer (some ⟨g7,0,none⟩)),(16,.agg #[.bool s2,.int .u64 x2,.int .u64 y2,.pointer p2]),(17,.func (.func fo) #[] #[]),(18,.agg #[.bool s2,.int .u64 x2,.int .u64 y2,.pointer p2,.bool s3,.int .u64 x3,.int .u64 y3,.pointer p3,.bool s4,.int .u64 x4,.int .u64 y4,.pointer p4]),(19,v5),(20,v6),(21,(.agg #[.bool s',.int .u64 x',.int .u64 y',.pointer p']))]) (put4 w1 gb s' x' y' p')) :
  (Code.region id opJfs true).wp Tryz.prog Q base W0:=by
 have hdr : ∀ {w},But [] W0.drew w→But [] W0 w:=fun h => (But.refl _ _).drew.trans' h
 have lgb : gb < W0.heap.size:=lt_of_cell cb.1
 have hT : ∀ i,i < 8→opJfT i < base.tmps.size:=fun i hi => by
  have h : opJfT i ≤ 21:=by revert i; decide
  omega
 refine region_flow (by kernel_rfl) (low_of (by kernel_rfl)) (fun i o ho => (calm_of (ops:=opJfs) (by kernel_rfl) i o ho).1)
  (fun _ w => But [] W0.drew w) (opJfC g7 s1 x1 y1 p1 s2 x2 y2 p2 s3 x3 y3 p3 s4 x4 y4 p4 fo f1 f2 f3) opJfT 8 rfl opJfT_inj hT (But.refl _ _)
  (fun i hi => ?_) ?_ (fun a w => ∃ w1 v5 v6 s' x' y' p',a = putted base [(14,.agg #[.bool s1,.int .u64 x1,.int .u64 y1,.pointer p1]),(15,.pointer (some ⟨g7,0,none⟩)),(16,.agg #[.bool s2,.int .u64 x2,.int .u64 y2,.pointer p2]),(17,.func (.func fo) #[] #[]),(18,.agg #[.bool s2,.int .u64 x2,.int .u64 y2,.pointer p2,.bool s3,.int .u64 x3,.int .u64 y3,.pointer p3,.bool s4,.int .u64 x4,.int .u64 y4,.pointer p4]),(19,v5),(20,v6),(21,(.agg #[.bool s',.int .u64 x',.int .u64 y',.pointer p']))]∧w = put4 w1 gb s' x' y' p'∧But [] W0 w1∧FracAt w1 (.agg #[.bool s',.int .u64 x',.int .u64 y',.pointer p']) (f1 + f2 * f3)) ?_ ?_
 ·exact dep_of (ops:=opJfs) (ps:=[(8,0),(8,1),(8,2),(8,3),(8,4),(8,5),(8,6),(8,7)]) (by kernel_rfl) 8 i (by
   have : i = 0 ∨ i = 1 ∨ i = 2 ∨ i = 3 ∨ i = 4 ∨ i = 5 ∨ i = 6 ∨ i = 7:=by omega
   rcases this with rfl | rfl | rfl | rfl | rfl | rfl | rfl | rfl <;> simp)
 ·intro dn i o a w K hi ho hdi hH he hdep hK
  have hD:=fun j hj => (dep_have (ps:=[(2,1),(5,3),(5,4),(6,2),(6,5),(7,0),(7,6)]) (by kernel_rfl) ho (fun j => dn j = true∧opJfC g7 s1 x1 y1 p1 s2 x2 y2 p2 s3 x3 y3 p3 s4 x4 y4 p4 fo f1 f2 f3 j w (a.eval (.tmp (opJfT j)))) hdep j hj).2
  have hk : ∀ v w',But [] w w'→opJfC g7 s1 x1 y1 p1 s2 x2 y2 p2 s3 x3 y3 p3 s4 x4 y4 p4 fo f1 f2 f3 i w' v→K (a.put (some (opJfT i)) v) w':=fun v w' hb hv => hK v w' (hH.trans' hb) (fun j hj _ u hu => opJfC_but hu hj hb) hv
  have eb':=(he 5 (fun j hj e => absurd e.symm (by revert j; decide))).trans eb
  have e7':=(he 7 (fun j hj e => absurd e.symm (by revert j; decide))).trans e7
  have e1':=(he 1 (fun j hj e => absurd e.symm (by revert j; decide))).trans e1
  have : i = 0 ∨ i = 1 ∨ i = 2 ∨ i = 3 ∨ i = 4 ∨ i = 5 ∨ i = 6 ∨ i = 7:=by omega
  rcases this with rfl | rfl | rfl | rfl | rfl | rfl | rfl | rfl
  ·obtain rfl:=Option.some.inj ((show opJfs[0]? = some opJf0 from rfl).symm.trans ho)
   exact wp_value (run_loadK a w _ _ _ _ _ _ gb 0 _ _ _ _ eb' (c1.but (hdr hH) (by simp))) (hk _ _ (But.refl _ _) rfl)
  ·obtain rfl:=Option.some.inj ((show opJfs[1]? = some opJf1 from rfl).symm.trans ho)
   exact wp_value (run_fK0 a w _ _ _ _ _ _ g7 e7') (hk _ _ (But.refl _ _) rfl)
  ·obtain rfl:=Option.some.inj ((show opJfs[2]? = some opJf2 from rfl).symm.trans ho)
   exact wp_value (run_loadK a w _ _ _ _ _ _ g7 0 _ _ _ _ (hD 1 (by simp)) (kd.1.but (hdr hH) (by simp))) (hk _ _ (But.refl _ _) rfl)
  ·obtain rfl:=Option.some.inj ((show opJfs[3]? = some opJf3 from rfl).symm.trans ho)
   exact wp_value (run_mvK a w _ _ _ _ _ _ _ e1') (hk _ _ (But.refl _ _) rfl)
  ·obtain rfl:=Option.some.inj ((show opJfs[4]? = some opJf4 from rfl).symm.trans ho)
   exact wp_value (run_ldKd a w _ _ _ _ _ _ g7 _ _ _ _ _ _ _ _ _ _ _ _ e7' (kd.but (hdr hH) (by simp))) (hk _ _ (But.refl _ _) rfl)
  ·obtain rfl:=Option.some.inj ((show opJfs[5]? = some opJf5 from rfl).symm.trans ho)
   exact wp_enter (run_ofKd a w _ _ _ _ _ _ _ fo _ (hD 3 (by simp)) (hD 4 (by simp)) EN) (R:=fun w' v => FracAt w' v (f3)∧But [] w w') (OF w (hdr hH)) (fun v w' hv => hk v w' hv.2 hv.1)
  ·obtain rfl:=Option.some.inj ((show opJfs[6]? = some opJf6 from rfl).symm.trans ho)
   exact wp_enter (run_mulK a w _ _ _ _ _ _ _ _ _ (hD 2 (by simp)) rfl) (R:=fun w' v => FracAt w' v (f2 * f3)∧But [] w w') (MU w (hdr hH) _ (hD 5 (by simp))) (fun v w' hv => hk v w' hv.2 hv.1)
  ·obtain rfl:=Option.some.inj ((show opJfs[7]? = some opJf7 from rfl).symm.trans ho)
   exact wp_enter (run_addK a w _ _ _ _ _ _ _ _ _ (hD 0 (by simp)) rfl) (R:=fun w' v => FracAt w' v (f1 + f2 * f3)∧But [] w w') (AD w (hdr hH) _ (hD 6 (by simp))) (fun v w' hv => hk v w' hv.2 hv.1)
 ·intro dn o a w K ho hall h hK
  obtain rfl:=Option.some.inj ((show opJfs[8]? = some opJf8 from rfl).symm.trans ho)
  have eb':=(h.eval 5 (fun j hj e => absurd e.symm (by revert j; decide))).trans eb
  have cl : FracAt w (a.eval (.tmp 21)) (f1 + f2 * f3):=h.has 7 (by omega) (hall 7 (by omega))
  have cl':=cl
  obtain ⟨x',y',p',ev,-⟩:=cl.agg
  rw [ev] at cl'
  have ea:=h.puts hT (fun i => match i with
   | 0 => .agg #[.bool s1,.int .u64 x1,.int .u64 y1,.pointer p1]
   | 1 => .pointer (some ⟨g7,0,none⟩)
   | 2 => .agg #[.bool s2,.int .u64 x2,.int .u64 y2,.pointer p2]
   | 3 => .func (.func fo) #[] #[]
   | 4 => .agg #[.bool s2,.int .u64 x2,.int .u64 y2,.pointer p2,.bool s3,.int .u64 x3,.int .u64 y3,.pointer p3,.bool s4,.int .u64 x4,.int .u64 y4,.pointer p4]
   | 5 => a.eval (.tmp 19)
   | 6 => a.eval (.tmp 20)
   | _ => .agg #[.bool (decide ((f1 + f2 * f3).num < 0)),.int .u64 x',.int .u64 y',.pointer p']) (fun i hi => by
   have hc:=h.has i hi (hall i hi)
   have : i = 0 ∨ i = 1 ∨ i = 2 ∨ i = 3 ∨ i = 4 ∨ i = 5 ∨ i = 6 ∨ i = 7:=by omega
   rcases this with rfl | rfl | rfl | rfl | rfl | rfl | rfl | rfl
   all_goals first | exact ev | exact hc | rfl)
  exact wp_skipped (run_store4 a w _ _ _ _ _ gb _ x' y' p' eb' ev (cb.but (hdr h.mem) (by simp)) (fun j => ((hdr h.mem).frozen (p:=⟨gb,j,none⟩) lgb (by simp)).trans (fzb j))) (hK _ _ ⟨w,a.eval (.tmp 19),a.eval (.tmp 20),_,x',y',p',ea,rfl,hdr h.mem,cl'⟩)
 ·rintro a w ⟨w1,v5,v6,s',x',y',p',rfl,rfl,h1,h2⟩
  exact hQ  w1 v5 v6 s' x' y' p' h1 h2
def opJg0 : Oper:={ dst:=some 14,op:=Op.load 29 (Operand.tmp 5),type:=29,pos:= "line.go:59",after:=#[],guard:=none }
def opJg1 : Oper:={ dst:=some 15,op:=Op.load 29 (Operand.tmp 6),type:=29,pos:= "line.go:59",after:=#[],guard:=none }
def opJg2 : Oper:={ dst:=some 16,op:=Op.load 29 (Operand.tmp 5),type:=29,pos:= "line.go:59",after:=#[],guard:=none }
def opJg3 : Oper:={ dst:=some 17,op:=Op.call { callee:=Callee.value (Operand.func 162),args:=#[Operand.tmp 16],argTypes:=#[29] },type:=29,pos:= "line.go:59",after:=#[{ on:=2,ground:=Ground.data }],guard:=none }
def opJg4 : Oper:={ dst:=some 18,op:=Op.call { callee:=Callee.value (Operand.func 74),args:=#[Operand.tmp 15,Operand.tmp 17],argTypes:=#[29,29] },type:=29,pos:= "line.go:59",after:=#[{ on:=1,ground:=Ground.data },{ on:=3,ground:=Ground.data },{ on:=3,ground:=Ground.chain }],guard:=none }
def opJg5 : Oper:={ dst:=some 19,op:=Op.load 29 (Operand.tmp 7),type:=29,pos:= "line.go:59",after:=#[],guard:=none }
def opJg6 : Oper:={ dst:=some 20,op:=Op.move (Operand.tmp 1),type:=3,pos:= "line.go:59",after:=#[],guard:=none }
def opJg7 : Oper:={ dst:=some 21,op:=Op.call { callee:=Callee.value (Operand.func 113),args:=#[Operand.tmp 19,Operand.tmp 20],argTypes:=#[29,3] },type:=29,pos:= "line.go:59",after:=#[{ on:=5,ground:=Ground.data },{ on:=6,ground:=Ground.data },{ on:=4,ground:=Ground.chain }],guard:=none }
def opJg8 : Oper:={ dst:=some 22,op:=Op.build 157 #[(0,Operand.tmp 14),(1,Operand.tmp 18),(2,Operand.tmp 21)],type:=157,pos:= "line.go:59",after:=#[{ on:=0,ground:=Ground.data },{ on:=4,ground:=Ground.data },{ on:=7,ground:=Ground.data }],guard:=none }
def opJg9 : Oper:={ dst:=none,op:=Op.store 157 (Operand.tmp 4) (Operand.tmp 22),type:=0,pos:= "line.go:59",after:=#[{ on:=8,ground:=Ground.data },{ on:=7,ground:=Ground.chain },{ on:=0,ground:=Ground.phase },{ on:=1,ground:=Ground.phase },{ on:=2,ground:=Ground.phase },{ on:=3,ground:=Ground.phase },{ on:=4,ground:=Ground.phase },{ on:=5,ground:=Ground.phase },{ on:=6,ground:=Ground.phase },{ on:=7,ground:=Ground.phase },{ on:=8,ground:=Ground.phase }],guard:=none }
def opJgs : Array Oper:=#[opJg0,opJg1,opJg2,opJg3,opJg4,opJg5,opJg6,opJg7,opJg8,opJg9]
def opJgT (i : Nat) : Nat:=match i with
 | 0 => 14
 | 1 => 15
 | 2 => 16
 | 3 => 17
 | 4 => 18
 | 5 => 19
 | 6 => 20
 | 7 => 21
 | _ => 22
/-- what each operation's value is -/
def opJgC (n : Int) (s1 : Bool) (x1 : Int) (y1 : Int) (p1 : Option Addr) (s2 : Bool) (x2 : Int) (y2 : Int) (p2 : Option Addr) (s3 : Bool) (x3 : Int) (y3 : Int) (p3 : Option Addr) (f1 : Rat) (f2 : Rat) (f3 : Rat) (i : Nat) (w : World) (v : Value) : Prop:=match i with
 | 0 => FracAt w v f1
 | 1 => v = .agg #[.bool s2,.int .u64 x2,.int .u64 y2,.pointer p2]
 | 2 => v = .agg #[.bool s1,.int .u64 x1,.int .u64 y1,.pointer p1]
 | 3 => FracAt w v (f1 * f1)
 | 4 => FracAt w v (f2 - f1 * f1)
 | 5 => v = .agg #[.bool s3,.int .u64 x3,.int .u64 y3,.pointer p3]
 | 6 => v = .int .i64 n
 | 7 => FracAt w v (f3 / ((n : Int) : Rat))
 | _ => MixAt (f1) (f2 - f1 * f1) (f3 / ((n : Int) : Rat)) w v
theorem opJgC_but {n : Int} {s1 : Bool} {x1 : Int} {y1 : Int} {p1 : Option Addr} {s2 : Bool} {x2 : Int} {y2 : Int} {p2 : Option Addr} {s3 : Bool} {x3 : Int} {y3 : Int} {p3 : Option Addr} {f1 : Rat} {f2 : Rat} {f3 : Rat} {i : Nat} {w w' : World} {v : Value} (h : opJgC n s1 x1 y1 p1 s2 x2 y2 p2 s3 x3 y3 p3 f1 f2 f3 i w v) (hi : i < 9) (hb : But [] w w') : opJgC n s1 x1 y1 p1 s2 x2 y2 p2 s3 x3 y3 p3 f1 f2 f3 i w' v:=by
 have : i = 0 ∨ i = 1 ∨ i = 2 ∨ i = 3 ∨ i = 4 ∨ i = 5 ∨ i = 6 ∨ i = 7 ∨ i = 8:=by omega
 rcases this with rfl | rfl | rfl | rfl | rfl | rfl | rfl | rfl | rfl
 ·exact FracAt.but (show FracAt w v f1 from h) hb
 ·exact (show v = .agg #[.bool s2,.int .u64 x2,.int .u64 y2,.pointer p2] from h)
 ·exact (show v = .agg #[.bool s1,.int .u64 x1,.int .u64 y1,.pointer p1] from h)
 ·exact FracAt.but (show FracAt w v (f1 * f1) from h) hb
 ·exact FracAt.but (show FracAt w v (f2 - f1 * f1) from h) hb
 ·exact (show v = .agg #[.bool s3,.int .u64 x3,.int .u64 y3,.pointer p3] from h)
 ·exact (show v = .int .i64 n from h)
 ·exact FracAt.but (show FracAt w v (f3 / ((n : Int) : Rat)) from h) hb
 ·exact MixAt.but (show MixAt (f1) (f2 - f1 * f1) (f3 / ((n : Int) : Rat)) w v from h) hb
theorem opJgT_inj : ∀ i j,i < 9→j < 9→opJgT i = opJgT j→i = j:=fun i j hi hj => (by decide : ∀ i,i < 9→∀ j,j < 9→opJgT i = opJgT j→i = j) i hi j hj
set_option maxHeartbeats 8000000 in
set_option maxRecDepth 100000 in
theorem mixOf_region (id : Nat) (Q : Exit→Act→World→Prop) (base : Act) (W0 : World) (n : Int) (s1 : Bool) (x1 : Int) (y1 : Int) (p1 : Option Addr) (s2 : Bool) (x2 : Int) (y2 : Int) (p2 : Option Addr) (s3 : Bool) (x3 : Int) (y3 : Int) (p3 : Option Addr) (f1 : Rat) (f2 : Rat) (f3 : Rat) (gb g5 g6 g7 : Nat) {vb : List Value} (hs : 22 < base.tmps.size) (eb : base.eval (.tmp 4) = .pointer (some ⟨gb,0,none⟩)) (cb : SBox W0 gb vb) (hvb : vb.length = 12) (e5 : base.eval (.tmp 5) = .pointer (some ⟨g5,0,none⟩)) (e6 : base.eval (.tmp 6) = .pointer (some ⟨g6,0,none⟩)) (e7 : base.eval (.tmp 7) = .pointer (some ⟨g7,0,none⟩)) (e1 : base.eval (.tmp 1) = .int .i64 n)
  (c1 : P4 W0 g5 s1 x1 y1 p1) (c2 : P4 W0 g6 s2 x2 y2 p2) (c3 : P4 W0 g7 s3 x3 y3 p3) (F1 : FracAt W0 (.agg #[.bool s1,.int .u64 x1,.int .u64 y1,.pointer p1]) f1)
  (SQ : ∀ w,But [] W0 w→Calls Tryz.prog 162 #[.agg #[.bool s1,.int .u64 x1,.int .u64 y1,.pointer p1]] w fun e w' => ∃ v,e = .returned v∧FracAt w' v (f1 * f1)∧But [] w w')
  (SU : ∀ w,But [] W0 w→∀ v,FracAt w v (f1 * f1)→Calls Tryz.prog 74 #[.agg #[.bool s2,.int .u64 x2,.int .u64 y2,.pointer p2],v] w fun e w' => ∃ v,e = .returned v∧FracAt w' v (f2 - f1 * f1)∧But [] w w')
  (QU : ∀ w,But [] W0 w→Calls Tryz.prog 113 #[.agg #[.bool s3,.int .u64 x3,.int .u64 y3,.pointer p3],.int .i64 n] w fun e w' => ∃ v,e = .returned v∧FracAt w' v (f3 / ((n : Int) : Rat))∧But [] w w')
  (hQ : ∀ w1 v0 v3 v4 v7 a1 b1 c1 d1 a2 b2 c2 d2 a3 b3 c3 d3,But [] W0 w1→FracAt w1 (.agg #[.bool a1,.int .u64 b1,.int .u64 c1,.pointer d1]) (f1)→FracAt w1 (.agg #[.bool a2,.int .u64 b2,.int .u64 c2,.pointer d2]) (f2 - f1 * f1)→FracAt w1 (.agg #[.bool a3,.int .u64 b3,.int .u64 c3,.pointer d3]) (f3 / ((n : Int) : Rat))→Q .normal (putted base [(14,v0),(15,.agg #[.bool s2,.int .u64 x2,.int .u64 y2,.pointer p2]),(16,.agg #[.bool s1,.int .u64 x1,.int .u64 y1,.pointer p1]),(17,v3),(18,v4),(19,.agg #[.bool s3,.int .u64 x3,.int .u64 y3,.pointer p3]),(20,.int .i64 n),(21,v7),(22,.agg #[.bool a1,.int .u64 b1,.int .u64 c1,.pointer d1,.bool a2,.int .u64 b2,.int .u64 c2,.pointer d2,.bool a3,.int .u64 b3,.int .u64 c3,.pointer d3])]) (w1.setCells gb 0 [.bool a1,.int .u64 b1,.int .u64 c1,.pointer d1,.bool a2,.int .u64 b2,.int .u64 c2,.pointer d2,.bool a3,.int .u64 b3,.int .u64 c3,.pointer d3])) :
  (Code.region id opJgs true).wp Tryz.prog Q base W0:=by
 have hdr : ∀ {w},But [] W0.drew w→But [] W0 w:=fun h => (But.refl _ _).drew.trans' h
 have hT : ∀ i,i < 9→opJgT i < base.tmps.size:=fun i hi => by
  have h : opJgT i ≤ 22:=by revert i; decide
  omega
 refine region_flow (by kernel_rfl) (low_of (by kernel_rfl)) (fun i o ho => (calm_of (ops:=opJgs) (by kernel_rfl) i o ho).1)
  (fun _ w => But [] W0.drew w) (opJgC n s1 x1 y1 p1 s2 x2 y2 p2 s3 x3 y3 p3 f1 f2 f3) opJgT 9 rfl opJgT_inj hT (But.refl _ _)
  (fun i hi => ?_) ?_ (fun a w => ∃ w1 v0 v3 v4 v7 a1 b1 c1 d1 a2 b2 c2 d2 a3 b3 c3 d3,a = putted base [(14,v0),(15,.agg #[.bool s2,.int .u64 x2,.int .u64 y2,.pointer p2]),(16,.agg #[.bool s1,.int .u64 x1,.int .u64 y1,.pointer p1]),(17,v3),(18,v4),(19,.agg #[.bool s3,.int .u64 x3,.int .u64 y3,.pointer p3]),(20,.int .i64 n),(21,v7),(22,.agg #[.bool a1,.int .u64 b1,.int .u64 c1,.pointer d1,.bool a2,.int .u64 b2,.int .u64 c2,.pointer d2,.bool a3,.int .u64 b3,.int .u64 c3,.pointer d3])]∧w = w1.setCells gb 0 [.bool a1,.int .u64 b1,.int .u64 c1,.pointer d1,.bool a2,.int .u64 b2,.int .u64 c2,.pointer d2,.bool a3,.int .u64 b3,.int .u64 c3,.pointer d3]∧But [] W0 w1∧FracAt w1 (.agg #[.bool a1,.int .u64 b1,.int .u64 c1,.pointer d1]) (f1)∧FracAt w1 (.agg #[.bool a2,.int .u64 b2,.int .u64 c2,.pointer d2]) (f2 - f1 * f1)∧FracAt w1 (.agg #[.bool a3,.int .u64 b3,.int .u64 c3,.pointer d3]) (f3 / ((n : Int) : Rat))) ?_ ?_
 ·exact dep_of (ops:=opJgs) (ps:=[(9,0),(9,1),(9,2),(9,3),(9,4),(9,5),(9,6),(9,7),(9,8)]) (by kernel_rfl) 9 i (by
   have : i = 0 ∨ i = 1 ∨ i = 2 ∨ i = 3 ∨ i = 4 ∨ i = 5 ∨ i = 6 ∨ i = 7 ∨ i = 8:=by omega
   rcases this with rfl | rfl | rfl | rfl | rfl | rfl | rfl | rfl | rfl <;> simp)
 ·intro dn i o a w K hi ho hdi hH he hdep hK
  have hD:=fun j hj => (dep_have (ps:=[(3,2),(4,1),(4,3),(7,4),(7,5),(7,6),(8,0),(8,4),(8,7)]) (by kernel_rfl) ho (fun j => dn j = true∧opJgC n s1 x1 y1 p1 s2 x2 y2 p2 s3 x3 y3 p3 f1 f2 f3 j w (a.eval (.tmp (opJgT j)))) hdep j hj).2
  have hk : ∀ v w',But [] w w'→opJgC n s1 x1 y1 p1 s2 x2 y2 p2 s3 x3 y3 p3 f1 f2 f3 i w' v→K (a.put (some (opJgT i)) v) w':=fun v w' hb hv => hK v w' (hH.trans' hb) (fun j hj _ u hu => opJgC_but hu hj hb) hv
  have e5':=(he 5 (fun j hj e => absurd e.symm (by revert j; decide))).trans e5
  have e6':=(he 6 (fun j hj e => absurd e.symm (by revert j; decide))).trans e6
  have e7':=(he 7 (fun j hj e => absurd e.symm (by revert j; decide))).trans e7
  have e1':=(he 1 (fun j hj e => absurd e.symm (by revert j; decide))).trans e1
  have : i = 0 ∨ i = 1 ∨ i = 2 ∨ i = 3 ∨ i = 4 ∨ i = 5 ∨ i = 6 ∨ i = 7 ∨ i = 8:=by omega
  rcases this with rfl | rfl | rfl | rfl | rfl | rfl | rfl | rfl | rfl
  ·obtain rfl:=Option.some.inj ((show opJgs[0]? = some opJg0 from rfl).symm.trans ho)
   exact wp_value (run_loadK a w _ _ _ _ _ _ g5 0 _ _ _ _ e5' (c1.but (hdr hH) (by simp))) (hk _ _ (But.refl _ _) (F1.but (hdr hH)))
  ·obtain rfl:=Option.some.inj ((show opJgs[1]? = some opJg1 from rfl).symm.trans ho)
   exact wp_value (run_loadK a w _ _ _ _ _ _ g6 0 _ _ _ _ e6' (c2.but (hdr hH) (by simp))) (hk _ _ (But.refl _ _) rfl)
  ·obtain rfl:=Option.some.inj ((show opJgs[2]? = some opJg2 from rfl).symm.trans ho)
   exact wp_value (run_loadK a w _ _ _ _ _ _ g5 0 _ _ _ _ e5' (c1.but (hdr hH) (by simp))) (hk _ _ (But.refl _ _) rfl)
  ·obtain rfl:=Option.some.inj ((show opJgs[3]? = some opJg3 from rfl).symm.trans ho)
   exact wp_enter (run_squareJ a w _ _ _ _ _ _ _ (hD 2 (by simp))) (R:=fun w' v => FracAt w' v (f1 * f1)∧But [] w w') (SQ w (hdr hH)) (fun v w' hv => hk v w' hv.2 hv.1)
  ·obtain rfl:=Option.some.inj ((show opJgs[4]? = some opJg4 from rfl).symm.trans ho)
   exact wp_enter (run_subJ a w _ _ _ _ _ _ _ _ _ (hD 1 (by simp)) rfl) (R:=fun w' v => FracAt w' v (f2 - f1 * f1)∧But [] w w') (SU w (hdr hH) _ (hD 3 (by simp))) (fun v w' hv => hk v w' hv.2 hv.1)
  ·obtain rfl:=Option.some.inj ((show opJgs[5]? = some opJg5 from rfl).symm.trans ho)
   exact wp_value (run_loadK a w _ _ _ _ _ _ g7 0 _ _ _ _ e7' (c3.but (hdr hH) (by simp))) (hk _ _ (But.refl _ _) rfl)
  ·obtain rfl:=Option.some.inj ((show opJgs[6]? = some opJg6 from rfl).symm.trans ho)
   exact wp_value (run_mvK a w _ _ _ _ _ _ _ e1') (hk _ _ (But.refl _ _) rfl)
  ·obtain rfl:=Option.some.inj ((show opJgs[7]? = some opJg7 from rfl).symm.trans ho)
   exact wp_enter (run_quotJ a w _ _ _ _ _ _ _ _ _ (hD 5 (by simp)) (hD 6 (by simp))) (R:=fun w' v => FracAt w' v (f3 / ((n : Int) : Rat))∧But [] w w') (QU w (hdr hH)) (fun v w' hv => hk v w' hv.2 hv.1)
  ·obtain rfl:=Option.some.inj ((show opJgs[8]? = some opJg8 from rfl).symm.trans ho)
   have q1 : FracAt w (a.eval (.tmp 14)) (f1):=hD 0 (by simp)
   obtain ⟨b1,c1,d1,e1,-⟩:=q1.agg
   rw [e1] at q1
   have q2 : FracAt w (a.eval (.tmp 18)) (f2 - f1 * f1):=hD 4 (by simp)
   obtain ⟨b2,c2,d2,e2,-⟩:=q2.agg
   rw [e2] at q2
   have q3 : FracAt w (a.eval (.tmp 21)) (f3 / ((n : Int) : Rat)):=hD 7 (by simp)
   obtain ⟨b3,c3,d3,e3,-⟩:=q3.agg
   rw [e3] at q3
   exact wp_value (run_bdMixAt a w _ _ _ _ _ _ _ _ _ b1 c1 d1 _ b2 c2 d2 _ b3 c3 d3 e1 e2 e3) (hk _ _ (But.refl _ _) ⟨_,b1,c1,d1,_,b2,c2,d2,_,b3,c3,d3,rfl,q1,q2,q3⟩)
 ·intro dn o a w K ho hall h hK
  obtain rfl:=Option.some.inj ((show opJgs[9]? = some opJg9 from rfl).symm.trans ho)
  have eb':=(h.eval 4 (fun j hj e => absurd e.symm (by revert j; decide))).trans eb
  obtain ⟨a1,b1,c1,d1,a2,b2,c2,d2,a3,b3,c3,d3,ev,h1,h2,h3⟩ : MixAt (f1) (f2 - f1 * f1) (f3 / ((n : Int) : Rat)) w (a.eval (.tmp 22)):=h.has 8 (by omega) (hall 8 (by omega))
  have ea:=h.puts hT (fun i => match i with
   | 0 => a.eval (.tmp 14)
   | 1 => .agg #[.bool s2,.int .u64 x2,.int .u64 y2,.pointer p2]
   | 2 => .agg #[.bool s1,.int .u64 x1,.int .u64 y1,.pointer p1]
   | 3 => a.eval (.tmp 17)
   | 4 => a.eval (.tmp 18)
   | 5 => .agg #[.bool s3,.int .u64 x3,.int .u64 y3,.pointer p3]
   | 6 => .int .i64 n
   | 7 => a.eval (.tmp 21)
   | _ => .agg #[.bool a1,.int .u64 b1,.int .u64 c1,.pointer d1,.bool a2,.int .u64 b2,.int .u64 c2,.pointer d2,.bool a3,.int .u64 b3,.int .u64 c3,.pointer d3]) (fun i hi => by
   have hc:=h.has i hi (hall i hi)
   have : i = 0 ∨ i = 1 ∨ i = 2 ∨ i = 3 ∨ i = 4 ∨ i = 5 ∨ i = 6 ∨ i = 7 ∨ i = 8:=by omega
   rcases this with rfl | rfl | rfl | rfl | rfl | rfl | rfl | rfl | rfl
   ·rfl
   ·exact hc
   ·exact hc
   ·rfl
   ·rfl
   ·exact hc
   ·exact hc
   ·rfl
   ·exact ev)
  exact wp_skipped (run_stMixAt a w _ _ _ _ _ gb a1 b1 c1 d1 a2 b2 c2 d2 a3 b3 c3 d3 eb' ev (cb.but (hdr h.mem) (by simp) (by omega)) hvb) (hK _ _ ⟨w,a.eval (.tmp 14),a.eval (.tmp 17),a.eval (.tmp 18),a.eval (.tmp 21),a1,b1,c1,d1,a2,b2,c2,d2,a3,b3,c3,d3,ea,rfl,hdr h.mem,h1,h2,h3⟩)
 ·rintro a w ⟨w1,v0,v3,v4,v7,a1,b1,c1,d1,a2,b2,c2,d2,a3,b3,c3,d3,rfl,rfl,hb1,h1,h2,h3⟩
  exact hQ w1 v0 v3 v4 v7 a1 b1 c1 d1 a2 b2 c2 d2 a3 b3 c3 d3 hb1 h1 h2 h3
/-- a place for a fraction, laid since, blank yet -/
def LaidJ (B : Nat) (w : World) (v : Value) : Prop:=∃ b,v = .pointer (some ⟨b,0,none⟩)∧B ≤ b∧P4 w b false 0 0 none∧∀ j,w.frozen? ⟨b,j,none⟩ = false
theorem LaidJ.but {B : Nat} {w w' : World} {v : Value} (h : LaidJ B w v) (hb : But [] w w') : LaidJ B w' v:=by
 obtain ⟨b,h1,h2,h3,h4⟩:=h
 have hl : b < w.heap.size:=lt_of_cell h3.1
 exact ⟨b,h1,h2,h3.but hb (by simp),fun j => (hb.frozen (p:=⟨b,j,none⟩) hl (by simp)).trans (h4 j)⟩
def opJh0 : Oper:={ dst:=some 10,op:=Op.fieldAddr 81 (Operand.tmp 3) 0,type:=0,pos:= "line.go:74",after:=#[],guard:=none }
def opJh1 : Oper:={ dst:=some 11,op:=Op.load 29 (Operand.tmp 10),type:=29,pos:= "line.go:74",after:=#[{ on:=0,ground:=Ground.data }],guard:=none }
def opJh2 : Oper:={ dst:=some 12,op:=Op.load 29 (Operand.tmp 5),type:=29,pos:= "line.go:74",after:=#[],guard:=none }
def opJh3 : Oper:={ dst:=some 13,op:=Op.fieldAddr 157 (Operand.tmp 2) 0,type:=0,pos:= "line.go:74",after:=#[],guard:=none }
def opJh4 : Oper:={ dst:=some 14,op:=Op.load 29 (Operand.tmp 13),type:=29,pos:= "line.go:74",after:=#[{ on:=3,ground:=Ground.data }],guard:=none }
def opJh5 : Oper:={ dst:=some 15,op:=Op.call { callee:=Callee.value (Operand.func 33),args:=#[Operand.tmp 12,Operand.tmp 14],argTypes:=#[29,29] },type:=29,pos:= "line.go:74",after:=#[{ on:=2,ground:=Ground.data },{ on:=4,ground:=Ground.data }],guard:=none }
def opJh6 : Oper:={ dst:=some 16,op:=Op.call { callee:=Callee.value (Operand.func 74),args:=#[Operand.tmp 11,Operand.tmp 15],argTypes:=#[29,29] },type:=29,pos:= "line.go:74",after:=#[{ on:=1,ground:=Ground.data },{ on:=5,ground:=Ground.data },{ on:=5,ground:=Ground.chain }],guard:=none }
def opJh7 : Oper:={ dst:=some 17,op:=Op.call { callee:=Callee.value (Operand.func 162),args:=#[Operand.tmp 16],argTypes:=#[29] },type:=29,pos:= "line.go:74",after:=#[{ on:=6,ground:=Ground.data },{ on:=6,ground:=Ground.chain }],guard:=none }
def opJh8 : Oper:={ dst:=some 6,op:=Op.alloc 29,type:=0,pos:= "line.go:74",after:=#[],guard:=none }
def opJh9 : Oper:={ dst:=none,op:=Op.store 29 (Operand.tmp 6) (Operand.tmp 17),type:=0,pos:= "line.go:74",after:=#[{ on:=8,ground:=Ground.data },{ on:=7,ground:=Ground.data },{ on:=7,ground:=Ground.chain },{ on:=0,ground:=Ground.phase },{ on:=1,ground:=Ground.phase },{ on:=2,ground:=Ground.phase },{ on:=3,ground:=Ground.phase },{ on:=4,ground:=Ground.phase },{ on:=5,ground:=Ground.phase },{ on:=6,ground:=Ground.phase },{ on:=7,ground:=Ground.phase },{ on:=8,ground:=Ground.phase }],guard:=none }
def opJhs : Array Oper:=#[opJh0,opJh1,opJh2,opJh3,opJh4,opJh5,opJh6,opJh7,opJh8,opJh9]
def opJhT (i : Nat) : Nat:=match i with
 | 0 => 10
 | 1 => 11
 | 2 => 12
 | 3 => 13
 | 4 => 14
 | 5 => 15
 | 6 => 16
 | 7 => 17
 | _ => 6
/-- what each operation's value is -/
def opJhC (B : Nat) (g2 : Nat) (g3 : Nat) (s1 : Bool) (x1 : Int) (y1 : Int) (p1 : Option Addr) (s2 : Bool) (x2 : Int) (y2 : Int) (p2 : Option Addr) (s3 : Bool) (x3 : Int) (y3 : Int) (p3 : Option Addr) (f1 : Rat) (f2 : Rat) (f3 : Rat) (i : Nat) (w : World) (v : Value) : Prop:=match i with
 | 0 => v = .pointer (some ⟨g3,0,none⟩)
 | 1 => v = .agg #[.bool s1,.int .u64 x1,.int .u64 y1,.pointer p1]
 | 2 => v = .agg #[.bool s2,.int .u64 x2,.int .u64 y2,.pointer p2]
 | 3 => v = .pointer (some ⟨g2,0,none⟩)
 | 4 => v = .agg #[.bool s3,.int .u64 x3,.int .u64 y3,.pointer p3]
 | 5 => FracAt w v (f2 * f3)
 | 6 => FracAt w v (f1 - f2 * f3)
 | 7 => FracAt w v ((f1 - f2 * f3) * (f1 - f2 * f3))
 | _ => LaidJ B w v
theorem opJhC_but {B : Nat} {g2 : Nat} {g3 : Nat} {s1 : Bool} {x1 : Int} {y1 : Int} {p1 : Option Addr} {s2 : Bool} {x2 : Int} {y2 : Int} {p2 : Option Addr} {s3 : Bool} {x3 : Int} {y3 : Int} {p3 : Option Addr} {f1 : Rat} {f2 : Rat} {f3 : Rat} {i : Nat} {w w' : World} {v : Value} (h : opJhC B g2 g3 s1 x1 y1 p1 s2 x2 y2 p2 s3 x3 y3 p3 f1 f2 f3 i w v) (hi : i < 9) (hb : But [] w w') : opJhC B g2 g3 s1 x1 y1 p1 s2 x2 y2 p2 s3 x3 y3 p3 f1 f2 f3 i w' v:=by
 have : i = 0 ∨ i = 1 ∨ i = 2 ∨ i = 3 ∨ i = 4 ∨ i = 5 ∨ i = 6 ∨ i = 7 ∨ i = 8:=by omega
 rcases this with rfl | rfl | rfl | rfl | rfl | rfl | rfl | rfl | rfl
 all_goals first | exact h | exact FracAt.but h hb | exact FracsAt.but h hb | exact LaidJ.but h hb | exact FracAt.but h hb
theorem opJhT_inj : ∀ i j,i < 9→j < 9→opJhT i = opJhT j→i = j:=fun i j hi hj => (by decide : ∀ i,i < 9→∀ j,j < 9→opJhT i = opJhT j→i = j) i hi j hj
set_option maxHeartbeats 8000000 in
set_option maxRecDepth 100000 in
theorem amiss_region2 (id : Nat) (Q : Exit→Act→World→Prop) (base : Act) (W0 : World) (B : Nat) (g2 : Nat) (g3 : Nat) (s1 : Bool) (x1 : Int) (y1 : Int) (p1 : Option Addr) (s2 : Bool) (x2 : Int) (y2 : Int) (p2 : Option Addr) (s3 : Bool) (x3 : Int) (y3 : Int) (p3 : Option Addr) (f1 : Rat) (f2 : Rat) (f3 : Rat) (hs : 17 < base.tmps.size) (g5 : Nat) (hBW : B ≤ W0.heap.size) (e3 : base.eval (.tmp 3) = .pointer (some ⟨g3,0,none⟩)) (e5 : base.eval (.tmp 5) = .pointer (some ⟨g5,0,none⟩)) (e2 : base.eval (.tmp 2) = .pointer (some ⟨g2,0,none⟩))
  (c1 : P4o W0 g3 0 s1 x1 y1 p1) (c2 : P4 W0 g5 s2 x2 y2 p2) (c3 : P4o W0 g2 0 s3 x3 y3 p3)
  (MU : ∀ w,But [] W0 w→Calls Tryz.prog 33 #[.agg #[.bool s2,.int .u64 x2,.int .u64 y2,.pointer p2],.agg #[.bool s3,.int .u64 x3,.int .u64 y3,.pointer p3]] w fun e w' => ∃ v,e = .returned v∧FracAt w' v (f2 * f3)∧But [] w w')
  (SU : ∀ w,But [] W0 w→∀ v,FracAt w v (f2 * f3)→Calls Tryz.prog 74 #[.agg #[.bool s1,.int .u64 x1,.int .u64 y1,.pointer p1],v] w fun e w' => ∃ v,e = .returned v∧FracAt w' v (f1 - f2 * f3)∧But [] w w')
  (SQ : ∀ w,But [] W0 w→∀ v,FracAt w v (f1 - f2 * f3)→Calls Tryz.prog 162 #[v] w fun e w' => ∃ v,e = .returned v∧FracAt w' v ((f1 - f2 * f3) * (f1 - f2 * f3))∧But [] w w')
  (hQ : ∀ w1 bn v5 v6 s' x' y' p',But [] W0 w1→B ≤ bn→P4 w1 bn false 0 0 none→(∀ j,w1.frozen? ⟨bn,j,none⟩ = false)→FracAt w1 (.agg #[.bool s',.int .u64 x',.int .u64 y',.pointer p']) ((f1 - f2 * f3) * (f1 - f2 * f3))→Q .normal (putted base [(10,.pointer (some ⟨g3,0,none⟩)),(11,.agg #[.bool s1,.int .u64 x1,.int .u64 y1,.pointer p1]),(12,.agg #[.bool s2,.int .u64 x2,.int .u64 y2,.pointer p2]),(13,.pointer (some ⟨g2,0,none⟩)),(14,.agg #[.bool s3,.int .u64 x3,.int .u64 y3,.pointer p3]),(15,v5),(16,v6),(17,(.agg #[.bool s',.int .u64 x',.int .u64 y',.pointer p'])),(6,.pointer (some ⟨bn,0,none⟩))]) (put4 w1 bn s' x' y' p')) :
  (Code.region id opJhs true).wp Tryz.prog Q base W0:=by
 have hdr : ∀ {w},But [] W0.drew w→But [] W0 w:=fun h => (But.refl _ _).drew.trans' h
 have hT : ∀ i,i < 9→opJhT i < base.tmps.size:=fun i hi => by
  have h : opJhT i ≤ 17:=by revert i; decide
  omega
 refine region_flow (by kernel_rfl) (low_of (by kernel_rfl)) (fun i o ho => (calm_of (ops:=opJhs) (by kernel_rfl) i o ho).1)
  (fun _ w => But [] W0.drew w) (opJhC B g2 g3 s1 x1 y1 p1 s2 x2 y2 p2 s3 x3 y3 p3 f1 f2 f3) opJhT 9 rfl opJhT_inj hT (But.refl _ _)
  (fun i hi => ?_) ?_ (fun a w => ∃ w1 bn v5 v6 s' x' y' p',a = putted base [(10,.pointer (some ⟨g3,0,none⟩)),(11,.agg #[.bool s1,.int .u64 x1,.int .u64 y1,.pointer p1]),(12,.agg #[.bool s2,.int .u64 x2,.int .u64 y2,.pointer p2]),(13,.pointer (some ⟨g2,0,none⟩)),(14,.agg #[.bool s3,.int .u64 x3,.int .u64 y3,.pointer p3]),(15,v5),(16,v6),(17,(.agg #[.bool s',.int .u64 x',.int .u64 y',.pointer p'])),(6,.pointer (some ⟨bn,0,none⟩))]∧w = put4 w1 bn s' x' y' p'∧But [] W0 w1∧B ≤ bn∧P4 w1 bn false 0 0 none∧(∀ j,w1.frozen? ⟨bn,j,none⟩ = false)∧FracAt w1 (.agg #[.bool s',.int .u64 x',.int .u64 y',.pointer p']) ((f1 - f2 * f3) * (f1 - f2 * f3))) ?_ ?_
 ·exact dep_of (ops:=opJhs) (ps:=[(9,0),(9,1),(9,2),(9,3),(9,4),(9,5),(9,6),(9,7),(9,8)]) (by kernel_rfl) 9 i (by
   have : i = 0 ∨ i = 1 ∨ i = 2 ∨ i = 3 ∨ i = 4 ∨ i = 5 ∨ i = 6 ∨ i = 7 ∨ i = 8:=by omega
   rcases this with rfl | rfl | rfl | rfl | rfl | rfl | rfl | rfl | rfl <;> simp)
 ·intro dn i o a w K hi ho hdi hH he hdep hK
  have hD:=fun j hj => (dep_have (ps:=[(1,0),(4,3),(5,2),(5,4),(6,1),(6,5),(7,6)]) (by kernel_rfl) ho (fun j => dn j = true∧opJhC B g2 g3 s1 x1 y1 p1 s2 x2 y2 p2 s3 x3 y3 p3 f1 f2 f3 j w (a.eval (.tmp (opJhT j)))) hdep j hj).2
  have hk : ∀ v w',But [] w w'→opJhC B g2 g3 s1 x1 y1 p1 s2 x2 y2 p2 s3 x3 y3 p3 f1 f2 f3 i w' v→K (a.put (some (opJhT i)) v) w':=fun v w' hb hv => hK v w' (hH.trans' hb) (fun j hj _ u hu => opJhC_but hu hj hb) hv
  have e3':=(he 3 (fun j hj e => absurd e.symm (by revert j; decide))).trans e3
  have e5':=(he 5 (fun j hj e => absurd e.symm (by revert j; decide))).trans e5
  have e2':=(he 2 (fun j hj e => absurd e.symm (by revert j; decide))).trans e2
  have : i = 0 ∨ i = 1 ∨ i = 2 ∨ i = 3 ∨ i = 4 ∨ i = 5 ∨ i = 6 ∨ i = 7 ∨ i = 8:=by omega
  rcases this with rfl | rfl | rfl | rfl | rfl | rfl | rfl | rfl | rfl
  ·obtain rfl:=Option.some.inj ((show opJhs[0]? = some opJh0 from rfl).symm.trans ho)
   exact wp_value (run_fL0 a w _ _ _ _ _ _ g3 e3') (hk _ _ (But.refl _ _) rfl)
  ·obtain rfl:=Option.some.inj ((show opJhs[1]? = some opJh1 from rfl).symm.trans ho)
   exact wp_value (run_loadK a w _ _ _ _ _ _ g3 0 _ _ _ _ (hD 0 (by simp)) (c1.but (hdr hH) (by simp))) (hk _ _ (But.refl _ _) rfl)
  ·obtain rfl:=Option.some.inj ((show opJhs[2]? = some opJh2 from rfl).symm.trans ho)
   exact wp_value (run_loadK a w _ _ _ _ _ _ g5 0 _ _ _ _ e5' (c2.but (hdr hH) (by simp))) (hk _ _ (But.refl _ _) rfl)
  ·obtain rfl:=Option.some.inj ((show opJhs[3]? = some opJh3 from rfl).symm.trans ho)
   exact wp_value (run_fM0 a w _ _ _ _ _ _ g2 e2') (hk _ _ (But.refl _ _) rfl)
  ·obtain rfl:=Option.some.inj ((show opJhs[4]? = some opJh4 from rfl).symm.trans ho)
   exact wp_value (run_loadK a w _ _ _ _ _ _ g2 0 _ _ _ _ (hD 3 (by simp)) (c3.but (hdr hH) (by simp))) (hk _ _ (But.refl _ _) rfl)
  ·obtain rfl:=Option.some.inj ((show opJhs[5]? = some opJh5 from rfl).symm.trans ho)
   exact wp_enter (run_mulK a w _ _ _ _ _ _ _ _ _ (hD 2 (by simp)) (hD 4 (by simp))) (R:=fun w' v => FracAt w' v (f2 * f3)∧But [] w w') (MU w (hdr hH)) (fun v w' hv => hk v w' hv.2 hv.1)
  ·obtain rfl:=Option.some.inj ((show opJhs[6]? = some opJh6 from rfl).symm.trans ho)
   exact wp_enter (run_subJ a w _ _ _ _ _ _ _ _ _ (hD 1 (by simp)) rfl) (R:=fun w' v => FracAt w' v (f1 - f2 * f3)∧But [] w w') (SU w (hdr hH) _ (hD 5 (by simp))) (fun v w' hv => hk v w' hv.2 hv.1)
  ·obtain rfl:=Option.some.inj ((show opJhs[7]? = some opJh7 from rfl).symm.trans ho)
   exact wp_enter (run_squareJ a w _ _ _ _ _ _ _ rfl) (R:=fun w' v => FracAt w' v ((f1 - f2 * f3) * (f1 - f2 * f3))∧But [] w w') (SQ w (hdr hH) _ (hD 6 (by simp))) (fun v w' hv => hk v w' hv.2 hv.1)
  ·obtain rfl:=Option.some.inj ((show opJhs[8]? = some opJh8 from rfl).symm.trans ho)
   exact wp_value (run_alloc4 a w _ _ _ _ _) (hk _ _ ((But.refl _ _).alloc _) ⟨w.heap.size,rfl,Nat.le_trans hBW (hdr hH).size,⟨by simp,by simp,by simp,by simp⟩,fun j => by simp⟩)
 ·intro dn o a w K ho hall h hK
  obtain rfl:=Option.some.inj ((show opJhs[9]? = some opJh9 from rfl).symm.trans ho)
  have cl : FracAt w (a.eval (.tmp 17)) ((f1 - f2 * f3) * (f1 - f2 * f3)):=h.has 7 (by omega) (hall 7 (by omega))
  obtain ⟨bn,eb,hb1,hb2,hb3⟩ : LaidJ B w (a.eval (.tmp 6)):=h.has 8 (by omega) (hall 8 (by omega))
  have cl':=cl
  obtain ⟨x',y',p',ev,-⟩:=cl.agg
  rw [ev] at cl'
  have ea:=h.puts hT (fun i => match i with
   | 0 => .pointer (some ⟨g3,0,none⟩)
   | 1 => .agg #[.bool s1,.int .u64 x1,.int .u64 y1,.pointer p1]
   | 2 => .agg #[.bool s2,.int .u64 x2,.int .u64 y2,.pointer p2]
   | 3 => .pointer (some ⟨g2,0,none⟩)
   | 4 => .agg #[.bool s3,.int .u64 x3,.int .u64 y3,.pointer p3]
   | 5 => a.eval (.tmp 15)
   | 6 => a.eval (.tmp 16)
   | 7 => .agg #[.bool (decide (((f1 - f2 * f3) * (f1 - f2 * f3)).num < 0)),.int .u64 x',.int .u64 y',.pointer p']
   | _ => .pointer (some ⟨bn,0,none⟩)) (fun i hi => by
   have hc:=h.has i hi (hall i hi)
   have : i = 0 ∨ i = 1 ∨ i = 2 ∨ i = 3 ∨ i = 4 ∨ i = 5 ∨ i = 6 ∨ i = 7 ∨ i = 8:=by omega
   rcases this with rfl | rfl | rfl | rfl | rfl | rfl | rfl | rfl | rfl
   all_goals first | exact ev | exact eb | exact hc | rfl)
  exact wp_skipped (run_store4 a w _ _ _ _ _ bn _ x' y' p' eb ev hb2 hb3) (hK _ _ ⟨w,bn,a.eval (.tmp 15),a.eval (.tmp 16),_,x',y',p',ea,rfl,hdr h.mem,hb1,hb2,hb3,cl'⟩)
 ·rintro a w ⟨w1,bn,v5,v6,s',x',y',p',rfl,rfl,h1,h2,h3,h4,h5⟩
  exact hQ  w1 bn v5 v6 s' x' y' p' h1 h2 h3 h4 h5
def opJi0 : Oper:={ dst:=some 18,op:=Op.load 29 (Operand.tmp 6),type:=29,pos:= "line.go:75",after:=#[],guard:=none }
def opJi1 : Oper:={ dst:=some 19,op:=Op.load 29 (Operand.tmp 5),type:=29,pos:= "line.go:75",after:=#[],guard:=none }
def opJi2 : Oper:={ dst:=some 20,op:=Op.call { callee:=Callee.value (Operand.func 162),args:=#[Operand.tmp 19],argTypes:=#[29] },type:=29,pos:= "line.go:75",after:=#[{ on:=1,ground:=Ground.data }],guard:=none }
def opJi3 : Oper:={ dst:=some 21,op:=Op.fieldAddr 157 (Operand.tmp 2) 1,type:=0,pos:= "line.go:75",after:=#[],guard:=none }
def opJi4 : Oper:={ dst:=some 22,op:=Op.load 29 (Operand.tmp 21),type:=29,pos:= "line.go:75",after:=#[{ on:=3,ground:=Ground.data }],guard:=none }
def opJi5 : Oper:={ dst:=some 23,op:=Op.call { callee:=Callee.value (Operand.func 33),args:=#[Operand.tmp 20,Operand.tmp 22],argTypes:=#[29,29] },type:=29,pos:= "line.go:75",after:=#[{ on:=2,ground:=Ground.data },{ on:=4,ground:=Ground.data },{ on:=2,ground:=Ground.chain }],guard:=none }
def opJi6 : Oper:={ dst:=some 24,op:=Op.call { callee:=Callee.value (Operand.func 22),args:=#[Operand.tmp 18,Operand.tmp 23],argTypes:=#[29,29] },type:=29,pos:= "line.go:75",after:=#[{ on:=0,ground:=Ground.data },{ on:=5,ground:=Ground.data },{ on:=5,ground:=Ground.chain }],guard:=none }
def opJi7 : Oper:={ dst:=some 25,op:=Op.fieldAddr 81 (Operand.tmp 3) 1,type:=0,pos:= "line.go:75",after:=#[],guard:=none }
def opJi8 : Oper:={ dst:=some 26,op:=Op.load 29 (Operand.tmp 25),type:=29,pos:= "line.go:75",after:=#[{ on:=7,ground:=Ground.data }],guard:=none }
def opJi9 : Oper:={ dst:=some 27,op:=Op.call { callee:=Callee.value (Operand.func 162),args:=#[Operand.tmp 26],argTypes:=#[29] },type:=29,pos:= "line.go:75",after:=#[{ on:=8,ground:=Ground.data },{ on:=6,ground:=Ground.chain }],guard:=none }
def opJi10 : Oper:={ dst:=some 28,op:=Op.fieldAddr 157 (Operand.tmp 2) 2,type:=0,pos:= "line.go:75",after:=#[],guard:=none }
def opJi11 : Oper:={ dst:=some 29,op:=Op.load 29 (Operand.tmp 28),type:=29,pos:= "line.go:75",after:=#[{ on:=10,ground:=Ground.data }],guard:=none }
def opJi12 : Oper:={ dst:=some 30,op:=Op.call { callee:=Callee.value (Operand.func 33),args:=#[Operand.tmp 27,Operand.tmp 29],argTypes:=#[29,29] },type:=29,pos:= "line.go:75",after:=#[{ on:=9,ground:=Ground.data },{ on:=11,ground:=Ground.data },{ on:=9,ground:=Ground.chain }],guard:=none }
def opJi13 : Oper:={ dst:=some 31,op:=Op.call { callee:=Callee.value (Operand.func 22),args:=#[Operand.tmp 24,Operand.tmp 30],argTypes:=#[29,29] },type:=29,pos:= "line.go:75",after:=#[{ on:=6,ground:=Ground.data },{ on:=12,ground:=Ground.data },{ on:=12,ground:=Ground.chain }],guard:=none }
def opJi14 : Oper:={ dst:=none,op:=Op.store 29 (Operand.tmp 4) (Operand.tmp 31),type:=0,pos:= "line.go:75",after:=#[{ on:=13,ground:=Ground.data },{ on:=13,ground:=Ground.chain },{ on:=0,ground:=Ground.phase },{ on:=1,ground:=Ground.phase },{ on:=2,ground:=Ground.phase },{ on:=3,ground:=Ground.phase },{ on:=4,ground:=Ground.phase },{ on:=5,ground:=Ground.phase },{ on:=6,ground:=Ground.phase },{ on:=7,ground:=Ground.phase },{ on:=8,ground:=Ground.phase },{ on:=9,ground:=Ground.phase },{ on:=10,ground:=Ground.phase },{ on:=11,ground:=Ground.phase },{ on:=12,ground:=Ground.phase },{ on:=13,ground:=Ground.phase }],guard:=none }
def opJis : Array Oper:=#[opJi0,opJi1,opJi2,opJi3,opJi4,opJi5,opJi6,opJi7,opJi8,opJi9,opJi10,opJi11,opJi12,opJi13,opJi14]
def opJiT (i : Nat) : Nat:=match i with
 | 0 => 18
 | 1 => 19
 | 2 => 20
 | 3 => 21
 | 4 => 22
 | 5 => 23
 | 6 => 24
 | 7 => 25
 | 8 => 26
 | 9 => 27
 | 10 => 28
 | 11 => 29
 | 12 => 30
 | _ => 31
/-- what each operation's value is -/
def opJiC (g2 : Nat) (g3 : Nat) (s1 : Bool) (x1 : Int) (y1 : Int) (p1 : Option Addr) (s2 : Bool) (x2 : Int) (y2 : Int) (p2 : Option Addr) (s3 : Bool) (x3 : Int) (y3 : Int) (p3 : Option Addr) (s4 : Bool) (x4 : Int) (y4 : Int) (p4 : Option Addr) (s5 : Bool) (x5 : Int) (y5 : Int) (p5 : Option Addr) (f1 : Rat) (f2 : Rat) (f3 : Rat) (f4 : Rat) (f5 : Rat) (i : Nat) (w : World) (v : Value) : Prop:=match i with
 | 0 => v = .agg #[.bool s1,.int .u64 x1,.int .u64 y1,.pointer p1]
 | 1 => v = .agg #[.bool s2,.int .u64 x2,.int .u64 y2,.pointer p2]
 | 2 => FracAt w v (f2 * f2)
 | 3 => v = .pointer (some ⟨g2,4,none⟩)
 | 4 => v = .agg #[.bool s3,.int .u64 x3,.int .u64 y3,.pointer p3]
 | 5 => FracAt w v (f2 * f2 * f3)
 | 6 => FracAt w v (f1 + f2 * f2 * f3)
 | 7 => v = .pointer (some ⟨g3,4,none⟩)
 | 8 => v = .agg #[.bool s4,.int .u64 x4,.int .u64 y4,.pointer p4]
 | 9 => FracAt w v (f4 * f4)
 | 10 => v = .pointer (some ⟨g2,8,none⟩)
 | 11 => v = .agg #[.bool s5,.int .u64 x5,.int .u64 y5,.pointer p5]
 | 12 => FracAt w v (f4 * f4 * f5)
 | _ => FracAt w v (f1 + f2 * f2 * f3 + f4 * f4 * f5)
theorem opJiC_but {g2 : Nat} {g3 : Nat} {s1 : Bool} {x1 : Int} {y1 : Int} {p1 : Option Addr} {s2 : Bool} {x2 : Int} {y2 : Int} {p2 : Option Addr} {s3 : Bool} {x3 : Int} {y3 : Int} {p3 : Option Addr} {s4 : Bool} {x4 : Int} {y4 : Int} {p4 : Option Addr} {s5 : Bool} {x5 : Int} {y5 : Int} {p5 : Option Addr} {f1 : Rat} {f2 : Rat} {f3 : Rat} {f4 : Rat} {f5 : Rat} {i : Nat} {w w' : World} {v : Value} (h : opJiC g2 g3 s1 x1 y1 p1 s2 x2 y2 p2 s3 x3 y3 p3 s4 x4 y4 p4 s5 x5 y5 p5 f1 f2 f3 f4 f5 i w v) (hi : i < 14) (hb : But [] w w') : opJiC g2 g3 s1 x1 y1 p1 s2 x2 y2 p2 s3 x3 y3 p3 s4 x4 y4 p4 s5 x5 y5 p5 f1 f2 f3 f4 f5 i w' v:=by
 have : i = 0 ∨ i = 1 ∨ i = 2 ∨ i = 3 ∨ i = 4 ∨ i = 5 ∨ i = 6 ∨ i = 7 ∨ i = 8 ∨ i = 9 ∨ i = 10 ∨ i = 11 ∨ i = 12 ∨ i = 13:=by omega
 rcases this with rfl | rfl | rfl | rfl | rfl | rfl | rfl | rfl | rfl | rfl | rfl | rfl | rfl | rfl
 all_goals first | exact h | exact FracAt.but h hb | exact FracsAt.but h hb
theorem opJiT_inj : ∀ i j,i < 14→j < 14→opJiT i = opJiT j→i = j:=fun i j hi hj => (by decide : ∀ i,i < 14→∀ j,j < 14→opJiT i = opJiT j→i = j) i hi j hj
set_option maxHeartbeats 8000000 in
set_option maxRecDepth 100000 in
theorem amiss_region3 (id : Nat) (Q : Exit→Act→World→Prop) (base : Act) (W0 : World) (g2 : Nat) (g3 : Nat) (s1 : Bool) (x1 : Int) (y1 : Int) (p1 : Option Addr) (s2 : Bool) (x2 : Int) (y2 : Int) (p2 : Option Addr) (s3 : Bool) (x3 : Int) (y3 : Int) (p3 : Option Addr) (s4 : Bool) (x4 : Int) (y4 : Int) (p4 : Option Addr) (s5 : Bool) (x5 : Int) (y5 : Int) (p5 : Option Addr) (f1 : Rat) (f2 : Rat) (f3 : Rat) (f4 : Rat) (f5 : Rat) (gb g5 g6 : Nat) {sb : Bool} {xb yb : Int} {pb : Option Addr} (hs : 31 < base.tmps.size) (eb : base.eval (.tmp 4) = .pointer (some ⟨gb,0,none⟩)) (cb : P4 W0 gb sb xb yb pb) (fzb : ∀ j,W0.frozen? ⟨gb,j,none⟩ = false) (e6 : base.eval (.tmp 6) = .pointer (some ⟨g6,0,none⟩)) (e5 : base.eval (.tmp 5) = .pointer (some ⟨g5,0,none⟩)) (e2 : base.eval (.tmp 2) = .pointer (some ⟨g2,0,none⟩)) (e3 : base.eval (.tmp 3) = .pointer (some ⟨g3,0,none⟩))
  (c1 : P4 W0 g6 s1 x1 y1 p1) (c2 : P4 W0 g5 s2 x2 y2 p2) (c3 : P4o W0 g2 4 s3 x3 y3 p3) (c4 : P4o W0 g3 4 s4 x4 y4 p4) (c5 : P4o W0 g2 8 s5 x5 y5 p5)
  (SQ : ∀ w,But [] W0 w→Calls Tryz.prog 162 #[.agg #[.bool s2,.int .u64 x2,.int .u64 y2,.pointer p2]] w fun e w' => ∃ v,e = .returned v∧FracAt w' v (f2 * f2)∧But [] w w')
  (MU : ∀ w,But [] W0 w→∀ v,FracAt w v (f2 * f2)→Calls Tryz.prog 33 #[v,.agg #[.bool s3,.int .u64 x3,.int .u64 y3,.pointer p3]] w fun e w' => ∃ v,e = .returned v∧FracAt w' v (f2 * f2 * f3)∧But [] w w')
  (AD : ∀ w,But [] W0 w→∀ v,FracAt w v (f2 * f2 * f3)→Calls Tryz.prog 22 #[.agg #[.bool s1,.int .u64 x1,.int .u64 y1,.pointer p1],v] w fun e w' => ∃ v,e = .returned v∧FracAt w' v (f1 + f2 * f2 * f3)∧But [] w w')
  (SQ2 : ∀ w,But [] W0 w→Calls Tryz.prog 162 #[.agg #[.bool s4,.int .u64 x4,.int .u64 y4,.pointer p4]] w fun e w' => ∃ v,e = .returned v∧FracAt w' v (f4 * f4)∧But [] w w')
  (MU2 : ∀ w,But [] W0 w→∀ v,FracAt w v (f4 * f4)→Calls Tryz.prog 33 #[v,.agg #[.bool s5,.int .u64 x5,.int .u64 y5,.pointer p5]] w fun e w' => ∃ v,e = .returned v∧FracAt w' v (f4 * f4 * f5)∧But [] w w')
  (AD2 : ∀ w,But [] W0 w→∀ v u,FracAt w v (f1 + f2 * f2 * f3)→FracAt w u (f4 * f4 * f5)→Calls Tryz.prog 22 #[v,u] w fun e w' => ∃ v,e = .returned v∧FracAt w' v (f1 + f2 * f2 * f3 + f4 * f4 * f5)∧But [] w w')
  (hQ : ∀ w1 v2 v5 v6 v9 v12 s' x' y' p',But [] W0 w1→FracAt w1 (.agg #[.bool s',.int .u64 x',.int .u64 y',.pointer p']) (f1 + f2 * f2 * f3 + f4 * f4 * f5)→Q .normal (putted base [(18,.agg #[.bool s1,.int .u64 x1,.int .u64 y1,.pointer p1]),(19,.agg #[.bool s2,.int .u64 x2,.int .u64 y2,.pointer p2]),(20,v2),(21,.pointer (some ⟨g2,4,none⟩)),(22,.agg #[.bool s3,.int .u64 x3,.int .u64 y3,.pointer p3]),(23,v5),(24,v6),(25,.pointer (some ⟨g3,4,none⟩)),(26,.agg #[.bool s4,.int .u64 x4,.int .u64 y4,.pointer p4]),(27,v9),(28,.pointer (some ⟨g2,8,none⟩)),(29,.agg #[.bool s5,.int .u64 x5,.int .u64 y5,.pointer p5]),(30,v12),(31,(.agg #[.bool s',.int .u64 x',.int .u64 y',.pointer p']))]) (put4 w1 gb s' x' y' p')) :
  (Code.region id opJis true).wp Tryz.prog Q base W0:=by
 have hdr : ∀ {w},But [] W0.drew w→But [] W0 w:=fun h => (But.refl _ _).drew.trans' h
 have lgb : gb < W0.heap.size:=lt_of_cell cb.1
 have hT : ∀ i,i < 14→opJiT i < base.tmps.size:=fun i hi => by
  have h : opJiT i ≤ 31:=by revert i; decide
  omega
 refine region_flow (by kernel_rfl) (low_of (by kernel_rfl)) (fun i o ho => (calm_of (ops:=opJis) (by kernel_rfl) i o ho).1)
  (fun _ w => But [] W0.drew w) (opJiC g2 g3 s1 x1 y1 p1 s2 x2 y2 p2 s3 x3 y3 p3 s4 x4 y4 p4 s5 x5 y5 p5 f1 f2 f3 f4 f5) opJiT 14 rfl opJiT_inj hT (But.refl _ _)
  (fun i hi => ?_) ?_ (fun a w => ∃ w1 v2 v5 v6 v9 v12 s' x' y' p',a = putted base [(18,.agg #[.bool s1,.int .u64 x1,.int .u64 y1,.pointer p1]),(19,.agg #[.bool s2,.int .u64 x2,.int .u64 y2,.pointer p2]),(20,v2),(21,.pointer (some ⟨g2,4,none⟩)),(22,.agg #[.bool s3,.int .u64 x3,.int .u64 y3,.pointer p3]),(23,v5),(24,v6),(25,.pointer (some ⟨g3,4,none⟩)),(26,.agg #[.bool s4,.int .u64 x4,.int .u64 y4,.pointer p4]),(27,v9),(28,.pointer (some ⟨g2,8,none⟩)),(29,.agg #[.bool s5,.int .u64 x5,.int .u64 y5,.pointer p5]),(30,v12),(31,(.agg #[.bool s',.int .u64 x',.int .u64 y',.pointer p']))]∧w = put4 w1 gb s' x' y' p'∧But [] W0 w1∧FracAt w1 (.agg #[.bool s',.int .u64 x',.int .u64 y',.pointer p']) (f1 + f2 * f2 * f3 + f4 * f4 * f5)) ?_ ?_
 ·exact dep_of (ops:=opJis) (ps:=[(14,0),(14,1),(14,2),(14,3),(14,4),(14,5),(14,6),(14,7),(14,8),(14,9),(14,10),(14,11),(14,12),(14,13)]) (by kernel_rfl) 14 i (by
   have : i = 0 ∨ i = 1 ∨ i = 2 ∨ i = 3 ∨ i = 4 ∨ i = 5 ∨ i = 6 ∨ i = 7 ∨ i = 8 ∨ i = 9 ∨ i = 10 ∨ i = 11 ∨ i = 12 ∨ i = 13:=by omega
   rcases this with rfl | rfl | rfl | rfl | rfl | rfl | rfl | rfl | rfl | rfl | rfl | rfl | rfl | rfl <;> simp)
 ·intro dn i o a w K hi ho hdi hH he hdep hK
  have hD:=fun j hj => (dep_have (ps:=[(2,1),(4,3),(5,2),(5,4),(6,0),(6,5),(8,7),(9,6),(9,8),(11,10),(12,9),(12,11),(13,6),(13,12)]) (by kernel_rfl) ho (fun j => dn j = true∧opJiC g2 g3 s1 x1 y1 p1 s2 x2 y2 p2 s3 x3 y3 p3 s4 x4 y4 p4 s5 x5 y5 p5 f1 f2 f3 f4 f5 j w (a.eval (.tmp (opJiT j)))) hdep j hj).2
  have hk : ∀ v w',But [] w w'→opJiC g2 g3 s1 x1 y1 p1 s2 x2 y2 p2 s3 x3 y3 p3 s4 x4 y4 p4 s5 x5 y5 p5 f1 f2 f3 f4 f5 i w' v→K (a.put (some (opJiT i)) v) w':=fun v w' hb hv => hK v w' (hH.trans' hb) (fun j hj _ u hu => opJiC_but hu hj hb) hv
  have eb':=(he 4 (fun j hj e => absurd e.symm (by revert j; decide))).trans eb
  have e6':=(he 6 (fun j hj e => absurd e.symm (by revert j; decide))).trans e6
  have e5':=(he 5 (fun j hj e => absurd e.symm (by revert j; decide))).trans e5
  have e2':=(he 2 (fun j hj e => absurd e.symm (by revert j; decide))).trans e2
  have e3':=(he 3 (fun j hj e => absurd e.symm (by revert j; decide))).trans e3
  have : i = 0 ∨ i = 1 ∨ i = 2 ∨ i = 3 ∨ i = 4 ∨ i = 5 ∨ i = 6 ∨ i = 7 ∨ i = 8 ∨ i = 9 ∨ i = 10 ∨ i = 11 ∨ i = 12 ∨ i = 13:=by omega
  rcases this with rfl | rfl | rfl | rfl | rfl | rfl | rfl | rfl | rfl | rfl | rfl | rfl | rfl | rfl
  ·obtain rfl:=Option.some.inj ((show opJis[0]? = some opJi0 from rfl).symm.trans ho)
   exact wp_value (run_loadK a w _ _ _ _ _ _ g6 0 _ _ _ _ e6' (c1.but (hdr hH) (by simp))) (hk _ _ (But.refl _ _) rfl)
  ·obtain rfl:=Option.some.inj ((show opJis[1]? = some opJi1 from rfl).symm.trans ho)
   exact wp_value (run_loadK a w _ _ _ _ _ _ g5 0 _ _ _ _ e5' (c2.but (hdr hH) (by simp))) (hk _ _ (But.refl _ _) rfl)
  ·obtain rfl:=Option.some.inj ((show opJis[2]? = some opJi2 from rfl).symm.trans ho)
   exact wp_enter (run_squareJ a w _ _ _ _ _ _ _ (hD 1 (by simp))) (R:=fun w' v => FracAt w' v (f2 * f2)∧But [] w w') (SQ w (hdr hH)) (fun v w' hv => hk v w' hv.2 hv.1)
  ·obtain rfl:=Option.some.inj ((show opJis[3]? = some opJi3 from rfl).symm.trans ho)
   exact wp_value (run_fM1 a w _ _ _ _ _ _ g2 e2') (hk _ _ (But.refl _ _) rfl)
  ·obtain rfl:=Option.some.inj ((show opJis[4]? = some opJi4 from rfl).symm.trans ho)
   exact wp_value (run_loadK a w _ _ _ _ _ _ g2 4 _ _ _ _ (hD 3 (by simp)) (c3.but (hdr hH) (by simp))) (hk _ _ (But.refl _ _) rfl)
  ·obtain rfl:=Option.some.inj ((show opJis[5]? = some opJi5 from rfl).symm.trans ho)
   exact wp_enter (run_mulK a w _ _ _ _ _ _ _ _ _ rfl (hD 4 (by simp))) (R:=fun w' v => FracAt w' v (f2 * f2 * f3)∧But [] w w') (MU w (hdr hH) _ (hD 2 (by simp))) (fun v w' hv => hk v w' hv.2 hv.1)
  ·obtain rfl:=Option.some.inj ((show opJis[6]? = some opJi6 from rfl).symm.trans ho)
   exact wp_enter (run_addK a w _ _ _ _ _ _ _ _ _ (hD 0 (by simp)) rfl) (R:=fun w' v => FracAt w' v (f1 + f2 * f2 * f3)∧But [] w w') (AD w (hdr hH) _ (hD 5 (by simp))) (fun v w' hv => hk v w' hv.2 hv.1)
  ·obtain rfl:=Option.some.inj ((show opJis[7]? = some opJi7 from rfl).symm.trans ho)
   exact wp_value (run_fL1 a w _ _ _ _ _ _ g3 e3') (hk _ _ (But.refl _ _) rfl)
  ·obtain rfl:=Option.some.inj ((show opJis[8]? = some opJi8 from rfl).symm.trans ho)
   exact wp_value (run_loadK a w _ _ _ _ _ _ g3 4 _ _ _ _ (hD 7 (by simp)) (c4.but (hdr hH) (by simp))) (hk _ _ (But.refl _ _) rfl)
  ·obtain rfl:=Option.some.inj ((show opJis[9]? = some opJi9 from rfl).symm.trans ho)
   exact wp_enter (run_squareJ a w _ _ _ _ _ _ _ (hD 8 (by simp))) (R:=fun w' v => FracAt w' v (f4 * f4)∧But [] w w') (SQ2 w (hdr hH)) (fun v w' hv => hk v w' hv.2 hv.1)
  ·obtain rfl:=Option.some.inj ((show opJis[10]? = some opJi10 from rfl).symm.trans ho)
   exact wp_value (run_fM2 a w _ _ _ _ _ _ g2 e2') (hk _ _ (But.refl _ _) rfl)
  ·obtain rfl:=Option.some.inj ((show opJis[11]? = some opJi11 from rfl).symm.trans ho)
   exact wp_value (run_loadK a w _ _ _ _ _ _ g2 8 _ _ _ _ (hD 10 (by simp)) (c5.but (hdr hH) (by simp))) (hk _ _ (But.refl _ _) rfl)
  ·obtain rfl:=Option.some.inj ((show opJis[12]? = some opJi12 from rfl).symm.trans ho)
   exact wp_enter (run_mulK a w _ _ _ _ _ _ _ _ _ rfl (hD 11 (by simp))) (R:=fun w' v => FracAt w' v (f4 * f4 * f5)∧But [] w w') (MU2 w (hdr hH) _ (hD 9 (by simp))) (fun v w' hv => hk v w' hv.2 hv.1)
  ·obtain rfl:=Option.some.inj ((show opJis[13]? = some opJi13 from rfl).symm.trans ho)
   exact wp_enter (run_addK a w _ _ _ _ _ _ _ _ _ rfl rfl) (R:=fun w' v => FracAt w' v (f1 + f2 * f2 * f3 + f4 * f4 * f5)∧But [] w w') (AD2 w (hdr hH) _ _ (hD 6 (by simp)) (hD 12 (by simp))) (fun v w' hv => hk v w' hv.2 hv.1)
 ·intro dn o a w K ho hall h hK
  obtain rfl:=Option.some.inj ((show opJis[14]? = some opJi14 from rfl).symm.trans ho)
  have eb':=(h.eval 4 (fun j hj e => absurd e.symm (by revert j; decide))).trans eb
  have cl : FracAt w (a.eval (.tmp 31)) (f1 + f2 * f2 * f3 + f4 * f4 * f5):=h.has 13 (by omega) (hall 13 (by omega))
  have cl':=cl
  obtain ⟨x',y',p',ev,-⟩:=cl.agg
  rw [ev] at cl'
  have ea:=h.puts hT (fun i => match i with
   | 0 => .agg #[.bool s1,.int .u64 x1,.int .u64 y1,.pointer p1]
   | 1 => .agg #[.bool s2,.int .u64 x2,.int .u64 y2,.pointer p2]
   | 2 => a.eval (.tmp 20)
   | 3 => .pointer (some ⟨g2,4,none⟩)
   | 4 => .agg #[.bool s3,.int .u64 x3,.int .u64 y3,.pointer p3]
   | 5 => a.eval (.tmp 23)
   | 6 => a.eval (.tmp 24)
   | 7 => .pointer (some ⟨g3,4,none⟩)
   | 8 => .agg #[.bool s4,.int .u64 x4,.int .u64 y4,.pointer p4]
   | 9 => a.eval (.tmp 27)
   | 10 => .pointer (some ⟨g2,8,none⟩)
   | 11 => .agg #[.bool s5,.int .u64 x5,.int .u64 y5,.pointer p5]
   | 12 => a.eval (.tmp 30)
   | _ => .agg #[.bool (decide ((f1 + f2 * f2 * f3 + f4 * f4 * f5).num < 0)),.int .u64 x',.int .u64 y',.pointer p']) (fun i hi => by
   have hc:=h.has i hi (hall i hi)
   have : i = 0 ∨ i = 1 ∨ i = 2 ∨ i = 3 ∨ i = 4 ∨ i = 5 ∨ i = 6 ∨ i = 7 ∨ i = 8 ∨ i = 9 ∨ i = 10 ∨ i = 11 ∨ i = 12 ∨ i = 13:=by omega
   rcases this with rfl | rfl | rfl | rfl | rfl | rfl | rfl | rfl | rfl | rfl | rfl | rfl | rfl | rfl
   all_goals first | exact ev | exact hc | rfl)
  exact wp_skipped (run_store4 a w _ _ _ _ _ gb _ x' y' p' eb' ev (cb.but (hdr h.mem) (by simp)) (fun j => ((hdr h.mem).frozen (p:=⟨gb,j,none⟩) lgb (by simp)).trans (fzb j))) (hK _ _ ⟨w,a.eval (.tmp 20),a.eval (.tmp 23),a.eval (.tmp 24),a.eval (.tmp 27),a.eval (.tmp 30),_,x',y',p',ea,rfl,hdr h.mem,cl'⟩)
 ·rintro a w ⟨w1,v2,v5,v6,v9,v12,s',x',y',p',rfl,rfl,h1,h2⟩
  exact hQ  w1 v2 v5 v6 v9 v12 s' x' y' p' h1 h2
def opJj0 : Oper:={ dst:=some 24,op:=Op.load 29 (Operand.tmp 8),type:=29,pos:= "line.go:21",after:=#[],guard:=none }
def opJj1 : Oper:={ dst:=some 25,op:=Op.call { callee:=Callee.value (Operand.func 108),args:=#[Operand.tmp 24],argTypes:=#[29] },type:=29,pos:= "line.go:21",after:=#[{ on:=0,ground:=Ground.data }],guard:=none }
def opJj2 : Oper:={ dst:=some 26,op:=Op.fieldAddr 157 (Operand.tmp 7) 0,type:=0,pos:= "line.go:21",after:=#[],guard:=none }
def opJj3 : Oper:={ dst:=some 27,op:=Op.load 29 (Operand.tmp 26),type:=29,pos:= "line.go:21",after:=#[{ on:=2,ground:=Ground.data }],guard:=none }
def opJj4 : Oper:={ dst:=some 28,op:=Op.call { callee:=Callee.value (Operand.func 33),args:=#[Operand.tmp 25,Operand.tmp 27],argTypes:=#[29,29] },type:=29,pos:= "line.go:21",after:=#[{ on:=1,ground:=Ground.data },{ on:=3,ground:=Ground.data },{ on:=1,ground:=Ground.chain }],guard:=none }
def opJj5 : Oper:={ dst:=some 29,op:=Op.load 29 (Operand.tmp 8),type:=29,pos:= "line.go:21",after:=#[],guard:=none }
def opJj6 : Oper:={ dst:=some 30,op:=Op.build 81 #[(0,Operand.tmp 28),(1,Operand.tmp 29)],type:=81,pos:= "line.go:21",after:=#[{ on:=4,ground:=Ground.data },{ on:=5,ground:=Ground.data }],guard:=none }
def opJj7 : Oper:={ dst:=none,op:=Op.store 81 (Operand.tmp 4) (Operand.tmp 30),type:=0,pos:= "line.go:21",after:=#[{ on:=6,ground:=Ground.data },{ on:=4,ground:=Ground.chain },{ on:=0,ground:=Ground.phase },{ on:=1,ground:=Ground.phase },{ on:=2,ground:=Ground.phase },{ on:=3,ground:=Ground.phase },{ on:=4,ground:=Ground.phase },{ on:=5,ground:=Ground.phase },{ on:=6,ground:=Ground.phase }],guard:=none }
def opJj8 : Oper:={ dst:=some 5,op:=Op.assign (Operand.const Value.nilIface),type:=35,pos:= "line.go:21",after:=#[{ on:=7,ground:=Ground.chain },{ on:=0,ground:=Ground.phase },{ on:=1,ground:=Ground.phase },{ on:=2,ground:=Ground.phase },{ on:=3,ground:=Ground.phase },{ on:=4,ground:=Ground.phase },{ on:=5,ground:=Ground.phase },{ on:=6,ground:=Ground.phase },{ on:=7,ground:=Ground.phase }],guard:=none }
def opJjs : Array Oper:=#[opJj0,opJj1,opJj2,opJj3,opJj4,opJj5,opJj6,opJj7,opJj8]
def opJjT (i : Nat) : Nat:=match i with
 | 0 => 24
 | 1 => 25
 | 2 => 26
 | 3 => 27
 | 4 => 28
 | 5 => 29
 | _ => 30
/-- what each operation's value is -/
def opJjC (g7 : Nat) (s1 : Bool) (x1 : Int) (y1 : Int) (p1 : Option Addr) (s2 : Bool) (x2 : Int) (y2 : Int) (p2 : Option Addr) (f1 : Rat) (f2 : Rat) (i : Nat) (w : World) (v : Value) : Prop:=match i with
 | 0 => v = .agg #[.bool s1,.int .u64 x1,.int .u64 y1,.pointer p1]
 | 1 => FracAt w v (((1 : Int) : Rat) - f1)
 | 2 => v = .pointer (some ⟨g7,0,none⟩)
 | 3 => v = .agg #[.bool s2,.int .u64 x2,.int .u64 y2,.pointer p2]
 | 4 => FracAt w v ((((1 : Int) : Rat) - f1) * f2)
 | 5 => FracAt w v f1
 | _ => LineAt ((((1 : Int) : Rat) - f1) * f2) (f1) w v
theorem opJjC_but {g7 : Nat} {s1 : Bool} {x1 : Int} {y1 : Int} {p1 : Option Addr} {s2 : Bool} {x2 : Int} {y2 : Int} {p2 : Option Addr} {f1 : Rat} {f2 : Rat} {i : Nat} {w w' : World} {v : Value} (h : opJjC g7 s1 x1 y1 p1 s2 x2 y2 p2 f1 f2 i w v) (hi : i < 7) (hb : But [] w w') : opJjC g7 s1 x1 y1 p1 s2 x2 y2 p2 f1 f2 i w' v:=by
 have : i = 0 ∨ i = 1 ∨ i = 2 ∨ i = 3 ∨ i = 4 ∨ i = 5 ∨ i = 6:=by omega
 rcases this with rfl | rfl | rfl | rfl | rfl | rfl | rfl
 ·exact (show v = .agg #[.bool s1,.int .u64 x1,.int .u64 y1,.pointer p1] from h)
 ·exact FracAt.but (show FracAt w v (((1 : Int) : Rat) - f1) from h) hb
 ·exact (show v = .pointer (some ⟨g7,0,none⟩) from h)
 ·exact (show v = .agg #[.bool s2,.int .u64 x2,.int .u64 y2,.pointer p2] from h)
 ·exact FracAt.but (show FracAt w v ((((1 : Int) : Rat) - f1) * f2) from h) hb
 ·exact FracAt.but (show FracAt w v f1 from h) hb
 ·exact LineAt.but (show LineAt ((((1 : Int) : Rat) - f1) * f2) (f1) w v from h) hb
theorem opJjT_inj : ∀ i j,i < 7→j < 7→opJjT i = opJjT j→i = j:=fun i j hi hj => (by decide : ∀ i,i < 7→∀ j,j < 7→opJjT i = opJjT j→i = j) i hi j hj
set_option maxHeartbeats 8000000 in
set_option maxRecDepth 100000 in
theorem linear_region (id : Nat) (Q : Exit→Act→World→Prop) (base : Act) (W0 : World) (g7 : Nat) (s1 : Bool) (x1 : Int) (y1 : Int) (p1 : Option Addr) (s2 : Bool) (x2 : Int) (y2 : Int) (p2 : Option Addr) (f1 : Rat) (f2 : Rat) (gb g8 : Nat) {vb : List Value} (hs : 30 < base.tmps.size) (eb : base.eval (.tmp 4) = .pointer (some ⟨gb,0,none⟩)) (cb : SBox W0 gb vb) (hvb : vb.length = 8) (e8 : base.eval (.tmp 8) = .pointer (some ⟨g8,0,none⟩)) (e7 : base.eval (.tmp 7) = .pointer (some ⟨g7,0,none⟩))
  (c1 : P4 W0 g8 s1 x1 y1 p1) (c2 : P4o W0 g7 0 s2 x2 y2 p2) (F1 : FracAt W0 (.agg #[.bool s1,.int .u64 x1,.int .u64 y1,.pointer p1]) f1)
  (RE : ∀ w,But [] W0 w→Calls Tryz.prog 108 #[.agg #[.bool s1,.int .u64 x1,.int .u64 y1,.pointer p1]] w fun e w' => ∃ v,e = .returned v∧FracAt w' v (((1 : Int) : Rat) - f1)∧But [] w w')
  (MU : ∀ w,But [] W0 w→∀ v,FracAt w v (((1 : Int) : Rat) - f1)→Calls Tryz.prog 33 #[v,.agg #[.bool s2,.int .u64 x2,.int .u64 y2,.pointer p2]] w fun e w' => ∃ v,e = .returned v∧FracAt w' v ((((1 : Int) : Rat) - f1) * f2)∧But [] w w')
  (hQ : ∀ w1 v1 v4 v5 a1 b1 c1 d1 a2 b2 c2 d2,But [] W0 w1→FracAt w1 (.agg #[.bool a1,.int .u64 b1,.int .u64 c1,.pointer d1]) ((((1 : Int) : Rat) - f1) * f2)→FracAt w1 (.agg #[.bool a2,.int .u64 b2,.int .u64 c2,.pointer d2]) (f1)→Q .normal (putted base [(24,.agg #[.bool s1,.int .u64 x1,.int .u64 y1,.pointer p1]),(25,v1),(26,.pointer (some ⟨g7,0,none⟩)),(27,.agg #[.bool s2,.int .u64 x2,.int .u64 y2,.pointer p2]),(28,v4),(29,v5),(30,.agg #[.bool a1,.int .u64 b1,.int .u64 c1,.pointer d1,.bool a2,.int .u64 b2,.int .u64 c2,.pointer d2]),(5,.nilIface)]) (w1.setCells gb 0 [.bool a1,.int .u64 b1,.int .u64 c1,.pointer d1,.bool a2,.int .u64 b2,.int .u64 c2,.pointer d2])) :
  (Code.region id opJjs true).wp Tryz.prog Q base W0:=by
 have hdr : ∀ {w},But [] W0.drew w→But [] W0 w:=fun h => (But.refl _ _).drew.trans' h
 have hT : ∀ i,i < 7→opJjT i < base.tmps.size:=fun i hi => by
  have h : opJjT i ≤ 30:=by revert i; decide
  omega
 refine region_flow2 (by kernel_rfl) (low_of (by kernel_rfl)) (fun i o ho => (calm_of (ops:=opJjs) (by kernel_rfl) i o ho).1)
  (fun _ w => But [] W0.drew w) (opJjC g7 s1 x1 y1 p1 s2 x2 y2 p2 f1 f2) opJjT 7 rfl opJjT_inj hT (But.refl _ _)
  (fun i hi => ?_) (dep_of (ops:=opJjs) (ps:=[(8,7)]) (by kernel_rfl) 8 7 (by simp)) ?_ (fun a w => ∃ w1 v1 v4 v5 a1 b1 c1 d1 a2 b2 c2 d2,a = putted base [(24,.agg #[.bool s1,.int .u64 x1,.int .u64 y1,.pointer p1]),(25,v1),(26,.pointer (some ⟨g7,0,none⟩)),(27,.agg #[.bool s2,.int .u64 x2,.int .u64 y2,.pointer p2]),(28,v4),(29,v5),(30,.agg #[.bool a1,.int .u64 b1,.int .u64 c1,.pointer d1,.bool a2,.int .u64 b2,.int .u64 c2,.pointer d2])]∧w = w1.setCells gb 0 [.bool a1,.int .u64 b1,.int .u64 c1,.pointer d1,.bool a2,.int .u64 b2,.int .u64 c2,.pointer d2]∧But [] W0 w1∧FracAt w1 (.agg #[.bool a1,.int .u64 b1,.int .u64 c1,.pointer d1]) ((((1 : Int) : Rat) - f1) * f2)∧FracAt w1 (.agg #[.bool a2,.int .u64 b2,.int .u64 c2,.pointer d2]) (f1)) (fun a w => ∃ w1 v1 v4 v5 a1 b1 c1 d1 a2 b2 c2 d2,a = putted base [(24,.agg #[.bool s1,.int .u64 x1,.int .u64 y1,.pointer p1]),(25,v1),(26,.pointer (some ⟨g7,0,none⟩)),(27,.agg #[.bool s2,.int .u64 x2,.int .u64 y2,.pointer p2]),(28,v4),(29,v5),(30,.agg #[.bool a1,.int .u64 b1,.int .u64 c1,.pointer d1,.bool a2,.int .u64 b2,.int .u64 c2,.pointer d2]),(5,.nilIface)]∧w = w1.setCells gb 0 [.bool a1,.int .u64 b1,.int .u64 c1,.pointer d1,.bool a2,.int .u64 b2,.int .u64 c2,.pointer d2]∧But [] W0 w1∧FracAt w1 (.agg #[.bool a1,.int .u64 b1,.int .u64 c1,.pointer d1]) ((((1 : Int) : Rat) - f1) * f2)∧FracAt w1 (.agg #[.bool a2,.int .u64 b2,.int .u64 c2,.pointer d2]) (f1)) ?_ ?_ ?_
 ·exact dep_of (ops:=opJjs) (ps:=[(7,0),(7,1),(7,2),(7,3),(7,4),(7,5),(7,6)]) (by kernel_rfl) 7 i (by
   have : i = 0 ∨ i = 1 ∨ i = 2 ∨ i = 3 ∨ i = 4 ∨ i = 5 ∨ i = 6:=by omega
   rcases this with rfl | rfl | rfl | rfl | rfl | rfl | rfl <;> simp)
 ·intro dn i o a w K hi ho hdi hH he hdep hK
  have hD:=fun j hj => (dep_have (ps:=[(1,0),(3,2),(4,1),(4,3),(6,4),(6,5)]) (by kernel_rfl) ho (fun j => dn j = true∧opJjC g7 s1 x1 y1 p1 s2 x2 y2 p2 f1 f2 j w (a.eval (.tmp (opJjT j)))) hdep j hj).2
  have hk : ∀ v w',But [] w w'→opJjC g7 s1 x1 y1 p1 s2 x2 y2 p2 f1 f2 i w' v→K (a.put (some (opJjT i)) v) w':=fun v w' hb hv => hK v w' (hH.trans' hb) (fun j hj _ u hu => opJjC_but hu hj hb) hv
  have e8':=(he 8 (fun j hj e => absurd e.symm (by revert j; decide))).trans e8
  have e7':=(he 7 (fun j hj e => absurd e.symm (by revert j; decide))).trans e7
  have : i = 0 ∨ i = 1 ∨ i = 2 ∨ i = 3 ∨ i = 4 ∨ i = 5 ∨ i = 6:=by omega
  rcases this with rfl | rfl | rfl | rfl | rfl | rfl | rfl
  ·obtain rfl:=Option.some.inj ((show opJjs[0]? = some opJj0 from rfl).symm.trans ho)
   exact wp_value (run_loadK a w _ _ _ _ _ _ g8 0 _ _ _ _ e8' (c1.but (hdr hH) (by simp))) (hk _ _ (But.refl _ _) rfl)
  ·obtain rfl:=Option.some.inj ((show opJjs[1]? = some opJj1 from rfl).symm.trans ho)
   exact wp_enter (run_restJ a w _ _ _ _ _ _ _ (hD 0 (by simp))) (R:=fun w' v => FracAt w' v (((1 : Int) : Rat) - f1)∧But [] w w') (RE w (hdr hH)) (fun v w' hv => hk v w' hv.2 hv.1)
  ·obtain rfl:=Option.some.inj ((show opJjs[2]? = some opJj2 from rfl).symm.trans ho)
   exact wp_value (run_fM0 a w _ _ _ _ _ _ g7 e7') (hk _ _ (But.refl _ _) rfl)
  ·obtain rfl:=Option.some.inj ((show opJjs[3]? = some opJj3 from rfl).symm.trans ho)
   exact wp_value (run_loadK a w _ _ _ _ _ _ g7 0 _ _ _ _ (hD 2 (by simp)) (c2.but (hdr hH) (by simp))) (hk _ _ (But.refl _ _) rfl)
  ·obtain rfl:=Option.some.inj ((show opJjs[4]? = some opJj4 from rfl).symm.trans ho)
   exact wp_enter (run_mulK a w _ _ _ _ _ _ _ _ _ rfl (hD 3 (by simp))) (R:=fun w' v => FracAt w' v ((((1 : Int) : Rat) - f1) * f2)∧But [] w w') (MU w (hdr hH) _ (hD 1 (by simp))) (fun v w' hv => hk v w' hv.2 hv.1)
  ·obtain rfl:=Option.some.inj ((show opJjs[5]? = some opJj5 from rfl).symm.trans ho)
   exact wp_value (run_loadK a w _ _ _ _ _ _ g8 0 _ _ _ _ e8' (c1.but (hdr hH) (by simp))) (hk _ _ (But.refl _ _) (F1.but (hdr hH)))
  ·obtain rfl:=Option.some.inj ((show opJjs[6]? = some opJj6 from rfl).symm.trans ho)
   have q1 : FracAt w (a.eval (.tmp 28)) ((((1 : Int) : Rat) - f1) * f2):=hD 4 (by simp)
   obtain ⟨b1,c1,d1,e1,-⟩:=q1.agg
   rw [e1] at q1
   have q2 : FracAt w (a.eval (.tmp 29)) (f1):=hD 5 (by simp)
   obtain ⟨b2,c2,d2,e2,-⟩:=q2.agg
   rw [e2] at q2
   exact wp_value (run_bdLineAt a w _ _ _ _ _ _ _ _ b1 c1 d1 _ b2 c2 d2 e1 e2) (hk _ _ (But.refl _ _) ⟨_,b1,c1,d1,_,b2,c2,d2,rfl,q1,q2⟩)
 ·intro dn o a w K ho hall h hK
  obtain rfl:=Option.some.inj ((show opJjs[7]? = some opJj7 from rfl).symm.trans ho)
  have eb':=(h.eval 4 (fun j hj e => absurd e.symm (by revert j; decide))).trans eb
  obtain ⟨a1,b1,c1,d1,a2,b2,c2,d2,ev,h1,h2⟩ : LineAt ((((1 : Int) : Rat) - f1) * f2) (f1) w (a.eval (.tmp 30)):=h.has 6 (by omega) (hall 6 (by omega))
  have ea:=h.puts hT (fun i => match i with
   | 0 => .agg #[.bool s1,.int .u64 x1,.int .u64 y1,.pointer p1]
   | 1 => a.eval (.tmp 25)
   | 2 => .pointer (some ⟨g7,0,none⟩)
   | 3 => .agg #[.bool s2,.int .u64 x2,.int .u64 y2,.pointer p2]
   | 4 => a.eval (.tmp 28)
   | 5 => a.eval (.tmp 29)
   | _ => .agg #[.bool a1,.int .u64 b1,.int .u64 c1,.pointer d1,.bool a2,.int .u64 b2,.int .u64 c2,.pointer d2]) (fun i hi => by
   have hc:=h.has i hi (hall i hi)
   have : i = 0 ∨ i = 1 ∨ i = 2 ∨ i = 3 ∨ i = 4 ∨ i = 5 ∨ i = 6:=by omega
   rcases this with rfl | rfl | rfl | rfl | rfl | rfl | rfl
   ·exact hc
   ·rfl
   ·exact hc
   ·exact hc
   ·rfl
   ·rfl
   ·exact ev)
  exact wp_skipped (run_stLineAt a w _ _ _ _ _ gb a1 b1 c1 d1 a2 b2 c2 d2 eb' ev (cb.but (hdr h.mem) (by simp) (by omega)) hvb) (hK _ _ ⟨w,a.eval (.tmp 25),a.eval (.tmp 28),a.eval (.tmp 29),a1,b1,c1,d1,a2,b2,c2,d2,ea,rfl,hdr h.mem,h1,h2⟩)
 ·rintro o a w K ho ⟨w1,v1,v4,v5,a1,b1,c1,d1,a2,b2,c2,d2,ha,hw,hb1,h1,h2⟩ hK
  obtain rfl:=Option.some.inj ((show opJjs[8]? = some opJj8 from rfl).symm.trans ho)
  exact wp_value (run_nilJ _ _ _ _ _ _ _) (hK _ _ ⟨w1,v1,v4,v5,a1,b1,c1,d1,a2,b2,c2,d2,by rw [ha]; exact putted_snoc _ _ _ _,hw,hb1,h1,h2⟩)
 ·rintro a w ⟨w1,v1,v4,v5,a1,b1,c1,d1,a2,b2,c2,d2,rfl,rfl,hb1,h1,h2⟩
  exact hQ w1 v1 v4 v5 a1 b1 c1 d1 a2 b2 c2 d2 hb1 h1 h2
def opJk0 : Oper:={ dst:=some 16,op:=Op.move (Operand.tmp 0),type:=77,pos:= "line.go:29",after:=#[],guard:=none }
def opJk1 : Oper:={ dst:=some 17,op:=Op.move (Operand.tmp 1),type:=3,pos:= "line.go:29",after:=#[],guard:=none }
def opJk2 : Oper:={ dst:=some 18,op:=Op.call { callee:=Callee.value (Operand.func 106),args:=#[Operand.tmp 16,Operand.tmp 17],argTypes:=#[77,3] },type:=157,pos:= "line.go:29",after:=#[{ on:=0,ground:=Ground.data },{ on:=1,ground:=Ground.data }],guard:=none }
def opJk3 : Oper:={ dst:=some 19,op:=Op.load 81 (Operand.tmp 5),type:=81,pos:= "line.go:29",after:=#[],guard:=none }
def opJk4 : Oper:={ dst:=some 20,op:=Op.call { callee:=Callee.value (Operand.func 109),args:=#[Operand.tmp 18,Operand.tmp 19],argTypes:=#[157,81] },type:=29,pos:= "line.go:29",after:=#[{ on:=2,ground:=Ground.data },{ on:=3,ground:=Ground.data },{ on:=2,ground:=Ground.chain }],guard:=none }
def opJk5 : Oper:={ dst:=none,op:=Op.store 29 (Operand.tmp 6) (Operand.tmp 20),type:=0,pos:= "line.go:29",after:=#[{ on:=4,ground:=Ground.data },{ on:=4,ground:=Ground.chain },{ on:=0,ground:=Ground.phase },{ on:=1,ground:=Ground.phase },{ on:=2,ground:=Ground.phase },{ on:=3,ground:=Ground.phase },{ on:=4,ground:=Ground.phase }],guard:=none }
def opJk6 : Oper:={ dst:=some 7,op:=Op.assign (Operand.const Value.nilIface),type:=35,pos:= "line.go:29",after:=#[{ on:=5,ground:=Ground.chain },{ on:=0,ground:=Ground.phase },{ on:=1,ground:=Ground.phase },{ on:=2,ground:=Ground.phase },{ on:=3,ground:=Ground.phase },{ on:=4,ground:=Ground.phase },{ on:=5,ground:=Ground.phase }],guard:=none }
def opJks : Array Oper:=#[opJk0,opJk1,opJk2,opJk3,opJk4,opJk5,opJk6]
def opJkT (i : Nat) : Nat:=match i with
 | 0 => 16
 | 1 => 17
 | 2 => 18
 | 3 => 19
 | _ => 20
/-- what each operation's value is -/
def opJkC (n : Int) (vk : Value) (s1 : Bool) (x1 : Int) (y1 : Int) (p1 : Option Addr) (s2 : Bool) (x2 : Int) (y2 : Int) (p2 : Option Addr) (m1 : Rat) (m2 : Rat) (m3 : Rat) (f : Rat) (i : Nat) (w : World) (v : Value) : Prop:=match i with
 | 0 => v = vk
 | 1 => v = .int .i64 n
 | 2 => MixAt m1 m2 m3 w v
 | 3 => v = .agg #[.bool s1,.int .u64 x1,.int .u64 y1,.pointer p1,.bool s2,.int .u64 x2,.int .u64 y2,.pointer p2]
 | _ => FracAt w v f
theorem opJkC_but {n : Int} {vk : Value} {s1 : Bool} {x1 : Int} {y1 : Int} {p1 : Option Addr} {s2 : Bool} {x2 : Int} {y2 : Int} {p2 : Option Addr} {m1 : Rat} {m2 : Rat} {m3 : Rat} {f : Rat} {i : Nat} {w w' : World} {v : Value} (h : opJkC n vk s1 x1 y1 p1 s2 x2 y2 p2 m1 m2 m3 f i w v) (hi : i < 5) (hb : But [] w w') : opJkC n vk s1 x1 y1 p1 s2 x2 y2 p2 m1 m2 m3 f i w' v:=by
 have : i = 0 ∨ i = 1 ∨ i = 2 ∨ i = 3 ∨ i = 4:=by omega
 rcases this with rfl | rfl | rfl | rfl | rfl
 ·exact (show v = vk from h)
 ·exact (show v = .int .i64 n from h)
 ·exact MixAt.but (show MixAt m1 m2 m3 w v from h) hb
 ·exact (show v = .agg #[.bool s1,.int .u64 x1,.int .u64 y1,.pointer p1,.bool s2,.int .u64 x2,.int .u64 y2,.pointer p2] from h)
 ·exact FracAt.but (show FracAt w v f from h) hb
theorem opJkT_inj : ∀ i j,i < 5→j < 5→opJkT i = opJkT j→i = j:=fun i j hi hj => (by decide : ∀ i,i < 5→∀ j,j < 5→opJkT i = opJkT j→i = j) i hi j hj
set_option maxHeartbeats 8000000 in
set_option maxRecDepth 100000 in
theorem amissTop_region (id : Nat) (Q : Exit→Act→World→Prop) (base : Act) (W0 : World) (n : Int) (vk : Value) (s1 : Bool) (x1 : Int) (y1 : Int) (p1 : Option Addr) (s2 : Bool) (x2 : Int) (y2 : Int) (p2 : Option Addr) (m1 : Rat) (m2 : Rat) (m3 : Rat) (f : Rat) (gb g5 : Nat) {sb : Bool} {xb yb : Int} {pb : Option Addr} (hs : 20 < base.tmps.size) (eb : base.eval (.tmp 6) = .pointer (some ⟨gb,0,none⟩)) (cb : P4 W0 gb sb xb yb pb) (fzb : ∀ j,W0.frozen? ⟨gb,j,none⟩ = false) (e0 : base.eval (.tmp 0) = vk) (e1 : base.eval (.tmp 1) = .int .i64 n) (e5 : base.eval (.tmp 5) = .pointer (some ⟨g5,0,none⟩)) (c1 : SBox W0 g5 [.bool s1,.int .u64 x1,.int .u64 y1,.pointer p1,.bool s2,.int .u64 x2,.int .u64 y2,.pointer p2])
  (MI : ∀ w,But [] W0 w→Calls Tryz.prog 106 #[vk,.int .i64 n] w fun e w' => ∃ v,e = .returned v∧MixAt m1 m2 m3 w' v∧But [] w w')
  (AM : ∀ w,But [] W0 w→∀ v,MixAt m1 m2 m3 w v→Calls Tryz.prog 109 #[v,.agg #[.bool s1,.int .u64 x1,.int .u64 y1,.pointer p1,.bool s2,.int .u64 x2,.int .u64 y2,.pointer p2]] w fun e w' => ∃ v,e = .returned v∧FracAt w' v f∧But [] w w')
  (hQ : ∀ w1 v2 s' x' y' p',But [] W0 w1→FracAt w1 (.agg #[.bool s',.int .u64 x',.int .u64 y',.pointer p']) f→Q .normal (putted base [(16,vk),(17,.int .i64 n),(18,v2),(19,.agg #[.bool s1,.int .u64 x1,.int .u64 y1,.pointer p1,.bool s2,.int .u64 x2,.int .u64 y2,.pointer p2]),(20,.agg #[.bool s',.int .u64 x',.int .u64 y',.pointer p']),(7,.nilIface)]) (put4 w1 gb s' x' y' p')) :
  (Code.region id opJks true).wp Tryz.prog Q base W0:=by
 have hdr : ∀ {w},But [] W0.drew w→But [] W0 w:=fun h => (But.refl _ _).drew.trans' h
 have lgb : gb < W0.heap.size:=lt_of_cell cb.1
 have hT : ∀ i,i < 5→opJkT i < base.tmps.size:=fun i hi => by
  have h : opJkT i ≤ 20:=by revert i; decide
  omega
 refine region_flow2 (by kernel_rfl) (low_of (by kernel_rfl)) (fun i o ho => (calm_of (ops:=opJks) (by kernel_rfl) i o ho).1)
  (fun _ w => But [] W0.drew w) (opJkC n vk s1 x1 y1 p1 s2 x2 y2 p2 m1 m2 m3 f) opJkT 5 rfl opJkT_inj hT (But.refl _ _)
  (fun i hi => ?_) (dep_of (ops:=opJks) (ps:=[(6,5)]) (by kernel_rfl) 6 5 (by simp)) ?_ (fun a w => ∃ w1 v2 s' x' y' p',a = putted base [(16,vk),(17,.int .i64 n),(18,v2),(19,.agg #[.bool s1,.int .u64 x1,.int .u64 y1,.pointer p1,.bool s2,.int .u64 x2,.int .u64 y2,.pointer p2]),(20,.agg #[.bool s',.int .u64 x',.int .u64 y',.pointer p'])]∧w = put4 w1 gb s' x' y' p'∧But [] W0 w1∧FracAt w1 (.agg #[.bool s',.int .u64 x',.int .u64 y',.pointer p']) f) (fun a w => ∃ w1 v2 s' x' y' p',a = putted base [(16,vk),(17,.int .i64 n),(18,v2),(19,.agg #[.bool s1,.int .u64 x1,.int .u64 y1,.pointer p1,.bool s2,.int .u64 x2,.int .u64 y2,.pointer p2]),(20,.agg #[.bool s',.int .u64 x',.int .u64 y',.pointer p']),(7,.nilIface)]∧w = put4 w1 gb s' x' y' p'∧But [] W0 w1∧FracAt w1 (.agg #[.bool s',.int .u64 x',.int .u64 y',.pointer p']) f) ?_ ?_ ?_
 ·exact dep_of (ops:=opJks) (ps:=[(5,0),(5,1),(5,2),(5,3),(5,4)]) (by kernel_rfl) 5 i (by
   have : i = 0 ∨ i = 1 ∨ i = 2 ∨ i = 3 ∨ i = 4:=by omega
   rcases this with rfl | rfl | rfl | rfl | rfl <;> simp)
 ·intro dn i o a w K hi ho hdi hH he hdep hK
  have hD:=fun j hj => (dep_have (ps:=[(2,0),(2,1),(4,2),(4,3)]) (by kernel_rfl) ho (fun j => dn j = true∧opJkC n vk s1 x1 y1 p1 s2 x2 y2 p2 m1 m2 m3 f j w (a.eval (.tmp (opJkT j)))) hdep j hj).2
  have hk : ∀ v w',But [] w w'→opJkC n vk s1 x1 y1 p1 s2 x2 y2 p2 m1 m2 m3 f i w' v→K (a.put (some (opJkT i)) v) w':=fun v w' hb hv => hK v w' (hH.trans' hb) (fun j hj _ u hu => opJkC_but hu hj hb) hv
  have e0':=(he 0 (fun j hj e => absurd e.symm (by revert j; decide))).trans e0
  have e1':=(he 1 (fun j hj e => absurd e.symm (by revert j; decide))).trans e1
  have e5':=(he 5 (fun j hj e => absurd e.symm (by revert j; decide))).trans e5
  have : i = 0 ∨ i = 1 ∨ i = 2 ∨ i = 3 ∨ i = 4:=by omega
  rcases this with rfl | rfl | rfl | rfl | rfl
  ·obtain rfl:=Option.some.inj ((show opJks[0]? = some opJk0 from rfl).symm.trans ho)
   exact wp_value (run_mvK a w _ _ _ _ _ _ _ e0') (hk _ _ (But.refl _ _) rfl)
  ·obtain rfl:=Option.some.inj ((show opJks[1]? = some opJk1 from rfl).symm.trans ho)
   exact wp_value (run_mvK a w _ _ _ _ _ _ _ e1') (hk _ _ (But.refl _ _) rfl)
  ·obtain rfl:=Option.some.inj ((show opJks[2]? = some opJk2 from rfl).symm.trans ho)
   exact wp_enter (run_mixJ a w _ _ _ _ _ _ _ _ _ (hD 0 (by simp)) (hD 1 (by simp))) (R:=fun w' v => MixAt m1 m2 m3 w' v∧But [] w w') (MI w (hdr hH)) (fun v w' hv => hk v w' hv.2 hv.1)
  ·obtain rfl:=Option.some.inj ((show opJks[3]? = some opJk3 from rfl).symm.trans ho)
   exact wp_value (run_ldLn a w _ _ _ _ _ _ g5 _ _ _ _ _ _ _ _ e5' (c1.but (hdr hH) (by simp) (by simp))) (hk _ _ (But.refl _ _) rfl)
  ·obtain rfl:=Option.some.inj ((show opJks[4]? = some opJk4 from rfl).symm.trans ho)
   exact wp_enter (run_amissJ a w _ _ _ _ _ _ _ _ _ rfl (hD 3 (by simp))) (R:=fun w' v => FracAt w' v (f)∧But [] w w') (AM w (hdr hH) _ (hD 2 (by simp))) (fun v w' hv => hk v w' hv.2 hv.1)
 ·intro dn o a w K ho hall h hK
  obtain rfl:=Option.some.inj ((show opJks[5]? = some opJk5 from rfl).symm.trans ho)
  have eb':=(h.eval 6 (fun j hj e => absurd e.symm (by revert j; decide))).trans eb
  have cl : FracAt w (a.eval (.tmp 20)) f:=h.has 4 (by omega) (hall 4 (by omega))
  have cl':=cl
  obtain ⟨x',y',p',ev,-⟩:=cl.agg
  rw [ev] at cl'
  have ea:=h.puts hT (fun i => match i with
   | 0 => vk
   | 1 => .int .i64 n
   | 2 => a.eval (.tmp 18)
   | 3 => .agg #[.bool s1,.int .u64 x1,.int .u64 y1,.pointer p1,.bool s2,.int .u64 x2,.int .u64 y2,.pointer p2]
   | _ => .agg #[.bool (decide (f.num < 0)),.int .u64 x',.int .u64 y',.pointer p']) (fun i hi => by
   have hc:=h.has i hi (hall i hi)
   have : i = 0 ∨ i = 1 ∨ i = 2 ∨ i = 3 ∨ i = 4:=by omega
   rcases this with rfl | rfl | rfl | rfl | rfl
   all_goals first | exact ev | exact hc | rfl)
  exact wp_skipped (run_store4 a w _ _ _ _ _ gb _ x' y' p' eb' ev (cb.but (hdr h.mem) (by simp)) (fun j => ((hdr h.mem).frozen (p:=⟨gb,j,none⟩) lgb (by simp)).trans (fzb j))) (hK _ _ ⟨w,a.eval (.tmp 18),_,x',y',p',ea,rfl,hdr h.mem,cl'⟩)
 ·rintro o a w K ho ⟨w1,v2,s',x',y',p',ha,hw,h1,h2⟩ hK
  obtain rfl:=Option.some.inj ((show opJks[6]? = some opJk6 from rfl).symm.trans ho)
  exact wp_value (run_nilJ _ _ _ _ _ _ _) (hK _ _ ⟨w1,v2,s',x',y',p',by rw [ha]; exact putted_snoc _ _ _ _,hw,h1,h2⟩)
 ·rintro a w ⟨w1,v2,s',x',y',p',rfl,rfl,h1,h2⟩
  exact hQ w1 v2 s' x' y' p' h1 h2
end Go.Proofs.YtloojmaamaambaaGreatDoor
