/- Series, and how likely each amount is: t -/
import Derived.Test.YtlckjpelcmjimaaGreatDoorKPZA
namespace Go.Proofs.YtlckjpelcmjimaaGreatDoor
open Go.RowKit
set_option maxHeartbeats 16000000
set_option maxRecDepth 100000
def GrowB (B:Nat) (f:Rat) (w:World) (v:Value):Prop:=∃ g,v=.slice (some ⟨g,0,none⟩) 1 1∧∃ vs,aw w B (.slice (some ⟨g,0,none⟩) 1 1) [f] vs
theorem GrowB.but {B:Nat} {f:Rat} {w w':World} {v:Value} (h:GrowB B f w v) (hb:But [] w w'):GrowB B f w' v:=by
 obtain ⟨g,e,vs,hg⟩:=h
 exact ⟨g,e,vs,hg.but hb⟩
theorem Row4.of {w:World} {g n:Nat} {F:Nat→Rat} (h:Row4 w g n n F):RowOf w g n F:=⟨h.told,h.loose⟩
theorem run_powZ (a:Act) (w:World) (d t0 t1:Nat) (u:TypeId) (ps:String) (ed:Array Edge) (gd:Option (Nat × Bool)) (z0 z1:Value) (h0:a.eval (.tmp t0)=z0) (h1:a.eval (.tmp t1)=z1) :
  (execOp a.eval { dst:=some d,op:=Op.call { callee:=Callee.value (Operand.func 38),args:=#[Operand.tmp t0,Operand.tmp t1],argTypes:=#[29,3] },type:=u,pos:=ps,after:=ed,guard:=gd }).run Tryz.prog w=.ok (.enter 38 #[z0,z1]) w:=by
 unfold execOp
 go_simp
 rw [← h0,← h1]
 simp [Act.eval]
theorem run_timesZ (a:Act) (w:World) (d t0 t1:Nat) (u:TypeId) (ps:String) (ed:Array Edge) (gd:Option (Nat × Bool)) (z0 z1:Value) (h0:a.eval (.tmp t0)=z0) (h1:a.eval (.tmp t1)=z1) :
  (execOp a.eval { dst:=some d,op:=Op.call { callee:=Callee.value (Operand.func 120),args:=#[Operand.tmp t0,Operand.tmp t1],argTypes:=#[33,29] },type:=u,pos:=ps,after:=ed,guard:=gd }).run Tryz.prog w=.ok (.enter 120 #[z0,z1]) w:=by
 unfold execOp
 go_simp
 rw [← h0,← h1]
 simp [Act.eval]
def opZg0:Oper:={ dst:=some 17,op:=Op.fieldAddr 103 (Operand.tmp 3) 0,type:=0,pos:= "number.go:117",after:=#[],guard:=none }
def opZg1:Oper:={ dst:=some 18,op:=Op.load 33 (Operand.tmp 17),type:=33,pos:= "number.go:117",after:=#[⟨0,.data⟩],guard:=none }
def opZg2:Oper:={ dst:=some 19,op:=Op.indexAddr 33 (Operand.tmp 18) (Operand.const (Value.int IntKind.i64 0)),type:=0,pos:= "number.go:117",after:=#[⟨1,.data⟩],guard:=none }
def opZg3:Oper:={ dst:=some 20,op:=Op.load 29 (Operand.tmp 19),type:=29,pos:= "number.go:117",after:=#[⟨2,.data⟩],guard:=none }
def opZg4:Oper:={ dst:=some 21,op:=Op.fieldAddr 98 (Operand.tmp 2) 2,type:=0,pos:= "number.go:117",after:=#[],guard:=none }
def opZg5:Oper:={ dst:=some 22,op:=Op.load 3 (Operand.tmp 21),type:=3,pos:= "number.go:117",after:=#[⟨4,.data⟩],guard:=none }
def opZg6:Oper:={ dst:=some 23,op:=Op.call { callee:=Callee.value (Operand.func 38),args:=#[Operand.tmp 20,Operand.tmp 22],argTypes:=#[29,3] },type:=46,pos:= "number.go:117",after:=#[⟨3,.data⟩,⟨5,.data⟩],guard:=none }
def opZg7:Oper:={ dst:=some 16,op:=Op.move (Operand.tmp 23),type:=46,pos:= "number.go:117",after:=#[⟨6,.data⟩],guard:=none }
def opZg8:Oper:={ dst:=some 24,op:=Op.extract (Operand.tmp 16) 0,type:=29,pos:= "number.go:117",after:=#[⟨7,.data⟩],guard:=none }
def opZg9:Oper:={ dst:=some 25,op:=Op.extract (Operand.tmp 16) 1,type:=35,pos:= "number.go:117",after:=#[⟨7,.data⟩,{ on:=11,ground:=Ground.gcOnly Departure.lateStores }],guard:=none }
def opZg10:Oper:={ dst:=some 6,op:=Op.alloc 29,type:=0,pos:= "number.go:117",after:=#[],guard:=none }
def opZg11:Oper:={ dst:=none,op:=Op.store 29 (Operand.tmp 6) (Operand.tmp 24),type:=0,pos:= "number.go:117",after:=#[⟨10,.data⟩,⟨8,.data⟩,⟨6,.chain⟩,⟨0,.phase⟩,⟨1,.phase⟩,⟨2,.phase⟩,⟨3,.phase⟩,⟨4,.phase⟩,⟨5,.phase⟩,⟨6,.phase⟩,⟨7,.phase⟩,⟨8,.phase⟩,{ on:=9,ground:=Ground.textOnly Departure.lateStores },⟨10,.phase⟩],guard:=none }
def opZg12:Oper:={ dst:=some 7,op:=Op.assign (Operand.tmp 25),type:=35,pos:= "number.go:117",after:=#[⟨9,.data⟩,⟨11,.chain⟩,⟨0,.phase⟩,⟨1,.phase⟩,⟨2,.phase⟩,⟨3,.phase⟩,⟨4,.phase⟩,⟨5,.phase⟩,⟨6,.phase⟩,⟨7,.phase⟩,⟨8,.phase⟩,⟨9,.phase⟩,⟨10,.phase⟩,⟨11,.phase⟩],guard:=none }
def opZgs:Array Oper:=#[opZg0,opZg1,opZg2,opZg3,opZg4,opZg5,opZg6,opZg7,opZg8,opZg9,opZg10,opZg11,opZg12]
def opZgT (i:Nat):Nat:=match i with
 | 0=>17
 | 1=>18
 | 2=>19
 | 3=>20
 | 4=>21
 | 5=>22
 | 6=>23
 | 7=>16
 | 8=>24
 | 9=>25
 | 10=>6
 | _=>7
def opZgC (B:Nat) (g2:Nat) (g3:Nat) (b:Nat) (off:Nat) (nn:Nat) (c:Nat) (n:Int) (s1:Bool) (x1:Int) (y1:Int) (p1:Option Addr) (f:Rat) (i:Nat) (w:World) (v:Value):Prop:=match i with
 | 0=>v=.pointer (some ⟨g3,0,none⟩)
 | 1=>v=.slice (some ⟨b,off,none⟩) nn c
 | 2=>v=.pointer (some ⟨b,off,none⟩)
 | 3=>v=.agg #[.bool s1,.int .u64 x1,.int .u64 y1,.pointer p1]
 | 4=>v=.pointer (some ⟨g2,8,none⟩)
 | 5=>v=.int .i64 n
 | 6=>FracErr (f) w v
 | 7=>FracErr (f) w v
 | 8=>am w v f
 | 9=>v=.nilIface
 | 10=>LaidAny B w v
 | _=>True
theorem opZgC_but {B:Nat} {g2:Nat} {g3:Nat} {b:Nat} {off:Nat} {nn:Nat} {c:Nat} {n:Int} {s1:Bool} {x1:Int} {y1:Int} {p1:Option Addr} {f:Rat} {i:Nat} {w w':World} {v:Value} (h:opZgC B g2 g3 b off nn c n s1 x1 y1 p1 f i w v) (hi:i<12) (hb:But [] w w'):opZgC B g2 g3 b off nn c n s1 x1 y1 p1 f i w' v:=by
 have:i=0∨i=1∨i=2∨i=3∨i=4∨i=5∨i=6∨i=7∨i=8∨i=9∨i=10∨i=11:=by omega
 rcases this with rfl | rfl | rfl | rfl | rfl | rfl | rfl | rfl | rfl | rfl | rfl | rfl
 ·exact (show v=.pointer (some ⟨g3,0,none⟩) from h)
 ·exact (show v=.slice (some ⟨b,off,none⟩) nn c from h)
 ·exact (show v=.pointer (some ⟨b,off,none⟩) from h)
 ·exact (show v=.agg #[.bool s1,.int .u64 x1,.int .u64 y1,.pointer p1] from h)
 ·exact (show v=.pointer (some ⟨g2,8,none⟩) from h)
 ·exact (show v=.int .i64 n from h)
 ·exact FracErr.but (show FracErr (f) w v from h) hb
 ·exact FracErr.but (show FracErr (f) w v from h) hb
 ·exact am.but (show am w v f from h) hb
 ·exact (show v=.nilIface from h)
 ·exact LaidAny.but (show LaidAny B w v from h) hb
 ·exact trivial
theorem opZgC_put {B:Nat} {g2:Nat} {g3:Nat} {b:Nat} {off:Nat} {nn:Nat} {c:Nat} {n:Int} {s1:Bool} {x1:Int} {y1:Int} {p1:Option Addr} {f:Rat} {i:Nat} {w:World} {v:Value} {g0:Nat} {s0:Bool} {x0 y0:Int} {p0:Option Addr} (hg:P4 w g0 s0 x0 y0 p0) (s':Bool) (x' y':Int) (p':Option Addr) (h:opZgC B g2 g3 b off nn c n s1 x1 y1 p1 f i w v) (hi:i<12):opZgC B g2 g3 b off nn c n s1 x1 y1 p1 f i (put4 w g0 s' x' y' p') v:=by
 have:i=0∨i=1∨i=2∨i=3∨i=4∨i=5∨i=6∨i=7∨i=8∨i=9∨i=10∨i=11:=by omega
 rcases this with rfl | rfl | rfl | rfl | rfl | rfl | rfl | rfl | rfl | rfl | rfl | rfl
 ·exact (show v=.pointer (some ⟨g3,0,none⟩) from h)
 ·exact (show v=.slice (some ⟨b,off,none⟩) nn c from h)
 ·exact (show v=.pointer (some ⟨b,off,none⟩) from h)
 ·exact (show v=.agg #[.bool s1,.int .u64 x1,.int .u64 y1,.pointer p1] from h)
 ·exact (show v=.pointer (some ⟨g2,8,none⟩) from h)
 ·exact (show v=.int .i64 n from h)
 ·exact FracErr.put (show FracErr (f) w v from h) hg _ _ _ _
 ·exact FracErr.put (show FracErr (f) w v from h) hg _ _ _ _
 ·exact am.over (show am w v f from h) hg.1 (au _ _ _ _ _ _)
 ·exact (show v=.nilIface from h)
 ·exact LaidAny.put (show LaidAny B w v from h) hg _ _ _ _
 ·exact trivial
theorem opZgT_inj:∀ i j,i<12→j<12→opZgT i=opZgT j→i=j:=fun i j hi hj=>(by decide:∀ i,i<12→∀ j,j<12→opZgT i=opZgT j→i=j) i hi j hj
theorem series_region3 (id:Nat) (Q:Exit→Act→World→Prop) (base:Act) (W0:World) (B:Nat) (g2:Nat) (g3:Nat) (b:Nat) (off:Nat) (nn:Nat) (c:Nat) (n:Int) (s1:Bool) (x1:Int) (y1:Int) (p1:Option Addr) (f:Rat) (hs:25<base.tmps.size) (hBW:B=W0.heap.size) (e2:base.eval (.tmp 2)=.pointer (some ⟨g2,0,none⟩)) (e3:base.eval (.tmp 3)=.pointer (some ⟨g3,0,none⟩))
  (hnn:0<nn) (cs:W0.cell? ⟨g3,0,none⟩=some (.slice (some ⟨b,off,none⟩) nn c)) (cn:W0.cell? ⟨g2,8,none⟩=some (.int .i64 n)) (c1:P4o W0 b off s1 x1 y1 p1)
  (PW:∀ w,But [] W0 w→Calls Tryz.prog 38 #[.agg #[.bool s1,.int .u64 x1,.int .u64 y1,.pointer p1],.int .i64 n] w fun e w'=>∃ v,e=.returned (.tuple #[v,.nilIface])∧am w' v f∧But [] w w')
  (hQ:∀ w1 bn v6 v7 v8 v11 s' x' y' p',But [] W0 w1→B≤bn→P4 w1 bn s' x' y' p'→am w1 (.agg #[.bool s',.int .u64 x',.int .u64 y',.pointer p']) (f)→Q .normal (bb base [(17,.pointer (some ⟨g3,0,none⟩)),(18,.slice (some ⟨b,off,none⟩) nn c),(19,.pointer (some ⟨b,off,none⟩)),(20,.agg #[.bool s1,.int .u64 x1,.int .u64 y1,.pointer p1]),(21,.pointer (some ⟨g2,8,none⟩)),(22,.int .i64 n),(23,v6),(16,v7),(24,v8),(25,.nilIface),(6,.pointer (some ⟨bn,0,none⟩)),(7,v11),(7,.nilIface)]) w1) :
  (Code.region id opZgs true).wp Tryz.prog Q base W0:=by
 have hdr:∀ {w},But [] W0.drew w→But [] W0 w:=fun h=>(But.refl _ _).drew.trans' h
 have hT:∀ i,i<12→opZgT i<base.tmps.size:=fun i hi=>by
  have h:opZgT i≤25:=by revert i;decide
  omega
 refine region_flow3 (by kernel_rfl) (low_of (by kernel_rfl)) (fun i o ho=>(calm_of (ops:=opZgs) (by kernel_rfl) i o ho).1)
  (opZgC B g2 g3 b off nn c n s1 x1 y1 p1 f) opZgT 12 11 10 (by omega) (Stored B (f)) rfl opZgT_inj hT (fun i w w' v hi h hb=>opZgC_but h hi hb) (fun _ _=>trivial) (fun w w' v h hb=>h.but hb)
  (fun i hi=>?_) (dep_of (ops:=opZgs) (ps:=[(11,10)]) (by kernel_rfl) 11 10 (by simp)) ?_ ?_ (fun a w=>∃ w1 bn v6 v7 v8 v11 s' x' y' p',a=bb base [(17,.pointer (some ⟨g3,0,none⟩)),(18,.slice (some ⟨b,off,none⟩) nn c),(19,.pointer (some ⟨b,off,none⟩)),(20,.agg #[.bool s1,.int .u64 x1,.int .u64 y1,.pointer p1]),(21,.pointer (some ⟨g2,8,none⟩)),(22,.int .i64 n),(23,v6),(16,v7),(24,v8),(25,.nilIface),(6,.pointer (some ⟨bn,0,none⟩)),(7,v11),(7,.nilIface)]∧w=w1∧But [] W0 w1∧B≤bn∧P4 w1 bn s' x' y' p'∧am w1 (.agg #[.bool s',.int .u64 x',.int .u64 y',.pointer p']) (f)) ?_ ?_ (by omega)
 ·exact dep_of (ops:=opZgs) (ps:=[(12,0),(12,1),(12,2),(12,3),(12,4),(12,5),(12,6),(12,7),(12,8),(12,9),(12,10),(12,11)]) (by kernel_rfl) 12 i (by
   have:i=0∨i=1∨i=2∨i=3∨i=4∨i=5∨i=6∨i=7∨i=8∨i=9∨i=10∨i=11:=by omega
   rcases this with rfl | rfl | rfl | rfl | rfl | rfl | rfl | rfl | rfl | rfl | rfl | rfl <;> simp)
 ·intro i o a w K hi hiq ho hH he hdep hK
  have hD:=dep_have (ps:=[(1,0),(2,1),(3,2),(5,4),(6,3),(6,5),(7,6),(8,7),(9,7),(11,0),(11,1),(11,2),(11,3),(11,4),(11,5),(11,6),(11,7),(11,8),(11,10)]) (by kernel_rfl) ho (fun j=>opZgC B g2 g3 b off nn c n s1 x1 y1 p1 f j w (a.eval (.tmp (opZgT j)))) hdep
  have hk:∀ v w',But [] w w'→opZgC B g2 g3 b off nn c n s1 x1 y1 p1 f i w' v→K (a.put (some (opZgT i)) v) w':=hK
  have e2':=(he 2 (fun j hj e=>absurd e.symm (by revert j;decide))).trans e2
  have e3':=(he 3 (fun j hj e=>absurd e.symm (by revert j;decide))).trans e3
  have:i=0∨i=1∨i=2∨i=3∨i=4∨i=5∨i=6∨i=7∨i=8∨i=9∨i=10∨i=11:=by omega
  rcases this with rfl | rfl | rfl | rfl | rfl | rfl | rfl | rfl | rfl | rfl | rfl | rfl
  ·obtain rfl:=Option.some.inj ((show opZgs[0]? = some opZg0 from rfl).symm.trans ho)
   exact al (run_fieldK a w _ _ _ _ _ _ g3 e3') (hk _ _ (But.refl _ _) rfl)
  ·obtain rfl:=Option.some.inj ((show opZgs[1]? = some opZg1 from rfl).symm.trans ho)
   exact al (run_loadSK a w _ _ _ _ _ _ g3 _ _ _ (hD 0 (by simp)) ((hdr hH).ag cs (by simp))) (hk _ _ (But.refl _ _) rfl)
  ·obtain rfl:=Option.some.inj ((show opZgs[2]? = some opZg2 from rfl).symm.trans ho)
   exact al (run_firstK a w _ _ _ _ _ _ b off nn c hnn (hD 1 (by simp))) (hk _ _ (But.refl _ _) rfl)
  ·obtain rfl:=Option.some.inj ((show opZgs[3]? = some opZg3 from rfl).symm.trans ho)
   exact al (aq a w _ _ _ _ _ _ b off _ _ _ _ (hD 2 (by simp)) (c1.but (hdr hH) (by simp))) (hk _ _ (But.refl _ _) rfl)
  ·obtain rfl:=Option.some.inj ((show opZgs[4]? = some opZg4 from rfl).symm.trans ho)
   exact al (run_fF2 a w _ _ _ _ _ _ g2 e2') (hk _ _ (But.refl _ _) rfl)
  ·obtain rfl:=Option.some.inj ((show opZgs[5]? = some opZg5 from rfl).symm.trans ho)
   exact al (run_ldIZ a w _ _ _ _ _ _ g2 8 n (hD 4 (by simp)) ((hdr hH).ag cn (by simp))) (hk _ _ (But.refl _ _) rfl)
  ·obtain rfl:=Option.some.inj ((show opZgs[6]? = some opZg6 from rfl).symm.trans ho)
   exact av (run_powZ a w _ _ _ _ _ _ _ _ _ (hD 3 (by simp)) (hD 5 (by simp))) (R:=fun w' v=>FracErr (f) w' v∧But [] w w') ((PW w (hdr hH)).mono fun e w' ⟨v,he,hf,hb⟩=>⟨_,he,⟨v,rfl,hf⟩,hb⟩) (fun v w' hv=>hk v w' hv.2 hv.1)
  ·obtain rfl:=Option.some.inj ((show opZgs[7]? = some opZg7 from rfl).symm.trans ho)
   exact al (bh a w _ _ _ _ _ _ _ rfl) (hk _ _ (But.refl _ _) (hD 6 (by simp)))
  ·obtain rfl:=Option.some.inj ((show opZgs[8]? = some opZg8 from rfl).symm.trans ho)
   obtain ⟨u,eu,hu⟩:FracErr (f) w _:=(hD 7 (by simp))
   exact al (run_exK a w _ _ _ _ _ _ _ _ u eu rfl) (hk _ _ (But.refl _ _) hu)
  ·obtain rfl:=Option.some.inj ((show opZgs[9]? = some opZg9 from rfl).symm.trans ho)
   obtain ⟨u,eu,hu⟩:FracErr (f) w _:=(hD 7 (by simp))
   exact al (run_exK a w _ _ _ _ _ _ _ _ .nilIface eu rfl) (hk _ _ (But.refl _ _) rfl)
  ·obtain rfl:=Option.some.inj ((show opZgs[10]? = some opZg10 from rfl).symm.trans ho)
   exact al (run_alloc4 a w _ _ _ _ _) (hk _ _ ((But.refl _ _).alloc _) ⟨w.heap.size,rfl,by rw [hBW];exact (hdr hH).size,⟨false,0,0,none,by simp,by simp,by simp,by simp⟩,fun j=>by simp⟩)
  ·exact absurd rfl hiq
 ·intro o a w K ho hH he hdep hK
  have hD:=dep_have (ps:=[(11,10),(11,8)]) (by kernel_rfl) ho (fun j=>opZgC B g2 g3 b off nn c n s1 x1 y1 p1 f j w (a.eval (.tmp (opZgT j)))) hdep
  obtain rfl:=Option.some.inj ((show opZgs[11]? = some opZg11 from rfl).symm.trans ho)
  have cl:am w (a.eval (.tmp 24)) (f):=hD 8 (by simp)
  obtain ⟨bn,eb,hb1,⟨s0,x0,y0,p0,hb2⟩,hb3⟩:LaidAny B w (a.eval (.tmp 6)):=hD 10 (by simp)
  have cl':=cl
  obtain ⟨x',y',p',ev,-⟩:=cl.agg
  rw [ev] at cl'
  exact wp_skipped (run_store4 a w _ _ _ _ _ bn _ x' y' p' eb ev hb2 hb3) (hK _ (hH.trans (au w bn _ x' y' p') (fun x hx=>by simp at hx;subst hx;exact .inr (by rw [hBW] at hb1;exact hb1))) (fun j hj u hu=>opZgC_put hb2 _ x' y' p' hu hj) ⟨bn,_,x',y',p',eb,hb1,put4_p4 w bn _ x' y' p' hb2,cl'.over hb2.1 (au w bn _ x' y' p')⟩)
 ·intro dn o a w K ho hall h hst hK
  obtain rfl:=Option.some.inj ((show opZgs[12]? = some opZg12 from rfl).symm.trans ho)
  obtain ⟨bn,s',x',y',p',eb,hb1,hb2,hb3⟩:=hst
  have eb:a.eval (.tmp 6)=.pointer (some ⟨bn,0,none⟩):=eb
  have ea:=h.puts hT (fun i=>match i with
   | 0=>.pointer (some ⟨g3,0,none⟩)
   | 1=>.slice (some ⟨b,off,none⟩) nn c
   | 2=>.pointer (some ⟨b,off,none⟩)
   | 3=>.agg #[.bool s1,.int .u64 x1,.int .u64 y1,.pointer p1]
   | 4=>.pointer (some ⟨g2,8,none⟩)
   | 5=>.int .i64 n
   | 6=>a.eval (.tmp 23)
   | 7=>a.eval (.tmp 16)
   | 8=>a.eval (.tmp 24)
   | 9=>.nilIface
   | 10=>.pointer (some ⟨bn,0,none⟩)
   | _=>a.eval (.tmp 7)) (fun i hi=>by
   have hc:=h.has i hi (hall i hi)
   have:i=0∨i=1∨i=2∨i=3∨i=4∨i=5∨i=6∨i=7∨i=8∨i=9∨i=10∨i=11:=by omega
   rcases this with rfl | rfl | rfl | rfl | rfl | rfl | rfl | rfl | rfl | rfl | rfl | rfl
   ·exact hc
   ·exact hc
   ·exact hc
   ·exact hc
   ·exact hc
   ·exact hc
   ·rfl
   ·rfl
   ·rfl
   ·exact hc
   ·exact eb
   ·rfl)
  have ea2:a=bb base [(17,.pointer (some ⟨g3,0,none⟩)),(18,.slice (some ⟨b,off,none⟩) nn c),(19,.pointer (some ⟨b,off,none⟩)),(20,.agg #[.bool s1,.int .u64 x1,.int .u64 y1,.pointer p1]),(21,.pointer (some ⟨g2,8,none⟩)),(22,.int .i64 n),(23,a.eval (.tmp 23)),(16,a.eval (.tmp 16)),(24,a.eval (.tmp 24)),(25,.nilIface),(6,.pointer (some ⟨bn,0,none⟩)),(7,a.eval (.tmp 7))]:=ea
  have ea3:a.put (some 7) (.nilIface)=bb base ([(17,.pointer (some ⟨g3,0,none⟩)),(18,.slice (some ⟨b,off,none⟩) nn c),(19,.pointer (some ⟨b,off,none⟩)),(20,.agg #[.bool s1,.int .u64 x1,.int .u64 y1,.pointer p1]),(21,.pointer (some ⟨g2,8,none⟩)),(22,.int .i64 n),(23,a.eval (.tmp 23)),(16,a.eval (.tmp 16)),(24,a.eval (.tmp 24)),(25,.nilIface),(6,.pointer (some ⟨bn,0,none⟩)),(7,a.eval (.tmp 7))]++[(7,.nilIface)]):=(congrArg (fun z:Act=>z.put (some 7) (.nilIface)) ea2).trans (putted_snoc _ _ _ _)
  have hev:a.eval (.tmp 25)=.nilIface:=h.has 9 (by omega) (hall 9 (by omega))
  exact al (run_as _ _ _ _ _ _ _ _ _ hev) (hK _ _ ⟨w,bn,a.eval (.tmp 23),a.eval (.tmp 16),a.eval (.tmp 24),a.eval (.tmp 7),s',x',y',p',ea3,rfl,hdr h.mem,hb1,hb2,hb3⟩)
 ·rintro a w ⟨w1,bn,v6,v7,v8,v11,s',x',y',p',rfl,rfl,h1,h2,h3,h4⟩
  exact hQ _ bn v6 v7 v8 v11 s' x' y' p' h1 h2 h3 h4
def opZh0:Oper:={ dst:=some 35,op:=Op.load 29 (Operand.tmp 6),type:=29,pos:= "number.go:119",after:=#[],guard:=none }
def opZh1:Oper:={ dst:=some 36,op:=Op.buildSlice 33 1 #[(0,Operand.tmp 35)],type:=33,pos:= "number.go:119",after:=#[⟨0,.data⟩],guard:=none }
def opZh2:Oper:={ dst:=some 37,op:=Op.load 29 (Operand.tmp 8),type:=29,pos:= "number.go:119",after:=#[],guard:=none }
def opZh3:Oper:={ dst:=some 38,op:=Op.load 29 (Operand.tmp 5),type:=29,pos:= "number.go:119",after:=#[],guard:=none }
def opZh4:Oper:={ dst:=some 39,op:=Op.fieldAddr 103 (Operand.tmp 3) 0,type:=0,pos:= "number.go:119",after:=#[],guard:=none }
def opZh5:Oper:={ dst:=some 40,op:=Op.load 33 (Operand.tmp 39),type:=33,pos:= "number.go:119",after:=#[⟨4,.data⟩],guard:=none }
def opZh6:Oper:={ dst:=some 41,op:=Op.indexAddr 33 (Operand.tmp 40) (Operand.const (Value.int IntKind.i64 0)),type:=0,pos:= "number.go:119",after:=#[⟨5,.data⟩],guard:=none }
def opZh7:Oper:={ dst:=some 42,op:=Op.load 29 (Operand.tmp 41),type:=29,pos:= "number.go:119",after:=#[⟨6,.data⟩],guard:=none }
def opZh8:Oper:={ dst:=some 43,op:=Op.build 169 #[(0,Operand.tmp 36),(1,Operand.tmp 37),(2,Operand.tmp 38),(3,Operand.tmp 42)],type:=169,pos:= "number.go:119",after:=#[⟨1,.data⟩,⟨2,.data⟩,⟨3,.data⟩,⟨7,.data⟩],guard:=none }
def opZh9:Oper:={ dst:=none,op:=Op.store 169 (Operand.tmp 4) (Operand.tmp 43),type:=0,pos:= "number.go:119",after:=#[⟨8,.data⟩,⟨0,.phase⟩,⟨1,.phase⟩,⟨2,.phase⟩,⟨3,.phase⟩,⟨4,.phase⟩,⟨5,.phase⟩,⟨6,.phase⟩,⟨7,.phase⟩,⟨8,.phase⟩],guard:=none }
def opZhs:Array Oper:=#[opZh0,opZh1,opZh2,opZh3,opZh4,opZh5,opZh6,opZh7,opZh8,opZh9]
def opZhSt (B:Nat) (_g3:Nat) (_b:Nat) (_off:Nat) (_nn:Nat) (_c:Nat) (_s1:Bool) (_x1:Int) (_y1:Int) (_p1:Option Addr) (_s2:Bool) (_x2:Int) (_y2:Int) (_p2:Option Addr) (_s3:Bool) (_x3:Int) (_y3:Int) (_p3:Option Addr) (_s4:Bool) (_x4:Int) (_y4:Int) (_p4:Option Addr) (f1:Rat) (f2:Rat) (f3:Rat) (f4:Rat) (w:World) (v:Value):Prop:=∃ gr0 a1 b1 c1 d1 a2 b2 c2 d2 a3 b3 c3 d3,v=.agg #[.slice (some ⟨gr0,0,none⟩) 1 1,.bool a1,.int .u64 b1,.int .u64 c1,.pointer d1,.bool a2,.int .u64 b2,.int .u64 c2,.pointer d2,.bool a3,.int .u64 b3,.int .u64 c3,.pointer d3]∧(∃ vs,aw w B (.slice (some ⟨gr0,0,none⟩) 1 1) [f1] vs)∧am w (.agg #[.bool a1,.int .u64 b1,.int .u64 c1,.pointer d1]) (f2)∧am w (.agg #[.bool a2,.int .u64 b2,.int .u64 c2,.pointer d2]) (f3)∧am w (.agg #[.bool a3,.int .u64 b3,.int .u64 c3,.pointer d3]) (f4)
theorem opZhSt.but {B:Nat} {g3:Nat} {b:Nat} {off:Nat} {nn:Nat} {c:Nat} {s1:Bool} {x1:Int} {y1:Int} {p1:Option Addr} {s2:Bool} {x2:Int} {y2:Int} {p2:Option Addr} {s3:Bool} {x3:Int} {y3:Int} {p3:Option Addr} {s4:Bool} {x4:Int} {y4:Int} {p4:Option Addr} {f1:Rat} {f2:Rat} {f3:Rat} {f4:Rat} {w w':World} {v:Value} (h:opZhSt B g3 b off nn c s1 x1 y1 p1 s2 x2 y2 p2 s3 x3 y3 p3 s4 x4 y4 p4 f1 f2 f3 f4 w v) (hb:But [] w w'):opZhSt B g3 b off nn c s1 x1 y1 p1 s2 x2 y2 p2 s3 x3 y3 p3 s4 x4 y4 p4 f1 f2 f3 f4 w' v:=by
 obtain ⟨gr0,a1,b1,c1,d1,a2,b2,c2,d2,a3,b3,c3,d3,e,z0,z1,z2,z3⟩:=h
 exact ⟨gr0,a1,b1,c1,d1,a2,b2,c2,d2,a3,b3,c3,d3,e,(by obtain ⟨vs,h⟩:=z0;exact ⟨vs,h.but hb⟩),z1.but hb,z2.but hb,z3.but hb⟩
theorem run_bdopZhSt (a:Act) (w:World) (d t0 t1 t2 t3:Nat) (u:TypeId) (ps:String) (ed:Array Edge) (gd:Option (Nat × Bool)) (gr0 n0:Nat) (a1:Bool) (b1 c1:Int) (d1:Option Addr) (a2:Bool) (b2 c2:Int) (d2:Option Addr) (a3:Bool) (b3 c3:Int) (d3:Option Addr) (h0:a.eval (.tmp t0)=.slice (some ⟨gr0,0,none⟩) n0 n0) (h1:a.eval (.tmp t1)=.agg #[.bool a1,.int .u64 b1,.int .u64 c1,.pointer d1]) (h2:a.eval (.tmp t2)=.agg #[.bool a2,.int .u64 b2,.int .u64 c2,.pointer d2]) (h3:a.eval (.tmp t3)=.agg #[.bool a3,.int .u64 b3,.int .u64 c3,.pointer d3]) :
  (execOp a.eval { dst:=some d,op:=Op.build 169 #[(0,Operand.tmp t0),(1,Operand.tmp t1),(2,Operand.tmp t2),(3,Operand.tmp t3)],type:=u,pos:=ps,after:=ed,guard:=gd }).run Tryz.prog w=.ok (.value (.agg #[.slice (some ⟨gr0,0,none⟩) n0 n0,.bool a1,.int .u64 b1,.int .u64 c1,.pointer d1,.bool a2,.int .u64 b2,.int .u64 c2,.pointer d2,.bool a3,.int .u64 b3,.int .u64 c3,.pointer d3])) w:=by
 unfold execOp
 simp only [List.map_toArray,List.map_cons,List.map_nil,h0,h1,h2,h3]
 go_simp
theorem run_stopZhSt (a:Act) (w:World) (t1 t2:Nat) (u:TypeId) (ps:String) (ed:Array Edge) (gb:Nat) (gr0 n0:Nat) (a1:Bool) (b1 c1:Int) (d1:Option Addr) (a2:Bool) (b2 c2:Int) (d2:Option Addr) (a3:Bool) (b3 c3:Int) (d3:Option Addr) {vb:List Value} (h1:a.eval (.tmp t1)=.pointer (some ⟨gb,0,none⟩)) (h2:a.eval (.tmp t2)=.agg #[.slice (some ⟨gr0,0,none⟩) n0 n0,.bool a1,.int .u64 b1,.int .u64 c1,.pointer d1,.bool a2,.int .u64 b2,.int .u64 c2,.pointer d2,.bool a3,.int .u64 b3,.int .u64 c3,.pointer d3]) (hc:SBox w gb vb) (hl:vb.length=13) :
  (execOp a.eval { dst:=none,op:=Op.store 169 (.tmp t1) (.tmp t2),type:=u,pos:=ps,after:=ed,guard:=none }).run Tryz.prog w=.ok .skip (w.setCells gb 0 [.slice (some ⟨gr0,0,none⟩) n0 n0,.bool a1,.int .u64 b1,.int .u64 c1,.pointer d1,.bool a2,.int .u64 b2,.int .u64 c2,.pointer d2,.bool a3,.int .u64 b3,.int .u64 c3,.pointer d3]):=by
 obtain ⟨u0,e0⟩:=hc.some 0 (by omega)
 obtain ⟨u1,e1⟩:=hc.some 1 (by omega)
 obtain ⟨u2,e2⟩:=hc.some 2 (by omega)
 obtain ⟨u3,e3⟩:=hc.some 3 (by omega)
 obtain ⟨u4,e4⟩:=hc.some 4 (by omega)
 obtain ⟨u5,e5⟩:=hc.some 5 (by omega)
 obtain ⟨u6,e6⟩:=hc.some 6 (by omega)
 obtain ⟨u7,e7⟩:=hc.some 7 (by omega)
 obtain ⟨u8,e8⟩:=hc.some 8 (by omega)
 obtain ⟨u9,e9⟩:=hc.some 9 (by omega)
 obtain ⟨u10,e10⟩:=hc.some 10 (by omega)
 obtain ⟨u11,e11⟩:=hc.some 11 (by omega)
 obtain ⟨u12,e12⟩:=hc.some 12 (by omega)
 have fz:=hc.loose
 unfold execOp
 simp only [h1,h2]
 go_simp
 rfl
def opZhT (i:Nat):Nat:=match i with
 | 0=>35
 | 1=>36
 | 2=>37
 | 3=>38
 | 4=>39
 | 5=>40
 | 6=>41
 | 7=>42
 | _=>43
def opZhC (B:Nat) (g3:Nat) (b:Nat) (off:Nat) (nn:Nat) (c:Nat) (s1:Bool) (x1:Int) (y1:Int) (p1:Option Addr) (s2:Bool) (x2:Int) (y2:Int) (p2:Option Addr) (s3:Bool) (x3:Int) (y3:Int) (p3:Option Addr) (s4:Bool) (x4:Int) (y4:Int) (p4:Option Addr) (f1:Rat) (f2:Rat) (f3:Rat) (f4:Rat) (i:Nat) (w:World) (v:Value):Prop:=match i with
 | 0=>v=.agg #[.bool s1,.int .u64 x1,.int .u64 y1,.pointer p1]
 | 1=>GrowB B (f1) w v
 | 2=>am w v (f2)
 | 3=>am w v (f3)
 | 4=>v=.pointer (some ⟨g3,0,none⟩)
 | 5=>v=.slice (some ⟨b,off,none⟩) nn c
 | 6=>v=.pointer (some ⟨b,off,none⟩)
 | 7=>am w v (f4)
 | _=>opZhSt B g3 b off nn c s1 x1 y1 p1 s2 x2 y2 p2 s3 x3 y3 p3 s4 x4 y4 p4 f1 f2 f3 f4 w v
theorem opZhC_but {B:Nat} {g3:Nat} {b:Nat} {off:Nat} {nn:Nat} {c:Nat} {s1:Bool} {x1:Int} {y1:Int} {p1:Option Addr} {s2:Bool} {x2:Int} {y2:Int} {p2:Option Addr} {s3:Bool} {x3:Int} {y3:Int} {p3:Option Addr} {s4:Bool} {x4:Int} {y4:Int} {p4:Option Addr} {f1:Rat} {f2:Rat} {f3:Rat} {f4:Rat} {i:Nat} {w w':World} {v:Value} (h:opZhC B g3 b off nn c s1 x1 y1 p1 s2 x2 y2 p2 s3 x3 y3 p3 s4 x4 y4 p4 f1 f2 f3 f4 i w v) (hi:i<9) (hb:But [] w w'):opZhC B g3 b off nn c s1 x1 y1 p1 s2 x2 y2 p2 s3 x3 y3 p3 s4 x4 y4 p4 f1 f2 f3 f4 i w' v:=by
 have:i=0∨i=1∨i=2∨i=3∨i=4∨i=5∨i=6∨i=7∨i=8:=by omega
 rcases this with rfl | rfl | rfl | rfl | rfl | rfl | rfl | rfl | rfl
 ·exact (show v=.agg #[.bool s1,.int .u64 x1,.int .u64 y1,.pointer p1] from h)
 ·exact GrowB.but (show GrowB B (f1) w v from h) hb
 ·exact am.but (show am w v (f2) from h) hb
 ·exact am.but (show am w v (f3) from h) hb
 ·exact (show v=.pointer (some ⟨g3,0,none⟩) from h)
 ·exact (show v=.slice (some ⟨b,off,none⟩) nn c from h)
 ·exact (show v=.pointer (some ⟨b,off,none⟩) from h)
 ·exact am.but (show am w v (f4) from h) hb
 ·exact opZhSt.but (show opZhSt B g3 b off nn c s1 x1 y1 p1 s2 x2 y2 p2 s3 x3 y3 p3 s4 x4 y4 p4 f1 f2 f3 f4 w v from h) hb
theorem opZhT_inj:∀ i j,i<9→j<9→opZhT i=opZhT j→i=j:=fun i j hi hj=>(by decide:∀ i,i<9→∀ j,j<9→opZhT i=opZhT j→i=j) i hi j hj
theorem series_region5 (id:Nat) (Q:Exit→Act→World→Prop) (base:Act) (W0:World) (B:Nat) (g3:Nat) (b:Nat) (off:Nat) (nn:Nat) (c:Nat) (s1:Bool) (x1:Int) (y1:Int) (p1:Option Addr) (s2:Bool) (x2:Int) (y2:Int) (p2:Option Addr) (s3:Bool) (x3:Int) (y3:Int) (p3:Option Addr) (s4:Bool) (x4:Int) (y4:Int) (p4:Option Addr) (f1:Rat) (f2:Rat) (f3:Rat) (f4:Rat) (gb g5 g6 g8:Nat) {vb:List Value} (hs:43<base.tmps.size) (eb:base.eval (.tmp 4)=.pointer (some ⟨gb,0,none⟩)) (cb:SBox W0 gb vb) (hvb:vb.length=13) (e3:base.eval (.tmp 3)=.pointer (some ⟨g3,0,none⟩)) (e5:base.eval (.tmp 5)=.pointer (some ⟨g5,0,none⟩)) (e6:base.eval (.tmp 6)=.pointer (some ⟨g6,0,none⟩)) (e8:base.eval (.tmp 8)=.pointer (some ⟨g8,0,none⟩))
  (hB:B=W0.heap.size) (hnn:0<nn) (cs:W0.cell? ⟨g3,0,none⟩=some (.slice (some ⟨b,off,none⟩) nn c)) (c1:P4 W0 g6 s1 x1 y1 p1) (F1:am W0 (.agg #[.bool s1,.int .u64 x1,.int .u64 y1,.pointer p1]) f1) (c2:P4 W0 g8 s2 x2 y2 p2) (F2:am W0 (.agg #[.bool s2,.int .u64 x2,.int .u64 y2,.pointer p2]) f2) (c3:P4 W0 g5 s3 x3 y3 p3) (F3:am W0 (.agg #[.bool s3,.int .u64 x3,.int .u64 y3,.pointer p3]) f3) (c4:P4o W0 b off s4 x4 y4 p4) (F4:am W0 (.agg #[.bool s4,.int .u64 x4,.int .u64 y4,.pointer p4]) f4)
  (hQ:∀ w1 v1 v2 v3 v7 gr0 a1 b1 c1 d1 a2 b2 c2 d2 a3 b3 c3 d3,But [] W0 w1→(∃ vs,aw w1 B (.slice (some ⟨gr0,0,none⟩) 1 1) [f1] vs)→am w1 (.agg #[.bool a1,.int .u64 b1,.int .u64 c1,.pointer d1]) (f2)→am w1 (.agg #[.bool a2,.int .u64 b2,.int .u64 c2,.pointer d2]) (f3)→am w1 (.agg #[.bool a3,.int .u64 b3,.int .u64 c3,.pointer d3]) (f4)→Q .normal (bb base [(35,.agg #[.bool s1,.int .u64 x1,.int .u64 y1,.pointer p1]),(36,v1),(37,v2),(38,v3),(39,.pointer (some ⟨g3,0,none⟩)),(40,.slice (some ⟨b,off,none⟩) nn c),(41,.pointer (some ⟨b,off,none⟩)),(42,v7),(43,.agg #[.slice (some ⟨gr0,0,none⟩) 1 1,.bool a1,.int .u64 b1,.int .u64 c1,.pointer d1,.bool a2,.int .u64 b2,.int .u64 c2,.pointer d2,.bool a3,.int .u64 b3,.int .u64 c3,.pointer d3])]) (w1.setCells gb 0 [.slice (some ⟨gr0,0,none⟩) 1 1,.bool a1,.int .u64 b1,.int .u64 c1,.pointer d1,.bool a2,.int .u64 b2,.int .u64 c2,.pointer d2,.bool a3,.int .u64 b3,.int .u64 c3,.pointer d3])) :
  (Code.region id opZhs true).wp Tryz.prog Q base W0:=by
 have hdr:∀ {w},But [] W0.drew w→But [] W0 w:=fun h=>(But.refl _ _).drew.trans' h
 have hT:∀ i,i<9→opZhT i<base.tmps.size:=fun i hi=>by
  have h:opZhT i≤43:=by revert i;decide
  omega
 refine region_flow (by kernel_rfl) (low_of (by kernel_rfl)) (fun i o ho=>(calm_of (ops:=opZhs) (by kernel_rfl) i o ho).1)
  (fun _ w=>But [] W0.drew w) (opZhC B g3 b off nn c s1 x1 y1 p1 s2 x2 y2 p2 s3 x3 y3 p3 s4 x4 y4 p4 f1 f2 f3 f4) opZhT 9 rfl opZhT_inj hT (But.refl _ _)
  (fun i hi=>?_) ?_ (fun a w=>∃ w1 v1 v2 v3 v7 gr0 a1 b1 c1 d1 a2 b2 c2 d2 a3 b3 c3 d3,a=bb base [(35,.agg #[.bool s1,.int .u64 x1,.int .u64 y1,.pointer p1]),(36,v1),(37,v2),(38,v3),(39,.pointer (some ⟨g3,0,none⟩)),(40,.slice (some ⟨b,off,none⟩) nn c),(41,.pointer (some ⟨b,off,none⟩)),(42,v7),(43,.agg #[.slice (some ⟨gr0,0,none⟩) 1 1,.bool a1,.int .u64 b1,.int .u64 c1,.pointer d1,.bool a2,.int .u64 b2,.int .u64 c2,.pointer d2,.bool a3,.int .u64 b3,.int .u64 c3,.pointer d3])]∧w=w1.setCells gb 0 [.slice (some ⟨gr0,0,none⟩) 1 1,.bool a1,.int .u64 b1,.int .u64 c1,.pointer d1,.bool a2,.int .u64 b2,.int .u64 c2,.pointer d2,.bool a3,.int .u64 b3,.int .u64 c3,.pointer d3]∧But [] W0 w1∧(∃ vs,aw w1 B (.slice (some ⟨gr0,0,none⟩) 1 1) [f1] vs)∧am w1 (.agg #[.bool a1,.int .u64 b1,.int .u64 c1,.pointer d1]) (f2)∧am w1 (.agg #[.bool a2,.int .u64 b2,.int .u64 c2,.pointer d2]) (f3)∧am w1 (.agg #[.bool a3,.int .u64 b3,.int .u64 c3,.pointer d3]) (f4)) ?_ ?_
 ·exact dep_of (ops:=opZhs) (ps:=[(9,0),(9,1),(9,2),(9,3),(9,4),(9,5),(9,6),(9,7),(9,8)]) (by kernel_rfl) 9 i (by
   have:i=0∨i=1∨i=2∨i=3∨i=4∨i=5∨i=6∨i=7∨i=8:=by omega
   rcases this with rfl | rfl | rfl | rfl | rfl | rfl | rfl | rfl | rfl <;> simp)
 ·intro dn i o a w K hi ho hdi hH he hdep hK
  have hD:=fun j hj=>(dep_have (ps:=[(1,0),(5,4),(6,5),(7,6),(8,1),(8,2),(8,3),(8,7)]) (by kernel_rfl) ho (fun j=>dn j=true∧opZhC B g3 b off nn c s1 x1 y1 p1 s2 x2 y2 p2 s3 x3 y3 p3 s4 x4 y4 p4 f1 f2 f3 f4 j w (a.eval (.tmp (opZhT j)))) hdep j hj).2
  have hk:∀ v w',But [] w w'→opZhC B g3 b off nn c s1 x1 y1 p1 s2 x2 y2 p2 s3 x3 y3 p3 s4 x4 y4 p4 f1 f2 f3 f4 i w' v→K (a.put (some (opZhT i)) v) w':=fun v w' hb hv=>hK v w' (hH.trans' hb) (fun j hj _ u hu=>opZhC_but hu hj hb) hv
  have e3':=(he 3 (fun j hj e=>absurd e.symm (by revert j;decide))).trans e3
  have e5':=(he 5 (fun j hj e=>absurd e.symm (by revert j;decide))).trans e5
  have e6':=(he 6 (fun j hj e=>absurd e.symm (by revert j;decide))).trans e6
  have e8':=(he 8 (fun j hj e=>absurd e.symm (by revert j;decide))).trans e8
  have:i=0∨i=1∨i=2∨i=3∨i=4∨i=5∨i=6∨i=7∨i=8:=by omega
  rcases this with rfl | rfl | rfl | rfl | rfl | rfl | rfl | rfl | rfl
  ·obtain rfl:=Option.some.inj ((show opZhs[0]? = some opZh0 from rfl).symm.trans ho)
   exact al (aq a w _ _ _ _ _ _ g6 0 _ _ _ _ e6' (c1.but (hdr hH) (by simp))) (hk _ _ (But.refl _ _) rfl)
  ·obtain rfl:=Option.some.inj ((show opZhs[1]? = some opZh1 from rfl).symm.trans ho)
   exact al (run_bs1Z a w _ _ _ _ _ _ _ _ _ _ (hD 0 (by simp))) (hk _ _ ((But.refl _ _).alloc _) ⟨w.heap.size,rfl,_,(aw.new w _ _ _ _ _ (F1.but (hdr hH))).base (by rw [hB];exact (hdr hH).size)⟩)
  ·obtain rfl:=Option.some.inj ((show opZhs[2]? = some opZh2 from rfl).symm.trans ho)
   exact al (aq a w _ _ _ _ _ _ g8 0 _ _ _ _ e8' (c2.but (hdr hH) (by simp))) (hk _ _ (But.refl _ _) (F2.but (hdr hH)))
  ·obtain rfl:=Option.some.inj ((show opZhs[3]? = some opZh3 from rfl).symm.trans ho)
   exact al (aq a w _ _ _ _ _ _ g5 0 _ _ _ _ e5' (c3.but (hdr hH) (by simp))) (hk _ _ (But.refl _ _) (F3.but (hdr hH)))
  ·obtain rfl:=Option.some.inj ((show opZhs[4]? = some opZh4 from rfl).symm.trans ho)
   exact al (run_fieldK a w _ _ _ _ _ _ g3 e3') (hk _ _ (But.refl _ _) rfl)
  ·obtain rfl:=Option.some.inj ((show opZhs[5]? = some opZh5 from rfl).symm.trans ho)
   exact al (run_loadSK a w _ _ _ _ _ _ g3 _ _ _ (hD 4 (by simp)) ((hdr hH).ag cs (by simp))) (hk _ _ (But.refl _ _) rfl)
  ·obtain rfl:=Option.some.inj ((show opZhs[6]? = some opZh6 from rfl).symm.trans ho)
   exact al (run_firstK a w _ _ _ _ _ _ b off nn c hnn (hD 5 (by simp))) (hk _ _ (But.refl _ _) rfl)
  ·obtain rfl:=Option.some.inj ((show opZhs[7]? = some opZh7 from rfl).symm.trans ho)
   exact al (aq a w _ _ _ _ _ _ b off _ _ _ _ (hD 6 (by simp)) (c4.but (hdr hH) (by simp))) (hk _ _ (But.refl _ _) (F4.but (hdr hH)))
  ·obtain rfl:=Option.some.inj ((show opZhs[8]? = some opZh8 from rfl).symm.trans ho)
   obtain ⟨gr0,e0,r0⟩:GrowB B (f1) w (a.eval (.tmp 36)):=hD 1 (by simp)
   have q1:am w (a.eval (.tmp 37)) (f2):=hD 2 (by simp)
   obtain ⟨b1,c1,d1,e1,-⟩:=q1.agg
   rw [e1] at q1
   have q2:am w (a.eval (.tmp 38)) (f3):=hD 3 (by simp)
   obtain ⟨b2,c2,d2,e2,-⟩:=q2.agg
   rw [e2] at q2
   have q3:am w (a.eval (.tmp 42)) (f4):=hD 7 (by simp)
   obtain ⟨b3,c3,d3,e3,-⟩:=q3.agg
   rw [e3] at q3
   exact al (run_bdopZhSt a w _ _ _ _ _ _ _ _ _ gr0 _ _ b1 c1 d1 _ b2 c2 d2 _ b3 c3 d3 e0 e1 e2 e3) (hk _ _ (But.refl _ _) ⟨gr0,_,b1,c1,d1,_,b2,c2,d2,_,b3,c3,d3,rfl,r0,q1,q2,q3⟩)
 ·intro dn o a w K ho hall h hK
  obtain rfl:=Option.some.inj ((show opZhs[9]? = some opZh9 from rfl).symm.trans ho)
  have eb':=(h.eval 4 (fun j hj e=>absurd e.symm (by revert j;decide))).trans eb
  obtain ⟨gr0,a1,b1,c1,d1,a2,b2,c2,d2,a3,b3,c3,d3,ev,z0,z1,z2,z3⟩:opZhSt B g3 b off nn c s1 x1 y1 p1 s2 x2 y2 p2 s3 x3 y3 p3 s4 x4 y4 p4 f1 f2 f3 f4 w (a.eval (.tmp 43)):=h.has 8 (by omega) (hall 8 (by omega))
  have ea:=h.puts hT (fun i=>match i with
   | 0=>.agg #[.bool s1,.int .u64 x1,.int .u64 y1,.pointer p1]
   | 1=>a.eval (.tmp 36)
   | 2=>a.eval (.tmp 37)
   | 3=>a.eval (.tmp 38)
   | 4=>.pointer (some ⟨g3,0,none⟩)
   | 5=>.slice (some ⟨b,off,none⟩) nn c
   | 6=>.pointer (some ⟨b,off,none⟩)
   | 7=>a.eval (.tmp 42)
   | _=>.agg #[.slice (some ⟨gr0,0,none⟩) 1 1,.bool a1,.int .u64 b1,.int .u64 c1,.pointer d1,.bool a2,.int .u64 b2,.int .u64 c2,.pointer d2,.bool a3,.int .u64 b3,.int .u64 c3,.pointer d3]) (fun i hi=>by
   have hc:=h.has i hi (hall i hi)
   have:i=0∨i=1∨i=2∨i=3∨i=4∨i=5∨i=6∨i=7∨i=8:=by omega
   rcases this with rfl | rfl | rfl | rfl | rfl | rfl | rfl | rfl | rfl
   ·exact hc
   ·rfl
   ·rfl
   ·rfl
   ·exact hc
   ·exact hc
   ·exact hc
   ·rfl
   ·exact ev)
  exact wp_skipped (run_stopZhSt a w _ _ _ _ _ gb gr0 _ a1 b1 c1 d1 a2 b2 c2 d2 a3 b3 c3 d3 eb' ev (cb.but (hdr h.mem) (by simp) (by omega)) hvb) (hK _ _ ⟨w,a.eval (.tmp 36),a.eval (.tmp 37),a.eval (.tmp 38),a.eval (.tmp 42),gr0,a1,b1,c1,d1,a2,b2,c2,d2,a3,b3,c3,d3,ea,rfl,hdr h.mem,z0,z1,z2,z3⟩)
 ·rintro a w ⟨w1,v1,v2,v3,v7,gr0,a1,b1,c1,d1,a2,b2,c2,d2,a3,b3,c3,d3,rfl,rfl,hb1,z0,z1,z2,z3⟩
  exact hQ w1 v1 v2 v3 v7 gr0 a1 b1 c1 d1 a2 b2 c2 d2 a3 b3 c3 d3 hb1 z0 z1 z2 z3
theorem run_lenZ (a:Act) (w:World) (d t:Nat) (u:TypeId) (ps:String) (ed:Array Edge) (gd:Option (Nat × Bool)) (q:Option Addr) (n c:Nat) (h1:a.eval (.tmp t)=.slice q n c) :
  (execOp a.eval { dst:=some d,op:=Op.call { callee:=Callee.builtin Builtin.len,args:=#[Operand.tmp t],argTypes:=#[38] },type:=u,pos:=ps,after:=ed,guard:=gd }).run Tryz.prog w=.ok (.value (.int .i64 (n:Int))) w:=by
 unfold execOp
 simp only [resolve,invoke,builtin,Sem.run_bind,Sem.run_pure,Result.andThen_ok,List.map_toArray,List.map_cons,List.map_nil,h1]
 go_simp
theorem run_add1Z (a:Act) (w:World) (d t1:Nat) (u:TypeId) (ps:String) (ed:Array Edge) (gd:Option (Nat × Bool)) (m:Nat) (hm:m≤1000000) (h1:a.eval (.tmp t1)=.int .i64 (m:Int)) :
  (execOp a.eval { dst:=some d,op:=Op.binOp BinOp.add 3 (.tmp t1) (Operand.const (Value.int IntKind.i64 1)) 3,type:=u,pos:=ps,after:=ed,guard:=gd }).run Tryz.prog w=.ok (.value (.int .i64 ((m+1:Nat):Int))) w:=by
 have e:a.eval (.const (.int .i64 1))=.int .i64 1:=rfl
 unfold execOp
 simp only [h1,e]
 go_simp
 rw [IntKind.wrap_i64]
 omega
theorem run_minZ (a:Act) (w:World) (d t1 t2:Nat) (u:TypeId) (ps:String) (ed:Array Edge) (gd:Option (Nat × Bool)) (m n k:Nat) (hk:k=min m n) (h1:a.eval (.tmp t1)=.int .i64 (m:Int)) (h2:a.eval (.tmp t2)=.int .i64 (n:Int)) :
  (execOp a.eval { dst:=some d,op:=Op.call { callee:=Callee.builtin Builtin.min,args:=#[Operand.tmp t1,Operand.tmp t2],argTypes:=#[3,3] },type:=u,pos:=ps,after:=ed,guard:=gd }).run Tryz.prog w=.ok (.value (.int .i64 (k:Int))) w:=by
 unfold execOp
 simp only [resolve,invoke,builtin,Sem.run_bind,Sem.run_pure,Result.andThen_ok,List.map_toArray,List.map_cons,List.map_nil,h1,h2]
 go_simp
 subst hk
 omega
theorem run_cutZ (a:Act) (w:World) (d t1 t2:Nat) (u:TypeId) (ps:String) (ed:Array Edge) (gd:Option (Nat × Bool)) (b off n c k:Nat) (hk:k≤n) (hn:n≤c) (h1:a.eval (.tmp t1)=.slice (some ⟨b,off,none⟩) n c) (h2:a.eval (.tmp t2)=.int .i64 (k:Int)) :
  (execOp a.eval { dst:=some d,op:=Op.slice 38 (.tmp t1) none (some (.tmp t2)) none,type:=u,pos:=ps,after:=ed,guard:=gd }).run Tryz.prog w=.ok (.value (.slice (some ⟨b,off,none⟩) k c)) w:=by
 have h2':a.tmps[t2]?.getD undef=.int .i64 (k:Int):=by rw [← Array.getD_eq_getD_getElem?];exact h2
 unfold execOp
 simp only [h1]
 go_simp
 intro hx
 omega
def opZi0:Oper:={ dst:=some 14,op:=Op.move (Operand.tmp 1),type:=38,pos:= "number.go:90",after:=#[],guard:=none }
def opZi1:Oper:={ dst:=some 15,op:=Op.move (Operand.tmp 1),type:=38,pos:= "number.go:90",after:=#[],guard:=none }
def opZi2:Oper:={ dst:=some 16,op:=Op.call { callee:=Callee.builtin Builtin.len,args:=#[Operand.tmp 15],argTypes:=#[38] },type:=3,pos:= "number.go:90",after:=#[⟨1,.data⟩],guard:=none }
def opZi3:Oper:={ dst:=some 17,op:=Op.move (Operand.tmp 2),type:=3,pos:= "number.go:90",after:=#[],guard:=none }
def opZi4:Oper:={ dst:=some 18,op:=Op.binOp BinOp.add 3 (Operand.tmp 17) (Operand.const (Value.int IntKind.i64 1)) 3,type:=3,pos:= "number.go:90",after:=#[⟨3,.data⟩],guard:=none }
def opZi5:Oper:={ dst:=some 19,op:=Op.call { callee:=Callee.builtin Builtin.min,args:=#[Operand.tmp 16,Operand.tmp 18],argTypes:=#[3,3] },type:=3,pos:= "number.go:90",after:=#[⟨2,.data⟩,⟨4,.data⟩],guard:=none }
def opZi6:Oper:={ dst:=some 20,op:=Op.slice 38 (Operand.tmp 14) none (some (Operand.tmp 19)) none,type:=38,pos:= "number.go:90",after:=#[⟨0,.data⟩,⟨5,.data⟩],guard:=none }
def opZi7:Oper:={ dst:=some 21,op:=Op.fieldAddr 98 (Operand.tmp 3) 1,type:=0,pos:= "number.go:90",after:=#[],guard:=none }
def opZi8:Oper:={ dst:=some 22,op:=Op.load 29 (Operand.tmp 21),type:=29,pos:= "number.go:90",after:=#[⟨7,.data⟩],guard:=none }
def opZi9:Oper:={ dst:=some 23,op:=Op.call { callee:=Callee.value (Operand.func 120),args:=#[Operand.tmp 20,Operand.tmp 22],argTypes:=#[33,29] },type:=33,pos:= "number.go:90",after:=#[⟨6,.data⟩,⟨8,.data⟩],guard:=none }
def opZi10:Oper:={ dst:=some 7,op:=Op.assign (Operand.tmp 23),type:=33,pos:= "number.go:90",after:=#[⟨9,.data⟩,⟨9,.chain⟩,⟨0,.phase⟩,⟨1,.phase⟩,⟨2,.phase⟩,⟨3,.phase⟩,⟨4,.phase⟩,⟨5,.phase⟩,⟨6,.phase⟩,⟨7,.phase⟩,⟨8,.phase⟩,⟨9,.phase⟩],guard:=none }
def opZis:Array Oper:=#[opZi0,opZi1,opZi2,opZi3,opZi4,opZi5,opZi6,opZi7,opZi8,opZi9,opZi10]
def opZiT (i:Nat):Nat:=match i with
 | 0=>14
 | 1=>15
 | 2=>16
 | 3=>17
 | 4=>18
 | 5=>19
 | 6=>20
 | 7=>21
 | 8=>22
 | 9=>23
 | _=>7
def opZiC (B:Nat) (g3:Nat) (b:Nat) (off:Nat) (n:Nat) (c:Nat) (uu:Nat) (mm:Nat) (s1:Bool) (x1:Int) (y1:Int) (p1:Option Addr) (F:Nat→Rat) (i:Nat) (w:World) (v:Value):Prop:=match i with
 | 0=>v=.slice (some ⟨b,off,none⟩) n c
 | 1=>v=.slice (some ⟨b,off,none⟩) n c
 | 2=>v=.int .i64 (n:Int)
 | 3=>v=.int .i64 (uu:Int)
 | 4=>v=.int .i64 ((uu+1:Nat):Int)
 | 5=>v=.int .i64 (mm:Int)
 | 6=>v=.slice (some ⟨b,off,none⟩) mm c
 | 7=>v=.pointer (some ⟨g3,4,none⟩)
 | 8=>v=.agg #[.bool s1,.int .u64 x1,.int .u64 y1,.pointer p1]
 | 9=>RowB B mm F w v
 | _=>RowB B mm F w v
theorem opZiC_but {B:Nat} {g3:Nat} {b:Nat} {off:Nat} {n:Nat} {c:Nat} {uu:Nat} {mm:Nat} {s1:Bool} {x1:Int} {y1:Int} {p1:Option Addr} {F:Nat→Rat} {i:Nat} {w w':World} {v:Value} (h:opZiC B g3 b off n c uu mm s1 x1 y1 p1 F i w v) (hi:i<11) (hb:But [] w w'):opZiC B g3 b off n c uu mm s1 x1 y1 p1 F i w' v:=by
 have:i=0∨i=1∨i=2∨i=3∨i=4∨i=5∨i=6∨i=7∨i=8∨i=9∨i=10:=by omega
 rcases this with rfl | rfl | rfl | rfl | rfl | rfl | rfl | rfl | rfl | rfl | rfl
 all_goals first | exact h | exact am.but h hb | exact an.but h hb | exact RowB.but h hb
theorem opZiT_inj:∀ i j,i<11→j<11→opZiT i=opZiT j→i=j:=fun i j hi hj=>(by decide:∀ i,i<11→∀ j,j<11→opZiT i=opZiT j→i=j) i hi j hj
theorem together_region1 (id:Nat) (Q:Exit→Act→World→Prop) (base:Act) (W0:World) (B:Nat) (g3:Nat) (b:Nat) (off:Nat) (n:Nat) (c:Nat) (uu:Nat) (mm:Nat) (s1:Bool) (x1:Int) (y1:Int) (p1:Option Addr) (F:Nat→Rat) (hs:23<base.tmps.size) (e1:base.eval (.tmp 1)=.slice (some ⟨b,off,none⟩) n c) (e2:base.eval (.tmp 2)=.int .i64 (uu:Int)) (e3:base.eval (.tmp 3)=.pointer (some ⟨g3,0,none⟩))
  (hB:B=W0.heap.size) (huu:uu≤1000000) (hmm:mm=min n (uu+1)) (hmn:mm≤n) (hnc:n≤c) (c1:P4o W0 g3 4 s1 x1 y1 p1)
  (TM:∀ w,But [] W0 w→Calls Tryz.prog 120 #[.slice (some ⟨b,off,none⟩) mm c,.agg #[.bool s1,.int .u64 x1,.int .u64 y1,.pointer p1]] w fun e w'=>∃ g,e=.returned (.slice (some ⟨g,0,none⟩) mm mm)∧RowOf w' g mm F∧w.heap.size≤g∧g<w'.heap.size∧But [] w w')
  (hQ:∀ w (v9:Value) (v10:Value),But [] W0 w→(RowB B mm F w v10)→Q .normal (bb base [(14,.slice (some ⟨b,off,none⟩) n c),(15,.slice (some ⟨b,off,none⟩) n c),(16,.int .i64 (n:Int)),(17,.int .i64 (uu:Int)),(18,.int .i64 ((uu+1:Nat):Int)),(19,.int .i64 (mm:Int)),(20,.slice (some ⟨b,off,none⟩) mm c),(21,.pointer (some ⟨g3,4,none⟩)),(22,.agg #[.bool s1,.int .u64 x1,.int .u64 y1,.pointer p1]),(23,v9),(7,v10)]) w) :
  (Code.region id opZis true).wp Tryz.prog Q base W0:=by
 have hdr:∀ {w},But [] W0.drew w→But [] W0 w:=fun h=>(But.refl _ _).drew.trans' h
 have hT:∀ i,i<11→opZiT i<base.tmps.size:=fun i hi=>by
  have h:opZiT i≤23:=by revert i;decide
  omega
 refine region_go (by kernel_rfl) (low_of (by kernel_rfl)) (opZiC B g3 b off n c uu mm s1 x1 y1 p1 F) opZiT (by kernel_rfl) ?_ opZiT_inj hT (fun i w w' v hi h hb=>opZiC_but h hi hb) ?_ ?_
 ·intro i o j want ho hg w v hv
  have hi:i<11:=(Array.getElem?_eq_some_iff.1 ho).1
  have:i=0∨i=1∨i=2∨i=3∨i=4∨i=5∨i=6∨i=7∨i=8∨i=9∨i=10:=by omega
  rcases this with rfl | rfl | rfl | rfl | rfl | rfl | rfl | rfl | rfl | rfl | rfl
  ·obtain rfl:=Option.some.inj ((show opZis[0]? = some opZi0 from rfl).symm.trans ho)
   exact absurd (show (none:Option (Nat × Bool))=some (j,want) from hg) (by simp)
  ·obtain rfl:=Option.some.inj ((show opZis[1]? = some opZi1 from rfl).symm.trans ho)
   exact absurd (show (none:Option (Nat × Bool))=some (j,want) from hg) (by simp)
  ·obtain rfl:=Option.some.inj ((show opZis[2]? = some opZi2 from rfl).symm.trans ho)
   exact absurd (show (none:Option (Nat × Bool))=some (j,want) from hg) (by simp)
  ·obtain rfl:=Option.some.inj ((show opZis[3]? = some opZi3 from rfl).symm.trans ho)
   exact absurd (show (none:Option (Nat × Bool))=some (j,want) from hg) (by simp)
  ·obtain rfl:=Option.some.inj ((show opZis[4]? = some opZi4 from rfl).symm.trans ho)
   exact absurd (show (none:Option (Nat × Bool))=some (j,want) from hg) (by simp)
  ·obtain rfl:=Option.some.inj ((show opZis[5]? = some opZi5 from rfl).symm.trans ho)
   exact absurd (show (none:Option (Nat × Bool))=some (j,want) from hg) (by simp)
  ·obtain rfl:=Option.some.inj ((show opZis[6]? = some opZi6 from rfl).symm.trans ho)
   exact absurd (show (none:Option (Nat × Bool))=some (j,want) from hg) (by simp)
  ·obtain rfl:=Option.some.inj ((show opZis[7]? = some opZi7 from rfl).symm.trans ho)
   exact absurd (show (none:Option (Nat × Bool))=some (j,want) from hg) (by simp)
  ·obtain rfl:=Option.some.inj ((show opZis[8]? = some opZi8 from rfl).symm.trans ho)
   exact absurd (show (none:Option (Nat × Bool))=some (j,want) from hg) (by simp)
  ·obtain rfl:=Option.some.inj ((show opZis[9]? = some opZi9 from rfl).symm.trans ho)
   exact absurd (show (none:Option (Nat × Bool))=some (j,want) from hg) (by simp)
  ·obtain rfl:=Option.some.inj ((show opZis[10]? = some opZi10 from rfl).symm.trans ho)
   exact absurd (show (none:Option (Nat × Bool))=some (j,want) from hg) (by simp)
 ·intro i o a w K ho hH he hdep hk
  have hi:i<11:=(Array.getElem?_eq_some_iff.1 ho).1
  have hD:=dep_have (ps:=[(2,1),(4,3),(5,2),(5,4),(6,0),(6,5),(8,7),(9,6),(9,8),(10,0),(10,1),(10,2),(10,3),(10,4),(10,5),(10,6),(10,7),(10,8),(10,9)]) (by kernel_rfl) ho (fun j=>opZiC B g3 b off n c uu mm s1 x1 y1 p1 F j w (a.eval (.tmp (opZiT j)))) hdep
  have e1':=(he 1 (fun j hj e=>absurd e.symm (by revert j;decide))).trans e1
  have e2':=(he 2 (fun j hj e=>absurd e.symm (by revert j;decide))).trans e2
  have e3':=(he 3 (fun j hj e=>absurd e.symm (by revert j;decide))).trans e3
  have:i=0∨i=1∨i=2∨i=3∨i=4∨i=5∨i=6∨i=7∨i=8∨i=9∨i=10:=by omega
  rcases this with rfl | rfl | rfl | rfl | rfl | rfl | rfl | rfl | rfl | rfl | rfl
  ·obtain rfl:=Option.some.inj ((show opZis[0]? = some opZi0 from rfl).symm.trans ho)
   exact al (bh a w _ _ _ _ _ _ _ e1') (hk _ _ (But.refl _ _) rfl)
  ·obtain rfl:=Option.some.inj ((show opZis[1]? = some opZi1 from rfl).symm.trans ho)
   exact al (bh a w _ _ _ _ _ _ _ e1') (hk _ _ (But.refl _ _) rfl)
  ·obtain rfl:=Option.some.inj ((show opZis[2]? = some opZi2 from rfl).symm.trans ho)
   exact al (run_lenZ a w _ _ _ _ _ _ _ _ _ (hD 1 (by simp))) (hk _ _ (But.refl _ _) rfl)
  ·obtain rfl:=Option.some.inj ((show opZis[3]? = some opZi3 from rfl).symm.trans ho)
   exact al (bh a w _ _ _ _ _ _ _ e2') (hk _ _ (But.refl _ _) rfl)
  ·obtain rfl:=Option.some.inj ((show opZis[4]? = some opZi4 from rfl).symm.trans ho)
   exact al (run_add1Z a w _ _ _ _ _ _ uu huu (hD 3 (by simp))) (hk _ _ (But.refl _ _) rfl)
  ·obtain rfl:=Option.some.inj ((show opZis[5]? = some opZi5 from rfl).symm.trans ho)
   exact al (run_minZ a w _ _ _ _ _ _ _ n (uu+1) mm hmm (hD 2 (by simp)) (hD 4 (by simp))) (hk _ _ (But.refl _ _) rfl)
  ·obtain rfl:=Option.some.inj ((show opZis[6]? = some opZi6 from rfl).symm.trans ho)
   exact al (run_cutZ a w _ _ _ _ _ _ _ b off n c mm hmn hnc (hD 0 (by simp)) (hD 5 (by simp))) (hk _ _ (But.refl _ _) rfl)
  ·obtain rfl:=Option.some.inj ((show opZis[7]? = some opZi7 from rfl).symm.trans ho)
   exact al (run_fF1 a w _ _ _ _ _ _ g3 e3') (hk _ _ (But.refl _ _) rfl)
  ·obtain rfl:=Option.some.inj ((show opZis[8]? = some opZi8 from rfl).symm.trans ho)
   exact al (aq a w _ _ _ _ _ _ g3 4 _ _ _ _ (hD 7 (by simp)) (c1.but (hdr hH) (by simp))) (hk _ _ (But.refl _ _) rfl)
  ·obtain rfl:=Option.some.inj ((show opZis[9]? = some opZi9 from rfl).symm.trans ho)
   exact av (run_timesZ a w _ _ _ _ _ _ _ _ _ (hD 6 (by simp)) (hD 8 (by simp))) (R:=fun w' v=>RowB B mm F w' v∧But [] w w') ((TM w (hdr hH)).mono fun e w' ⟨g,he,hr,h1,h2,hb⟩=>⟨_,he,⟨g,rfl,hr,Nat.le_trans (by rw [hB];exact (hdr hH).size) h1,h2⟩,hb⟩) (fun v w' hv=>hk v w' hv.2 hv.1)
  ·obtain rfl:=Option.some.inj ((show opZis[10]? = some opZi10 from rfl).symm.trans ho)
   exact al (run_asK a w _ _ _ _ _ _ _ rfl) (hk _ _ (But.refl _ _) (hD 9 (by simp)))
 ·intro a w h
  have ea:=h.puts hT (fun i=>match i with
   | 0=>.slice (some ⟨b,off,none⟩) n c
   | 1=>.slice (some ⟨b,off,none⟩) n c
   | 2=>.int .i64 (n:Int)
   | 3=>.int .i64 (uu:Int)
   | 4=>.int .i64 ((uu+1:Nat):Int)
   | 5=>.int .i64 (mm:Int)
   | 6=>.slice (some ⟨b,off,none⟩) mm c
   | 7=>.pointer (some ⟨g3,4,none⟩)
   | 8=>.agg #[.bool s1,.int .u64 x1,.int .u64 y1,.pointer p1]
   | 9=>a.eval (.tmp 23)
   | _=>a.eval (.tmp 7)) (fun i hi=>by
   have hi':i<11:=hi
   have hc:=h.has i hi rfl
   have:i=0∨i=1∨i=2∨i=3∨i=4∨i=5∨i=6∨i=7∨i=8∨i=9∨i=10:=by omega
   rcases this with rfl | rfl | rfl | rfl | rfl | rfl | rfl | rfl | rfl | rfl | rfl
   all_goals first | exact hc | rfl)
  rw [ea]
  exact hQ w (a.eval (.tmp 23)) (a.eval (.tmp 7)) (hdr h.but) (h.has 10 (by decide) rfl)
def opZj0:Oper:={ dst:=some 24,op:=Op.move (Operand.tmp 7),type:=33,pos:= "number.go:91",after:=#[],guard:=none }
def opZj1:Oper:={ dst:=some 25,op:=Op.move (Operand.tmp 7),type:=33,pos:= "number.go:91",after:=#[],guard:=none }
def opZj2:Oper:={ dst:=some 26,op:=Op.indexAddr 33 (Operand.tmp 25) (Operand.const (Value.int IntKind.i64 0)),type:=0,pos:= "number.go:91",after:=#[⟨1,.data⟩],guard:=none }
def opZj3:Oper:={ dst:=some 27,op:=Op.load 29 (Operand.tmp 26),type:=29,pos:= "number.go:91",after:=#[⟨2,.data⟩],guard:=none }
def opZj4:Oper:={ dst:=some 28,op:=Op.call { callee:=Callee.value (Operand.func 27),args:=#[Operand.const (Value.int IntKind.i64 1)],argTypes:=#[3] },type:=29,pos:= "number.go:91",after:=#[],guard:=none }
def opZj5:Oper:={ dst:=some 29,op:=Op.call { callee:=Callee.value (Operand.func 22),args:=#[Operand.tmp 27,Operand.tmp 28],argTypes:=#[29,29] },type:=29,pos:= "number.go:91",after:=#[⟨3,.data⟩,⟨4,.data⟩,⟨4,.chain⟩],guard:=none }
def opZj6:Oper:={ dst:=some 30,op:=Op.indexAddr 33 (Operand.tmp 24) (Operand.const (Value.int IntKind.i64 0)),type:=0,pos:= "number.go:91",after:=#[⟨0,.data⟩,⟨0,.phase⟩,⟨1,.phase⟩,⟨2,.phase⟩,⟨3,.phase⟩,⟨4,.phase⟩,⟨5,.phase⟩],guard:=none }
def opZj7:Oper:={ dst:=none,op:=Op.store 29 (Operand.tmp 30) (Operand.tmp 29),type:=0,pos:= "number.go:91",after:=#[⟨6,.data⟩,⟨5,.data⟩,⟨5,.chain⟩,⟨0,.phase⟩,⟨1,.phase⟩,⟨2,.phase⟩,⟨3,.phase⟩,⟨4,.phase⟩,⟨5,.phase⟩],guard:=none }
def opZjs:Array Oper:=#[opZj0,opZj1,opZj2,opZj3,opZj4,opZj5,opZj6,opZj7]
def opZjT (i:Nat):Nat:=match i with
 | 0=>24
 | 1=>25
 | 2=>26
 | 3=>27
 | 4=>28
 | 5=>29
 | _=>30
def opZjC (gb:Nat) (go:Nat) (n:Nat) (ws:Bool) (wx:Int) (s1:Bool) (x1:Int) (y1:Int) (p1:Option Addr) (f1:Rat) (i:Nat) (w:World) (v:Value):Prop:=match i with
 | 0=>v=.slice (some ⟨gb,0,none⟩) n n
 | 1=>v=.slice (some ⟨gb,0,none⟩) n n
 | 2=>v=.pointer (some ⟨gb,go,none⟩)
 | 3=>v=.agg #[.bool s1,.int .u64 x1,.int .u64 y1,.pointer p1]
 | 4=>v=.agg #[.bool ws,.int .u64 wx,.int .u64 0,.pointer none]
 | 5=>am w v (f1+((1:Int):Rat))
 | _=>v=.pointer (some ⟨gb,go,none⟩)
theorem opZjC_but {gb:Nat} {go:Nat} {n:Nat} {ws:Bool} {wx:Int} {s1:Bool} {x1:Int} {y1:Int} {p1:Option Addr} {f1:Rat} {i:Nat} {w w':World} {v:Value} (h:opZjC gb go n ws wx s1 x1 y1 p1 f1 i w v) (hi:i<7) (hb:But [] w w'):opZjC gb go n ws wx s1 x1 y1 p1 f1 i w' v:=by
 have:i=0∨i=1∨i=2∨i=3∨i=4∨i=5∨i=6:=by omega
 rcases this with rfl | rfl | rfl | rfl | rfl | rfl | rfl
 all_goals first | exact h | exact am.but h hb | exact an.but h hb
theorem opZjT_inj:∀ i j,i<7→j<7→opZjT i=opZjT j→i=j:=fun i j hi hj=>(by decide:∀ i,i<7→∀ j,j<7→opZjT i=opZjT j→i=j) i hi j hj
theorem together_region2 (id:Nat) (Q:Exit→Act→World→Prop) (base:Act) (W0:World) (gb:Nat) (go:Nat) (n:Nat) (ws:Bool) (wx:Int) (s1:Bool) (x1:Int) (y1:Int) (p1:Option Addr) (f1:Rat) {sb:Bool} {xb yb:Int} {pb:Option Addr} (hs:30<base.tmps.size) (cb:P4o W0 gb go sb xb yb pb) (fzb:∀ j,W0.frozen? ⟨gb,j,none⟩=false) (e7:base.eval (.tmp 7)=.slice (some ⟨gb,0,none⟩) n n)
  (hgo:go=0) (hn:0<n) (c1:P4o W0 gb go s1 x1 y1 p1)
  (WH:∀ w,Calls Tryz.prog 27 #[.int .i64 1] w fun e w'=>e=.returned (.agg #[.bool ws,.int .u64 wx,.int .u64 0,.pointer none])∧But [] w w')
  (AD:∀ w,But [] W0 w→Calls Tryz.prog 22 #[.agg #[.bool s1,.int .u64 x1,.int .u64 y1,.pointer p1],.agg #[.bool ws,.int .u64 wx,.int .u64 0,.pointer none]] w fun e w'=>∃ v,e=.returned v∧am w' v (f1+((1:Int):Rat))∧But [] w w')
  (hQ:∀ w1 s' x' y' p',But [] W0 w1→am w1 (.agg #[.bool s',.int .u64 x',.int .u64 y',.pointer p']) (f1+((1:Int):Rat))→Q .normal (bb base [(24,.slice (some ⟨gb,0,none⟩) n n),(25,.slice (some ⟨gb,0,none⟩) n n),(26,.pointer (some ⟨gb,go,none⟩)),(27,.agg #[.bool s1,.int .u64 x1,.int .u64 y1,.pointer p1]),(28,.agg #[.bool ws,.int .u64 wx,.int .u64 0,.pointer none]),(29,(.agg #[.bool s',.int .u64 x',.int .u64 y',.pointer p'])),(30,.pointer (some ⟨gb,go,none⟩))]) (w1.setCells gb go [.bool s',.int .u64 x',.int .u64 y',.pointer p'])) :
  (Code.region id opZjs true).wp Tryz.prog Q base W0:=by
 have hdr:∀ {w},But [] W0.drew w→But [] W0 w:=fun h=>(But.refl _ _).drew.trans' h
 have lgb:gb<W0.heap.size:=ai cb.1
 have hT:∀ i,i<7→opZjT i<base.tmps.size:=fun i hi=>by
  have h:opZjT i≤30:=by revert i;decide
  omega
 refine region_flow (by kernel_rfl) (low_of (by kernel_rfl)) (fun i o ho=>(calm_of (ops:=opZjs) (by kernel_rfl) i o ho).1)
  (fun _ w=>But [] W0.drew w) (opZjC gb go n ws wx s1 x1 y1 p1 f1) opZjT 7 rfl opZjT_inj hT (But.refl _ _)
  (fun i hi=>?_) ?_ (fun a w=>∃ w1 s' x' y' p',a=bb base [(24,.slice (some ⟨gb,0,none⟩) n n),(25,.slice (some ⟨gb,0,none⟩) n n),(26,.pointer (some ⟨gb,go,none⟩)),(27,.agg #[.bool s1,.int .u64 x1,.int .u64 y1,.pointer p1]),(28,.agg #[.bool ws,.int .u64 wx,.int .u64 0,.pointer none]),(29,(.agg #[.bool s',.int .u64 x',.int .u64 y',.pointer p'])),(30,.pointer (some ⟨gb,go,none⟩))]∧w=w1.setCells gb go [.bool s',.int .u64 x',.int .u64 y',.pointer p']∧But [] W0 w1∧am w1 (.agg #[.bool s',.int .u64 x',.int .u64 y',.pointer p']) (f1+((1:Int):Rat))) ?_ ?_
 ·exact dep_of (ops:=opZjs) (ps:=[(7,0),(7,1),(7,2),(7,3),(7,4),(7,5),(7,6)]) (by kernel_rfl) 7 i (by
   have:i=0∨i=1∨i=2∨i=3∨i=4∨i=5∨i=6:=by omega
   rcases this with rfl | rfl | rfl | rfl | rfl | rfl | rfl <;> simp)
 ·intro dn i o a w K hi ho hdi hH he hdep hK
  have hD:=fun j hj=>(dep_have (ps:=[(2,1),(3,2),(5,3),(5,4),(6,0),(6,1),(6,2),(6,3),(6,4),(6,5)]) (by kernel_rfl) ho (fun j=>dn j=true∧opZjC gb go n ws wx s1 x1 y1 p1 f1 j w (a.eval (.tmp (opZjT j)))) hdep j hj).2
  have hk:∀ v w',But [] w w'→opZjC gb go n ws wx s1 x1 y1 p1 f1 i w' v→K (a.put (some (opZjT i)) v) w':=fun v w' hb hv=>hK v w' (hH.trans' hb) (fun j hj _ u hu=>opZjC_but hu hj hb) hv
  have e7':=(he 7 (fun j hj e=>absurd e.symm (by revert j;decide))).trans e7
  have:i=0∨i=1∨i=2∨i=3∨i=4∨i=5∨i=6:=by omega
  rcases this with rfl | rfl | rfl | rfl | rfl | rfl | rfl
  ·obtain rfl:=Option.some.inj ((show opZjs[0]? = some opZj0 from rfl).symm.trans ho)
   exact al (bh a w _ _ _ _ _ _ _ e7') (hk _ _ (But.refl _ _) rfl)
  ·obtain rfl:=Option.some.inj ((show opZjs[1]? = some opZj1 from rfl).symm.trans ho)
   exact al (bh a w _ _ _ _ _ _ _ e7') (hk _ _ (But.refl _ _) rfl)
  ·obtain rfl:=Option.some.inj ((show opZjs[2]? = some opZj2 from rfl).symm.trans ho)
   refine al (run_firstK a w _ _ _ _ _ _ gb 0 n n hn (hD 1 (by simp))) (hk _ _ (But.refl _ _) ?_)
   show Value.pointer _=Value.pointer _
   rw [hgo]
  ·obtain rfl:=Option.some.inj ((show opZjs[3]? = some opZj3 from rfl).symm.trans ho)
   exact al (aq a w _ _ _ _ _ _ gb go _ _ _ _ (hD 2 (by simp)) (c1.but (hdr hH) (by simp))) (hk _ _ (But.refl _ _) rfl)
  ·obtain rfl:=Option.some.inj ((show opZjs[4]? = some opZj4 from rfl).symm.trans ho)
   exact av (run_oneK a w _ _ _ _ _ 1) (R:=fun w' v=>But [] w w'∧v=_) ((WH w).mono fun e w' ⟨he,hb⟩=>⟨_,he,hb,rfl⟩) (fun v w' hv=>hk v w' hv.1 hv.2)
  ·obtain rfl:=Option.some.inj ((show opZjs[5]? = some opZj5 from rfl).symm.trans ho)
   exact av (run_addK a w _ _ _ _ _ _ _ _ _ (hD 3 (by simp)) (hD 4 (by simp))) (R:=fun w' v=>am w' v (f1+((1:Int):Rat))∧But [] w w') (AD w (hdr hH)) (fun v w' hv=>hk v w' hv.2 hv.1)
  ·obtain rfl:=Option.some.inj ((show opZjs[6]? = some opZj6 from rfl).symm.trans ho)
   refine al (run_firstK a w _ _ _ _ _ _ gb 0 n n hn (hD 0 (by simp))) (hk _ _ (But.refl _ _) ?_)
   show Value.pointer _=Value.pointer _
   rw [hgo]
 ·intro dn o a w K ho hall h hK
  obtain rfl:=Option.some.inj ((show opZjs[7]? = some opZj7 from rfl).symm.trans ho)
  have eb':a.eval (.tmp 30)=.pointer (some ⟨gb,go,none⟩):=h.has 6 (by omega) (hall 6 (by omega))
  have cl:am w (a.eval (.tmp 29)) (f1+((1:Int):Rat)):=h.has 5 (by omega) (hall 5 (by omega))
  have cl':=cl
  obtain ⟨x',y',p',ev,-⟩:=cl.agg
  rw [ev] at cl'
  have ea:=h.puts hT (fun i=>match i with
   | 0=>.slice (some ⟨gb,0,none⟩) n n
   | 1=>.slice (some ⟨gb,0,none⟩) n n
   | 2=>.pointer (some ⟨gb,go,none⟩)
   | 3=>.agg #[.bool s1,.int .u64 x1,.int .u64 y1,.pointer p1]
   | 4=>.agg #[.bool ws,.int .u64 wx,.int .u64 0,.pointer none]
   | 5=>.agg #[.bool (decide ((f1+((1:Int):Rat)).num<0)),.int .u64 x',.int .u64 y',.pointer p']
   | _=>.pointer (some ⟨gb,go,none⟩)) (fun i hi=>by
   have hc:=h.has i hi (hall i hi)
   have:i=0∨i=1∨i=2∨i=3∨i=4∨i=5∨i=6:=by omega
   rcases this with rfl | rfl | rfl | rfl | rfl | rfl | rfl
   all_goals first | exact ev | exact hc | rfl)
  exact wp_skipped (run_store4o a w _ _ _ _ _ gb go _ x' y' p' eb' ev (cb.but (hdr h.mem) (by simp)) (fun j=>((hdr h.mem).frozen (p:=⟨gb,j,none⟩) lgb (by simp)).trans (fzb j))) (hK _ _ ⟨w,_,x',y',p',ea,rfl,hdr h.mem,cl'⟩)
 ·rintro a w ⟨w1,s',x',y',p',rfl,rfl,h1,h2⟩
  exact hQ  w1 s' x' y' p' h1 h2
theorem numCheck_any (n:Nat) (s1:Bool) (x1 y1:Int) (p1:Option Addr) (f:Rat) (w:World) (hf:am w (.agg #[.bool s1,.int .u64 x1,.int .u64 y1,.pointer p1]) f) (lf:Len f 1000000) (hn:n≤200) :
  Calls Tryz.prog 48 #[.agg #[.int .i64 1,.int .i64 (n:Int),.bool s1,.int .u64 x1,.int .u64 y1,.pointer p1]] w fun e w'=>e=.returned (if 0≤f∧f<1 then .nilIface else .iface 54 (.int .i64 1))∧But [] w w':=by
 have BE:=af (fun W (h:But [] w W)=>below1_any _ f W (hf.but h) lf)
 clear hf lf
 have n0:¬ (n:Int)<0:=by omega
 have n1:¬ (200:Int)<(n:Int):=by omega
 obtain ⟨r,hr⟩:∃ r:Value,r=if 0≤f∧f<1 then .nilIface else .iface 54 (.int .i64 1):=⟨_,rfl⟩
 rw [← hr]
 have HR:=af hr
 clear hr
 go_enter Tryz.func48,Tryz.ntmps48
 go_wp2_with fail
 refine (ae BE _ ((But.refl _ _).alloc _)).mono ?_
 rintro e w1 ⟨rfl,hb1⟩
 have B1:=af (((But.refl [] w).alloc (.cells #[.int .i64 1,.int .i64 (n:Int),.bool s1,.int .u64 x1,.int .u64 y1,.pointer p1] 32)).trans' hb1)
 clear hb1 BE
 by_cases h2:0≤f∧f<1
 ·rw [decide_eq_true h2]
  have hr:=ae HR
  rw [if_pos h2] at hr
  subst hr
  go_wp2
  exact bodyPost_ret (v:=.nilIface) (by simp [results,Tryz.results48,go_sem]) rfl ⟨rfl,ae B1⟩
 ·rw [decide_eq_false h2]
  have hr:=ae HR
  rw [if_neg h2] at hr
  subst hr
  go_wp2
  exact bodyPost_ret (v:=.iface 54 (.int .i64 1)) (by simp [results,Tryz.results48,go_sem]) rfl ⟨rfl,ae B1⟩
theorem wd_small (X k c:Nat) (hX:(wd 18446744073709551616 X).length≤c) (hk:k≤8) (hc:1≤c):(wd 18446744073709551616 (X^k)).length≤8*c:=by
 have h1:=ak (B:=18446744073709551616) (by omega) X c hX
 rcases Nat.eq_zero_or_pos k with rfl | hk0
 ·rw [Nat.pow_zero]
  exact Nat.le_trans (aj (B:=18446744073709551616) (by omega) 1 1 (by omega)) (by omega)
 ·refine Nat.le_trans (aj (B:=18446744073709551616) (by omega) _ (c*k) ?_) (by have:=Nat.mul_le_mul_left c hk;omega)
  rw [Nat.pow_mul]
  exact Nat.pow_lt_pow_left h1 (by omega)
theorem len_rpow8 {f:Rat} {c k:Nat} (h:Len f c) (hk:k≤8) (hc:1≤c):Len (rpow f k) (8*c):=by
 obtain ⟨e1,e2⟩:=rpow_parts f k
 refine ⟨?_,?_⟩
 ·rw [e1,Int.natAbs_pow]
  exact wd_small _ k c h.1 hk hc
 ·rw [e2]
  exact wd_small _ k c h.2 hk hc
theorem formOf_any (n:Nat) (s1:Bool) (x1 y1:Int) (p1:Option Addr) (f:Rat) (w:World) (hf:am w (.agg #[.bool s1,.int .u64 x1,.int .u64 y1,.pointer p1]) f) (lf:Len f 1) (hn:n≤8) (hlt:f<1) :
  Calls Tryz.prog 50 #[.agg #[.int .i64 1,.int .i64 (n:Int),.bool s1,.int .u64 x1,.int .u64 y1,.pointer p1]] w fun e w'=>∃ a1 b1 c1 d1 a2 b2 c2 d2,e=.returned (.agg #[.bool a1,.int .u64 b1,.int .u64 c1,.pointer d1,.bool a2,.int .u64 b2,.int .u64 c2,.pointer d2,.int .i64 (n:Int)])∧am w' (.agg #[.bool a1,.int .u64 b1,.int .u64 c1,.pointer d1]) (rpow (((1:Int):Rat)-f) n)∧am w' (.agg #[.bool a2,.int .u64 b2,.int .u64 c2,.pointer d2]) (f/(((1:Int):Rat)-f))∧But [] w w':=by
 have l1:Len (((1:Int):Rat)) 1:=len_int 1 (by decide)
 have ls:Len (((1:Int):Rat)-f) 3:=len_sub l1 lf _ (by omega)
 have hne:(((1:Int):Rat)-f).num≠0:=fun h=>by
  have h0:=Rat.num_eq_zero.1 h
  have e:((1:Int):Rat)=1:=rfl
  rw [e] at h0
  grind
 obtain ⟨ws,wx,FW,CW⟩:=whole_is 1 (by omega) (by omega)
 have HF:=af hf
 have HCW:=af CW
 have HFW:=af FW
 obtain ⟨W,hW⟩:∃ W,W=(w.alloc (.cells #[.int .i64 1,.int .i64 (n:Int),.bool s1,.int .u64 x1,.int .u64 y1,.pointer p1] 32)).alloc (.cells #[.bool false,.int .u64 0,.int .u64 0,.pointer none,.bool false,.int .u64 0,.int .u64 0,.pointer none,.int .i64 0] 98):=⟨_,rfl⟩
 have xx:SBox W w.heap.size [.int .i64 1,.int .i64 (n:Int),.bool s1,.int .u64 x1,.int .u64 y1,.pointer p1]∧SBox W (w.heap.size+1) [.bool false,.int .u64 0,.int .u64 0,.pointer none,.bool false,.int .u64 0,.int .u64 0,.pointer none,.int .i64 0]∧But [] w W:=by
  rw [hW]
  have z1:(w.alloc (.cells #[.int .i64 1,.int .i64 (n:Int),.bool s1,.int .u64 x1,.int .u64 y1,.pointer p1] 32)).heap.size=w.heap.size+1:=by simp
  refine ⟨(SBox.new w [.int .i64 1,.int .i64 (n:Int),.bool s1,.int .u64 x1,.int .u64 y1,.pointer p1] _).but ((But.refl [] _).alloc _) (by simp) (by simp),?_,((But.refl _ _).alloc _).alloc _⟩
  rw [← z1]
  exact SBox.new _ [.bool false,.int .u64 0,.int .u64 0,.pointer none,.bool false,.int .u64 0,.int .u64 0,.pointer none,.int .i64 0] _
 obtain ⟨xa,xb,bW⟩:=xx
 have XA:=af xa
 have XB:=af xb
 have BW:=af bW
 clear xa xb bW hf CW FW
 go_enter Tryz.func50,Tryz.ntmps50
 go_wp2
 rw [← hW]
 obtain ⟨g1,hg1⟩:∃ g1,g1=w.heap.size:=⟨_,rfl⟩
 obtain ⟨g2,hg2⟩:∃ g2,g2=w.heap.size+1:=⟨_,rfl⟩
 rw [← hg1] at XA
 rw [← hg2] at XB
 rw [← hg2,← hg1]
 have o1:Hid (w.heap.size≤g1):=by show _≤_;omega
 have o2:Hid (w.heap.size≤g2):=by show _≤_;omega
 have n12:g1≠g2:=by omega
 have lg2:g2<W.heap.size:=(ae XB).lt (by simp)
 have lg1:g1<W.heap.size:=(ae XA).lt (by simp)
 clear hW hg1 hg2
 have c1:P4o W g1 2 s1 x1 y1 p1:=⟨(ae XA).cells 2 _ rfl,(ae XA).cells 3 _ rfl,(ae XA).cells 4 _ rfl,(ae XA).cells 5 _ rfl⟩
 refine form_region1 1 _ _ W W.heap.size g1 s1 x1 y1 p1 ws wx f (by simp) (Nat.le_refl _) (by simp [Act.eval]) c1 (ae HCW) (fun w' hb=>fracSub_any _ _ ((1:Int):Rat) f w' (ae HFW w') ((ae HF).but ((ae BW).trans' hb)) (l1.mono (by omega)) (lf.mono (by omega))) ?_
 intro w3 g3 s3 x3 y3 p3 hb3 hg3 hP3 hz3 hf3
 simp only [bb,List.foldl_cons,List.foldl_nil,Act.put,List.setIfInBounds_toArray,List.set_cons_zero,List.set_cons_succ]
 have hP:=au w3 g3 s3 x3 y3 p3
 have n31:g1<g3:=by omega
 have n32:g2<g3:=by omega
 have bN:But [] W (put4 w3 g3 s3 x3 y3 p3):=hb3.trans hP (fun x hx=>by simp at hx;subst hx;exact .inr (by omega))
 have XA3:=af ((ae XA).but bN (by simp) (by simp))
 have XB3:=af ((ae XB).but bN (by simp) (by simp))
 have B3:=af ((ae BW).trans' bN)
 have m3:P4 (put4 w3 g3 s3 x3 y3 p3) g3 s3 x3 y3 p3:=put4_p4 w3 g3 s3 x3 y3 p3 hP3
 have hf3':=hf3.over hP3.1 hP
 generalize put4 w3 g3 s3 x3 y3 p3=V at *
 have HF3:=af hf3'
 have M3:=af m3
 obtain ⟨k0,k1,k2,k3⟩:=m3
 have q1:=(ae XA3).cells 1 _ rfl
 clear XA XB BW hP hb3 hP3 hz3 hf3 hf3' bN c1 hg3 lg1 lg2
 have PW:=af (fun W (h:But [] V W)=>fracPow_gen _ _ n W ((ae HF3).but h) (by omega) (ls.mono (by omega)) (Nat.le_trans (wd_small _ n 3 ls.1 hn (by omega)) (by omega)) (Nat.le_trans (wd_small _ n 3 ls.2 hn (by omega)) (by omega)))
 go_wp2_with fail
 refine (ae PW _ (But.refl _ _)).mono ?_
 rintro e w4 ⟨v4,rfl,hf4,hb4⟩
 obtain ⟨x4,y4,p4,rfl,-⟩:=id hf4.agg
 generalize decide ((rpow (((1:Int):Rat)-f) n).num<0)=s4 at *
 have bs4:=hb4.trans' ((But.refl _ _).alloc (.cells #[.bool s4,.int .u64 x4,.int .u64 y4,.pointer p4] 29))
 have B4:=af ((ae B3).trans' bs4)
 have XA4:=af ((ae XA3).but bs4 (by simp) (by simp))
 have XB4:=af ((ae XB3).but bs4 (by simp) (by simp))
 have M34:=af ((ae M3).but bs4 (by simp))
 have F34:=af ((ae HF3).but bs4)
 have Y4:=af (ax.new w4 s4 x4 y4 p4 _ 29 hf4)
 have q0:=(ae XA4).cells 0 _ rfl
 clear hb4 hf4 bs4 XA3 XB3 B3 M3 HF3 PW k0 k1 k2 k3 q1
 go_wp2
 generalize w4.heap.size=g4 at *
 generalize w4.alloc (.cells #[.bool s4,.int .u64 x4,.int .u64 y4,.pointer p4] 29)=V4 at *
 obtain ⟨⟨t4,a4,b4,e4,m4,f4⟩,-⟩:=ae Y4
 have c1:P4o V4 g1 2 s1 x1 y1 p1:=⟨(ae XA4).cells 2 _ rfl,(ae XA4).cells 3 _ rfl,(ae XA4).cells 4 _ rfl,(ae XA4).cells 5 _ rfl⟩
 refine form_region4 4 _ _ V4 g1 s1 x1 y1 p1 s3 x3 y3 p3 t4 a4 b4 e4 (n:Int) f (((1:Int):Rat)-f) (rpow (((1:Int):Rat)-f) n) g2 g3 g4 (by simp) (by simp [Act.eval]) (ae XB4) rfl (by simp [Act.eval]) (by simp [Act.eval]) (by simp [Act.eval]) ((ae XA4).cells 1 _ rfl) c1 (ae M34) m4 f4 (fun w' hb=>quotient_any _ _ f _ w' ((ae HF).but ((ae B4).trans' hb)) ((ae F34).but hb) (lf.mono (by omega)) (ls.mono (by omega)) hne) ?_
 intro w5 v0 v4' e1 e2 e3 e4' e5 e6 e7 e8 hb5 h1 h2
 simp only [bb,List.foldl_cons,List.foldl_nil,Act.put,List.setIfInBounds_toArray,List.set_cons_zero,List.set_cons_succ]
 have X5:=(ae XB4).but hb5 (by simp) (by simp)
 have hS:=bf w5 g2 [.bool e1,.int .u64 e2,.int .u64 e3,.pointer e4',.bool e5,.int .u64 e6,.int .u64 e7,.pointer e8,.int .i64 (n:Int)] 0
 have P:=X5.put (us:=[.bool e1,.int .u64 e2,.int .u64 e3,.pointer e4',.bool e5,.int .u64 e6,.int .u64 e7,.pointer e8,.int .i64 (n:Int)]) rfl
 have c20:=X5.cells 0 _ rfl
 have r1:=h1.over c20 hS
 have r2:=h2.over c20 hS
 have hF:=((ae B4).trans' hb5).trans hS (fun x hx=>by simp at hx;subst hx;exact .inr (ae o2))
 have m0:=P.cells 0 _ rfl
 have m1:=P.cells 1 _ rfl
 have m2:=P.cells 2 _ rfl
 have m3:=P.cells 3 _ rfl
 have m5:=P.cells 4 _ rfl
 have m6:=P.cells 5 _ rfl
 have m7:=P.cells 6 _ rfl
 have m8:=P.cells 7 _ rfl
 have m9:=P.cells 8 _ rfl
 generalize w5.setCells g2 0 [.bool e1,.int .u64 e2,.int .u64 e3,.pointer e4',.bool e5,.int .u64 e6,.int .u64 e7,.pointer e8,.int .i64 (n:Int)]=FF at *
 clear hS P X5 c20 h1 h2 hb5
 go_wp2
 exact bodyPost_ret (v:=.agg #[.bool e1,.int .u64 e2,.int .u64 e3,.pointer e4',.bool e5,.int .u64 e6,.int .u64 e7,.pointer e8,.int .i64 (n:Int)]) (by simp [results,Tryz.results50,go_sem,m0,m1,m2,m3,m5,m6,m7,m8,m9]) rfl ⟨e1,e2,e3,e4',e5,e6,e7,e8,rfl,r1,r2,hF⟩
theorem fracPow_minus (v:Value) (u:Rat) (n c:Nat) (w:World) (hu:am w v u) (h0:0<u.num) (hn:n≤8) (lu:Len u c) (hc1:1≤c) (hc:c≤1000) :
  Calls Tryz.prog 38 #[v,.int .i64 (-(n:Int))] w fun e w'=>∃ v',e=.returned (.tuple #[v',.nilIface])∧am w' v' (rpow u⁻¹ n)∧But [] w w':=by
 have l1:=Nat.le_trans (wd_small _ n c lu.1 hn hc1) (show 8*c≤10000 by omega)
 have l2:=Nat.le_trans (wd_small _ n c lu.2 hn hc1) (show 8*c≤10000 by omega)
 rcases Nat.eq_zero_or_pos n with rfl | hn0
 ·have:=fracPow_gen v u 0 w hu (by omega) (lu.mono (by omega)) l1 l2
  exact this
 ·exact fracPow_inv v u n w hu h0 hn0 (by omega) l1 l2 (lu.mono (by omega))
theorem seriesOf_any (n:Nat) (a1:Bool) (b1 c1:Int) (d1:Option Addr) (a2:Bool) (b2 c2:Int) (d2:Option Addr) (b off nn cc:Nat) (s1:Bool) (x1 y1:Int) (p1:Option Addr) (bs:List Rat) (u:Rat) (c:Nat) (w:World) (hbs:an w (.slice (some ⟨b,off,none⟩) nn cc) bs) (hnn:0<nn) (hu:am w (.agg #[.bool s1,.int .u64 x1,.int .u64 y1,.pointer p1]) u) (hn:n≤8) (lb:Len (bs[0]?.getD 0) c) (lu:Len u c) (hc1:1≤c) (hc:c≤1000) (h0:0<u.num) :
  Calls Tryz.prog 124 #[.agg #[.bool a1,.int .u64 b1,.int .u64 c1,.pointer d1,.bool a2,.int .u64 b2,.int .u64 c2,.pointer d2,.int .i64 (n:Int)],.agg #[.slice (some ⟨b,off,none⟩) nn cc,.bool s1,.int .u64 x1,.int .u64 y1,.pointer p1]] w fun e w'=>∃ gr t1 t2 t3 t4 u1 u2 u3 u4 v1 v2 v3 v4,e=.returned (.agg #[.slice (some ⟨gr,0,none⟩) 1 1,.bool t1,.int .u64 t2,.int .u64 t3,.pointer t4,.bool u1,.int .u64 u2,.int .u64 u3,.pointer u4,.bool v1,.int .u64 v2,.int .u64 v3,.pointer v4])∧(∃ vs,aw w' w.heap.size (.slice (some ⟨gr,0,none⟩) 1 1) [rpow (bs[0]?.getD 0) n] vs)∧am w' (.agg #[.bool t1,.int .u64 t2,.int .u64 t3,.pointer t4]) (rpow u⁻¹ n)∧am w' (.agg #[.bool u1,.int .u64 u2,.int .u64 u3,.pointer u4]) ((1:Int):Rat)∧am w' (.agg #[.bool v1,.int .u64 v2,.int .u64 v3,.pointer v4]) (bs[0]?.getD 0)∧But [] w w':=by
 obtain ⟨ws,wx,FW,CW⟩:=whole_is 1 (by omega) (by omega)
 have HCW:=af CW
 have HFW:=af FW
 obtain ⟨sf,xf,yf,pf,cf,ff⟩:=hbs.get 0 hnn
 rw [Nat.zero_mul,Nat.add_zero] at cf
 have PW:=af (fun W (h:But [] w W)=>fracPow_gen _ _ n W (ff.but h) (by omega) (lb.mono (by omega)) (Nat.le_trans (wd_small _ n c lb.1 hn hc1) (by omega)) (Nat.le_trans (wd_small _ n c lb.2 hn hc1) (by omega)))
 have PM:=af (fun W (h:But [] w W)=>fracPow_minus _ u n c W (hu.but h) h0 hn lu hc1 hc)
 generalize bs[0]?.getD 0=b0 at *
 have CF:=af cf
 have FF:=af ff
 clear CW FW hbs hu lb lu cf ff h0
 obtain ⟨W,hW⟩:∃ W,W=((w.alloc (.cells #[.bool a1,.int .u64 b1,.int .u64 c1,.pointer d1,.bool a2,.int .u64 b2,.int .u64 c2,.pointer d2,.int .i64 (n:Int)] 98)).alloc (.cells #[.slice (some ⟨b,off,none⟩) nn cc,.bool s1,.int .u64 x1,.int .u64 y1,.pointer p1] 103)).alloc (.cells #[.slice none 0 0,.bool false,.int .u64 0,.int .u64 0,.pointer none,.bool false,.int .u64 0,.int .u64 0,.pointer none,.bool false,.int .u64 0,.int .u64 0,.pointer none] 169):=⟨_,rfl⟩
 have xx:SBox W w.heap.size [.bool a1,.int .u64 b1,.int .u64 c1,.pointer d1,.bool a2,.int .u64 b2,.int .u64 c2,.pointer d2,.int .i64 (n:Int)]∧SBox W (w.heap.size+1) [.slice (some ⟨b,off,none⟩) nn cc,.bool s1,.int .u64 x1,.int .u64 y1,.pointer p1]∧SBox W (w.heap.size+2) [.slice none 0 0,.bool false,.int .u64 0,.int .u64 0,.pointer none,.bool false,.int .u64 0,.int .u64 0,.pointer none,.bool false,.int .u64 0,.int .u64 0,.pointer none]∧But [] w W:=by
  rw [hW]
  have z1:(w.alloc (.cells #[.bool a1,.int .u64 b1,.int .u64 c1,.pointer d1,.bool a2,.int .u64 b2,.int .u64 c2,.pointer d2,.int .i64 (n:Int)] 98)).heap.size=w.heap.size+1:=by simp
  have z2:((w.alloc (.cells #[.bool a1,.int .u64 b1,.int .u64 c1,.pointer d1,.bool a2,.int .u64 b2,.int .u64 c2,.pointer d2,.int .i64 (n:Int)] 98)).alloc (.cells #[.slice (some ⟨b,off,none⟩) nn cc,.bool s1,.int .u64 x1,.int .u64 y1,.pointer p1] 103)).heap.size=w.heap.size+2:=by simp
  refine ⟨((SBox.new w [.bool a1,.int .u64 b1,.int .u64 c1,.pointer d1,.bool a2,.int .u64 b2,.int .u64 c2,.pointer d2,.int .i64 (n:Int)] _).but ((But.refl [] _).alloc _) (by simp) (by simp)).but ((But.refl [] _).alloc _) (by simp) (by simp),?_,?_,(((But.refl _ _).alloc _).alloc _).alloc _⟩
  ·rw [← z1]
   exact (SBox.new _ [.slice (some ⟨b,off,none⟩) nn cc,.bool s1,.int .u64 x1,.int .u64 y1,.pointer p1] _).but ((But.refl [] _).alloc _) (by simp) (by simp)
  ·rw [← z2]
   exact SBox.new _ [.slice none 0 0,.bool false,.int .u64 0,.int .u64 0,.pointer none,.bool false,.int .u64 0,.int .u64 0,.pointer none,.bool false,.int .u64 0,.int .u64 0,.pointer none] _
 obtain ⟨x2',x3',x4',bW⟩:=xx
 have X2:=af x2'
 have X3:=af x3'
 have X4:=af x4'
 have BW:=af bW
 clear x2' x3' x4' bW
 go_enter Tryz.func124,Tryz.ntmps124
 go_wp2_with fail
 rw [← hW]
 obtain ⟨g2,hg2⟩:∃ g2,g2=w.heap.size:=⟨_,rfl⟩
 obtain ⟨g3,hg3⟩:∃ g3,g3=w.heap.size+1:=⟨_,rfl⟩
 obtain ⟨g4,hg4⟩:∃ g4,g4=w.heap.size+2:=⟨_,rfl⟩
 rw [← hg2] at X2
 rw [← hg3] at X3
 rw [← hg4] at X4
 rw [← hg4,← hg3,← hg2]
 have o4:Hid (w.heap.size≤g4):=by show _≤_;omega
 clear hW hg2 hg3 hg4
 refine (ae HCW _).mono ?_
 rintro e w1 ⟨rfl,hb1⟩
 have bs1:=hb1.trans' ((But.refl _ _).alloc (.cells #[.bool ws,.int .u64 wx,.int .u64 0,.pointer none] 29))
 have B1:=af ((ae BW).trans' bs1)
 have X21:=(ae X2).but bs1 (by simp) (by simp)
 have HX21:=af X21
 have X31:=af ((ae X3).but bs1 (by simp) (by simp))
 have X41:=af ((ae X4).but bs1 (by simp) (by simp))
 have Y5:=af (ax.new w1 ws wx 0 none _ 29 (ae HFW w1))
 have q8:=X21.cells 8 _ rfl
 clear hb1 bs1 X2 X3 X4 BW X21
 have n0:(0:Int)≤(n:Int):=by omega
 go_wp2
 generalize w1.heap.size=g5 at *
 generalize w1.alloc (.cells #[.bool ws,.int .u64 wx,.int .u64 0,.pointer none] 29)=V at *
 refine series_region3 3 _ _ V V.heap.size g2 g3 b off nn cc (n:Int) sf xf yf pf (rpow b0 n) (by simp) rfl (by simp [Act.eval]) (by simp [Act.eval]) hnn ((ae X31).cells 0 _ rfl) q8 ((ae CF).but (ae B1) (by simp)) (fun w' hb=>ae PW w' ((ae B1).trans' hb)) ?_
 intro w2 g6 v6 v7 v8 v11 s6 x6 y6 p6 hb2 hg6 hP6 hf6
 simp only [bb,List.foldl_cons,List.foldl_nil,Act.put,List.setIfInBounds_toArray,List.set_cons_zero,List.set_cons_succ]
 have B2:=af ((ae B1).trans' hb2)
 have X22:=(ae HX21).but hb2 (by simp) (by simp)
 have HX22:=af X22
 have X32':=(ae X31).but hb2 (by simp) (by simp)
 have X32:=af X32'
 have X42:=af ((ae X41).but hb2 (by simp) (by simp))
 have Y52:=af ((ae Y5).but hb2)
 have M6:=af hP6
 have F6:=af hf6
 have r1:=X32'.cells 1 _ rfl
 have r2:=X32'.cells 2 _ rfl
 have r3:=X32'.cells 3 _ rfl
 have r4:=X32'.cells 4 _ rfl
 have q82:=X22.cells 8 _ rfl
 clear hb2 hP6 hf6 X22 X32' X31 X41 Y5 HX21 q8 hg6 B1
 go_wp2_with fail
 refine (ae PM _ (ae B2)).mono ?_
 rintro e w3 ⟨v3',rfl,hf3,hb3⟩
 obtain ⟨x8,y8,p8,rfl,-⟩:=id hf3.agg
 generalize decide ((rpow u⁻¹ n).num<0)=s8 at *
 have bs3:=hb3.trans' ((But.refl _ _).alloc (.cells #[.bool s8,.int .u64 x8,.int .u64 y8,.pointer p8] 29))
 have B3:=af ((ae B2).trans' bs3)
 have X33:=af ((ae X32).but bs3 (by simp) (by simp))
 have X43:=af ((ae X42).but bs3 (by simp) (by simp))
 have Y53:=af ((ae Y52).but bs3)
 have M63:=af ((ae M6).but bs3 (by simp))
 have F63:=af ((ae F6).but bs3)
 have Y8:=af (ax.new w3 s8 x8 y8 p8 _ 29 hf3)
 clear hb3 hf3 bs3 X32 X42 Y52 M6 F6 B2 HX22 r1 r2 r3 r4 q82 PM PW
 go_wp2
 generalize w3.heap.size=g8 at *
 generalize w3.alloc (.cells #[.bool s8,.int .u64 x8,.int .u64 y8,.pointer p8] 29)=V4 at *
 obtain ⟨⟨k5,k6,k7,k8,m5,f5⟩,-⟩:=ae Y53
 obtain ⟨⟨l5,l6,l7,l8,m8,f8⟩,-⟩:=ae Y8
 refine series_region5 5 _ _ V4 V4.heap.size g3 b off nn cc s6 x6 y6 p6 l5 l6 l7 l8 k5 k6 k7 k8 sf xf yf pf (rpow b0 n) (rpow u⁻¹ n) ((1:Int):Rat) b0 g4 g5 g6 g8 (by simp) (by simp [Act.eval]) (ae X43) rfl (by simp [Act.eval]) (by simp [Act.eval]) (by simp [Act.eval]) (by simp [Act.eval]) rfl hnn ((ae X33).cells 0 _ rfl) (ae M63) (ae F63) m8 f8 m5 f5 ((ae CF).but (ae B3) (by simp)) ((ae FF).but (ae B3)) ?_
 intro w5 z1 z2 z3 z7 gr e1 e2 e3 e4 e5 e6 e7 e8 e9 e10 e11 e12 hb5 hgr h2 h3 h4
 simp only [bb,List.foldl_cons,List.foldl_nil,Act.put,List.setIfInBounds_toArray,List.set_cons_zero,List.set_cons_succ]
 obtain ⟨vs,hgr⟩:=hgr
 have X5:=(ae X43).but hb5 (by simp) (by simp)
 have hS:=bf w5 g4 [.slice (some ⟨gr,0,none⟩) 1 1,.bool e1,.int .u64 e2,.int .u64 e3,.pointer e4,.bool e5,.int .u64 e6,.int .u64 e7,.pointer e8,.bool e9,.int .u64 e10,.int .u64 e11,.pointer e12] 0
 have P:=X5.put (us:=[.slice (some ⟨gr,0,none⟩) 1 1,.bool e1,.int .u64 e2,.int .u64 e3,.pointer e4,.bool e5,.int .u64 e6,.int .u64 e7,.pointer e8,.bool e9,.int .u64 e10,.int .u64 e11,.pointer e12]) rfl
 have c41:=X5.cells 1 _ rfl
 have l4:g4<V4.heap.size:=(ae X43).lt (by simp)
 obtain ⟨gr',cap',egr,hgr1,-⟩:=hgr.form
 have ngr:(Value.slice (some ⟨gr,0,none⟩) 1 1).ownBlock≠some g4:=by
  simp only [Value.slice.injEq,Option.some.injEq,Addr.mk.injEq,and_true] at egr
  simp only [Value.ownBlock,ne_eq,Option.some.injEq]
  omega
 have hG:=(hgr.beside hS ngr (fun u f h=>h.overW c41 hS)).base (b2:=w.heap.size) (ae B3).size
 have r2:=h2.overW c41 hS
 have r3:=h3.overW c41 hS
 have r4:=h4.overW c41 hS
 have hF:=((ae B3).trans' hb5).trans hS (fun x hx=>by simp at hx;subst hx;exact .inr (ae o4))
 have HG:=af hG
 have m0:=P.cells 0 _ rfl
 have m1:=P.cells 1 _ rfl
 have m2:=P.cells 2 _ rfl
 have m3:=P.cells 3 _ rfl
 have m4:=P.cells 4 _ rfl
 have m5':=P.cells 5 _ rfl
 have m6:=P.cells 6 _ rfl
 have m7:=P.cells 7 _ rfl
 have m8':=P.cells 8 _ rfl
 have m9:=P.cells 9 _ rfl
 have m10:=P.cells 10 _ rfl
 have m11:=P.cells 11 _ rfl
 have m12:=P.cells 12 _ rfl
 generalize w5.setCells g4 0 [.slice (some ⟨gr,0,none⟩) 1 1,.bool e1,.int .u64 e2,.int .u64 e3,.pointer e4,.bool e5,.int .u64 e6,.int .u64 e7,.pointer e8,.bool e9,.int .u64 e10,.int .u64 e11,.pointer e12]=FFF at *
 clear hS P X5 c41 h2 h3 h4 hb5 hgr hG egr
 go_wp2
 exact bodyPost_ret (v:=.agg #[.slice (some ⟨gr,0,none⟩) 1 1,.bool e1,.int .u64 e2,.int .u64 e3,.pointer e4,.bool e5,.int .u64 e6,.int .u64 e7,.pointer e8,.bool e9,.int .u64 e10,.int .u64 e11,.pointer e12]) (by simp [results,Tryz.results124,go_sem,m0,m1,m2,m3,m4,m5',m6,m7,m8',m9,m10,m11,m12]) rfl ⟨gr,e1,e2,e3,e4,e5,e6,e7,e8,e9,e10,e11,e12,rfl,⟨vs,ae HG⟩,r2,r3,r4,hF⟩
end Go.Proofs.YtlckjpelcmjimaaGreatDoor
