/- Layers and worst parts, plain: sums over -/
import Derived.Test.YtlckjpelcmjimaaGreatDoorKPK7s
namespace Go.Proofs.YtlckjpelcmjimaaGreatDoor
set_option maxHeartbeats 8000000
set_option maxRecDepth 100000
def sgR (f:Nat→Rat):Nat→Rat
 | 0=>0
 | k+1=>sgR f k+f k
theorem sgR_congr (f g:Nat→Rat):∀ n,(∀ k,k<n→f k=g k)→sgR f n=sgR g n
 | 0,_=>rfl
 | n+1,h=>by
  show sgR f n+f n=sgR g n+g n
  rw [sgR_congr f g n (fun k hk=>h k (by omega)),h n (by omega)]
theorem sgR_add (f g:Nat→Rat):∀ n,sgR (fun k=>f k+g k) n=sgR f n+sgR g n
 | 0=>by
  show (0:Rat)=0+0
  grind
 | n+1=>by
  show sgR _ n+(f n+g n)=sgR f n+f n+(sgR g n+g n)
  rw [sgR_add f g n];grind
theorem sgR_zero:∀ n,sgR (fun _=>0) n=0
 | 0=>rfl
 | n+1=>by
  show sgR (fun _=>0) n+0=0
  rw [sgR_zero n];grind
open Go.RowKit
theorem run_notK (a:Act) (w:World) (d t:Nat) (u:TypeId) (ps:String) (ed:Array Edge) (gd:Option (Nat × Bool)) (b:Bool) (h:a.eval (.tmp t)=.bool b) :
  (execOp a.eval { dst:=some d,op:=Op.unOp UnOp.not 4 (.tmp t),type:=u,pos:=ps,after:=ed,guard:=gd }).run Tryz.prog w=.ok (.value (.bool (!b))) w:=by
 unfold execOp
 simp only [h]
 go_simp
theorem run_likeK (a:Act) (w:World) (d t1 t2:Nat) (u:TypeId) (ps:String) (ed:Array Edge) (gd:Option (Nat × Bool)) (x1 x2:Value) (h1:a.eval (.tmp t1)=x1) (h2:a.eval (.tmp t2)=x2) :
  (execOp a.eval { dst:=some d,op:=Op.call { callee:=Callee.value (Operand.func 21),args:=#[Operand.tmp t1,Operand.tmp t2],argTypes:=#[29,29] },type:=u,pos:=ps,after:=ed,guard:=gd }).run Tryz.prog w=.ok (.enter 21 #[x1,x2]) w:=by
 unfold execOp
 go_simp
 rw [← h1,← h2]
 simp [Act.eval]
def opOe0:Oper:={ dst:=some 17,op:=Op.move (Operand.tmp 0),type:=33,pos:= "keep.go:31",after:=#[],guard:=none }
def opOe1:Oper:={ dst:=some 18,op:=Op.move (Operand.tmp 5),type:=3,pos:= "keep.go:31",after:=#[],guard:=none }
def opOe2:Oper:={ dst:=some 19,op:=Op.indexAddr 33 (Operand.tmp 17) (Operand.tmp 18),type:=0,pos:= "keep.go:31",after:=#[⟨0,.data⟩,⟨1,.data⟩],guard:=none }
def opOe3:Oper:={ dst:=some 20,op:=Op.load 29 (Operand.tmp 19),type:=29,pos:= "keep.go:31",after:=#[⟨2,.data⟩],guard:=none }
def opOe4:Oper:={ dst:=some 21,op:=Op.move (Operand.tmp 1),type:=33,pos:= "keep.go:31",after:=#[],guard:=none }
def opOe5:Oper:={ dst:=some 22,op:=Op.move (Operand.tmp 5),type:=3,pos:= "keep.go:31",after:=#[],guard:=none }
def opOe6:Oper:={ dst:=some 23,op:=Op.indexAddr 33 (Operand.tmp 21) (Operand.tmp 22),type:=0,pos:= "keep.go:31",after:=#[⟨4,.data⟩,⟨5,.data⟩],guard:=none }
def opOe7:Oper:={ dst:=some 24,op:=Op.load 29 (Operand.tmp 23),type:=29,pos:= "keep.go:31",after:=#[⟨6,.data⟩],guard:=none }
def opOe8:Oper:={ dst:=some 25,op:=Op.call { callee:=Callee.value (Operand.func 21),args:=#[Operand.tmp 20,Operand.tmp 24],argTypes:=#[29,29] },type:=4,pos:= "keep.go:31",after:=#[⟨3,.data⟩,⟨7,.data⟩],guard:=none }
def opOe9:Oper:={ dst:=some 26,op:=Op.unOp UnOp.not 4 (Operand.tmp 25),type:=4,pos:= "keep.go:31",after:=#[⟨8,.data⟩],guard:=none }
def opOes:Array Oper:=#[opOe0,opOe1,opOe2,opOe3,opOe4,opOe5,opOe6,opOe7,opOe8,opOe9]
def opOeT (i:Nat):Nat:=match i with
 | 0=>17
 | 1=>18
 | 2=>19
 | 3=>20
 | 4=>21
 | 5=>22
 | 6=>23
 | 7=>24
 | 8=>25
 | _=>26
def opOeC (b:Nat) (off:Nat) (N:Nat) (cp:Nat) (b2:Nat) (of2:Nat) (c2:Nat) (ka:Nat) (s1:Bool) (x1:Int) (y1:Int) (p1:Option Addr) (s2:Bool) (x2:Int) (y2:Int) (p2:Option Addr) (i:Nat) (_w:World) (v:Value):Prop:=match i with
 | 0=>v=.slice (some ⟨b,off,none⟩) N cp
 | 1=>v=.int .i64 (ka:Int)
 | 2=>v=.pointer (some ⟨b,off+ka*4,none⟩)
 | 3=>v=.agg #[.bool s1,.int .u64 x1,.int .u64 y1,.pointer p1]
 | 4=>v=.slice (some ⟨b2,of2,none⟩) N c2
 | 5=>v=.int .i64 (ka:Int)
 | 6=>v=.pointer (some ⟨b2,of2+ka*4,none⟩)
 | 7=>v=.agg #[.bool s2,.int .u64 x2,.int .u64 y2,.pointer p2]
 | 8=>v=.bool true
 | _=>v=.bool false
theorem opOeC_but {b:Nat} {off:Nat} {N:Nat} {cp:Nat} {b2:Nat} {of2:Nat} {c2:Nat} {ka:Nat} {s1:Bool} {x1:Int} {y1:Int} {p1:Option Addr} {s2:Bool} {x2:Int} {y2:Int} {p2:Option Addr} {i:Nat} {w w':World} {v:Value} (h:opOeC b off N cp b2 of2 c2 ka s1 x1 y1 p1 s2 x2 y2 p2 i w v) (hi:i<10) (_hb:But [] w w'):opOeC b off N cp b2 of2 c2 ka s1 x1 y1 p1 s2 x2 y2 p2 i w' v:=by
 have:i=0∨i=1∨i=2∨i=3∨i=4∨i=5∨i=6∨i=7∨i=8∨i=9:=by omega
 rcases this with rfl | rfl | rfl | rfl | rfl | rfl | rfl | rfl | rfl | rfl
 all_goals exact h
theorem opOeT_inj:∀ i j,i<10→j<10→opOeT i=opOeT j→i=j:=fun i j hi hj=>(by decide:∀ i,i<10→∀ j,j<10→opOeT i=opOeT j→i=j) i hi j hj
theorem likes_region (id:Nat) (Q:Exit→Act→World→Prop) (base:Act) (W0:World) (b:Nat) (off:Nat) (N:Nat) (cp:Nat) (b2:Nat) (of2:Nat) (c2:Nat) (ka:Nat) (s1:Bool) (x1:Int) (y1:Int) (p1:Option Addr) (s2:Bool) (x2:Int) (y2:Int) (p2:Option Addr) (hs:26<base.tmps.size) (e0:base.eval (.tmp 0)=.slice (some ⟨b,off,none⟩) N cp) (e5:base.eval (.tmp 5)=.int .i64 (ka:Int)) (e1:base.eval (.tmp 1)=.slice (some ⟨b2,of2,none⟩) N c2)
  (hka:ka<N) (hN2:N<1000000) (k1:P4o W0 b (off+ka*4) s1 x1 y1 p1) (k2:P4o W0 b2 (of2+ka*4) s2 x2 y2 p2)
  (LK:∀ w,But [] W0 w→Calls Tryz.prog 21 #[.agg #[.bool s1,.int .u64 x1,.int .u64 y1,.pointer p1],.agg #[.bool s2,.int .u64 x2,.int .u64 y2,.pointer p2]] w fun e w'=>e=.returned (.bool true)∧But [] w w')
  (hQ:∀ w,But [] W0 w→Q .normal (bb base [(17,.slice (some ⟨b,off,none⟩) N cp),(18,.int .i64 (ka:Int)),(19,.pointer (some ⟨b,off+ka*4,none⟩)),(20,.agg #[.bool s1,.int .u64 x1,.int .u64 y1,.pointer p1]),(21,.slice (some ⟨b2,of2,none⟩) N c2),(22,.int .i64 (ka:Int)),(23,.pointer (some ⟨b2,of2+ka*4,none⟩)),(24,.agg #[.bool s2,.int .u64 x2,.int .u64 y2,.pointer p2]),(25,.bool true),(26,.bool false)]) w) :
  (Code.region id opOes true).wp Tryz.prog Q base W0:=by
 have hdr:∀ {w},But [] W0.drew w→But [] W0 w:=fun h=>(But.refl _ _).drew.trans' h
 have hT:∀ i,i<10→opOeT i<base.tmps.size:=fun i hi=>by
  have h:opOeT i≤26:=by revert i;decide
  omega
 refine region_go (by kernel_rfl) (low_of (by kernel_rfl)) (opOeC b off N cp b2 of2 c2 ka s1 x1 y1 p1 s2 x2 y2 p2) opOeT (by kernel_rfl) ?_ opOeT_inj hT (fun i w w' v hi h hb=>opOeC_but h hi hb) ?_ ?_
 ·intro i o j want ho hg w v hv
  have hi:i<10:=(Array.getElem?_eq_some_iff.1 ho).1
  have:i=0∨i=1∨i=2∨i=3∨i=4∨i=5∨i=6∨i=7∨i=8∨i=9:=by omega
  rcases this with rfl | rfl | rfl | rfl | rfl | rfl | rfl | rfl | rfl | rfl
  ·obtain rfl:=Option.some.inj ((show opOes[0]? = some opOe0 from rfl).symm.trans ho)
   exact absurd (show (none:Option (Nat × Bool))=some (j,want) from hg) (by simp)
  ·obtain rfl:=Option.some.inj ((show opOes[1]? = some opOe1 from rfl).symm.trans ho)
   exact absurd (show (none:Option (Nat × Bool))=some (j,want) from hg) (by simp)
  ·obtain rfl:=Option.some.inj ((show opOes[2]? = some opOe2 from rfl).symm.trans ho)
   exact absurd (show (none:Option (Nat × Bool))=some (j,want) from hg) (by simp)
  ·obtain rfl:=Option.some.inj ((show opOes[3]? = some opOe3 from rfl).symm.trans ho)
   exact absurd (show (none:Option (Nat × Bool))=some (j,want) from hg) (by simp)
  ·obtain rfl:=Option.some.inj ((show opOes[4]? = some opOe4 from rfl).symm.trans ho)
   exact absurd (show (none:Option (Nat × Bool))=some (j,want) from hg) (by simp)
  ·obtain rfl:=Option.some.inj ((show opOes[5]? = some opOe5 from rfl).symm.trans ho)
   exact absurd (show (none:Option (Nat × Bool))=some (j,want) from hg) (by simp)
  ·obtain rfl:=Option.some.inj ((show opOes[6]? = some opOe6 from rfl).symm.trans ho)
   exact absurd (show (none:Option (Nat × Bool))=some (j,want) from hg) (by simp)
  ·obtain rfl:=Option.some.inj ((show opOes[7]? = some opOe7 from rfl).symm.trans ho)
   exact absurd (show (none:Option (Nat × Bool))=some (j,want) from hg) (by simp)
  ·obtain rfl:=Option.some.inj ((show opOes[8]? = some opOe8 from rfl).symm.trans ho)
   exact absurd (show (none:Option (Nat × Bool))=some (j,want) from hg) (by simp)
  ·obtain rfl:=Option.some.inj ((show opOes[9]? = some opOe9 from rfl).symm.trans ho)
   exact absurd (show (none:Option (Nat × Bool))=some (j,want) from hg) (by simp)
 ·intro i o a w K ho hH he hdep hk
  have hi:i<10:=(Array.getElem?_eq_some_iff.1 ho).1
  have hD:=dep_have (ps:=[(2,0),(2,1),(3,2),(6,4),(6,5),(7,6),(8,3),(8,7),(9,8)]) (by kernel_rfl) ho (fun j=>opOeC b off N cp b2 of2 c2 ka s1 x1 y1 p1 s2 x2 y2 p2 j w (a.eval (.tmp (opOeT j)))) hdep
  have e0':=(he 0 (fun j hj e=>absurd e.symm (by revert j;decide))).trans e0
  have e5':=(he 5 (fun j hj e=>absurd e.symm (by revert j;decide))).trans e5
  have e1':=(he 1 (fun j hj e=>absurd e.symm (by revert j;decide))).trans e1
  have:i=0∨i=1∨i=2∨i=3∨i=4∨i=5∨i=6∨i=7∨i=8∨i=9:=by omega
  rcases this with rfl | rfl | rfl | rfl | rfl | rfl | rfl | rfl | rfl | rfl
  ·obtain rfl:=Option.some.inj ((show opOes[0]? = some opOe0 from rfl).symm.trans ho)
   exact al (bh a w _ _ _ _ _ _ _ e0') (hk _ _ (But.refl _ _) rfl)
  ·obtain rfl:=Option.some.inj ((show opOes[1]? = some opOe1 from rfl).symm.trans ho)
   exact al (bh a w _ _ _ _ _ _ _ e5') (hk _ _ (But.refl _ _) rfl)
  ·obtain rfl:=Option.some.inj ((show opOes[2]? = some opOe2 from rfl).symm.trans ho)
   exact al (run_indexK a w _ _ _ _ _ _ _ b off N cp ka hka hN2 (hD 0 (by simp)) (hD 1 (by simp))) (hk _ _ (But.refl _ _) rfl)
  ·obtain rfl:=Option.some.inj ((show opOes[3]? = some opOe3 from rfl).symm.trans ho)
   exact al (aq a w _ _ _ _ _ _ b _ _ _ _ _ (hD 2 (by simp)) (k1.but (hdr hH) (by simp))) (hk _ _ (But.refl _ _) rfl)
  ·obtain rfl:=Option.some.inj ((show opOes[4]? = some opOe4 from rfl).symm.trans ho)
   exact al (bh a w _ _ _ _ _ _ _ e1') (hk _ _ (But.refl _ _) rfl)
  ·obtain rfl:=Option.some.inj ((show opOes[5]? = some opOe5 from rfl).symm.trans ho)
   exact al (bh a w _ _ _ _ _ _ _ e5') (hk _ _ (But.refl _ _) rfl)
  ·obtain rfl:=Option.some.inj ((show opOes[6]? = some opOe6 from rfl).symm.trans ho)
   exact al (run_indexK a w _ _ _ _ _ _ _ b2 of2 N c2 ka hka hN2 (hD 4 (by simp)) (hD 5 (by simp))) (hk _ _ (But.refl _ _) rfl)
  ·obtain rfl:=Option.some.inj ((show opOes[7]? = some opOe7 from rfl).symm.trans ho)
   exact al (aq a w _ _ _ _ _ _ b2 _ _ _ _ _ (hD 6 (by simp)) (k2.but (hdr hH) (by simp))) (hk _ _ (But.refl _ _) rfl)
  ·obtain rfl:=Option.some.inj ((show opOes[8]? = some opOe8 from rfl).symm.trans ho)
   exact av (run_likeK a w _ _ _ _ _ _ _ _ _ (hD 3 (by simp)) (hD 7 (by simp))) (R:=fun w' v=>But [] w w'∧v=_) ((LK w (hdr hH)).mono fun e w' ⟨he,hb⟩=>⟨_,he,hb,rfl⟩) (fun v w' hv=>hk v w' hv.1 hv.2)
  ·obtain rfl:=Option.some.inj ((show opOes[9]? = some opOe9 from rfl).symm.trans ho)
   exact al (run_notK a w _ _ _ _ _ _ true (hD 8 (by simp))) (hk _ _ (But.refl _ _) rfl)
 ·intro a w h
  have ea:=h.puts hT (fun i=>match i with
   | 0=>.slice (some ⟨b,off,none⟩) N cp
   | 1=>.int .i64 (ka:Int)
   | 2=>.pointer (some ⟨b,off+ka*4,none⟩)
   | 3=>.agg #[.bool s1,.int .u64 x1,.int .u64 y1,.pointer p1]
   | 4=>.slice (some ⟨b2,of2,none⟩) N c2
   | 5=>.int .i64 (ka:Int)
   | 6=>.pointer (some ⟨b2,of2+ka*4,none⟩)
   | 7=>.agg #[.bool s2,.int .u64 x2,.int .u64 y2,.pointer p2]
   | 8=>.bool true
   | _=>.bool false) (fun i hi=>by
   have hi':i<10:=hi
   have hc:=h.has i hi rfl
   have:i=0∨i=1∨i=2∨i=3∨i=4∨i=5∨i=6∨i=7∨i=8∨i=9:=by omega
   rcases this with rfl | rfl | rfl | rfl | rfl | rfl | rfl | rfl | rfl | rfl
   all_goals first | exact hc | rfl)
  rw [ea]
  exact hQ w (hdr h.but)
theorem len_at {fs:List Rat} {c:Nat} (h:∀ f ∈ fs,Len f c) (hc:1≤c) (k:Nat):Len (fs[k]?.getD 0) c:=by
 by_cases hk:k<fs.length
 ·rw [List.getElem?_eq_getElem hk];exact h _ (List.getElem_mem hk)
 ·rw [List.getElem?_eq_none (by omega)];exact len_zero _ hc
end Go.Proofs.YtlckjpelcmjimaaGreatDoor
