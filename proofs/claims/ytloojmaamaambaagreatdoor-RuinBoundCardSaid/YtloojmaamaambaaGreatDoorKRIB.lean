/- The library's iterator over a list from  -/
import Derived.RangeFuncNested
import Derived.RangeFuncBound
import Derived.RangeFuncCalls
import Derived.RangeFuncLeaves
import Derived.Shelf.Abstract
import Derived.Shelf.RegionOpen
import Derived.WalkKit
import Derived.OwnWalkIn
import Derived.TacticsInMore
import Derived.LoopNIn
import Derived.LoopIn
import Derived.Test.YtloojmaamaambaaGreatDoorProg
import Derived.Test.YtloojmaamaambaaGreatDoorKRPB
namespace Go.Proofs.YtloojmaamaambaaGreatDoor
open Go.RowKit Go.Shelf
set_option maxHeartbeats 4000000
set_option maxRecDepth 100000
attribute [local go_sem] Oper.semAt_some
def downsF (len k:Nat):List (Fin len):=((List.finRange len).drop k).reverse
theorem downs_endF (len:Nat):downsF len len=[]:=by unfold downsF;rw [List.drop_eq_nil_of_le (by simp)];rfl
theorem downs_nextF (len k:Nat) (h:k<len):downsF len k=downsF len (k+1)++[⟨k,h⟩]:=by
 unfold downsF
 rw [List.drop_eq_getElem_cons (by simpa using h),List.reverse_cons]
 simp
theorem downs_lengthF (len k:Nat):(downsF len k).length=len-k:=by unfold downsF;simp
def KeptF (n₀:Nat) (gs:List Nat) (A B:World):Prop:=∀ k,k<n₀→k ∉ gs→B.heap[k]? = A.heap[k]?
theorem KeptF.refl (n₀:Nat) (gs:List Nat) (A:World):KeptF n₀ gs A A:=fun _ _ _=>rfl
theorem KeptF.trans {n₀:Nat} {gs:List Nat} {A B C:World} (h:KeptF n₀ gs A B) (k:KeptF n₀ gs B C):KeptF n₀ gs A C:=fun i h1 h2=>(k i h1 h2).trans (h i h1 h2)
theorem KeptF.cell {n₀:Nat} {gs:List Nat} {A B:World} (h:KeptF n₀ gs A B) {p:Addr} (hp:p.block<n₀) (hn:p.block ∉ gs):B.cell? p=A.cell? p:=World.cell?_of_block (w:=A) (h p.block hp hn)
theorem KeptF.put {n₀:Nat} {gs:List Nat} (W:World) (l:Nat) (o:Obj) (hl:n₀≤l):KeptF n₀ gs W (W.putObj l o):=fun k hk _=>World.putObj_heap_other (by omega)
theorem back1_inF (F:Fence) (n:Nat) (hf:F.fn 187) (hro:F.round=none) (hn:1≤n) (l Bs n₀:Nat) (gs:List Nat) (b off len cap:Nat) (S:Nat→Bool) (X Y:Nat→Int) (Q:Nat→Option Addr) (hreach:len≤1000000) (hb:b<n₀) (hbg:b ∉ gs) (J Jx:List (Fin len)→World→Prop)
  (hY:∀ pre (x:Fin len) W,J pre W→pre.length<len→YieldAt F (n-1) Tryz.prog l #[.int .i64 ((x.1:Nat):Int),.agg #[.bool (S x.1),.int .u64 (X x.1),.int .u64 (Y x.1),.pointer (Q x.1)]] W fun e W' =>
   (e=.returned (.bool true)∧J (pre++[x]) W'∧KeptF n₀ gs W W')∨(e=.returned (.bool false)∧Jx (pre++[x]) W'))
  (W:World) (hBs:W.cell? ⟨Bs,0,none⟩=some (.slice (some ⟨b,off,none⟩) len cap)) (hBn:Bs<n₀) (hBg:Bs ∉ gs)
  (hc:∀ j,j<len→W.cell? ⟨b,off+j*4,none⟩=some (.bool (S j))∧W.cell? ⟨b,off+j*4+1,none⟩=some (.int .u64 (X j))∧W.cell? ⟨b,off+j*4+2,none⟩=some (.int .u64 (Y j))∧W.cell? ⟨b,off+j*4+3,none⟩=some (.pointer (Q j))) (h0:J [] W) :
  CallsIn F n Tryz.prog 187 #[.func (.yield l) #[] #[],.pointer (some ⟨Bs,0,none⟩)] W fun e W'=>(∃ v,e=.returned v) ∧
   ((∃ ys,ys=downsF len 0∧J ys W')∨(∃ pre,True∧Jx pre W')):=by
 refine callsIn_of_wp Tryz.func187 rfl hf ?_ hro
 simp only [Tryz.ntmps187,List.size_toArray,List.length_cons,List.length_nil,Nat.reduceAdd,Nat.reduceSub,Array.replicate_succ,Array.replicate_zero,List.push_toArray,List.append_toArray,List.nil_append,List.cons_append]
 gi_wp2
 gi_loopw [3] (fun i wr=>∃ k:Nat,k≤len∧i=.int .i64 ((k:Int)-1)∧J (downsF len k) wr∧KeptF n₀ gs W wr) (fun i _=>(intOf i+1).toNat)
 case atStart=>exact ⟨len,Nat.le_refl _,rfl,by rw [downs_endF];exact h0,KeptF.refl _ _ _⟩
 case round =>
  obtain ⟨k,hk,rfl,hJs,hnx⟩:=hrel
  by_cases hlt:k=0
  ·subst hlt
   gi_wp2
   go_end0
   exact ⟨⟨_,rfl⟩,.inl ⟨_,rfl,hJs⟩⟩
  ·obtain ⟨j,rfl⟩:∃ j,k=j+1:=⟨k-1,by omega⟩
   rw [show (((j+1:Nat):Int)-1)=(j:Int) from by omega]
   obtain ⟨fn,tmps,assign,body,hy,hR⟩:=hY _ ⟨j,by omega⟩ wr hJs (by rw [downs_lengthF];omega)
   dsimp only at hy
   obtain ⟨c0,c1,c2,c3⟩:=hc j (by omega)
   have c0':=(hnx.cell (p:=⟨b,off+j*4,none⟩) hb hbg).trans c0
   have c1':=(hnx.cell (p:=⟨b,off+j*4+1,none⟩) hb hbg).trans c1
   have c2':=(hnx.cell (p:=⟨b,off+j*4+2,none⟩) hb hbg).trans c2
   have c3':=(hnx.cell (p:=⟨b,off+j*4+3,none⟩) hb hbg).trans c3
   have hBs':=(hnx.cell (p:=⟨Bs,0,none⟩) hBn hBg).trans hBs
   clear hc c0 c1 c2 c3
   gi_wp2
   refine hR.mono ?_
   rintro e W3 (⟨rfl,hJ3,hk3⟩ | ⟨rfl,hJx3⟩)
   ·gi_wp2
    go_roundw
    case rel=>exact ⟨j,by omega,by simp,by rw [downs_nextF len j (by omega)];exact hJ3,hnx.trans hk3⟩
    case measure=>simp [intOf]
   ·gi_wp2
    refine bodyPost_ret (results_none rfl _ _ _) rfl ?_
    exact ⟨⟨_,rfl⟩,.inr ⟨_,trivial,hJx3⟩⟩
theorem back_stopsF (F:Fence) (n:Nat) (hf:F.fn 187) (hro:F.round=none) (hn:1≤n) (Bs n₀:Nat) (gs:List Nat) (b off len cap:Nat) (S:Nat→Bool) (X Y:Nat→Int) (Q:Nat→Option Addr) (hreach:len≤1000000) (w:World) (hb:b<n₀) (hbg:b ∉ gs) (hn₀:n₀≤w.heap.size)
  (hBs:w.cell? ⟨Bs,0,none⟩=some (.slice (some ⟨b,off,none⟩) len cap)) (hBn:Bs<n₀) (hBg:Bs ∉ gs)
  (hc:∀ j,j<len→w.cell? ⟨b,off+j*4,none⟩=some (.bool (S j))∧w.cell? ⟨b,off+j*4+1,none⟩=some (.int .u64 (X j))∧w.cell? ⟨b,off+j*4+2,none⟩=some (.int .u64 (Y j))∧w.cell? ⟨b,off+j*4+3,none⟩=some (.pointer (Q j))) :
  SeqStopsK F n Tryz.prog 187 #[.pointer (some ⟨Bs,0,none⟩)] (fun x:Fin len=>#[.int .i64 ((x.1:Nat):Int),.agg #[.bool (S x.1),.int .u64 (X x.1),.int .u64 (Y x.1),.pointer (Q x.1)]]) (KeptF n₀ gs) (fun ys=>ys=downsF len 0) (fun _=>True) len w:=fun l J Jx W hW _ _ hY h0 =>
 back1_inF F n hf hro hn l Bs n₀ gs b off len cap S X Y Q hreach hb hbg J Jx hY W ((hW.cell (p:=⟨Bs,0,none⟩) (by show Bs<_;omega)).trans hBs) hBn hBg (fun j hj=>by
  obtain ⟨c0,c1,c2,c3⟩:=hc j hj
  have hbl:b<w.heap.size:=by omega
  exact ⟨(hW.cell (p:=⟨b,off+j*4,none⟩) hbl).trans c0,(hW.cell (p:=⟨b,off+j*4+1,none⟩) hbl).trans c1,(hW.cell (p:=⟨b,off+j*4+2,none⟩) hbl).trans c2,(hW.cell (p:=⟨b,off+j*4+3,none⟩) hbl).trans c3⟩) h0
theorem back_inF (F:Fence) (n:Nat) (hf:F.fn 154) (hro:F.round=none) (a:Option Addr) (len cap:Nat) (w:World) :
  CallsIn F n Tryz.prog 154 #[.slice a len cap] w fun e w'=>e=.returned (.func (.func 187) #[] #[.pointer (some ⟨w.heap.size,0,none⟩)])∧w'=w.alloc (.cells #[.slice a len cap] 33):=by
 refine callsIn_of_wp Tryz.func154 rfl hf ?_ hro
 simp only [Tryz.ntmps154,List.size_toArray,List.length_cons,List.length_nil,Nat.reduceAdd,Nat.reduceSub,Array.replicate_succ,Array.replicate_zero,List.push_toArray,List.append_toArray,List.nil_append,List.cons_append]
 gi_wp2
 go_ret
 exact ⟨rfl,rfl⟩
end Go.Proofs.YtloojmaamaambaaGreatDoor

namespace Go.Proofs.YtloojmaamaambaaGreatDoor
open Go.RowKit
set_option maxHeartbeats 4000000
set_option maxRecDepth 100000
def opIa0:Oper:={ dst:=some 16,op:=Op.load 29 (Operand.tmp 7),type:=29,pos:= "bound.go:58",after:=#[],guard:=none }
def opIa1:Oper:={ dst:=some 17,op:=Op.load 29 (Operand.tmp 4),type:=29,pos:= "bound.go:58",after:=#[],guard:=none }
def opIa2:Oper:={ dst:=some 18,op:=Op.call { callee:=Callee.value (Operand.func 33),args:=#[Operand.tmp 16,Operand.tmp 17],argTypes:=#[29,29] },type:=29,pos:= "bound.go:58",after:=#[⟨0,.data⟩,⟨1,.data⟩],guard:=none }
def opIa3:Oper:={ dst:=some 19,op:=Op.load 29 (Operand.tmp 10),type:=29,pos:= "bound.go:58",after:=#[],guard:=none }
def opIa4:Oper:={ dst:=some 20,op:=Op.load 29 (Operand.tmp 8),type:=29,pos:= "bound.go:58",after:=#[],guard:=none }
def opIa5:Oper:={ dst:=some 21,op:=Op.call { callee:=Callee.value (Operand.func 33),args:=#[Operand.tmp 19,Operand.tmp 20],argTypes:=#[29,29] },type:=29,pos:= "bound.go:58",after:=#[⟨3,.data⟩,⟨4,.data⟩,⟨2,.chain⟩],guard:=none }
def opIa6:Oper:={ dst:=some 22,op:=Op.call { callee:=Callee.value (Operand.func 22),args:=#[Operand.tmp 18,Operand.tmp 21],argTypes:=#[29,29] },type:=29,pos:= "bound.go:58",after:=#[⟨2,.data⟩,⟨5,.data⟩,⟨5,.chain⟩],guard:=none }
def opIa7:Oper:={ dst:=none,op:=Op.store 29 (Operand.tmp 7) (Operand.tmp 22),type:=0,pos:= "bound.go:58",after:=#[⟨6,.data⟩,⟨6,.chain⟩,⟨0,.phase⟩,⟨1,.phase⟩,⟨2,.phase⟩,⟨3,.phase⟩,⟨4,.phase⟩,⟨5,.phase⟩,⟨6,.phase⟩],guard:=none }
def opIas:Array Oper:=#[opIa0,opIa1,opIa2,opIa3,opIa4,opIa5,opIa6,opIa7]
def opIaC (s1:Bool) (x1 y1:Int) (p1:Option Addr) (s2:Bool) (x2 y2:Int) (p2:Option Addr) (s3:Bool) (x3 y3:Int) (p3:Option Addr) (s4:Bool) (x4 y4:Int) (p4:Option Addr) (f1 f2 f3 f4:Rat) (i:Nat) (w:World) (v:Value):Prop:=match i with
 | 0=>v=.agg #[.bool s1,.int .u64 x1,.int .u64 y1,.pointer p1]
 | 1=>v=.agg #[.bool s2,.int .u64 x2,.int .u64 y2,.pointer p2]
 | 2=>FracAt w v (f1*f2)
 | 3=>v=.agg #[.bool s3,.int .u64 x3,.int .u64 y3,.pointer p3]
 | 4=>v=.agg #[.bool s4,.int .u64 x4,.int .u64 y4,.pointer p4]
 | 5=>FracAt w v (f3*f4)
 | _=>FracAt w v (f1*f2+f3*f4)
theorem safe_region5 (id l0 n0:Nat) (Q:Exit→Act→World→Prop) (base:Act) (W0:World) (s1:Bool) (x1 y1:Int) (p1:Option Addr) (s2:Bool) (x2 y2:Int) (p2:Option Addr) (s3:Bool) (x3 y3:Int) (p3:Option Addr) (s4:Bool) (x4 y4:Int) (p4:Option Addr) (f1 f2 f3 f4:Rat) (g7 g4 g10 g8:Nat)
  (hs:22<base.tmps.size) (e7:base.eval (.tmp 7)=.pointer (some ⟨g7,0,none⟩)) (e4:base.eval (.tmp 4)=.pointer (some ⟨g4,0,none⟩)) (e10:base.eval (.tmp 10)=.pointer (some ⟨g10,0,none⟩)) (e8:base.eval (.tmp 8)=.pointer (some ⟨g8,0,none⟩))
  (c1:P4 W0 g7 s1 x1 y1 p1) (fz:∀ j,W0.frozen? ⟨g7,j,none⟩=false) (c2:P4 W0 g4 s2 x2 y2 p2) (c3:P4 W0 g10 s3 x3 y3 p3) (c4:P4 W0 g8 s4 x4 y4 p4)
  (MA:∀ w,But [] W0 w→Calls Tryz.prog 33 #[.agg #[.bool s1,.int .u64 x1,.int .u64 y1,.pointer p1],.agg #[.bool s2,.int .u64 x2,.int .u64 y2,.pointer p2]] w fun e w'=>∃ v,e=.returned v∧FracAt w' v (f1*f2)∧But [] w w')
  (MB:∀ w,But [] W0 w→Calls Tryz.prog 33 #[.agg #[.bool s3,.int .u64 x3,.int .u64 y3,.pointer p3],.agg #[.bool s4,.int .u64 x4,.int .u64 y4,.pointer p4]] w fun e w'=>∃ v,e=.returned v∧FracAt w' v (f3*f4)∧But [] w w')
  (AD:∀ w v v',But [] W0 w→FracAt w v (f1*f2)→FracAt w v' (f3*f4)→Calls Tryz.prog 22 #[v,v'] w fun e w'=>∃ v,e=.returned v∧FracAt w' v (f1*f2+f3*f4)∧But [] w w')
  (hQ:∀ w1 v2 v5 s' x' y' p',But [] W0 w1→FracAt w1 (.agg #[.bool s',.int .u64 x',.int .u64 y',.pointer p']) (f1*f2+f3*f4)→Q .normal (putted base [(16,.agg #[.bool s1,.int .u64 x1,.int .u64 y1,.pointer p1]),(17,.agg #[.bool s2,.int .u64 x2,.int .u64 y2,.pointer p2]),(18,v2),(19,.agg #[.bool s3,.int .u64 x3,.int .u64 y3,.pointer p3]),(20,.agg #[.bool s4,.int .u64 x4,.int .u64 y4,.pointer p4]),(21,v5),(22,(.agg #[.bool s',.int .u64 x',.int .u64 y',.pointer p']))]) (put4 w1 g7 s' x' y' p')) :
  (Code.region id opIas true).wpIn (Fence.wide.inRound l0) n0 Tryz.prog Q base W0:=by
 have lg:g7<W0.heap.size:=lt_of_cell c1.1
 have hdr:∀ {w},But [] W0.drew w→But [] W0 w:=fun h=>(But.refl _ _).drew.trans' h
 have hT:∀ i,i<7→16+i<base.tmps.size:=fun i hi=>by omega
 refine region_flowRA (by kernel_rfl) (calm_of (by kernel_rfl)) (low_of (by kernel_rfl))
  (opIaC s1 x1 y1 p1 s2 x2 y2 p2 s3 x3 y3 p3 s4 x4 y4 p4 f1 f2 f3 f4) (fun i=>16+i) 7 rfl (fun i j _ _ e=>by omega) hT ?_ (fun i hi=>?_) ?_
  (fun a w=>∃ w1 v2 v5 s' x' y' p',a=putted base [(16,.agg #[.bool s1,.int .u64 x1,.int .u64 y1,.pointer p1]),(17,.agg #[.bool s2,.int .u64 x2,.int .u64 y2,.pointer p2]),(18,v2),(19,.agg #[.bool s3,.int .u64 x3,.int .u64 y3,.pointer p3]),(20,.agg #[.bool s4,.int .u64 x4,.int .u64 y4,.pointer p4]),(21,v5),(22,(.agg #[.bool s',.int .u64 x',.int .u64 y',.pointer p']))]∧w=put4 w1 g7 s' x' y' p'∧But [] W0 w1∧FracAt w1 (.agg #[.bool s',.int .u64 x',.int .u64 y',.pointer p']) (f1*f2+f3*f4)) ?_ ?_
 ·intro i w w' v hi h hb
  have:i=0∨i=1∨i=2∨i=3∨i=4∨i=5∨i=6:=by omega
  rcases this with rfl | rfl | rfl | rfl | rfl | rfl | rfl
  all_goals first | exact h | exact FracAt.but h hb
 ·have hh:=dep_of (ops:=opIas) (ps:=[(7,0),(7,1),(7,2),(7,3),(7,4),(7,5),(7,6)]) (by kernel_rfl) 7 i (by
   have:i=0∨i=1∨i=2∨i=3∨i=4∨i=5∨i=6:=by omega
   rcases this with rfl | rfl | rfl | rfl | rfl | rfl | rfl <;> simp)
  exact hh
 ·intro i o a w K hi ho hH he hdep hk
  have:i=0∨i=1∨i=2∨i=3∨i=4∨i=5∨i=6:=by omega
  have hD:=dep_have (ps:=[(2,0),(2,1),(5,3),(5,4),(6,2),(6,5)]) (by kernel_rfl) ho (fun j=>opIaC s1 x1 y1 p1 s2 x2 y2 p2 s3 x3 y3 p3 s4 x4 y4 p4 f1 f2 f3 f4 j w (a.eval (.tmp (16+j)))) hdep
  have e7':=(he 7 (fun j _=>by omega)).trans e7
  have e4':=(he 4 (fun j _=>by omega)).trans e4
  have e10':=(he 10 (fun j _=>by omega)).trans e10
  have e8':=(he 8 (fun j _=>by omega)).trans e8
  rcases this with rfl | rfl | rfl | rfl | rfl | rfl | rfl
  ·obtain rfl:=Option.some.inj ((show opIas[0]? = some opIa0 from rfl).symm.trans ho)
   exact wp_value (run_loadK a w _ _ _ _ _ _ g7 0 _ _ _ _ e7' (c1.but (hdr hH) (by simp))) (hk _ _ (But.refl _ _) rfl)
  ·obtain rfl:=Option.some.inj ((show opIas[1]? = some opIa1 from rfl).symm.trans ho)
   exact wp_value (run_loadK a w _ _ _ _ _ _ g4 0 _ _ _ _ e4' (c2.but (hdr hH) (by simp))) (hk _ _ (But.refl _ _) rfl)
  ·obtain rfl:=Option.some.inj ((show opIas[2]? = some opIa2 from rfl).symm.trans ho)
   exact wp_enter (run_mulK a w _ _ _ _ _ _ _ _ _ (hD 0 (by simp)) (hD 1 (by simp))) (R:=fun w' v=>FracAt w' v (f1*f2)∧But [] w w') (MA w (hdr hH)) (fun v w' hv=>hk v w' hv.2 hv.1)
  ·obtain rfl:=Option.some.inj ((show opIas[3]? = some opIa3 from rfl).symm.trans ho)
   exact wp_value (run_loadK a w _ _ _ _ _ _ g10 0 _ _ _ _ e10' (c3.but (hdr hH) (by simp))) (hk _ _ (But.refl _ _) rfl)
  ·obtain rfl:=Option.some.inj ((show opIas[4]? = some opIa4 from rfl).symm.trans ho)
   exact wp_value (run_loadK a w _ _ _ _ _ _ g8 0 _ _ _ _ e8' (c4.but (hdr hH) (by simp))) (hk _ _ (But.refl _ _) rfl)
  ·obtain rfl:=Option.some.inj ((show opIas[5]? = some opIa5 from rfl).symm.trans ho)
   exact wp_enter (run_mulK a w _ _ _ _ _ _ _ _ _ (hD 3 (by simp)) (hD 4 (by simp))) (R:=fun w' v=>FracAt w' v (f3*f4)∧But [] w w') (MB w (hdr hH)) (fun v w' hv=>hk v w' hv.2 hv.1)
  ·obtain rfl:=Option.some.inj ((show opIas[6]? = some opIa6 from rfl).symm.trans ho)
   exact wp_enter (run_addK a w _ _ _ _ _ _ _ _ _ rfl rfl) (R:=fun w' v=>FracAt w' v (f1*f2+f3*f4)∧But [] w w') (AD w _ _ (hdr hH) (hD 2 (by simp)) (hD 5 (by simp))) (fun v w' hv=>hk v w' hv.2 hv.1)
 ·intro dn o a w K ho hall h hK
  obtain rfl:=Option.some.inj ((show opIas[7]? = some opIa7 from rfl).symm.trans ho)
  have e7':=(h.eval 7 (fun j _=>by omega)).trans e7
  have cl:FracAt w (a.eval (.tmp 22)) (f1*f2+f3*f4):=h.has 6 (by omega) (hall 6 (by omega))
  have cl':=cl
  obtain ⟨x',y',p',ev,-⟩:=cl.agg
  rw [ev] at cl'
  have ea:=h.puts hT (fun i=>match i with
   | 0=>.agg #[.bool s1,.int .u64 x1,.int .u64 y1,.pointer p1]
   | 1=>.agg #[.bool s2,.int .u64 x2,.int .u64 y2,.pointer p2]
   | 2=>a.eval (.tmp 18)
   | 3=>.agg #[.bool s3,.int .u64 x3,.int .u64 y3,.pointer p3]
   | 4=>.agg #[.bool s4,.int .u64 x4,.int .u64 y4,.pointer p4]
   | 5=>a.eval (.tmp 21)
   | _=>.agg #[.bool (decide ((f1*f2+f3*f4).num<0)),.int .u64 x',.int .u64 y',.pointer p']) (fun i hi=>by
   have hc:=h.has i hi (hall i hi)
   have:i=0∨i=1∨i=2∨i=3∨i=4∨i=5∨i=6:=by omega
   rcases this with rfl | rfl | rfl | rfl | rfl | rfl | rfl
   ·exact hc
   ·exact hc
   ·rfl
   ·exact hc
   ·exact hc
   ·rfl
   ·exact ev)
  exact wp_skipped (run_store4 a w _ _ _ _ _ g7 _ x' y' p' e7' ev (c1.but (hdr h.mem) (by simp)) (fun j=>((hdr h.mem).frozen (p:=⟨g7,j,none⟩) lg (by simp)).trans (fz j))) (hK _ _ ⟨w,_,_,_,x',y',p',ea,rfl,hdr h.mem,cl'⟩)
 ·rintro a w ⟨w1,v2,v5,s',x',y',p',rfl,rfl,h1,h2⟩
  exact hQ w1 v2 v5 s' x' y' p' h1 h2
end Go.Proofs.YtloojmaamaambaaGreatDoor

namespace Go.Proofs.YtloojmaamaambaaGreatDoor
open Go.RowKit Go.Shelf
set_option maxHeartbeats 16000000
set_option maxRecDepth 100000
attribute [local go_sem] Oper.semAt_some
theorem calm_grownF {A B:World} {row:Option Nat} (hg:A.grownBy B row) (hr:∀ r,row=some r→∃ o:Obj,A.heap[r]? = some o∧o.isCells=false):Calm A B :=
 ⟨hg.size,fun k i v h=>by
  obtain ⟨o,ho,hc⟩:=cells_of_cell h
  exact grownBy_keeps_cells hg hr ho hc⟩
theorem keepsF_of_but {W V:World} {l gs:List Nat} (hb:But l W V) (hc:∀ g ∈ l,∃ v,W.cell? ⟨g,0,none⟩=some v) (B n₀:Nat) (hn:n₀≤W.heap.size) (hl:∀ g ∈ l,g ∈ gs∨n₀≤g):KeepsFrom B W V∧KeptF n₀ gs W V :=
 ⟨⟨hb.size,fun k o _ hk ho=>by
  have hne:k ∉ l:=by
   intro hkl
   obtain ⟨v,hv⟩:=hc k hkl
   obtain ⟨o',ho',hc'⟩:=cells_of_cell hv
   rw [hk] at ho'
   obtain rfl:=Option.some.inj ho'
   rw [ho] at hc'
   simp at hc'
  exact (hb.block k (Array.getElem?_eq_some_iff.1 hk).1 hne).trans hk⟩,fun k hk hne=>hb.block k (by omega) (fun h=>(hl k h).elim hne (fun h=>by omega))⟩
structure HornI (w W0:World) (g4 g5 g7 g8:Nat) (S:Nat→Bool) (X Y:Nat→Int) (Q:Nat→Option Addr) (fs:List Rat) (o u sum pw:Rat) (W:World):Prop where
 b7:BoxAt W g7 sum
 b8:BoxAt W g8 pw
 b4:BoxAt W g4 o
 b5:BoxAt W g5 u
 all:∀ t,t<fs.length→FracAt W (.agg #[.bool (S t),.int .u64 (X t),.int .u64 (Y t),.pointer (Q t)]) (fs[t]?.getD 0)
 size:W0.heap.size≤W.heap.size
 below:Below w.heap.size w W
theorem HornI.but {w W0:World} {g4 g5 g7 g8:Nat} {S:Nat→Bool} {X Y:Nat→Int} {Q:Nat→Option Addr} {fs:List Rat} {o u sum pw:Rat} {W V:World} (h:HornI w W0 g4 g5 g7 g8 S X Y Q fs o u sum pw W) (hb:But [] W V):HornI w W0 g4 g5 g7 g8 S X Y Q fs o u sum pw V :=
 ⟨h.b7.but hb,h.b8.but hb,h.b4.but hb,h.b5.but hb,fun t ht=>(h.all t ht).but hb,Nat.le_trans h.size hb.size,((But.of_below h.below).trans' hb).below⟩
theorem HornI.calm {w W0:World} {g4 g5 g7 g8:Nat} {S:Nat→Bool} {X Y:Nat→Int} {Q:Nat→Option Addr} {fs:List Rat} {o u sum pw:Rat} {W V:World} (h:HornI w W0 g4 g5 g7 g8 S X Y Q fs o u sum pw W) (hc:Calm W V) (hb:Below w.heap.size w V):HornI w W0 g4 g5 g7 g8 S X Y Q fs o u sum pw V :=
 ⟨h.b7.calm hc,h.b8.calm hc,h.b4.calm hc,h.b5.calm hc,fun t ht=>(h.all t ht).calm hc,Nat.le_trans h.size hc.size,hb⟩
theorem HornI.put7 {w W0:World} {g4 g5 g7 g8:Nat} {S:Nat→Bool} {X Y:Nat→Int} {Q:Nat→Option Addr} {fs:List Rat} {o u sum pw sum':Rat} {W:World} (h:HornI w W0 g4 g5 g7 g8 S X Y Q fs o u sum pw W) (od:w.heap.size≤g4∧g4<g5∧g5<g7∧g7<g8) {s:Bool} {x y:Int} {p:Option Addr} (hf:FracAt W (.agg #[.bool s,.int .u64 x,.int .u64 y,.pointer p]) sum'):HornI w W0 g4 g5 g7 g8 S X Y Q fs o u sum' pw (put4 W g7 s x y p):=by
 have hP:=put4_but W g7 s x y p
 obtain ⟨c,hc⟩:=h.b7.bool
 have hcs:∀ g ∈ [g7],∃ s,W.cell? ⟨g,0,none⟩=some (.bool s):=fun g hg=>by simp at hg;subst hg;exact ⟨c,hc⟩
 exact ⟨h.b7.put hf,h.b8.beside hP (by simp;omega) hcs,h.b4.beside hP (by simp;omega) hcs,h.b5.beside hP (by simp;omega) hcs,fun t ht=>(h.all t ht).over hc hP,Nat.le_trans h.size hP.size,((But.of_below h.below).trans hP (fun x hx=>by simp at hx;subst hx;exact .inr (by omega))).below⟩
theorem HornI.put8 {w W0:World} {g4 g5 g7 g8:Nat} {S:Nat→Bool} {X Y:Nat→Int} {Q:Nat→Option Addr} {fs:List Rat} {o u sum pw pw':Rat} {W:World} (h:HornI w W0 g4 g5 g7 g8 S X Y Q fs o u sum pw W) (od:w.heap.size≤g4∧g4<g5∧g5<g7∧g7<g8) {s:Bool} {x y:Int} {p:Option Addr} (hf:FracAt W (.agg #[.bool s,.int .u64 x,.int .u64 y,.pointer p]) pw'):HornI w W0 g4 g5 g7 g8 S X Y Q fs o u sum pw' (put4 W g8 s x y p):=by
 have hP:=put4_but W g8 s x y p
 obtain ⟨c,hc⟩:=h.b8.bool
 have hcs:∀ g ∈ [g8],∃ s,W.cell? ⟨g,0,none⟩=some (.bool s):=fun g hg=>by simp at hg;subst hg;exact ⟨c,hc⟩
 exact ⟨h.b7.beside hP (by simp;omega) hcs,h.b8.put hf,h.b4.beside hP (by simp;omega) hcs,h.b5.beside hP (by simp;omega) hcs,fun t ht=>(h.all t ht).over hc hP,Nat.le_trans h.size hP.size,((But.of_below h.below).trans hP (fun x hx=>by simp at hx;subst hx;exact .inr (by omega))).below⟩
theorem len_horn (f:Nat→Rat) (o u:Rat) (c:Nat) (ho:Len o c) (hu:Len u c):∀ (l:List Nat) (q:Rat × Rat) (a s:Nat),Len q.1 s→Len q.2 a→(∀ t ∈ l,Len (f t) c)→Len (l.foldl (horn f o u) q).1 (s+l.length*(a+l.length*c+2*c+1))∧Len (l.foldl (horn f o u) q).2 (a+l.length*c)
 | [],q,a,s,h1,h2,_=>⟨h1.mono (by omega),h2.mono (by omega)⟩
 | t::l,q,a,s,h1,h2,h=>by
  have hf:=h t (by simp)
  have l1:Len (horn f o u q t).1 (s+a+2*c+1):=len_add (len_mul h1 ho (s+c) (by omega)) (len_mul hf h2 (c+a) (by omega)) _ (by omega)
  have l2:Len (horn f o u q t).2 (a+c):=len_mul h2 hu _ (by omega)
  have ih:=len_horn f o u c ho hu l (horn f o u q t) (a+c) (s+a+2*c+1) l1 l2 (fun z hz=>h z (by simp [hz]))
  have e0:(t::l).length=l.length+1:=rfl
  have e1:(l.length+1)*c=l.length*c+c:=Nat.succ_mul _ _
  rw [e0]
  refine ⟨ih.1.mono ?_,ih.2.mono (by rw [e1];omega)⟩
  rw [e1,show ∀ z,(l.length+1)*z=l.length*z+z from fun z=>Nat.succ_mul _ _]
  have e2:a+c+l.length*c+2*c+1=a+(l.length*c+c)+2*c+1:=by omega
  rw [e2]
  generalize l.length*(a+(l.length*c+c)+2*c+1)=z
  omega
theorem len_hornL (f:Nat→Rat) (o u:Rat) (c:Nat) (ho:Len o c) (hu:Len u c) (l:List Nat) (h:∀ t ∈ l,Len (f t) c):Len (hornL f o u l).1 (l.length*(l.length*c+2*c+2)+1)∧Len (hornL f o u l).2 (l.length*c+1):=by
 have h1:=len_horn f o u c ho hu l (0,1) 1 1 (len_zero _ (by omega)) (len_int 1 (by decide)) h
 unfold hornL
 refine ⟨h1.1.mono ?_,h1.2.mono (by omega)⟩
 rw [show 1+l.length*c+2*c+1=l.length*c+2*c+2 from by omega]
 omega
theorem safe_any (b off cap n:Nat) (fs:List Rat) (c:Nat) (vo vu:Value) (o u:Rat) (w:World) (hv:FracsAt w (.slice (some ⟨b,off,none⟩) n cap) fs) (hN:n=fs.length) (hn0:0<n) (hn1:n≤50) (ho:FracAt w vo o) (hu:FracAt w vu u) (lf:∀ f ∈ fs,Len f c) (hc:c≤100) (lo:Len o c) (lu:Len u c) :
  Calls Tryz.prog 98 #[.slice (some ⟨b,off,none⟩) n cap,vo,vu] w fun e w'=>e=.returned (.bool (decide ((hornL (fun t=>fs[t]?.getD 0) o u ((downsF fs.length 0).map (·.1))).1≤0)))∧But [] w w':=by
 subst hN
 obtain ⟨S,X,Y,Q,hV⟩:∃ (S:Nat→Bool) (X Y:Nat→Int) (Q:Nat→Option Addr),∀ t,t<fs.length→P4o w b (off+t*4) (S t) (X t) (Y t) (Q t)∧FracAt w (.agg #[.bool (S t),.int .u64 (X t),.int .u64 (Y t),.pointer (Q t)]) (fs[t]?.getD 0):=by
  have h:∀ t,∃ q:Bool × Int × Int × Option Addr,t<fs.length→P4o w b (off+t*4) q.1 q.2.1 q.2.2.1 q.2.2.2∧FracAt w (.agg #[.bool q.1,.int .u64 q.2.1,.int .u64 q.2.2.1,.pointer q.2.2.2]) (fs[t]?.getD 0):=fun t=>by
   by_cases ht:t<fs.length
   ·obtain ⟨s,x,y,p,h1,h2⟩:=hv.get t (by omega)
    exact ⟨(s,x,y,p),fun _=>⟨h1,h2⟩⟩
   ·exact ⟨(false,0,0,none),fun h=>absurd h ht⟩
  obtain ⟨q,hq⟩:=Classical.axiomOfChoice h
  exact ⟨fun t=>(q t).1,fun t=>(q t).2.1,fun t=>(q t).2.2.1,fun t=>(q t).2.2.2,hq⟩
 obtain ⟨ws,wx,FW,CW⟩:=whole_is 1 (by omega) (by omega)
 have HCW:=hide CW
 have HFW:=hide FW
 obtain ⟨x1,y1,p1,rfl,-⟩:=ho.agg
 obtain ⟨x2,y2,p2,rfl,-⟩:=hu.agg
 generalize hsf:decide (o.num<0)=s1 at *
 generalize hsg:decide (u.num<0)=s2 at *
 clear hsf hsg FW CW
 obtain ⟨W1,hW1⟩:∃ W1,W1=((w.alloc (.cells #[.bool s1,.int .u64 x1,.int .u64 y1,.pointer p1] 29)).alloc (.cells #[.bool s2,.int .u64 x2,.int .u64 y2,.pointer p2] 29)).alloc (.cells #[.bool false,.int .u64 0,.int .u64 0,.pointer none] 29):=⟨_,rfl⟩
 have x4:BoxAt W1 w.heap.size o:=by rw [hW1];exact ((BoxAt.new w s1 x1 y1 p1 o 29 ho).but ((But.refl _ _).alloc _)).but ((But.refl _ _).alloc _)
 have x5:BoxAt W1 (w.heap.size+1) u:=by
  rw [hW1]
  have h:=(BoxAt.new (w.alloc (.cells #[.bool s1,.int .u64 x1,.int .u64 y1,.pointer p1] 29)) s2 x2 y2 p2 u 29 (hu.but ((But.refl _ _).alloc _))).but ((But.refl _ _).alloc (.cells #[.bool false,.int .u64 0,.int .u64 0,.pointer none] 29))
  rw [show (w.alloc (.cells #[.bool s1,.int .u64 x1,.int .u64 y1,.pointer p1] 29)).heap.size=w.heap.size+1 from by simp] at h
  exact h
 have x7:BoxAt W1 (w.heap.size+1+1) 0:=by
  rw [hW1]
  have h:=BoxAt.new ((w.alloc (.cells #[.bool s1,.int .u64 x1,.int .u64 y1,.pointer p1] 29)).alloc (.cells #[.bool s2,.int .u64 x2,.int .u64 y2,.pointer p2] 29)) false 0 0 none 0 29 (zero_at _)
  rw [show ((w.alloc (.cells #[.bool s1,.int .u64 x1,.int .u64 y1,.pointer p1] 29)).alloc (.cells #[.bool s2,.int .u64 x2,.int .u64 y2,.pointer p2] 29)).heap.size=w.heap.size+1+1 from by simp] at h
  exact h
 have bW:But [] w W1:=by rw [hW1];exact (((But.refl _ _).alloc _).alloc _).alloc _
 have X4:=hide x4
 have X5:=hide x5
 have X7:=hide x7
 have BW:=hide bW
 have HV:=hide hV
 clear x4 x5 x7 bW hV ho hu hv
 refine (callsIn_wide (n:=4)).1 ?_
 refine callsIn_of_wp_marks Tryz.func98 rfl trivial ?_ rfl
 simp only [Tryz.ntmps98,List.size_toArray,List.length_cons,List.length_nil,Nat.reduceAdd,Nat.reduceSub,Array.replicate_succ,Array.replicate_zero,List.push_toArray,List.append_toArray,List.nil_append,List.cons_append]
 gi_wp2_with fail
 rw [← hW1]
 clear hW1
 refine ⟨trivial,(callsIn_wide.2 (unhide HCW _)).mono ?_⟩
 rintro e V ⟨rfl,hb1⟩
 have BN:=hide ((unhide BW).trans' hb1)
 have X41:=hide ((unhide X4).but hb1)
 have X51:=hide ((unhide X5).but hb1)
 have X71:=hide ((unhide X7).but hb1)
 have l7:w.heap.size+1+1<V.heap.size:=((unhide X7).but hb1).lt
 clear hb1 X4 X5 X7 BW HCW
 generalize hg7:w.heap.size+1+1=g7 at *
 generalize hg5:w.heap.size+1=g5 at *
 generalize hg4:w.heap.size=g4 at *
 gi_wp2_with (refine ⟨trivial,?_⟩;gi_at_call 154;refine (back_inF Fence.wide _ trivial rfl _ _ _ _).mono ?_;rintro e w' ⟨rfl,rfl⟩)
 have e8:=(BoxAt.new V ws wx 0 none ((1:Int):Rat) 29 (unhide HFW V))
 obtain ⟨W0,hW0⟩:∃ W0,(V.alloc (.cells #[.bool ws,.int .u64 wx,.int .u64 0,.pointer none] 29)).alloc (.cells #[.slice (some ⟨b,off,none⟩) fs.length cap] 33)=W0:=⟨_,rfl⟩
 have hz:W0.heap.size=V.heap.size+1+1:=by rw [← hW0];simp
 have b8:BoxAt W0 V.heap.size ((1:Int):Rat):=by rw [← hW0];exact e8.but ((But.refl _ _).alloc _)
 have cB:W0.cell? ⟨V.heap.size+1,0,none⟩=some (.slice (some ⟨b,off,none⟩) fs.length cap):=by
  rw [← hW0]
  have n2:((V.alloc (.cells #[.bool ws,.int .u64 wx,.int .u64 0,.pointer none] 29)).alloc (.cells #[.slice (some ⟨b,off,none⟩) fs.length cap] 33)).cell? ⟨(V.alloc (.cells #[.bool ws,.int .u64 wx,.int .u64 0,.pointer none] 29)).heap.size,0,none⟩=some (.slice (some ⟨b,off,none⟩) fs.length cap):=by rw [World.cell?_alloc_new];rfl
  rw [World.size_alloc] at n2
  exact n2
 have hBV:But [] V W0:=by rw [← hW0];exact ((But.refl _ _).alloc _).alloc _
 rw [hW0]
 clear hW0 e8
 have hB0:But [] w W0:=(unhide BN).trans' hBV
 have b4:=(unhide X41).but hBV
 have b5:=(unhide X51).but hBV
 have b7:=(unhide X71).but hBV
 obtain ⟨g8,hg8⟩:∃ g8,g8=V.heap.size:=⟨_,rfl⟩
 obtain ⟨gB,hgB⟩:∃ gB,gB=V.heap.size+1:=⟨_,rfl⟩
 rw [← hgB] at cB
 rw [← hg8] at b8
 rw [← hgB,← hg8]
 have hbw:b<w.heap.size:=lt_of_cell (unhide HV 0 hn0).1.1
 have hord:w.heap.size≤g4∧g4<g5∧g5<g7∧g7<g8:=by omega
 have oB:g8<gB:=by omega
 have oW:gB<W0.heap.size:=by omega
 have hlw:=fun t (ht:t<fs.length)=>show Len (fs[t]?.getD 0) c by rw [List.getElem?_eq_getElem ht];exact lf _ (List.getElem_mem ht)
 have HLW:=hide hlw
 have HORD:=hide hord
 have ob7:b<g4:=by omega
 clear hg8 hgB hz hlw
 refine wpIn_rangeFunc_ownH rfl (by omega) (gf:=187) (lb:=#[.pointer (some ⟨gB,0,none⟩)]) rfl trivial (enters_of Tryz.func187 (by kernel_rfl) rfl)
  (back_stopsF Fence.wide _ trivial rfl (by omega) gB W0.heap.size [g7,g8] b off fs.length cap S X Y Q (by omega) W0 (by omega) (by simp;omega) (Nat.le_refl _) cB (by omega) (by simp;omega) (fun j hj=>(unhide HV j hj).1.but hB0 (by simp)))
  (fun h k=>KeptF.trans h k) (fun W l o o' hl _ _ _=>KeptF.put W l o' hl) (Below.refl _ _) (fun _=>rfl)
  (fun (pre:List (Fin fs.length)) W=>HornI w W0 g4 g5 g7 g8 S X Y Q fs o u (hornL (fun t=>fs[t]?.getD 0) o u (pre.map (fun z:Fin fs.length=>z.1))).1 (hornL (fun t=>fs[t]?.getD 0) o u (pre.map (fun z:Fin fs.length=>z.1))).2 W)
  (fun _ _ _=>False)
  (fun pre A B row hi hg hr=>hi.calm (calm_grownF hg (fun r e=>(hr r e).2)) (ownFrom_below (β:=Unit) (Nat.le_refl _) (by omega) () A B row hi.below hg hr))
  (fun _ _ _ _ _ h _ _=>h)
  ⟨b7,b8,b4,b5,fun t ht=>(unhide HV t ht).2.but hB0,Nat.le_refl _,hB0.below⟩
  (fun x a' W=>∃ Bx,W0.heap.size≤Bx∧BoxAt W Bx (fs[x.1]?.getD 0)∧a'={ tmps:=#[.slice (some ⟨b,off,none⟩) fs.length cap,.agg #[.bool s1,.int .u64 x1,.int .u64 y1,.pointer p1],.agg #[.bool s2,.int .u64 x2,.int .u64 y2,.pointer p2],undef,.pointer (some ⟨g4,0,none⟩),.pointer (some ⟨g5,0,none⟩),.bool false,.pointer (some ⟨g7,0,none⟩),.pointer (some ⟨g8,0,none⟩),undef,.pointer (some ⟨Bx,0,none⟩),.agg #[.bool ws,.int .u64 wx,.int .u64 0,.pointer none],.slice (some ⟨b,off,none⟩) fs.length cap,.func (.func 187) #[] #[.pointer (some ⟨gB,0,none⟩)],.int .i64 ((x.1:Nat):Int),.agg #[.bool (S x.1),.int .u64 (X x.1),.int .u64 (Y x.1),.pointer (Q x.1)],undef,undef,undef,undef,undef,undef,undef,undef,undef,undef,undef,undef,undef],defers:=[] })
  (fun x a' _ A B row ⟨Bx,h0,h1,e⟩ hg hr=>⟨Bx,h0,h1.calm (calm_grownF hg (fun r e=>(hr r e).2)),e⟩) ?assign ?body ?done ?stop
 case assign =>
  rintro l pre x W K hi hK
  gi_wp2
  have hbn:=(But.refl [] W).alloc (.cells #[.bool (S x.1),.int .u64 (X x.1),.int .u64 (Y x.1),.pointer (Q x.1)] 29)
  exact hK _ _ ((KeepsOthers.alloc _ _).from _) (fun k hk _=>hbn.block k (by have:=hi.size;omega) (by simp)) (hi.but hbn) ⟨W.heap.size,hi.size,BoxAt.new W _ _ _ _ _ 29 (hi.all x.1 x.2),rfl⟩
 case body =>
  rintro l pre ⟨t,ht⟩ a' W hl' ⟨rec,hrec⟩ hi ⟨Bx,hBx,hx,rfl⟩ hlt
  have hlen:∀ s ∈ pre.map (·.1),Len ((fun t=>fs[t]?.getD 0) s) c:=fun s hs=>by
   obtain ⟨y,-,rfl⟩:=List.mem_map.1 hs
   exact unhide HLW y.1 y.2
  have hw:=len_hornL (fun t=>fs[t]?.getD 0) o u c lo lu (pre.map (·.1)) hlen
  have hsn:Hid (hornL (fun t=>fs[t]?.getD 0) o u ((pre++[(⟨t,ht⟩:Fin fs.length)]).map (·.1))=horn (fun t=>fs[t]?.getD 0) o u (hornL (fun t=>fs[t]?.getD 0) o u (pre.map (·.1))) t):=by
   show _=_
   rw [List.map_append]
   unfold hornL
   rw [List.foldl_append]
   rfl
  rw [List.length_map] at hw
  have hpl:pre.length≤50:=by omega
  have m1:pre.length*c≤50*100:=Nat.mul_le_mul hpl hc
  have m2:pre.length*(pre.length*c+2*c+2)≤50*5202:=Nat.mul_le_mul hpl (by omega)
  have ls:=hw.1.mono (show pre.length*(pre.length*c+2*c+2)+1≤261000 by omega)
  have lp:=hw.2.mono (show pre.length*c+1≤5001 by omega)
  generalize hornL (fun t=>fs[t]?.getD 0) o u (pre.map (·.1))=q at *
  obtain ⟨sm,pw⟩:=q
  dsimp only at hi hx ls lp
  have HI:=hide hi
  have HX:=hide hx
  have lt':=unhide HLW t ht
  obtain ⟨⟨s7,x7,y7,p7,c7,f7⟩,z7⟩:=id hi.b7
  obtain ⟨⟨t4,a4,b4',q4,c4,f4⟩,-⟩:=id hi.b4
  obtain ⟨⟨sx,xx,yx,px,cx,fx⟩,-⟩:=id hx
  obtain ⟨⟨s8,x8,y8,p8,c8,f8⟩,-⟩:=id hi.b8
  clear hi hx hw m1 m2 hlen
  gi_wp2
  refine safe_region5 5 l _ _ _ W s7 x7 y7 p7 t4 a4 b4' q4 sx xx yx px s8 x8 y8 p8 sm o (fs[t]?.getD 0) pw g7 g4 Bx g8 (by simp) (by simp [Act.eval]) (by simp [Act.eval]) (by simp [Act.eval]) (by simp [Act.eval]) c7 z7 c4 cx c8 (fun w' hb=>fracMul_any _ _ _ _ w' (f7.but hb) (f4.but hb) (ls.mono (by omega)) (lo.mono (by omega))) (fun w' hb=>fracMul_any _ _ _ _ w' (fx.but hb) (f8.but hb) (lt'.mono (by omega)) (lp.mono (by omega))) (fun w' v v' hb h1 h2=>fracAdd_gen 300000 10000 (by omega) _ _ _ _ w' h1 h2 (len_mul ls lo 300000 (by omega)) (len_mul lt' lp 10000 (by omega))) ?_
  intro w1 v2 v5 s' x' y' p' hb1 hf1
  simp only [putted,List.foldl_cons,List.foldl_nil,Act.put,List.setIfInBounds_toArray,List.set_cons_zero,List.set_cons_succ]
  have I1:=hide (((unhide HI).but hb1).put7 (unhide HORD) hf1)
  have JB:Hid (But [g7,g8] W (put4 w1 g7 s' x' y' p')):=(But.of_nil hb1).trans (put4_but w1 g7 s' x' y' p') (fun z hz=>by simp at hz;subst hz;exact .inl (by simp))
  clear hb1 hf1 c7 z7 c4 cx c8 f7 f4 fx f8
  generalize put4 w1 g7 s' x' y' p'=V1 at *
  obtain ⟨⟨s8,x8,y8,p8,⟨k0,k1,k2,k3⟩,f8⟩,z8⟩:=id (unhide I1).b8
  obtain ⟨⟨s5,x5,y5,p5,⟨l0,l1,l2,l3⟩,f5⟩,-⟩:=id (unhide I1).b5
  have MU:=hide (in_parts (fracMul_any _ _ _ _ V1 f8 f5 (lp.mono (by omega)) (lu.mono (by omega))))
  have gl8:g8<V1.heap.size:=lt_of_cell k0
  clear f8 f5
  gi_wp2_with fail
  refine ⟨trivial,(CallsIn.inRound l (callsIn_wide.2 (unhide MU))).mono ?_⟩
  rintro e w2 ⟨s3,x3,y3,p3,rfl,hf3,hb3⟩
  have I3:=hide ((unhide I1).but hb3)
  have HF3:=hide hf3
  have JB3:=hide ((unhide JB).trans (But.of_nil (l:=[g7,g8]) hb3) (fun z hz=>.inl hz))
  obtain ⟨⟨s9,x9,y9,p9,⟨k0',k1',k2',k3'⟩,-⟩,z9⟩:=id (unhide I3).b8
  have gl8':g8<w2.heap.size:=lt_of_cell k0'
  clear hf3 hb3 MU k0 k1 k2 k3 l0 l1 l2 l3 z8 I1 JB
  gi_wp2
  have hi5:=(unhide I3).put8 (unhide HORD) (unhide HF3)
  have kp:=keepsF_of_but (l:=[g7,g8]) (gs:=[g7,g8]) ((unhide JB3).trans (put4_but w2 g8 s3 x3 y3 p3) (fun z hz=>by simp at hz;subst hz;exact .inl (by simp))) (fun z hz=>by
   simp at hz
   rcases hz with rfl | rfl
   ·exact ⟨_,(unhide HI).b7.bool.choose_spec⟩
   ·exact ⟨_,(unhide HI).b8.bool.choose_spec⟩) W0.heap.size W0.heap.size (unhide HI).size (fun z hz=>.inl hz)
  refine ⟨kp.1,kp.2,?_⟩
  show HornI w W0 g4 g5 g7 g8 S X Y Q fs o u _ _ _
  rw [unhide hsn]
  exact hi5
 case done =>
  rintro D ys W hD rfl hi hK
  obtain ⟨⟨s7,x7,y7,p7,⟨a0,a1,a2,a3⟩,f7⟩,z7⟩:=id hi.b7
  have SG:=hide (fracSign_any _ _ W f7)
  have HI:=hide hi
  have HK:=hide hK
  have hDl:D<W.heap.size:=(Array.getElem?_eq_some_iff.1 hK).1
  generalize hsm:(hornL (fun t=>fs[t]?.getD 0) o u ((downsF fs.length 0).map (fun z:Fin fs.length=>z.1))).1=sm at *
  obtain ⟨sg,hsg⟩:∃ sg,sg=sm.num.sign:=⟨_,rfl⟩
  rw [← hsg] at SG
  have es:decide (sg≤0)=decide (sm≤0):=by
   have h1:sm≤0↔sm.num≤0:=by rw [Rat.le_iff];simp
   have h2:sg≤0↔sm.num≤0:=by
    rw [hsg]
    rcases Int.lt_trichotomy sm.num 0 with h | h | h
    ·rw [Int.sign_eq_neg_one_of_neg h];omega
    ·rw [h];decide
    ·rw [Int.sign_eq_one_of_pos h];omega
   by_cases h:sg≤0
   ·rw [decide_eq_true h,decide_eq_true (h1.2 (h2.1 h))]
   ·rw [decide_eq_false h,decide_eq_false (fun h'=>h (h2.2 (h1.1 h')))]
  have HES:=hide es
  have HSM:=hide hsm
  clear hi hK f7 z7 es hsg hsm
  gi_wp2_with fail
  refine ⟨trivial,(callsIn_wide.2 (unhide SG)).mono ?_⟩
  rintro e w5 ⟨rfl,hb5⟩
  have hK5:Hid (w5.heap[D]? = some (.deferred (some []))):=(hb5.block D hDl (by simp)).trans (unhide HK)
  have I5:=hide ((unhide HI).but hb5)
  clear hb5 SG a0 a1 a2 a3 HI HK
  gi_wp2
  have hB1:But [] w w5:=But.of_below (unhide I5).below
  have hB2:But [] w (w5.putObj D (.deferred none)):=hB1.trans (l':=[D]) ⟨rfl,rfl,rfl,by simp,fun k _ hk=>World.putObj_heap_other (by simpa using hk)⟩ (fun x hx=>by simp at hx;subst hx;exact .inr (by omega))
  refine ⟨by simp,.inl ⟨_,_,rfl,run_takeDeferred (unhide hK5),?_⟩⟩
  refine ⟨.bool (decide (sg≤0)),(by simp [results,Tryz.results98,go_sem]),?_,hB2⟩
  rw [unhide HES,← unhide HSM]
 case stop =>
  rintro D c pre W _ _ h
  exact h.elim
end Go.Proofs.YtloojmaamaambaaGreatDoor
