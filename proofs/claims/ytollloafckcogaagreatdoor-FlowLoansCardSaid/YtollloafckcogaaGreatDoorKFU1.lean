/- The library's iterator over a list from  -/
import Derived.RangeFuncNested
import Derived.RangeFuncBound
import Derived.RangeFuncCalls
import Derived.RangeFuncLeaves
import Derived.Shelf.Abstract
import Derived.Shelf.RegionOpen
import Derived.WalkKit
import Derived.OwnWalkIn
import Derived.TacticsInMore
import Derived.LoopNIn
import Derived.LoopIn
import Derived.Test.YtollloafckcogaaGreatDoorProg
import Derived.Test.YtollloafckcogaaGreatDoorKFF10
namespace Go.Proofs.YtollloafckcogaaGreatDoor
open Go.RowKit Go.Shelf
set_option maxHeartbeats 4000000
set_option maxRecDepth 100000
attribute [local go_sem] Oper.semAt_some
def downs (len k:Nat):List (Fin len):=((List.finRange len).drop k).reverse
theorem downs_end (len:Nat):downs len len=[]:=by unfold downs;rw [List.drop_eq_nil_of_le (by simp)];rfl
theorem downs_next (len k:Nat) (h:k<len):downs len k=downs len (k+1)++[⟨k,h⟩]:=by
 unfold downs
 rw [List.drop_eq_getElem_cons (by simpa using h),List.reverse_cons]
 simp
theorem downs_length (len k:Nat):(downs len k).length=len-k:=by unfold downs;simp
def Kept (n₀ g:Nat) (A B:World):Prop:=∀ k,k<n₀→k≠g→B.heap[k]? = A.heap[k]?
theorem Kept.refl (n₀ g:Nat) (A:World):Kept n₀ g A A:=fun _ _ _=>rfl
theorem Kept.trans {n₀ g:Nat} {A B C:World} (h:Kept n₀ g A B) (k:Kept n₀ g B C):Kept n₀ g A C:=fun i h1 h2=>(k i h1 h2).trans (h i h1 h2)
theorem Kept.cell {n₀ g:Nat} {A B:World} (h:Kept n₀ g A B) {p:Addr} (hp:p.block<n₀) (hn:p.block≠g):B.cell? p=A.cell? p:=World.cell?_of_block (w:=A) (h p.block hp hn)
theorem Kept.put {n₀ g:Nat} (W:World) (l:Nat) (o:Obj) (hl:n₀≤l):Kept n₀ g W (W.putObj l o):=fun k hk _=>World.putObj_heap_other (by omega)
theorem back1_in (F:Fence) (n:Nat) (hf:F.fn 142) (hro:F.round=none) (hn:1≤n) (l Bs n₀ g b off len cap:Nat) (S:Nat→Bool) (X Y:Nat→Int) (Q:Nat→Option Addr) (hreach:len≤1000000) (hb:b<n₀) (hbg:b≠g) (J Jx:List (Fin len)→World→Prop)
  (hY:∀ pre (x:Fin len) W,J pre W→pre.length<len→YieldAt F (n-1) Tryz.prog l #[.int .i64 ((x.1:Nat):Int),.agg #[.bool (S x.1),.int .u64 (X x.1),.int .u64 (Y x.1),.pointer (Q x.1)]] W fun e W' =>
   (e=.returned (.bool true)∧J (pre++[x]) W'∧Kept n₀ g W W')∨(e=.returned (.bool false)∧Jx (pre++[x]) W'))
  (W:World) (hBs:W.cell? ⟨Bs,0,none⟩=some (.slice (some ⟨b,off,none⟩) len cap)) (hBn:Bs<n₀) (hBg:Bs≠g)
  (hc:∀ j,j<len→W.cell? ⟨b,off+j*4,none⟩=some (.bool (S j))∧W.cell? ⟨b,off+j*4+1,none⟩=some (.int .u64 (X j))∧W.cell? ⟨b,off+j*4+2,none⟩=some (.int .u64 (Y j))∧W.cell? ⟨b,off+j*4+3,none⟩=some (.pointer (Q j))) (h0:J [] W) :
  CallsIn F n Tryz.prog 142 #[.func (.yield l) #[] #[],.pointer (some ⟨Bs,0,none⟩)] W fun e W'=>(∃ v,e=.returned v) ∧
   ((∃ ys,ys=downs len 0∧J ys W')∨(∃ pre,True∧Jx pre W')):=by
 refine callsIn_of_wp Tryz.func142 rfl hf ?_ hro
 simp only [Tryz.ntmps142,List.size_toArray,List.length_cons,List.length_nil,Nat.reduceAdd,Nat.reduceSub,Array.replicate_succ,Array.replicate_zero,List.push_toArray,List.append_toArray,List.nil_append,List.cons_append]
 gi_wp2
 gi_loopw [3] (fun i wr=>∃ k:Nat,k≤len∧i=.int .i64 ((k:Int)-1)∧J (downs len k) wr∧Kept n₀ g W wr) (fun i _=>(intOf i+1).toNat)
 case atStart=>exact ⟨len,Nat.le_refl _,rfl,by rw [downs_end];exact h0,Kept.refl _ _ _⟩
 case round =>
  obtain ⟨k,hk,rfl,hJs,hnx⟩:=hrel
  by_cases hlt:k=0
  ·subst hlt
   gi_wp2
   go_end0
   exact ⟨⟨_,rfl⟩,.inl ⟨_,rfl,hJs⟩⟩
  ·obtain ⟨j,rfl⟩:∃ j,k=j+1:=⟨k-1,by omega⟩
   rw [show (((j+1:Nat):Int)-1)=(j:Int) from by omega]
   obtain ⟨fn,tmps,assign,body,hy,hR⟩:=hY _ ⟨j,by omega⟩ wr hJs (by rw [downs_length];omega)
   dsimp only at hy
   obtain ⟨c0,c1,c2,c3⟩:=hc j (by omega)
   have c0':=(hnx.cell (p:=⟨b,off+j*4,none⟩) hb hbg).trans c0
   have c1':=(hnx.cell (p:=⟨b,off+j*4+1,none⟩) hb hbg).trans c1
   have c2':=(hnx.cell (p:=⟨b,off+j*4+2,none⟩) hb hbg).trans c2
   have c3':=(hnx.cell (p:=⟨b,off+j*4+3,none⟩) hb hbg).trans c3
   have hBs':=(hnx.cell (p:=⟨Bs,0,none⟩) hBn hBg).trans hBs
   clear hc c0 c1 c2 c3
   gi_wp2
   refine hR.mono ?_
   rintro e W3 (⟨rfl,hJ3,hk3⟩ | ⟨rfl,hJx3⟩)
   ·gi_wp2
    go_roundw
    case rel=>exact ⟨j,by omega,by simp,by rw [downs_next len j (by omega)];exact hJ3,hnx.trans hk3⟩
    case measure=>simp [intOf]
   ·gi_wp2
    refine bodyPost_ret (results_none rfl _ _ _) rfl ?_
    exact ⟨⟨_,rfl⟩,.inr ⟨_,trivial,hJx3⟩⟩
theorem back_stops (F:Fence) (n:Nat) (hf:F.fn 142) (hro:F.round=none) (hn:1≤n) (Bs n₀ g b off len cap:Nat) (S:Nat→Bool) (X Y:Nat→Int) (Q:Nat→Option Addr) (hreach:len≤1000000) (w:World) (hb:b<n₀) (hbg:b≠g) (hn₀:n₀≤w.heap.size)
  (hBs:w.cell? ⟨Bs,0,none⟩=some (.slice (some ⟨b,off,none⟩) len cap)) (hBn:Bs<n₀) (hBg:Bs≠g)
  (hc:∀ j,j<len→w.cell? ⟨b,off+j*4,none⟩=some (.bool (S j))∧w.cell? ⟨b,off+j*4+1,none⟩=some (.int .u64 (X j))∧w.cell? ⟨b,off+j*4+2,none⟩=some (.int .u64 (Y j))∧w.cell? ⟨b,off+j*4+3,none⟩=some (.pointer (Q j))) :
  SeqStopsK F n Tryz.prog 142 #[.pointer (some ⟨Bs,0,none⟩)] (fun x:Fin len=>#[.int .i64 ((x.1:Nat):Int),.agg #[.bool (S x.1),.int .u64 (X x.1),.int .u64 (Y x.1),.pointer (Q x.1)]]) (Kept n₀ g) (fun ys=>ys=downs len 0) (fun _=>True) len w:=fun l J Jx W hW _ _ hY h0 =>
 back1_in F n hf hro hn l Bs n₀ g b off len cap S X Y Q hreach hb hbg J Jx hY W ((hW.cell (p:=⟨Bs,0,none⟩) (by show Bs<_;omega)).trans hBs) hBn hBg (fun j hj=>by
  obtain ⟨c0,c1,c2,c3⟩:=hc j hj
  have hbl:b<w.heap.size:=by omega
  exact ⟨(hW.cell (p:=⟨b,off+j*4,none⟩) hbl).trans c0,(hW.cell (p:=⟨b,off+j*4+1,none⟩) hbl).trans c1,(hW.cell (p:=⟨b,off+j*4+2,none⟩) hbl).trans c2,(hW.cell (p:=⟨b,off+j*4+3,none⟩) hbl).trans c3⟩) h0
theorem back_in (F:Fence) (n:Nat) (hf:F.fn 106) (hro:F.round=none) (a:Option Addr) (len cap:Nat) (w:World) :
  CallsIn F n Tryz.prog 106 #[.slice a len cap] w fun e w'=>e=.returned (.func (.func 142) #[] #[.pointer (some ⟨w.heap.size,0,none⟩)])∧w'=w.alloc (.cells #[.slice a len cap] 42):=by
 refine callsIn_of_wp Tryz.func106 rfl hf ?_ hro
 simp only [Tryz.ntmps106,List.size_toArray,List.length_cons,List.length_nil,Nat.reduceAdd,Nat.reduceSub,Array.replicate_succ,Array.replicate_zero,List.push_toArray,List.append_toArray,List.nil_append,List.cons_append]
 gi_wp2
 go_ret
 exact ⟨rfl,rfl⟩
end Go.Proofs.YtollloafckcogaaGreatDoor

namespace Go.Proofs.YtollloafckcogaaGreatDoor
open Go.RowKit
set_option maxRecDepth 100000
theorem run_growth (a:Act) (w:World) (d t1:Nat) (u:TypeId) (ps:String) (ed:Array Edge) (x1:Value) (h1:a.eval (.tmp t1)=x1) :
  (execOp a.eval { dst:=some d,op:=Op.call { callee:=Callee.value (Operand.func 52),args:=#[Operand.tmp t1],argTypes:=#[27] },type:=u,pos:=ps,after:=ed,guard:=none }).run Tryz.prog w=.ok (.enter 52 #[x1]) w:=by
 unfold execOp
 go_simp
 rw [← h1]
 simp [Act.eval]
theorem run_divided (a:Act) (w:World) (d t1 t2:Nat) (u:TypeId) (ps:String) (ed:Array Edge) (x1 x2:Value) (h1:a.eval (.tmp t1)=x1) (h2:a.eval (.tmp t2)=x2) :
  (execOp a.eval { dst:=some d,op:=Op.call { callee:=Callee.value (Operand.func 51),args:=#[Operand.tmp t1,Operand.tmp t2],argTypes:=#[27,27] },type:=u,pos:=ps,after:=ed,guard:=none }).run Tryz.prog w=.ok (.enter 51 #[x1,x2]) w:=by
 unfold execOp
 go_simp
 rw [← h1,← h2]
 simp [Act.eval]
def opW0:Oper:={ dst:=some 17,op:=Op.load 27 (Operand.tmp 5),type := 27,pos := "flow.go:71",after:=#[],guard:=none }
def opW1:Oper:={ dst:=some 18,op:=Op.load 42 (Operand.tmp 3),type := 42,pos := "flow.go:71",after:=#[],guard:=none }
def opW2:Oper:={ dst:=some 19,op:=Op.move (Operand.tmp 6),type := 3,pos := "flow.go:71",after:=#[],guard:=none }
def opW3:Oper:={ dst:=some 20,op:=Op.binOp BinOp.sub 3 (Operand.tmp 19) (Operand.const (Value.int IntKind.i64 1)) 3,type := 3,pos := "flow.go:71",after:=#[⟨2,.data⟩],guard:=none }
def opW4:Oper:={ dst:=some 21,op:=Op.indexAddr 42 (Operand.tmp 18) (Operand.tmp 20),type:=0,pos := "flow.go:71",after:=#[⟨1,.data⟩,⟨3,.data⟩],guard:=none }
def opW5:Oper:={ dst:=some 22,op:=Op.load 27 (Operand.tmp 21),type := 27,pos := "flow.go:71",after:=#[⟨4,.data⟩],guard:=none }
def opW6:Oper:={ dst:=some 23,op:=Op.call { callee:=Callee.value (Operand.func 52),args:=#[Operand.tmp 22],argTypes:=#[27] },type := 27,pos := "flow.go:71",after:=#[⟨5,.data⟩],guard:=none }
def opW7:Oper:={ dst:=some 24,op:=Op.call { callee:=Callee.value (Operand.func 51),args:=#[Operand.tmp 17,Operand.tmp 23],argTypes:=#[27,27] },type := 27,pos := "flow.go:71",after:=#[⟨0,.data⟩,⟨6,.data⟩,⟨6,.chain⟩],guard:=none }
def opW8:Oper:={ dst:=none,op:=Op.store 27 (Operand.tmp 5) (Operand.tmp 24),type:=0,pos := "flow.go:71",after:=#[⟨7,.data⟩,⟨7,.chain⟩,⟨0,.phase⟩,⟨1,.phase⟩,⟨2,.phase⟩,⟨3,.phase⟩,⟨4,.phase⟩,⟨5,.phase⟩,⟨6,.phase⟩,⟨7,.phase⟩],guard:=none }
def opsW:Array Oper:=#[opW0,opW1,opW2,opW3,opW4,opW5,opW6,opW7,opW8]
def worthC (s:Bool) (x y:Int) (p:Option Addr) (b off n c t:Nat) (sr:Bool) (xr yr:Int) (pr:Option Addr) (f r:Rat) (i:Nat) (w:World) (v:Value):Prop:=match i with
 | 0=>v=.agg #[.bool s,.int .u64 x,.int .u64 y,.pointer p]
 | 1=>v=.slice (some ⟨b,off,none⟩) n c
 | 2=>v=.int .i64 ((t+1:Nat):Int)
 | 3=>v=.int .i64 (t:Int)
 | 4=>v=.pointer (some ⟨b,off+t*4,none⟩)
 | 5=>v=.agg #[.bool sr,.int .u64 xr,.int .u64 yr,.pointer pr]
 | 6=>FracAt w v (1+r)
 | _=>FracAt w v (f/(1+r))
theorem worth_region (id l0 n0:Nat) (Q:Exit→Act→World→Prop) (base:Act) (W0:World) (g5 g3 b off n c t:Nat) (s:Bool) (x y:Int) (p:Option Addr) (sr:Bool) (xr yr:Int) (pr:Option Addr) (f r:Rat)
  (hs:24<base.tmps.size) (e5:base.eval (.tmp 5)=.pointer (some ⟨g5,0,none⟩)) (e3:base.eval (.tmp 3)=.pointer (some ⟨g3,0,none⟩)) (e6:base.eval (.tmp 6)=.int .i64 ((t+1:Nat):Int))
  (c5:P4 W0 g5 s x y p) (hf:FracAt W0 (.agg #[.bool s,.int .u64 x,.int .u64 y,.pointer p]) f) (c3:W0.cell? ⟨g3,0,none⟩=some (.slice (some ⟨b,off,none⟩) n c)) (ht:t<n) (hn:n<1000000)
  (cr:P4o W0 b (off+t*4) sr xr yr pr) (hr:FracAt W0 (.agg #[.bool sr,.int .u64 xr,.int .u64 yr,.pointer pr]) r) (lr:Len r 1) (lf:Len f 1000000) (h0:(1+r).num≠0) (fz:∀ j,W0.frozen? ⟨g5,j,none⟩=false)
  (hQ:∀ a w1 s' x' y' p',But [] W0 w1→FracAt w1 (.agg #[.bool s',.int .u64 x',.int .u64 y',.pointer p']) (f/(1+r))→Q .normal a (put4 w1 g5 s' x' y' p')) :
  (Code.region id opsW true).wpIn (Fence.wide.inRound l0) n0 Tryz.prog Q base W0:=by
 have lg:g5<W0.heap.size:=lt_of_cell c5.1
 have lr3:Len (1+r) 1000000:=(len_add (len_int 1 (by decide)) lr 3 (by omega)).mono (by omega)
 have hd:∀ {w},But [] W0.drew w→But [] W0 w:=fun h=>(But.refl _ _).drew.trans' h
 refine region_flowR (by kernel_rfl) (calm_of (by kernel_rfl)) (low_of (by kernel_rfl))
  (worthC s x y p b off n c t sr xr yr pr f r) (fun i=>17+i) 8 rfl (fun i j _ _ e=>by omega) (fun i hi=>by omega) ?_ (fun i hi=>?_) ?_
  (fun w=>∃ w1 s' x' y' p',w=put4 w1 g5 s' x' y' p'∧But [] W0 w1∧FracAt w1 (.agg #[.bool s',.int .u64 x',.int .u64 y',.pointer p']) (f/(1+r))) ?_ ?_
 ·intro i w w' v hi h hb
  have:i=0∨i=1∨i=2∨i=3∨i=4∨i=5∨i=6∨i=7:=by omega
  rcases this with rfl | rfl | rfl | rfl | rfl | rfl | rfl | rfl
  all_goals first | exact h | exact FracAt.but h hb
 ·have hh:=dep_of (ops:=opsW) (ps:=[(8,0),(8,1),(8,2),(8,3),(8,4),(8,5),(8,6),(8,7)]) (by kernel_rfl) 8 i (by
   have:i=0∨i=1∨i=2∨i=3∨i=4∨i=5∨i=6∨i=7:=by omega
   rcases this with rfl | rfl | rfl | rfl | rfl | rfl | rfl | rfl <;> simp)
  exact hh
 ·intro i o a w K hi ho hb he hdep hK
  have:i=0∨i=1∨i=2∨i=3∨i=4∨i=5∨i=6∨i=7:=by omega
  have hD:=dep_have (ps:=[(3,2),(4,1),(4,3),(5,4),(6,5),(7,0),(7,6)]) (by kernel_rfl) ho (fun j=>worthC s x y p b off n c t sr xr yr pr f r j w (a.eval (.tmp (17+j)))) hdep
  have e5':=(he 5 (fun j _=>by omega)).trans e5
  have e3':=(he 3 (fun j _=>by omega)).trans e3
  have e6':=(he 6 (fun j _=>by omega)).trans e6
  rcases this with rfl | rfl | rfl | rfl | rfl | rfl | rfl | rfl
  ·obtain rfl:=Option.some.inj ((show opsW[0]? = some opW0 from rfl).symm.trans ho)
   exact wp_value (run_load4 a w _ _ _ _ _ g5 0 _ _ _ _ e5' (c5.but (hd hb) (by simp))) (hK _ _ (But.refl _ _) rfl)
  ·obtain rfl:=Option.some.inj ((show opsW[1]? = some opW1 from rfl).symm.trans ho)
   exact wp_value (run_load1 a w _ _ _ _ _ g3 _ _ _ e3' ((hd hb).cell_some c3 (by simp))) (hK _ _ (But.refl _ _) rfl)
  ·obtain rfl:=Option.some.inj ((show opsW[2]? = some opW2 from rfl).symm.trans ho)
   exact wp_value (run_moved a w _ _ _ _ _ _ e6') (hK _ _ (But.refl _ _) rfl)
  ·obtain rfl:=Option.some.inj ((show opsW[3]? = some opW3 from rfl).symm.trans ho)
   exact wp_value (run_less1 a w _ _ _ _ _ t (by omega) (hD 2 (by simp))) (hK _ _ (But.refl _ _) rfl)
  ·obtain rfl:=Option.some.inj ((show opsW[4]? = some opW4 from rfl).symm.trans ho)
   exact wp_value (run_indexed a w _ _ _ _ _ _ b off n c t ht hn (hD 1 (by simp)) (hD 3 (by simp))) (hK _ _ (But.refl _ _) rfl)
  ·obtain rfl:=Option.some.inj ((show opsW[5]? = some opW5 from rfl).symm.trans ho)
   exact wp_value (run_load4 a w _ _ _ _ _ b _ _ _ _ _ (hD 4 (by simp)) (cr.but (hd hb) (by simp))) (hK _ _ (But.refl _ _) rfl)
  ·obtain rfl:=Option.some.inj ((show opsW[6]? = some opW6 from rfl).symm.trans ho)
   exact wp_enter (run_growth a w _ _ _ _ _ _ (hD 5 (by simp))) (R:=fun w' v=>FracAt w' v (1+r)∧But [] w w') (growth_any _ r w (hr.but (hd hb)) lr) (fun v w' hv=>hK v w' hv.2 hv.1)
  ·obtain rfl:=Option.some.inj ((show opsW[7]? = some opW7 from rfl).symm.trans ho)
   exact wp_enter (run_divided a w _ _ _ _ _ _ _ _ (hD 0 (by simp)) rfl) (R:=fun w' v=>FracAt w' v (f/(1+r))∧But [] w w') (divided_any _ _ f (1+r) w (hf.but (hd hb)) (hD 6 (by simp)) lf lr3 h0) (fun v w' hv=>hK v w' hv.2 hv.1)
 ·intro o a w K ho hb he hall hK
  have e5':=(he 5 (fun j _=>by omega)).trans e5
  obtain rfl:=Option.some.inj ((show opsW[8]? = some opW8 from rfl).symm.trans ho)
  have h7:FracAt w (a.eval (.tmp 24)) (f/(1+r)):=hall 7 (by omega)
  have h7':=h7
  obtain ⟨x',y',p',ev,-⟩:=h7.agg
  rw [ev] at h7'
  exact wp_skipped (run_store4 a w _ _ _ _ _ g5 _ x' y' p' e5' ev (c5.but (hd hb) (by simp)) (fun j=>((hd hb).frozen (p:=⟨g5,j,none⟩) lg (by simp)).trans (fz j))) (hK _ _ ⟨w,_,x',y',p',rfl,hd hb,h7'⟩)
 ·rintro a w ⟨w1,s',x',y',p',rfl,h1,h2⟩
  exact hQ a w1 s' x' y' p' h1 h2
end Go.Proofs.YtollloafckcogaaGreatDoor

namespace Go.Proofs.YtollloafckcogaaGreatDoor
open Go.RowKit
theorem calm_of_grown {A B:World} {row:Option Nat} (hg:A.grownBy B row) (hr:∀ r,row=some r→∃ o:Obj,A.heap[r]? = some o∧o.isCells=false):Calm A B :=
 ⟨hg.size,fun k i v h=>by
  obtain ⟨o,ho,hc⟩:=cells_of_cell h
  exact grownBy_keeps_cells hg hr ho hc⟩
end Go.Proofs.YtollloafckcogaaGreatDoor

namespace Go.Proofs.YtollloafckcogaaGreatDoor
open Go.RowKit
set_option maxHeartbeats 4000000
set_option maxRecDepth 100000
theorem Fill.made (w:World) (k:Nat) (s:Bool) (x y:Int) (p:Option Addr):Fill (w.alloc (.cells (madeCells #[.bool false,.int .u64 0,.int .u64 0,.pointer none] (k*4)) 27)) w.heap.size k 0 s x y p :=
 ⟨fun o ho=>by
  rw [World.cell?_alloc_new,made_four k o ho]
  have:o%4=0∨o%4=1∨o%4=2∨o%4=3:=by omega
  rcases this with e | e | e | e <;> (rw [e];rfl),fun o=>by simp,fun i hi=>by omega⟩
theorem P4o.drew {w:World} {b o:Nat} {s:Bool} {x y:Int} {p:Option Addr} (h:P4o w b o s x y p):P4o w.drew b o s x y p:=h.but (l:=[]) (But.refl _ _).drew (by simp)
theorem Fill.drew {w:World} {g k j:Nat} {s:Bool} {x y:Int} {p:Option Addr} (h:Fill w g k j s x y p):Fill w.drew g k j s x y p:=⟨fun o ho=>by rw [World.cell?_drew];exact h.cells o ho,fun o=>by rw [World.frozen?_drew];exact h.loose o,fun i hi=>(h.full i hi).drew⟩
theorem run_from (a:Act) (w:World) (d t1 t2:Nat) (u:TypeId) (ps:String) (ed:Array Edge) (g k n:Nat) (hn:n<k) (_hk:k≤1000) (h1:a.eval (.tmp t1)=.slice (some ⟨g,0,none⟩) k k) (h2:a.eval (.tmp t2)=.int .i64 (n:Int)) :
  (execOp a.eval { dst:=some d,op:=Op.slice 42 (.tmp t1) (some (.tmp t2)) none none,type:=u,pos:=ps,after:=ed,guard:=none }).run Tryz.prog w=.ok (.value (.slice (some ⟨g,n*4,none⟩) (k-n) (k-n))) w:=by
 unfold execOp
 simp only [h1,h2,Option.map_some,Option.map_none]
 go_simp
 rw [if_pos (by omega),if_neg (by omega)]
theorem run_upto (a:Act) (w:World) (d t1 t2:Nat) (u:TypeId) (ps:String) (ed:Array Edge) (g k n:Nat) (hn:n<k) (_hk:k≤1000) (h1:a.eval (.tmp t1)=.slice (some ⟨g,0,none⟩) k k) (h2:a.eval (.tmp t2)=.int .i64 (n:Int)) :
  (execOp a.eval { dst:=some d,op:=Op.slice 42 (.tmp t1) none (some (.tmp t2)) none,type:=u,pos:=ps,after:=ed,guard:=none }).run Tryz.prog w=.ok (.value (.slice (some ⟨g,0,none⟩) n k)) w:=by
 unfold execOp
 simp only [h1,h2,Option.map_some,Option.map_none]
 go_simp
 intro h
 omega
theorem run_plus (a:Act) (w:World) (d t1 t2:Nat) (u:TypeId) (ps:String) (ed:Array Edge) (m n:Nat) (hm:m≤1000) (hn:n≤1000) (h1:a.eval (.tmp t1)=.int .i64 (m:Int)) (h2:a.eval (.tmp t2)=.int .i64 (n:Int)) :
  (execOp a.eval { dst:=some d,op:=Op.binOp BinOp.add 3 (.tmp t1) (.tmp t2) 3,type:=u,pos:=ps,after:=ed,guard:=none }).run Tryz.prog w=.ok (.value (.int .i64 ((m+n:Nat):Int))) w:=by
 unfold execOp
 simp only [h1,h2]
 go_simp
 rw [IntKind.wrap_i64]
 omega
theorem run_assigned (a:Act) (w:World) (d t:Nat) (u:TypeId) (ps:String) (ed:Array Edge) (N:Value) (h:a.eval (.tmp t)=N) :
  (execOp a.eval { dst:=some d,op:=Op.assign (.tmp t),type:=u,pos:=ps,after:=ed,guard:=none }).run Tryz.prog w=.ok (.value N) w:=by
 unfold execOp
 simp only [h]
 go_simp
theorem run_copying (a:Act) (w w':World) (d t1 t2:Nat) (u:TypeId) (ps:String) (ed:Array Edge) (x1 x2 v:Value) (h1:a.eval (.tmp t1)=x1) (h2:a.eval (.tmp t2)=x2) (hr:(Builtin.copy_ #[42,42] u #[x1,x2]).run Tryz.prog w=.ok v w') :
  (execOp a.eval { dst:=some d,op:=Op.call { callee:=Callee.builtin Builtin.copy,args:=#[Operand.tmp t1,Operand.tmp t2],argTypes:=#[42,42] },type:=u,pos:=ps,after:=ed,guard:=none }).run Tryz.prog w=.ok (.value v) w':=by
 simp [execOp,resolve,invoke,builtin,h1,h2,hr,Result.andThen]
def opR0:Oper:={ dst:=some 38,op:=Op.move (Operand.tmp 8),type := 3,pos := "slices.go:528",after:=#[],guard:=none }
def opR1:Oper:={ dst:=some 39,op:=Op.move (Operand.tmp 7),type := 42,pos := "slices.go:528",after:=#[],guard:=none }
def opR2:Oper:={ dst:=some 40,op:=Op.move (Operand.tmp 8),type := 3,pos := "slices.go:528",after:=#[],guard:=none }
def opR3:Oper:={ dst:=some 41,op:=Op.slice 42 (Operand.tmp 39) (some (Operand.tmp 40)) none none,type := 42,pos := "slices.go:528",after:=#[⟨1,.data⟩,⟨2,.data⟩],guard:=none }
def opR4:Oper:={ dst:=some 42,op:=Op.move (Operand.tmp 7),type := 42,pos := "slices.go:528",after:=#[],guard:=none }
def opR5:Oper:={ dst:=some 43,op:=Op.move (Operand.tmp 8),type := 3,pos := "slices.go:528",after:=#[],guard:=none }
def opR6:Oper:={ dst:=some 44,op:=Op.slice 42 (Operand.tmp 42) none (some (Operand.tmp 43)) none,type := 42,pos := "slices.go:528",after:=#[⟨4,.data⟩,⟨5,.data⟩],guard:=none }
def opR7:Oper:={ dst:=some 45,op:=Op.call { callee:=Callee.builtin Builtin.copy,args:=#[Operand.tmp 41,Operand.tmp 44],argTypes:=#[42,42] },type := 3,pos := "slices.go:528",after:=#[⟨3,.data⟩,⟨6,.data⟩],guard:=none }
def opR8:Oper:={ dst:=some 46,op:=Op.binOp BinOp.add 3 (Operand.tmp 38) (Operand.tmp 45) 3,type := 3,pos := "slices.go:528",after:=#[⟨0,.data⟩,⟨7,.data⟩],guard:=none }
def opR9:Oper:={ dst:=some 8,op:=Op.assign (Operand.tmp 46),type := 3,pos := "slices.go:528",after:=#[⟨8,.data⟩,⟨7,.chain⟩,⟨0,.phase⟩,⟨1,.phase⟩,⟨2,.phase⟩,⟨3,.phase⟩,⟨4,.phase⟩,⟨5,.phase⟩,⟨6,.phase⟩,⟨7,.phase⟩,⟨8,.phase⟩],guard:=none }
def opsR:Array Oper:=#[opR0,opR1,opR2,opR3,opR4,opR5,opR6,opR7,opR8,opR9]
def repV (g k n m:Nat) (i:Nat):Value:=match i with
 | 0=>.int .i64 (n:Int)
 | 1=>.slice (some ⟨g,0,none⟩) k k
 | 2=>.int .i64 (n:Int)
 | 3=>.slice (some ⟨g,n*4,none⟩) (k-n) (k-n)
 | 4=>.slice (some ⟨g,0,none⟩) k k
 | 5=>.int .i64 (n:Int)
 | 6=>.slice (some ⟨g,0,none⟩) n k
 | 7=>.int .i64 (m:Int)
 | _=>.int .i64 ((n+m:Nat):Int)
theorem repeat_region (id:Nat) (Q:Exit→Act→World→Prop) (base:Act) (W0:World) (g k n m:Nat) (s:Bool) (x y:Int) (p:Option Addr) (hs:46<base.tmps.size) (e8:base.eval (.tmp 8)=.int .i64 (n:Int)) (e7:base.eval (.tmp 7)=.slice (some ⟨g,0,none⟩) k k)
  (hf:Fill W0 g k n s x y p) (hnk:n<k) (hk:k≤1000) (hm:m=Nat.min n (k-n))
  (hQ:∀ w,Fill w g k (n+m) s x y p→But [g] W0 w→Q .normal (putted base [(38,.int .i64 (n:Int)),(39,.slice (some ⟨g,0,none⟩) k k),(40,.int .i64 (n:Int)),(41,.slice (some ⟨g,n*4,none⟩) (k-n) (k-n)),(42,.slice (some ⟨g,0,none⟩) k k),(43,.int .i64 (n:Int)),(44,.slice (some ⟨g,0,none⟩) n k),(45,.int .i64 (m:Int)),(46,.int .i64 ((n+m:Nat):Int)),(8,.int .i64 ((n+m:Nat):Int))]) w) :
  (Code.region id opsR true).wp Tryz.prog Q base W0:=by
 have hmn:m≤n∧m≤k-n:=by rw [hm];exact ⟨Nat.min_le_left _ _,Nat.min_le_right _ _⟩
 obtain ⟨w',hcp,hf',hb'⟩:=hf.drew.copied g 0 m (k-n) (k-n) n k hm (by omega) (fun i hi=>by rw [Nat.zero_add];exact hf.drew.full i (by omega)) 3
 have hb0:But [g] W0 w':=(But.of_nil (But.refl [] W0).drew).trans hb' (fun _ h=>.inl h)
 refine region_flow (by kernel_rfl) (low_of (by kernel_rfl)) (fun i o ho=>(calm_of (ops:=opsR) (by kernel_rfl) i o ho).1)
  (fun d w=>if d 7=true then w=w' else w=W0.drew) (fun i w v=>v=repV g k n m i) (fun i=>38+i) 9 rfl (fun i j _ _ e=>by omega) (fun i hi=>by omega) (by simp)
  (fun i hi=>?_) ?_ (fun a w=>a=putted base ((List.range 9).map (fun i=>(38+i,repV g k n m i))++[(8,.int .i64 ((n+m:Nat):Int))])∧w=w') ?_ ?_
 ·exact dep_of (ops:=opsR) (ps:=[(9,0),(9,1),(9,2),(9,3),(9,4),(9,5),(9,6),(9,7),(9,8)]) (by kernel_rfl) 9 i (by
   have:i=0∨i=1∨i=2∨i=3∨i=4∨i=5∨i=6∨i=7∨i=8:=by omega
   rcases this with rfl | rfl | rfl | rfl | rfl | rfl | rfl | rfl | rfl <;> simp)
 ·intro d i o a w K hi ho hdi hH he hdep hK
  have hD:=dep_have (ps:=[(3,1),(3,2),(6,4),(6,5),(7,3),(7,6),(8,0),(8,7)]) (by kernel_rfl) ho (fun j=>d j=true∧a.eval (.tmp (38+j))=repV g k n m j) hdep
  have e8':=(he 8 (fun j _=>by omega)).trans e8
  have e7':=(he 7 (fun j _=>by omega)).trans e7
  have keep:i≠7→(if came d i 7=true then w=w' else w=W0.drew):=fun h=>by rw [came_ne d (Ne.symm h)];exact hH
  have:i=0∨i=1∨i=2∨i=3∨i=4∨i=5∨i=6∨i=7∨i=8:=by omega
  rcases this with rfl | rfl | rfl | rfl | rfl | rfl | rfl | rfl | rfl
  ·obtain rfl:=Option.some.inj ((show opsR[0]? = some opR0 from rfl).symm.trans ho)
   exact wp_value (run_moved a w _ _ _ _ _ _ e8') (hK _ _ (keep (by omega)) (fun _ _ _ _ h=>h) rfl)
  ·obtain rfl:=Option.some.inj ((show opsR[1]? = some opR1 from rfl).symm.trans ho)
   exact wp_value (run_moved a w _ _ _ _ _ _ e7') (hK _ _ (keep (by omega)) (fun _ _ _ _ h=>h) rfl)
  ·obtain rfl:=Option.some.inj ((show opsR[2]? = some opR2 from rfl).symm.trans ho)
   exact wp_value (run_moved a w _ _ _ _ _ _ e8') (hK _ _ (keep (by omega)) (fun _ _ _ _ h=>h) rfl)
  ·obtain rfl:=Option.some.inj ((show opsR[3]? = some opR3 from rfl).symm.trans ho)
   exact wp_value (run_from a w _ _ _ _ _ _ g k n hnk hk (hD 1 (by simp)).2 (hD 2 (by simp)).2) (hK _ _ (keep (by omega)) (fun _ _ _ _ h=>h) rfl)
  ·obtain rfl:=Option.some.inj ((show opsR[4]? = some opR4 from rfl).symm.trans ho)
   exact wp_value (run_moved a w _ _ _ _ _ _ e7') (hK _ _ (keep (by omega)) (fun _ _ _ _ h=>h) rfl)
  ·obtain rfl:=Option.some.inj ((show opsR[5]? = some opR5 from rfl).symm.trans ho)
   exact wp_value (run_moved a w _ _ _ _ _ _ e8') (hK _ _ (keep (by omega)) (fun _ _ _ _ h=>h) rfl)
  ·obtain rfl:=Option.some.inj ((show opsR[6]? = some opR6 from rfl).symm.trans ho)
   exact wp_value (run_upto a w _ _ _ _ _ _ g k n hnk hk (hD 4 (by simp)).2 (hD 5 (by simp)).2) (hK _ _ (keep (by omega)) (fun _ _ _ _ h=>h) rfl)
  ·obtain rfl:=Option.some.inj ((show opsR[7]? = some opR7 from rfl).symm.trans ho)
   rw [hdi] at hH
   simp only [Bool.false_eq_true,if_false] at hH
   subst hH
   exact wp_value (run_copying a _ w' _ _ _ _ _ _ _ _ _ (hD 3 (by simp)).2 (hD 6 (by simp)).2 hcp) (hK _ _ (by rw [came_self];rfl) (fun _ _ _ _ h=>h) rfl)
  ·obtain rfl:=Option.some.inj ((show opsR[8]? = some opR8 from rfl).symm.trans ho)
   exact wp_value (run_plus a w _ _ _ _ _ _ n m (by omega) (by omega) (hD 0 (by simp)).2 (hD 7 (by simp)).2) (hK _ _ (keep (by omega)) (fun _ _ _ _ h=>h) rfl)
 ·intro d o a w K ho hall h hK
  obtain rfl:=Option.some.inj ((show opsR[9]? = some opR9 from rfl).symm.trans ho)
  have hmem:=h.mem
  rw [if_pos (hall 7 (by omega))] at hmem
  have h8:a.eval (.tmp 46)=.int .i64 ((n+m:Nat):Int):=h.has 8 (by omega) (hall 8 (by omega))
  have ea:=h.puts (fun i hi=>by omega) (repV g k n m) (fun i hi=>h.has i hi (hall i hi))
  refine wp_value (run_assigned a w _ _ _ _ _ _ h8) (hK _ _ ⟨?_,hmem⟩)
  rw [ea]
  exact putted_snoc _ _ _ _
 ·rintro a w ⟨rfl,rfl⟩
  exact hQ _ hf' hb0
theorem repeat_one (b off c k:Nat) (s:Bool) (x y:Int) (p:Option Addr) (w:World) (hc:P4o w b off s x y p) (h1:1≤k) (hk:k≤1000) :
  Calls Tryz.prog 114 #[.slice (some ⟨b,off,none⟩) 1 c,.int .i64 (k:Int)] w fun e w'=>e=.returned (.slice (some ⟨w.heap.size,0,none⟩) k k)∧Fill w' w.heap.size k k s x y p∧But [] w w':=by
 have BM:=hide (bitsMul_any 1 k (by omega) (by omega) w)
 rw [Nat.one_mul,Nat.div_eq_of_lt (by omega),Nat.mod_eq_of_lt (by omega)] at BM
 have hmk:=fun wx=>run_makeF wx k (by omega)
 have hbm:But [] w (w.alloc (.cells (madeCells #[.bool false,.int .u64 0,.int .u64 0,.pointer none] (k*4)) 27)):=(But.refl _ _).alloc _
 have hfl:=Fill.made w k s x y p
 have hcp:=hfl.copied b off 1 k k 1 c (Nat.min_eq_left h1).symm (by omega) (fun i hi=>by
  obtain rfl:i=0:=by omega
  rw [Nat.zero_mul,Nat.add_zero]
  exact hc.but hbm (by simp))
 rw [Nat.zero_mul,Nat.zero_add] at hcp
 obtain ⟨w2,hcp2⟩:∃ w2,(∀ ty,(Builtin.copy_ #[42,42] ty #[.slice (some ⟨w.heap.size,0,none⟩) k k,.slice (some ⟨b,off,none⟩) 1 c]).run Tryz.prog (w.alloc (.cells (madeCells #[.bool false,.int .u64 0,.int .u64 0,.pointer none] (k*4)) 27))=.ok (goInt 1) w2)∧Fill w2 w.heap.size k 1 s x y p∧But [w.heap.size] (w.alloc (.cells (madeCells #[.bool false,.int .u64 0,.int .u64 0,.pointer none] (k*4)) 27)) w2:=by
  obtain ⟨w2,h1,h2,h3⟩:=hcp 0
  exact ⟨w2,fun ty=>h1,h2,h3⟩
 obtain ⟨hcp3,hf2,hb2⟩:=hcp2
 have HF2:=hide hf2
 have HB2:Hid (But [] w w2):=hbm.trans hb2 (fun x hx=>by simp at hx;subst hx;exact .inr (Nat.le_refl _))
 clear hcp hfl hbm hb2 hf2 hc
 go_enter Tryz.func114,Tryz.ntmps114
 go_wp2_with fail
 refine (unhide BM).mono ?_
 rintro e w1 ⟨rfl,h⟩
 obtain rfl:=h.symm
 clear h
 go_wp2
 clear hcp3 hmk
 go_loopw [8] (fun i wr=>∃ j:Nat,1≤j∧j≤k∧i=.int .i64 (j:Int)∧Hid (Fill wr w.heap.size k j s x y p∧But [] w wr)) (fun i _=>k-(intOf i).toNat)
 case atStart=>exact ⟨1,Nat.le_refl _,h1,rfl,unhide HF2,unhide HB2⟩
 case round =>
  obtain ⟨j,hj1,hj,rfl,HI⟩:=hrel
  rename World=>wr
  by_cases hlt:j<k
  ·obtain ⟨m,hm⟩:∃ m,m=Nat.min j (k-j):=⟨_,rfl⟩
   have hm1:1≤m:=by rw [hm];exact Nat.le_min.2 ⟨hj1,by omega⟩
   have hm2:j+m≤k:=by have:=Nat.min_le_right j (k-j);rw [← show m=min j (k-j) from hm] at this;omega
   have HM:=hide hm
   clear hm
   go_wp2
   refine repeat_region 9 _ _ wr w.heap.size k j m s x y p (by simp) (by simp [Act.eval]) (by simp [Act.eval]) (unhide HI).1 hlt (by omega) (unhide HM) ?_
   intro w3 hf3 hb3
   have HF3:=hide hf3
   have HB3:Hid (But [] w w3):=(unhide HI).2.trans hb3 (fun x hx=>by simp at hx;subst hx;exact .inr (Nat.le_refl _))
   clear hf3 hb3
   simp only [putted,List.foldl_cons,List.foldl_nil,Act.put,List.setIfInBounds_toArray,List.set_cons_zero,List.set_cons_succ]
   go_wp2
   refine ⟨⟨j+m,by omega,hm2,rfl,unhide HF3,unhide HB3⟩,by simp [intOf];omega⟩
  ·obtain rfl:j=k:=by omega
   go_wp2
   go_ret
   exact ⟨rfl,(unhide HI).1,(unhide HI).2⟩
end Go.Proofs.YtollloafckcogaaGreatDoor

namespace Go.Proofs.YtollloafckcogaaGreatDoor
open Go.RowKit
set_option maxHeartbeats 4000000
set_option maxRecDepth 100000
theorem yearly_any (n:Nat) (hn:n≤500) (w:World) :
  Calls Tryz.prog 62 #[.int .i64 (n:Int)] w fun e w'=>∃ v,e=.returned v∧FracsAt w' v (0::List.replicate n 1)∧But [] w w':=by
 obtain ⟨ws,wx,FW,CW⟩:=whole_is 1 (by omega) (by omega)
 have CWH:=hide CW
 have HFW:=hide FW
 clear CW FW
 go_enter Tryz.func62,Tryz.ntmps62
 go_wp2_with fail
 refine (unhide CWH _).mono ?_
 rintro e w1 ⟨rfl,hb1⟩
 have B1:=hide hb1
 clear hb1
 have p1:P4o (w1.alloc (.cells #[.bool ws,.int .u64 wx,.int .u64 0,.pointer none] 27)) w1.heap.size 0 ws wx 0 none:=⟨by simp,by simp,by simp,by simp⟩
 have RP:=hide (repeat_one w1.heap.size 0 1 (n+1) ws wx 0 none _ p1 (by omega) (by omega))
 have BA:Hid (But [] w (w1.alloc (.cells #[.bool ws,.int .u64 wx,.int .u64 0,.pointer none] 27))):=(unhide B1).alloc _
 rw [show ((n+1:Nat):Int)=(n:Int)+1 from by omega] at RP
 clear p1
 go_wp2_with fail
 refine (unhide RP).mono ?_
 rintro e w2 ⟨rfl,hf2,hb2⟩
 have HF2:=hide hf2
 have B2:Hid (But [] w w2):=(unhide BA).trans' hb2
 have hge:Hid (w.heap.size≤(w1.alloc (.cells #[.bool ws,.int .u64 wx,.int .u64 0,.pointer none] 27)).heap.size):=(unhide BA).size
 generalize (w1.alloc (.cells #[.bool ws,.int .u64 wx,.int .u64 0,.pointer none] 27)).heap.size=g at *
 obtain ⟨c0,c1,c2,c3⟩:=hf2.full 0 (by omega)
 have fz:=hf2.loose
 rw [Nat.zero_mul] at c0 c1 c2 c3
 rw [Nat.zero_add] at c1 c2 c3
 clear hf2 hb2 RP CWH
 go_wp2
 go_ret
 have hP:=put4_but w2 g false 0 0 none
 have hf:=unhide HF2
 refine ⟨_,rfl,⟨some ⟨g,0,none⟩,n+1,by simp,by simp,fun i f hi=>⟨g,0,rfl,?_⟩⟩,(unhide B2).trans hP (fun x hx=>by simp at hx;subst hx;exact .inr (unhide hge))⟩
 rw [Nat.zero_add]
 by_cases h0:i=0
 ·subst h0
  simp only [List.getElem?_cons_zero,Option.some.injEq] at hi
  subst hi
  have h4:=put4_p4 w2 g false 0 0 none (s':=ws) (x':=wx) (y':=0) (p':=none) ⟨c0,c1,c2,c3⟩
  exact ⟨false,0,0,none,by rw [Nat.zero_mul];exact h4,zero_at _⟩
 ·obtain ⟨k,rfl⟩:∃ k,i=k+1:=⟨i-1,by omega⟩
  rw [List.getElem?_cons_succ,List.getElem?_replicate] at hi
  split at hi
  ·rename_i hk
   obtain rfl:=Option.some.inj hi
   have hp:=hf.full (k+1) (by omega)
   have far:∀ o u,4≤o→w2.cell? ⟨g,o,none⟩=some u→(put4 w2 g false 0 0 none).cell? ⟨g,o,none⟩=some u:=fun o u ho hu=>by
    obtain ⟨-,h2⟩:=set4_all w2 g (.bool false) (.int .u64 0) (.int .u64 0) (.pointer none) (by rw [c0];rfl) (by rw [c1];rfl) (by rw [c2];rfl) (by rw [c3];rfl)
    exact (h2 o ho).trans hu
   exact ⟨ws,wx,0,none,⟨far _ _ (by omega) hp.1,far _ _ (by omega) hp.2.1,far _ _ (by omega) hp.2.2.1,far _ _ (by omega) hp.2.2.2⟩,unhide HFW _⟩
  ·simp at hi
end Go.Proofs.YtollloafckcogaaGreatDoor

namespace Go.Proofs.YtollloafckcogaaGreatDoor
open Go.RowKit
set_option maxHeartbeats 8000000
set_option maxRecDepth 100000
theorem check_any (v:Value) (rs:List Rat) (w:World) (hr:FracsAt w v rs) (hn:rs.length≤120) (lr:∀ t,t<rs.length→Len (rs[t]?.getD 0) 1) :
  Calls Tryz.prog 49 #[v] w fun e w'=>∃ u,e=.returned u∧((u=.nilIface∧∀ t,t<rs.length→0<(1+rs[t]?.getD 0).num)∨(u=.iface 33 (.int .i64 1)∧∃ t,t<rs.length∧¬ 0<(1+rs[t]?.getD 0).num))∧But [] w w':=by
 rcases hr.open with ⟨rfl,a,cap,rfl⟩ | ⟨h0,b,off,cap,rfl,hcap,-⟩
 ·clear hr lr
  go_enter Tryz.func49,Tryz.ntmps49
  go_wp2
  go_loopw [11] (fun i wr=>i=.int .i64 0∧wr=w) (fun _ _=>0)
  case atStart=>exact ⟨rfl,rfl⟩
  case round =>
   obtain ⟨rfl,rfl⟩:=hrel
   go_wp2
   go_ret
   exact ⟨_,rfl,rfl,But.refl _ _⟩
 ·have HR:=hide hr
  have LR:=hide lr
  clear hr lr
  generalize hnn:rs.length=n at *
  go_enter Tryz.func49,Tryz.ntmps49
  go_wp2
  go_loopw [11] (fun i wr=>∃ k:Nat,k≤n∧i=.int .i64 (k:Int)∧Hid ((∀ t,t<k→0<(1+rs[t]?.getD 0).num)∧But [] w wr)) (fun i _=>n-(intOf i).toNat)
  case atStart=>exact ⟨0,Nat.zero_le _,rfl,fun t ht=>by omega,But.refl _ _⟩
  case round =>
   obtain ⟨k,hk,rfl,HI⟩:=hrel
   rename World=>wr
   by_cases hlt:k<n
   ·obtain ⟨s,x,y,p,⟨c0,c1,c2,c3⟩,hf⟩:=((unhide HR).but (unhide HI).2).get k hlt
    have GR:=hide (fun W (h:But [] wr W)=>in_parts (growth_any _ _ W (hf.but h) (unhide LR k hlt)))
    generalize hval:(1+rs[k]?.getD 0)=val at *
    have HVAL:=hide hval
    clear hf hval
    have ba:=(But.refl [] wr).alloc (.cells #[.bool s,.int .u64 x,.int .u64 y,.pointer p] 27)
    have BA:=hide ba
    clear ba
    go_wp2_with fail
    refine (unhide GR _ (unhide BA)).mono ?_
    rintro e w1 ⟨s1,x1,y1,p1,rfl,hv1,hb1⟩
    have SG:=hide (fracSign_any _ _ w1 hv1)
    have B1:Hid (But [] w w1):=((unhide HI).2.trans' (unhide BA)).trans' hb1
    clear hv1 hb1 GR
    by_cases hpos:0<val.num
    ·rw [Int.sign_eq_one_of_pos hpos] at SG
     go_wp2_with fail
     refine (unhide SG).mono ?_
     rintro e w2 ⟨rfl,hb2⟩
     have B2:Hid (But [] w w2):=(unhide B1).trans' hb2
     clear hb2
     go_wp2
     refine ⟨⟨k+1,by omega,by go_num,fun t ht=>?_,unhide B2⟩,by simp [intOf];omega⟩
     by_cases e:t=k
     ·subst e
      rw [unhide HVAL]
      exact hpos
     ·exact (unhide HI).1 t (by omega)
    ·have hle:val.num.sign≤0:=by
      rcases Int.lt_or_eq_of_le (Int.not_lt.1 hpos) with h | h
      ·rw [Int.sign_eq_neg_one_of_neg h];omega
      ·rw [h];decide
     generalize val.num.sign=sg at *
     go_wp2_with fail
     refine (unhide SG).mono ?_
     rintro e w2 ⟨rfl,hb2⟩
     have B2:Hid (But [] w w2):=(unhide B1).trans' hb2
     clear hb2
     go_wp2
     go_ret
     exact ⟨_,rfl,.inr ⟨rfl,k,hlt,by rw [unhide HVAL];exact hpos⟩,unhide B2⟩
   ·obtain rfl:k=n:=by omega
    go_wp2
    go_ret
    exact ⟨_,rfl,.inl ⟨rfl,(unhide HI).1⟩,(unhide HI).2⟩
end Go.Proofs.YtollloafckcogaaGreatDoor
