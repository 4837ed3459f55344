/- What payments are worth: a round of the  -/
import Derived.RangeFuncNested
import Derived.RangeFuncBound
import Derived.RangeFuncCalls
import Derived.RangeFuncLeaves
import Derived.Shelf.Abstract
import Derived.Shelf.RegionOpen
import Derived.WalkKit
import Derived.OwnWalkIn
import Derived.TacticsInMore
import Derived.LoopNIn
import Derived.LoopIn
import Derived.Test.YtollloafckcogaaGreatDoorKYHSr
namespace Go.Proofs.YtollloafckcogaaGreatDoor
open Go.RowKit
set_option maxRecDepth 100000
theorem run_growth (a:Act) (w:World) (d t1:Nat) (u:TypeId) (ps:String) (ed:Array Edge) (x1:Value) (h1:a.eval (.tmp t1)=x1) :
  (execOp a.eval { dst:=some d,op:=Op.call { callee:=Callee.value (Operand.func 52),args:=#[Operand.tmp t1],argTypes:=#[27] },type:=u,pos:=ps,after:=ed,guard:=none }).run Tryz.prog w=.ok (.enter 52 #[x1]) w:=by
 unfold execOp
 go_simp
 rw [← h1]
 simp [Act.eval]
theorem run_divided (a:Act) (w:World) (d t1 t2:Nat) (u:TypeId) (ps:String) (ed:Array Edge) (x1 x2:Value) (h1:a.eval (.tmp t1)=x1) (h2:a.eval (.tmp t2)=x2) :
  (execOp a.eval { dst:=some d,op:=Op.call { callee:=Callee.value (Operand.func 51),args:=#[Operand.tmp t1,Operand.tmp t2],argTypes:=#[27,27] },type:=u,pos:=ps,after:=ed,guard:=none }).run Tryz.prog w=.ok (.enter 51 #[x1,x2]) w:=by
 unfold execOp
 go_simp
 rw [← h1,← h2]
 simp [Act.eval]
def opW0:Oper:={ dst:=some 17,op:=Op.load 27 (Operand.tmp 5),type := 27,pos := "flow.go:71",after:=#[],guard:=none }
def opW1:Oper:={ dst:=some 18,op:=Op.load 42 (Operand.tmp 3),type := 42,pos := "flow.go:71",after:=#[],guard:=none }
def opW2:Oper:={ dst:=some 19,op:=Op.move (Operand.tmp 6),type := 3,pos := "flow.go:71",after:=#[],guard:=none }
def opW3:Oper:={ dst:=some 20,op:=Op.binOp BinOp.sub 3 (Operand.tmp 19) (Operand.const (Value.int IntKind.i64 1)) 3,type := 3,pos := "flow.go:71",after:=#[⟨2,.data⟩],guard:=none }
def opW4:Oper:={ dst:=some 21,op:=Op.indexAddr 42 (Operand.tmp 18) (Operand.tmp 20),type:=0,pos := "flow.go:71",after:=#[⟨1,.data⟩,⟨3,.data⟩],guard:=none }
def opW5:Oper:={ dst:=some 22,op:=Op.load 27 (Operand.tmp 21),type := 27,pos := "flow.go:71",after:=#[⟨4,.data⟩],guard:=none }
def opW6:Oper:={ dst:=some 23,op:=Op.call { callee:=Callee.value (Operand.func 52),args:=#[Operand.tmp 22],argTypes:=#[27] },type := 27,pos := "flow.go:71",after:=#[⟨5,.data⟩],guard:=none }
def opW7:Oper:={ dst:=some 24,op:=Op.call { callee:=Callee.value (Operand.func 51),args:=#[Operand.tmp 17,Operand.tmp 23],argTypes:=#[27,27] },type := 27,pos := "flow.go:71",after:=#[⟨0,.data⟩,⟨6,.data⟩,⟨6,.chain⟩],guard:=none }
def opW8:Oper:={ dst:=none,op:=Op.store 27 (Operand.tmp 5) (Operand.tmp 24),type:=0,pos := "flow.go:71",after:=#[⟨7,.data⟩,⟨7,.chain⟩,⟨0,.phase⟩,⟨1,.phase⟩,⟨2,.phase⟩,⟨3,.phase⟩,⟨4,.phase⟩,⟨5,.phase⟩,⟨6,.phase⟩,⟨7,.phase⟩],guard:=none }
def opsW:Array Oper:=#[opW0,opW1,opW2,opW3,opW4,opW5,opW6,opW7,opW8]
def worthC (s:Bool) (x y:Int) (p:Option Addr) (b off n c t:Nat) (sr:Bool) (xr yr:Int) (pr:Option Addr) (f r:Rat) (i:Nat) (w:World) (v:Value):Prop:=match i with
 | 0=>v=.agg #[.bool s,.int .u64 x,.int .u64 y,.pointer p]
 | 1=>v=.slice (some ⟨b,off,none⟩) n c
 | 2=>v=.int .i64 ((t+1:Nat):Int)
 | 3=>v=.int .i64 (t:Int)
 | 4=>v=.pointer (some ⟨b,off+t*4,none⟩)
 | 5=>v=.agg #[.bool sr,.int .u64 xr,.int .u64 yr,.pointer pr]
 | 6=>FracAt w v (1+r)
 | _=>FracAt w v (f/(1+r))
theorem worth_region (id l0 n0:Nat) (Q:Exit→Act→World→Prop) (base:Act) (W0:World) (g5 g3 b off n c t:Nat) (s:Bool) (x y:Int) (p:Option Addr) (sr:Bool) (xr yr:Int) (pr:Option Addr) (f r:Rat)
  (hs:24<base.tmps.size) (e5:base.eval (.tmp 5)=.pointer (some ⟨g5,0,none⟩)) (e3:base.eval (.tmp 3)=.pointer (some ⟨g3,0,none⟩)) (e6:base.eval (.tmp 6)=.int .i64 ((t+1:Nat):Int))
  (c5:P4 W0 g5 s x y p) (hf:FracAt W0 (.agg #[.bool s,.int .u64 x,.int .u64 y,.pointer p]) f) (c3:W0.cell? ⟨g3,0,none⟩=some (.slice (some ⟨b,off,none⟩) n c)) (ht:t<n) (hn:n<1000000)
  (cr:P4o W0 b (off+t*4) sr xr yr pr) (hr:FracAt W0 (.agg #[.bool sr,.int .u64 xr,.int .u64 yr,.pointer pr]) r) (lr:Len r 1) (lf:Len f 1000000) (h0:(1+r).num≠0) (fz:∀ j,W0.frozen? ⟨g5,j,none⟩=false)
  (hQ:∀ a w1 s' x' y' p',But [] W0 w1→FracAt w1 (.agg #[.bool s',.int .u64 x',.int .u64 y',.pointer p']) (f/(1+r))→Q .normal a (put4 w1 g5 s' x' y' p')) :
  (Code.region id opsW true).wpIn (Fence.wide.inRound l0) n0 Tryz.prog Q base W0:=by
 have lg:g5<W0.heap.size:=lt_of_cell c5.1
 have lr3:Len (1+r) 1000000:=(len_add (len_int 1 (by decide)) lr 3 (by omega)).mono (by omega)
 have hd:∀ {w},But [] W0.drew w→But [] W0 w:=fun h=>(But.refl _ _).drew.trans' h
 refine region_flowR (by kernel_rfl) (calm_of (by kernel_rfl)) (low_of (by kernel_rfl))
  (worthC s x y p b off n c t sr xr yr pr f r) (fun i=>17+i) 8 rfl (fun i j _ _ e=>by omega) (fun i hi=>by omega) ?_ (fun i hi=>?_) ?_
  (fun w=>∃ w1 s' x' y' p',w=put4 w1 g5 s' x' y' p'∧But [] W0 w1∧FracAt w1 (.agg #[.bool s',.int .u64 x',.int .u64 y',.pointer p']) (f/(1+r))) ?_ ?_
 ·intro i w w' v hi h hb
  have:i=0∨i=1∨i=2∨i=3∨i=4∨i=5∨i=6∨i=7:=by omega
  rcases this with rfl | rfl | rfl | rfl | rfl | rfl | rfl | rfl
  all_goals first | exact h | exact FracAt.but h hb
 ·have hh:=dep_of (ops:=opsW) (ps:=[(8,0),(8,1),(8,2),(8,3),(8,4),(8,5),(8,6),(8,7)]) (by kernel_rfl) 8 i (by
   have:i=0∨i=1∨i=2∨i=3∨i=4∨i=5∨i=6∨i=7:=by omega
   rcases this with rfl | rfl | rfl | rfl | rfl | rfl | rfl | rfl <;> simp)
  exact hh
 ·intro i o a w K hi ho hb he hdep hK
  have:i=0∨i=1∨i=2∨i=3∨i=4∨i=5∨i=6∨i=7:=by omega
  have hD:=dep_have (ps:=[(3,2),(4,1),(4,3),(5,4),(6,5),(7,0),(7,6)]) (by kernel_rfl) ho (fun j=>worthC s x y p b off n c t sr xr yr pr f r j w (a.eval (.tmp (17+j)))) hdep
  have e5':=(he 5 (fun j _=>by omega)).trans e5
  have e3':=(he 3 (fun j _=>by omega)).trans e3
  have e6':=(he 6 (fun j _=>by omega)).trans e6
  rcases this with rfl | rfl | rfl | rfl | rfl | rfl | rfl | rfl
  ·obtain rfl:=Option.some.inj ((show opsW[0]? = some opW0 from rfl).symm.trans ho)
   exact wp_value (run_load4 a w _ _ _ _ _ g5 0 _ _ _ _ e5' (c5.but (hd hb) (by simp))) (hK _ _ (But.refl _ _) rfl)
  ·obtain rfl:=Option.some.inj ((show opsW[1]? = some opW1 from rfl).symm.trans ho)
   exact wp_value (run_load1 a w _ _ _ _ _ g3 _ _ _ e3' ((hd hb).cell_some c3 (by simp))) (hK _ _ (But.refl _ _) rfl)
  ·obtain rfl:=Option.some.inj ((show opsW[2]? = some opW2 from rfl).symm.trans ho)
   exact wp_value (run_moved a w _ _ _ _ _ _ e6') (hK _ _ (But.refl _ _) rfl)
  ·obtain rfl:=Option.some.inj ((show opsW[3]? = some opW3 from rfl).symm.trans ho)
   exact wp_value (run_less1 a w _ _ _ _ _ t (by omega) (hD 2 (by simp))) (hK _ _ (But.refl _ _) rfl)
  ·obtain rfl:=Option.some.inj ((show opsW[4]? = some opW4 from rfl).symm.trans ho)
   exact wp_value (run_indexed a w _ _ _ _ _ _ b off n c t ht hn (hD 1 (by simp)) (hD 3 (by simp))) (hK _ _ (But.refl _ _) rfl)
  ·obtain rfl:=Option.some.inj ((show opsW[5]? = some opW5 from rfl).symm.trans ho)
   exact wp_value (run_load4 a w _ _ _ _ _ b _ _ _ _ _ (hD 4 (by simp)) (cr.but (hd hb) (by simp))) (hK _ _ (But.refl _ _) rfl)
  ·obtain rfl:=Option.some.inj ((show opsW[6]? = some opW6 from rfl).symm.trans ho)
   exact wp_enter (run_growth a w _ _ _ _ _ _ (hD 5 (by simp))) (R:=fun w' v=>FracAt w' v (1+r)∧But [] w w') (growth_any _ r w (hr.but (hd hb)) lr) (fun v w' hv=>hK v w' hv.2 hv.1)
  ·obtain rfl:=Option.some.inj ((show opsW[7]? = some opW7 from rfl).symm.trans ho)
   exact wp_enter (run_divided a w _ _ _ _ _ _ _ _ (hD 0 (by simp)) rfl) (R:=fun w' v=>FracAt w' v (f/(1+r))∧But [] w w') (divided_any _ _ f (1+r) w (hf.but (hd hb)) (hD 6 (by simp)) lf lr3 h0) (fun v w' hv=>hK v w' hv.2 hv.1)
 ·intro o a w K ho hb he hall hK
  have e5':=(he 5 (fun j _=>by omega)).trans e5
  obtain rfl:=Option.some.inj ((show opsW[8]? = some opW8 from rfl).symm.trans ho)
  have h7:FracAt w (a.eval (.tmp 24)) (f/(1+r)):=hall 7 (by omega)
  have h7':=h7
  obtain ⟨x',y',p',ev,-⟩:=h7.agg
  rw [ev] at h7'
  exact wp_skipped (run_store4 a w _ _ _ _ _ g5 _ x' y' p' e5' ev (c5.but (hd hb) (by simp)) (fun j=>((hd hb).frozen (p:=⟨g5,j,none⟩) lg (by simp)).trans (fz j))) (hK _ _ ⟨w,_,x',y',p',rfl,hd hb,h7'⟩)
 ·rintro a w ⟨w1,s',x',y',p',rfl,h1,h2⟩
  exact hQ a w1 s' x' y' p' h1 h2
end Go.Proofs.YtollloafckcogaaGreatDoor

namespace Go.Proofs.YtollloafckcogaaGreatDoor
open Go.RowKit
theorem calm_of_grown {A B:World} {row:Option Nat} (hg:A.grownBy B row) (hr:∀ r,row=some r→∃ o:Obj,A.heap[r]? = some o∧o.isCells=false):Calm A B :=
 ⟨hg.size,fun k i v h=>by
  obtain ⟨o,ho,hc⟩:=cells_of_cell h
  exact grownBy_keeps_cells hg hr ho hc⟩
end Go.Proofs.YtollloafckcogaaGreatDoor

namespace Go.Proofs.YtollloafckcogaaGreatDoor
open Go.RowKit Go.Shelf
set_option maxHeartbeats 8000000
set_option maxRecDepth 100000
attribute [local go_sem] Oper.semAt_some
def wstep (p r:Nat→Rat) (v:Rat) (t:Nat):Rat:=if t=0 then v+p t else (v+p t)/(1+r (t-1))
def wfold (p r:Nat→Rat) (l:List Nat):Rat:=l.foldl (wstep p r) 0
theorem wfold_snoc (p r:Nat→Rat) (l:List Nat) (t:Nat):wfold p r (l++[t])=wstep p r (wfold p r l) t:=by unfold wfold;rw [List.foldl_append];rfl
theorem keeps_of_but {W V:World} {g:Nat} {v:Value} (hb:But [g] W V) (hc:W.cell? ⟨g,0,none⟩=some v) (B n₀:Nat) (hn:n₀≤W.heap.size):KeepsFrom B W V∧Kept n₀ g W V :=
 ⟨⟨hb.size,fun k o _ hk ho=>by
  have hne:k≠g:=by
   rintro rfl
   obtain ⟨o',ho',hc'⟩:=cells_of_cell hc
   rw [hk] at ho'
   obtain rfl:=Option.some.inj ho'
   rw [ho] at hc'
   simp at hc'
  exact (hb.block k (Array.getElem?_eq_some_iff.1 hk).1 (by simpa using hne)).trans hk⟩,fun k hk hne=>hb.block k (by omega) (by simpa using hne)⟩
def WorthI (w W0:World) (g3 g4 g5:Nat) (vr:Value) (S:Nat→Bool) (X Y:Nat→Int) (Q:Nat→Option Addr) (ps rs:List Rat) (val:Rat) (W:World):Prop :=
 BoxAt W g5 val∧BoxAt W g4 0∧W.cell? ⟨g3,0,none⟩=some vr∧FracsAt W vr rs∧(∀ t,t<ps.length→FracAt W (.agg #[.bool (S t),.int .u64 (X t),.int .u64 (Y t),.pointer (Q t)]) (ps[t]?.getD 0))∧W0.heap.size≤W.heap.size∧Below w.heap.size w W
theorem WorthI.step {w W0:World} {g3 g4 g5:Nat} {vr:Value} {S:Nat→Bool} {X Y:Nat→Int} {Q:Nat→Option Addr} {ps rs:List Rat} {val val':Rat} {W w1:World} (h:WorthI w W0 g3 g4 g5 vr S X Y Q ps rs val W) (hr:FracsAt w vr rs) (o3:w.heap.size≤g3) (o4:g3<g4) (o5:g4<g5) (hb:But [] W w1) {s:Bool} {x y:Int} {p:Option Addr} (hf:FracAt w1 (.agg #[.bool s,.int .u64 x,.int .u64 y,.pointer p]) val') (B:Nat) :
  KeepsFrom B W (put4 w1 g5 s x y p)∧Kept W0.heap.size g5 W (put4 w1 g5 s x y p)∧WorthI w W0 g3 g4 g5 vr S X Y Q ps rs val' (put4 w1 g5 s x y p):=by
 obtain ⟨i1,i2,i3,i4,i5,i6,i7⟩:=h
 have hB:But [g5] W (put4 w1 g5 s x y p):=(But.of_nil hb).trans (put4_but _ _ _ _ _ _) (fun _ h=>.inl h)
 obtain ⟨s5,c5⟩:=i1.bool
 obtain ⟨k1,k2⟩:=keeps_of_but hB c5 B W0.heap.size i6
 have c5':=hb.cell_some c5 (by simp)
 have hp:=put4_but w1 g5 s x y p
 refine ⟨k1,k2,(i1.but hb).put hf,(i2.but hb).beside hp (by simp;omega) (fun g hg=>by simp at hg;subst hg;exact ⟨_,c5'⟩),hB.cell_some i3 (by simp;omega),hr.behind (i4.but hb) hp (by omega) ⟨_,c5'⟩,fun t ht=>((i5 t ht).but hb).over c5' hp,Nat.le_trans i6 hB.size,((But.of_below i7).trans hB (fun x hx=>by simp at hx;subst hx;exact .inr (by omega))).below⟩
theorem worth_any (vp vr:Value) (ps rs:List Rat) (w:World) (hp:FracsAt w vp ps) (hr:FracsAt w vr rs) (h0:0<ps.length) (hl:ps.length≤rs.length+1) (hn:rs.length<1000)
  (lp:∀ t,t<ps.length→Len (ps[t]?.getD 0) 1000) (lr:∀ t,t<rs.length→Len (rs[t]?.getD 0) 1) (hg:∀ t,t<rs.length→(1+rs[t]?.getD 0).num≠0)
  (hF:∀ l:List (Fin ps.length),l.length≤ps.length→Len (wfold (fun t=>ps[t]?.getD 0) (fun t=>rs[t]?.getD 0) (l.map (·.1))) 20000) :
  Calls Tryz.prog 57 #[vp,vr] w fun e w'=>∃ v,e=.returned v∧FracAt w' v (wfold (fun t=>ps[t]?.getD 0) (fun t=>rs[t]?.getD 0) ((downs ps.length 0).map (·.1)))∧But [] w w':=by
 rcases hp.open with ⟨rfl,-⟩ | ⟨-,b,off,cap,rfl,hcap,-⟩
 ·simp at h0
 obtain ⟨ra,rcap,rfl,hrc,-⟩:=id hr
 obtain ⟨S,X,Y,Q,hV⟩:∃ (S:Nat→Bool) (X Y:Nat→Int) (Q:Nat→Option Addr),∀ t,t<ps.length→P4o w b (off+t*4) (S t) (X t) (Y t) (Q t)∧FracAt w (.agg #[.bool (S t),.int .u64 (X t),.int .u64 (Y t),.pointer (Q t)]) (ps[t]?.getD 0):=by
  have h:∀ t,∃ q:Bool × Int × Int × Option Addr,t<ps.length→P4o w b (off+t*4) q.1 q.2.1 q.2.2.1 q.2.2.2∧FracAt w (.agg #[.bool q.1,.int .u64 q.2.1,.int .u64 q.2.2.1,.pointer q.2.2.2]) (ps[t]?.getD 0):=fun t=>by
   by_cases ht:t<ps.length
   ·obtain ⟨s,x,y,p,h1,h2⟩:=hp.get t ht
    exact ⟨(s,x,y,p),fun _=>⟨h1,h2⟩⟩
   ·exact ⟨(false,0,0,none),fun h=>absurd h ht⟩
  obtain ⟨q,hq⟩:=Classical.axiomOfChoice h
  exact ⟨fun t=>(q t).1,fun t=>(q t).2.1,fun t=>(q t).2.2.1,fun t=>(q t).2.2.2,hq⟩
 refine (callsIn_wide (n:=4)).1 ?_
 refine callsIn_of_wp_marks Tryz.func57 rfl trivial ?_ rfl
 simp only [Tryz.ntmps57,List.size_toArray,List.length_cons,List.length_nil,Nat.reduceAdd,Nat.reduceSub,Array.replicate_succ,Array.replicate_zero,List.push_toArray,List.append_toArray,List.nil_append,List.cons_append]
 gi_wp2_with (refine ⟨trivial,?_⟩;gi_at_call 106;refine (back_in Fence.wide _ trivial rfl _ _ _ _).mono ?_;rintro e w' ⟨rfl,rfl⟩)
 have n1:(w.alloc (.cells #[.slice ra rs.length rcap] 42)).cell? ⟨w.heap.size,0,none⟩=some (.slice ra rs.length rcap):=by rw [World.cell?_alloc_new];rfl
 have c3:=((((But.refl [] (w.alloc (.cells #[.slice ra rs.length rcap] 42))).alloc (.cells #[.bool false,.int .u64 0,.int .u64 0,.pointer none] 27)).alloc (.cells #[.bool false,.int .u64 0,.int .u64 0,.pointer none] 27)).alloc (.cells #[.slice (some ⟨b,off,none⟩) ps.length cap] 42)).cell_some n1 (by simp)
 have n2:((((w.alloc (.cells #[.slice ra rs.length rcap] 42)).alloc (.cells #[.bool false,.int .u64 0,.int .u64 0,.pointer none] 27)).alloc (.cells #[.bool false,.int .u64 0,.int .u64 0,.pointer none] 27)).alloc (.cells #[.slice (some ⟨b,off,none⟩) ps.length cap] 42)).cell? ⟨(((w.alloc (.cells #[.slice ra rs.length rcap] 42)).alloc (.cells #[.bool false,.int .u64 0,.int .u64 0,.pointer none] 27)).alloc (.cells #[.bool false,.int .u64 0,.int .u64 0,.pointer none] 27)).heap.size,0,none⟩=some (.slice (some ⟨b,off,none⟩) ps.length cap):=by rw [World.cell?_alloc_new];rfl
 have cB:=n2
 rw [World.size_alloc,World.size_alloc,World.size_alloc] at cB
 clear n1 n2
 have hz:((((w.alloc (.cells #[.slice ra rs.length rcap] 42)).alloc (.cells #[.bool false,.int .u64 0,.int .u64 0,.pointer none] 27)).alloc (.cells #[.bool false,.int .u64 0,.int .u64 0,.pointer none] 27)).alloc (.cells #[.slice (some ⟨b,off,none⟩) ps.length cap] 42)).heap.size=w.heap.size+1+1+1+1:=by simp
 have b4:=((BoxAt.new (w.alloc (.cells #[.slice ra rs.length rcap] 42)) false 0 0 none 0 27 (zero_at _)).but ((But.refl _ _).alloc (.cells #[.bool false,.int .u64 0,.int .u64 0,.pointer none] 27))).but ((But.refl _ _).alloc (.cells #[.slice (some ⟨b,off,none⟩) ps.length cap] 42))
 have b5:=(BoxAt.new ((w.alloc (.cells #[.slice ra rs.length rcap] 42)).alloc (.cells #[.bool false,.int .u64 0,.int .u64 0,.pointer none] 27)) false 0 0 none 0 27 (zero_at _)).but ((But.refl _ _).alloc (.cells #[.slice (some ⟨b,off,none⟩) ps.length cap] 42))
 simp only [World.size_alloc] at b4 b5
 have hB0:But [] w ((((w.alloc (.cells #[.slice ra rs.length rcap] 42)).alloc (.cells #[.bool false,.int .u64 0,.int .u64 0,.pointer none] 27)).alloc (.cells #[.bool false,.int .u64 0,.int .u64 0,.pointer none] 27)).alloc (.cells #[.slice (some ⟨b,off,none⟩) ps.length cap] 42)):=((((But.refl _ _).alloc _).alloc _).alloc _).alloc _
 obtain ⟨W0,hW0⟩:∃ W0,((((w.alloc (.cells #[.slice ra rs.length rcap] 42)).alloc (.cells #[.bool false,.int .u64 0,.int .u64 0,.pointer none] 27)).alloc (.cells #[.bool false,.int .u64 0,.int .u64 0,.pointer none] 27)).alloc (.cells #[.slice (some ⟨b,off,none⟩) ps.length cap] 42))=W0:=⟨_,rfl⟩
 rw [hW0] at c3 cB hz b4 b5 hB0 ⊢
 clear hW0
 obtain ⟨g3,hg3⟩:∃ g3,g3=w.heap.size:=⟨_,rfl⟩
 obtain ⟨g4,hg4⟩:∃ g4,g4=w.heap.size+1:=⟨_,rfl⟩
 obtain ⟨g5,hg5⟩:∃ g5,g5=w.heap.size+1+1:=⟨_,rfl⟩
 obtain ⟨gB,hgB⟩:∃ gB,gB=w.heap.size+1+1+1:=⟨_,rfl⟩
 rw [← hgB] at cB
 rw [← hg5] at b5
 rw [← hg4] at b4
 rw [← hg3] at c3
 rw [← hgB,← hg5,← hg4,← hg3]
 have hbw:b<w.heap.size:=lt_of_cell (hV 0 h0).1.1
 have o3:w.heap.size≤g3:=by omega
 have o4:g3<g4:=by omega
 have o5:g4<g5:=by omega
 have oB:g5<gB:=by omega
 have oW:gB<W0.heap.size:=by omega
 clear hg3 hg4 hg5 hgB hz
 refine wpIn_rangeFunc_ownH rfl (by omega) (gf := 142) (lb:=#[.pointer (some ⟨gB,0,none⟩)]) rfl trivial (enters_of Tryz.func142 (by kernel_rfl) rfl)
  (back_stops Fence.wide _ trivial rfl (by omega) gB W0.heap.size g5 b off ps.length cap S X Y Q (by omega) W0 (by omega) (by omega) (Nat.le_refl _) cB (by omega) (by omega) (fun j hj=>(hV j hj).1.but hB0 (by simp)))
  (fun h k=>Kept.trans h k) (fun W l o o' hl _ _ _=>Kept.put W l o' hl) (Below.refl _ _) (fun _=>rfl)
  (fun pre W=>WorthI w W0 g3 g4 g5 (.slice ra rs.length rcap) S X Y Q ps rs (wfold (fun t=>ps[t]?.getD 0) (fun t=>rs[t]?.getD 0) (pre.map (·.1))) W)
  (fun _ _ _=>False)
  (fun pre A B row ⟨i1,i2,i3,i4,i5,i6,i7⟩ hg hr=>by
   have hc:=calm_of_grown hg (fun r e=>(hr r e).2)
   exact ⟨i1.calm hc,i2.calm hc,hc.cell i3,i4.calm hc,fun t ht=>(i5 t ht).calm hc,Nat.le_trans i6 hc.size,ownFrom_below (β:=Unit) (Nat.le_refl _) (by omega) () A B row i7 hg hr⟩)
  (fun _ _ _ _ _ h _ _=>h)
  ⟨b5,b4,c3,hr.but hB0,fun t ht=>(hV t ht).2.but hB0,Nat.le_refl _,hB0.below⟩
  (fun x a' W=>∃ Bx,P4 W Bx (S x.1) (X x.1) (Y x.1) (Q x.1)∧a'={ tmps:=#[.slice (some ⟨b,off,none⟩) ps.length cap,.slice ra rs.length rcap,undef,.pointer (some ⟨g3,0,none⟩),.pointer (some ⟨g4,0,none⟩),.pointer (some ⟨g5,0,none⟩),.int .i64 ((x.1:Nat):Int),.pointer (some ⟨Bx,0,none⟩),.slice (some ⟨b,off,none⟩) ps.length cap,.func (.func 142) #[] #[.pointer (some ⟨gB,0,none⟩)],.int .i64 ((x.1:Nat):Int),.agg #[.bool (S x.1),.int .u64 (X x.1),.int .u64 (Y x.1),.pointer (Q x.1)],undef,undef,undef,undef,undef,undef,undef,undef,undef,undef,undef,undef,undef,undef],defers:=[] })
  (fun x a' _ A B row ⟨Bx,h1,e⟩ hg hr=>⟨Bx,h1.calm (calm_of_grown hg (fun r e=>(hr r e).2)),e⟩) ?assign ?body ?done ?stop
 case assign =>
  rintro l pre x W K ⟨i1,i2,i3,i4,i5,i6,i7⟩ hK
  gi_wp2
  have hbn:=(But.refl [] W).alloc (.cells #[.bool (S x.1),.int .u64 (X x.1),.int .u64 (Y x.1),.pointer (Q x.1)] 27)
  exact hK _ _ ((KeepsOthers.alloc _ _).from _) (fun k hk _=>hbn.block k (by omega) (by simp)) ⟨i1.but hbn,i2.but hbn,hbn.cell_some i3 (by simp),i4.but hbn,fun t ht=>(i5 t ht).but hbn,Nat.le_trans i6 hbn.size,(i7.alloc i7.size _)⟩ ⟨W.heap.size,⟨by simp,by simp,by simp,by simp⟩,rfl⟩
 case body =>
  rintro l pre ⟨t,ht⟩ a' W hl' ⟨rec,hrec⟩ hi ⟨Bx,hx,rfl⟩ hlt
  obtain ⟨⟨⟨s5,x5,y5,p5,c5,f5⟩,z5⟩,i2,i3,i4,i5,i6,i7⟩:=id hi
  have HI:=hide hi
  clear hi
  dsimp only at hx
  have AD:=hide (in_parts (fracAdd_gen 20000 1000 (by omega) _ _ _ _ W f5 (i5 t ht) (hF pre (by omega)) (lp t ht)))
  have LV:Hid (Len (wfold (fun t=>ps[t]?.getD 0) (fun t=>rs[t]?.getD 0) (pre.map (·.1))+ps[t]?.getD 0) 1000000):=(len_add (hF pre (by omega)) (lp t ht) 21001 (by omega)).mono (by omega)
  have hsn:Hid (wfold (fun t=>ps[t]?.getD 0) (fun t=>rs[t]?.getD 0) ((pre++[(⟨t,ht⟩:Fin ps.length)]).map (·.1))=wstep (fun t=>ps[t]?.getD 0) (fun t=>rs[t]?.getD 0) (wfold (fun t=>ps[t]?.getD 0) (fun t=>rs[t]?.getD 0) (pre.map (·.1))) t):=by
   show _=_
   rw [List.map_append]
   exact wfold_snoc _ _ _ t
  generalize wfold (fun t=>ps[t]?.getD 0) (fun t=>rs[t]?.getD 0) (pre.map (·.1))=val at *
  have C5:=hide c5
  have H2:=hide i2
  have H3:=hide i3
  have H4:=hide i4
  have H5:=hide i5
  have H7:=hide i7
  have HF5:=hide f5
  obtain ⟨a0,a1,a2,a3⟩:=c5
  obtain ⟨q0,q1,q2,q3⟩:=hx
  have gl5:g5<W.heap.size:=lt_of_cell a0
  have Z5:=hide z5
  have HR:=hide hr
  clear i2 i4 i5 i7 f5 z5 hF lp hV hp hlt i3 H2 H3 H5 H7 HF5 hr
  by_cases ht0:t=0
  ·subst ht0
   gi_wp2_with (refine ⟨trivial,?_⟩;gi_at_call 59;refine (CallsIn.inRound l (callsIn_wide.2 (unhide AD))).mono ?_;rintro e w1 ⟨s8,x8,y8,p8,rfl,hv1,hb1⟩;have HV1:=hide hv1;have B1:=hide hb1;have u0:=hb1.cell_some a0 (by simp);have u1:=hb1.cell_some a1 (by simp);have u2:=hb1.cell_some a2 (by simp);have u3:=hb1.cell_some a3 (by simp);have uf:∀ j,w1.frozen? ⟨g5,j,none⟩=false:=fun j=>(hb1.frozen (p:=⟨g5,j,none⟩) gl5 (by simp)).trans (unhide Z5 j);clear hv1 hb1)
   have hst:=(unhide HI).step (unhide HR) o3 o4 o5 (unhide B1) (unhide HV1) W0.heap.size
   show KeepsFrom _ _ _∧Kept _ _ _ _∧WorthI w W0 g3 g4 g5 (.slice ra rs.length rcap) S X Y Q ps rs _ _
   rw [unhide hsn]
   unfold wstep
   rw [if_pos rfl]
   exact hst
  ·obtain ⟨k,rfl⟩:∃ k,t=k+1:=⟨t-1,by omega⟩
   gi_wp2_with (refine ⟨trivial,?_⟩;gi_at_call 59;refine (CallsIn.inRound l (callsIn_wide.2 (unhide AD))).mono ?_;rintro e w1 ⟨s8,x8,y8,p8,rfl,hv1,hb1⟩;have HV1:=hide hv1;have B1:=hide hb1;have u0:=hb1.cell_some a0 (by simp);have u1:=hb1.cell_some a1 (by simp);have u2:=hb1.cell_some a2 (by simp);have u3:=hb1.cell_some a3 (by simp);have uf:∀ j,w1.frozen? ⟨g5,j,none⟩=false:=fun j=>(hb1.frozen (p:=⟨g5,j,none⟩) gl5 (by simp)).trans (unhide Z5 j);clear hv1 hb1)
   obtain ⟨k1,k2,hst⟩:=(unhide HI).step (unhide HR) o3 o4 o5 (unhide B1) (unhide HV1) W0.heap.size
   have hkr:k<rs.length:=by omega
   obtain ⟨⟨⟨t5,z5',z6',z7',d5,e5⟩,d6⟩,j2,j3,j4,j5,j6,j7⟩:=id hst
   rcases j4.open with ⟨er,-⟩ | ⟨-,rb,roff,rcap2,er,-,-⟩
   ·rw [er] at hkr
    simp at hkr
   simp only [Value.slice.injEq] at er
   obtain ⟨rfl,-,rfl⟩:=er
   obtain ⟨sr,xr,yr,pr,cr,fr⟩:=j4.get k hkr
   refine worth_region 7 l _ _ _ (put4 w1 g5 s8 x8 y8 p8) g5 g3 rb roff rs.length rcap k t5 z5' z6' z7' sr xr yr pr _ _ (by simp) rfl rfl rfl d5 e5 j3 hkr (by omega) cr fr (lr k hkr) (unhide LV) (hg k hkr) d6 ?_
   intro a2 w2 s' x' y' p' hb2 hf2
   obtain ⟨k3,k4,hst2⟩:=hst.step (unhide HR) o3 o4 o5 hb2 hf2 W0.heap.size
   show KeepsFrom _ _ _∧Kept _ _ _ _∧WorthI w W0 g3 g4 g5 (.slice _ rs.length rcap) S X Y Q ps rs _ _
   rw [unhide hsn]
   unfold wstep
   rw [if_neg (by omega)]
   exact ⟨k1.trans k3,k2.trans k4,hst2⟩
 case done =>
  rintro D ys W hD rfl hi hK
  obtain ⟨⟨⟨s5,x5,y5,p5,c5,f5⟩,z5⟩,⟨⟨s4,x4,y4,p4,c4,f4⟩,z4⟩,i3,i4,i5,i6,i7⟩:=hi
  have HF5:=hide f5
  have H7:=hide i7
  have C4:=hide c4
  obtain ⟨a0,a1,a2,a3⟩:=c5
  obtain ⟨r0,r1,r2,r3⟩:=c4
  have hK2:Hid ((put4 W g4 s5 x5 y5 p5).heap[D]? = some (.deferred (some []))):=((put4_but W g4 s5 x5 y5 p5).block D (Array.getElem?_eq_some_iff.1 hK).1 (by simp;omega)).trans hK
  clear i4 i5 i7 f5 f4 hF lp hV hp i3 hr hK
  gi_wp2
  have hcalm:Calm (put4 W g4 s5 x5 y5 p5) ((put4 W g4 s5 x5 y5 p5).putObj D (.deferred none)):=calm_of_grown (grownBy_putObj' _ D _) (fun r e=>by cases e;exact ⟨_,unhide hK2,rfl⟩)
  have hpp:=(put4_p4 W g4 s5 x5 y5 p5 (unhide C4)).calm hcalm
  have hff:=((unhide HF5).over r0 (put4_but W g4 s5 x5 y5 p5)).calm hcalm
  have hB1:But [] w (put4 W g4 s5 x5 y5 p5):=(But.of_below (unhide H7)).trans (put4_but W g4 s5 x5 y5 p5) (fun x hx=>by simp at hx;subst hx;exact .inr (by omega))
  have hB2:But [] w ((put4 W g4 s5 x5 y5 p5).putObj D (.deferred none)):=hB1.trans (l':=[D]) ⟨rfl,rfl,rfl,by simp,fun k _ hk=>World.putObj_heap_other (by simpa using hk)⟩ (fun x hx=>by simp at hx;subst hx;exact .inr (by omega))
  obtain ⟨t0,t1,t2,t3⟩:=hpp
  change bodyPostM _ _ _ _ _ Exit.ret _ (put4 W g4 s5 x5 y5 p5)
  generalize put4 W g4 s5 x5 y5 p5=V at *
  refine ⟨by simp,.inl ⟨_,_,rfl,run_takeDeferred (unhide hK2),?_⟩⟩
  exact ⟨.agg #[.bool s5,.int .u64 x5,.int .u64 y5,.pointer p5],(by simp [results,Tryz.results57,go_sem,t0,t1,t2,t3]),_,rfl,hff,hB2⟩
 case stop =>
  rintro D c pre W _ _ h
  exact h.elim
end Go.Proofs.YtollloafckcogaaGreatDoor

namespace Go.Proofs.YtollloafckcogaaGreatDoor
open Go.RowKit
set_option maxHeartbeats 8000000
set_option maxRecDepth 100000
theorem check_any (v:Value) (rs:List Rat) (w:World) (hr:FracsAt w v rs) (hn:rs.length≤120) (lr:∀ t,t<rs.length→Len (rs[t]?.getD 0) 1) :
  Calls Tryz.prog 49 #[v] w fun e w'=>∃ u,e=.returned u∧((u=.nilIface∧∀ t,t<rs.length→0<(1+rs[t]?.getD 0).num)∨(u=.iface 33 (.int .i64 1)∧∃ t,t<rs.length∧¬ 0<(1+rs[t]?.getD 0).num))∧But [] w w':=by
 rcases hr.open with ⟨rfl,a,cap,rfl⟩ | ⟨h0,b,off,cap,rfl,hcap,-⟩
 ·clear hr lr
  go_enter Tryz.func49,Tryz.ntmps49
  go_wp2
  go_loopw [11] (fun i wr=>i=.int .i64 0∧wr=w) (fun _ _=>0)
  case atStart=>exact ⟨rfl,rfl⟩
  case round =>
   obtain ⟨rfl,rfl⟩:=hrel
   go_wp2
   go_ret
   exact ⟨_,rfl,rfl,But.refl _ _⟩
 ·have HR:=hide hr
  have LR:=hide lr
  clear hr lr
  generalize hnn:rs.length=n at *
  go_enter Tryz.func49,Tryz.ntmps49
  go_wp2
  go_loopw [11] (fun i wr=>∃ k:Nat,k≤n∧i=.int .i64 (k:Int)∧Hid ((∀ t,t<k→0<(1+rs[t]?.getD 0).num)∧But [] w wr)) (fun i _=>n-(intOf i).toNat)
  case atStart=>exact ⟨0,Nat.zero_le _,rfl,fun t ht=>by omega,But.refl _ _⟩
  case round =>
   obtain ⟨k,hk,rfl,HI⟩:=hrel
   rename World=>wr
   by_cases hlt:k<n
   ·obtain ⟨s,x,y,p,⟨c0,c1,c2,c3⟩,hf⟩:=((unhide HR).but (unhide HI).2).get k hlt
    have GR:=hide (fun W (h:But [] wr W)=>in_parts (growth_any _ _ W (hf.but h) (unhide LR k hlt)))
    generalize hval:(1+rs[k]?.getD 0)=val at *
    have HVAL:=hide hval
    clear hf hval
    have ba:=(But.refl [] wr).alloc (.cells #[.bool s,.int .u64 x,.int .u64 y,.pointer p] 27)
    have BA:=hide ba
    clear ba
    go_wp2_with fail
    refine (unhide GR _ (unhide BA)).mono ?_
    rintro e w1 ⟨s1,x1,y1,p1,rfl,hv1,hb1⟩
    have SG:=hide (fracSign_any _ _ w1 hv1)
    have B1:Hid (But [] w w1):=((unhide HI).2.trans' (unhide BA)).trans' hb1
    clear hv1 hb1 GR
    by_cases hpos:0<val.num
    ·rw [Int.sign_eq_one_of_pos hpos] at SG
     go_wp2_with fail
     refine (unhide SG).mono ?_
     rintro e w2 ⟨rfl,hb2⟩
     have B2:Hid (But [] w w2):=(unhide B1).trans' hb2
     clear hb2
     go_wp2
     refine ⟨⟨k+1,by omega,by go_num,fun t ht=>?_,unhide B2⟩,by simp [intOf];omega⟩
     by_cases e:t=k
     ·subst e
      rw [unhide HVAL]
      exact hpos
     ·exact (unhide HI).1 t (by omega)
    ·have hle:val.num.sign≤0:=by
      rcases Int.lt_or_eq_of_le (Int.not_lt.1 hpos) with h | h
      ·rw [Int.sign_eq_neg_one_of_neg h];omega
      ·rw [h];decide
     generalize val.num.sign=sg at *
     go_wp2_with fail
     refine (unhide SG).mono ?_
     rintro e w2 ⟨rfl,hb2⟩
     have B2:Hid (But [] w w2):=(unhide B1).trans' hb2
     clear hb2
     go_wp2
     go_ret
     exact ⟨_,rfl,.inr ⟨rfl,k,hlt,by rw [unhide HVAL];exact hpos⟩,unhide B2⟩
   ·obtain rfl:k=n:=by omega
    go_wp2
    go_ret
    exact ⟨_,rfl,.inl ⟨rfl,(unhide HI).1⟩,(unhide HI).2⟩
end Go.Proofs.YtollloafckcogaaGreatDoor

namespace Go.Proofs.YtollloafckcogaaGreatDoor
open Go.RowKit Go.Shelf
set_option maxHeartbeats 8000000
set_option maxRecDepth 100000
attribute [local go_sem] Oper.semAt_some
set_option linter.unusedVariables false
theorem back0_in (F:Fence) (n:Nat) (hf:F.fn 142) (hro:F.round=none) (hn:1≤n) (l Bs n₀ g:Nat) (a:Option Addr) (cap:Nat) (J Jx:List (Fin 0)→World→Prop)
  (W:World) (hBs:W.cell? ⟨Bs,0,none⟩=some (.slice a 0 cap)) (h0:J [] W) :
  CallsIn F n Tryz.prog 142 #[.func (.yield l) #[] #[],.pointer (some ⟨Bs,0,none⟩)] W fun e W'=>(∃ v,e=.returned v) ∧
   ((∃ ys,ys=downs 0 0∧J ys W')∨(∃ pre,True∧Jx pre W')):=by
 refine callsIn_of_wp Tryz.func142 rfl hf ?_ hro
 simp only [Tryz.ntmps142,List.size_toArray,List.length_cons,List.length_nil,Nat.reduceAdd,Nat.reduceSub,Array.replicate_succ,Array.replicate_zero,List.push_toArray,List.append_toArray,List.nil_append,List.cons_append]
 gi_wp2
 gi_loopw [3] (fun i wr=>i=.int .i64 (-1)∧wr=W) (fun i _=>(intOf i+1).toNat)
 case atStart=>exact ⟨rfl,rfl⟩
 case round =>
  obtain ⟨rfl,rfl⟩:=hrel
  gi_wp2
  go_end0
  exact ⟨⟨_,rfl⟩,.inl ⟨_,rfl,h0⟩⟩
theorem back0_stops (F:Fence) (n:Nat) (hf:F.fn 142) (hro:F.round=none) (hn:1≤n) (Bs n₀ g:Nat) (a:Option Addr) (cap:Nat) (w:World) (hn₀:n₀≤w.heap.size)
  (hBs:w.cell? ⟨Bs,0,none⟩=some (.slice a 0 cap)) (hBn:Bs<n₀) (hBg:Bs≠g) :
  SeqStopsK F n Tryz.prog 142 #[.pointer (some ⟨Bs,0,none⟩)] (fun x:Fin 0=>#[.int .i64 ((x.1:Nat):Int),.agg #[.bool false,.int .u64 0,.int .u64 0,.pointer none]]) (Kept n₀ g) (fun ys=>ys=downs 0 0) (fun _=>True) 0 w:=fun l J Jx W hW _ _ hY h0 =>
 back0_in F n hf hro hn l Bs n₀ g a cap J Jx W ((hW.cell (p:=⟨Bs,0,none⟩) (by show Bs<_;omega)).trans hBs) h0
theorem worth_zero (a:Option Addr) (cap:Nat) (vr:Value) (rs:List Rat) (w:World) (hr:FracsAt w vr rs) :
  Calls Tryz.prog 57 #[.slice a 0 cap,vr] w fun e w'=>∃ v,e=.returned v∧FracAt w' v 0∧But [] w w':=by
 obtain ⟨ra,rcap,rfl,hrc,-⟩:=id hr
 refine (callsIn_wide (n:=4)).1 ?_
 refine callsIn_of_wp_marks Tryz.func57 rfl trivial ?_ rfl
 simp only [Tryz.ntmps57,List.size_toArray,List.length_cons,List.length_nil,Nat.reduceAdd,Nat.reduceSub,Array.replicate_succ,Array.replicate_zero,List.push_toArray,List.append_toArray,List.nil_append,List.cons_append]
 gi_wp2_with (refine ⟨trivial,?_⟩;gi_at_call 106;refine (back_in Fence.wide _ trivial rfl _ _ _ _).mono ?_;rintro e w' ⟨rfl,rfl⟩)
 have n1:(w.alloc (.cells #[.slice ra rs.length rcap] 42)).cell? ⟨w.heap.size,0,none⟩=some (.slice ra rs.length rcap):=by rw [World.cell?_alloc_new];rfl
 have c3:=((((But.refl [] (w.alloc (.cells #[.slice ra rs.length rcap] 42))).alloc (.cells #[.bool false,.int .u64 0,.int .u64 0,.pointer none] 27)).alloc (.cells #[.bool false,.int .u64 0,.int .u64 0,.pointer none] 27)).alloc (.cells #[.slice a 0 cap] 42)).cell_some n1 (by simp)
 have n2:((((w.alloc (.cells #[.slice ra rs.length rcap] 42)).alloc (.cells #[.bool false,.int .u64 0,.int .u64 0,.pointer none] 27)).alloc (.cells #[.bool false,.int .u64 0,.int .u64 0,.pointer none] 27)).alloc (.cells #[.slice a 0 cap] 42)).cell? ⟨(((w.alloc (.cells #[.slice ra rs.length rcap] 42)).alloc (.cells #[.bool false,.int .u64 0,.int .u64 0,.pointer none] 27)).alloc (.cells #[.bool false,.int .u64 0,.int .u64 0,.pointer none] 27)).heap.size,0,none⟩=some (.slice a 0 cap):=by rw [World.cell?_alloc_new];rfl
 have cB:=n2
 rw [World.size_alloc,World.size_alloc,World.size_alloc] at cB
 clear n1 n2
 have hz:((((w.alloc (.cells #[.slice ra rs.length rcap] 42)).alloc (.cells #[.bool false,.int .u64 0,.int .u64 0,.pointer none] 27)).alloc (.cells #[.bool false,.int .u64 0,.int .u64 0,.pointer none] 27)).alloc (.cells #[.slice a 0 cap] 42)).heap.size=w.heap.size+1+1+1+1:=by simp
 have b4:=((BoxAt.new (w.alloc (.cells #[.slice ra rs.length rcap] 42)) false 0 0 none 0 27 (zero_at _)).but ((But.refl _ _).alloc (.cells #[.bool false,.int .u64 0,.int .u64 0,.pointer none] 27))).but ((But.refl _ _).alloc (.cells #[.slice a 0 cap] 42))
 have b5:=(BoxAt.new ((w.alloc (.cells #[.slice ra rs.length rcap] 42)).alloc (.cells #[.bool false,.int .u64 0,.int .u64 0,.pointer none] 27)) false 0 0 none 0 27 (zero_at _)).but ((But.refl _ _).alloc (.cells #[.slice a 0 cap] 42))
 simp only [World.size_alloc] at b4 b5
 have hB0:But [] w ((((w.alloc (.cells #[.slice ra rs.length rcap] 42)).alloc (.cells #[.bool false,.int .u64 0,.int .u64 0,.pointer none] 27)).alloc (.cells #[.bool false,.int .u64 0,.int .u64 0,.pointer none] 27)).alloc (.cells #[.slice a 0 cap] 42)):=((((But.refl _ _).alloc _).alloc _).alloc _).alloc _
 obtain ⟨W0,hW0⟩:∃ W0,((((w.alloc (.cells #[.slice ra rs.length rcap] 42)).alloc (.cells #[.bool false,.int .u64 0,.int .u64 0,.pointer none] 27)).alloc (.cells #[.bool false,.int .u64 0,.int .u64 0,.pointer none] 27)).alloc (.cells #[.slice a 0 cap] 42))=W0:=⟨_,rfl⟩
 rw [hW0] at c3 cB hz b4 b5 hB0 ⊢
 clear hW0
 obtain ⟨g3,hg3⟩:∃ g3,g3=w.heap.size:=⟨_,rfl⟩
 obtain ⟨g4,hg4⟩:∃ g4,g4=w.heap.size+1:=⟨_,rfl⟩
 obtain ⟨g5,hg5⟩:∃ g5,g5=w.heap.size+1+1:=⟨_,rfl⟩
 obtain ⟨gB,hgB⟩:∃ gB,gB=w.heap.size+1+1+1:=⟨_,rfl⟩
 rw [← hgB] at cB
 rw [← hg5] at b5
 rw [← hg4] at b4
 rw [← hg3] at c3
 rw [← hgB,← hg5,← hg4,← hg3]
 have o3:w.heap.size≤g3:=by omega
 have o4:g3<g4:=by omega
 have o5:g4<g5:=by omega
 have oB:g5<gB:=by omega
 have oW:gB<W0.heap.size:=by omega
 clear hg3 hg4 hg5 hgB hz
 refine wpIn_rangeFunc_ownH rfl (by omega) (gf := 142) (lb:=#[.pointer (some ⟨gB,0,none⟩)]) rfl trivial (enters_of Tryz.func142 (by kernel_rfl) rfl)
  (back0_stops Fence.wide _ trivial rfl (by omega) gB W0.heap.size g5 a cap W0 (Nat.le_refl _) cB (by omega) (by omega))
  (fun h k=>Kept.trans h k) (fun W l o o' hl _ _ _=>Kept.put W l o' hl) (Below.refl _ _) (fun _=>rfl)
  (fun pre W=>WorthI w W0 g3 g4 g5 (.slice ra rs.length rcap) (fun _=>false) (fun _=>0) (fun _=>0) (fun _=>none) [] rs 0 W)
  (fun _ _ _=>False)
  (fun pre A B row ⟨i1,i2,i3,i4,i5,i6,i7⟩ hg hr=>by
   have hc:=calm_of_grown hg (fun r e=>(hr r e).2)
   exact ⟨i1.calm hc,i2.calm hc,hc.cell i3,i4.calm hc,fun t ht=>(i5 t ht).calm hc,Nat.le_trans i6 hc.size,ownFrom_below (β:=Unit) (Nat.le_refl _) (by omega) () A B row i7 hg hr⟩)
  (fun _ _ _ _ _ h _ _=>h)
  ⟨b5,b4,c3,hr.but hB0,fun t ht=>absurd ht (Nat.not_lt_zero t),Nat.le_refl _,hB0.below⟩
  (fun (x:Fin 0) a' W=>∃ Bx,P4 W Bx false 0 0 none∧a'={ tmps:=#[.slice a 0 cap,.slice ra rs.length rcap,undef,.pointer (some ⟨g3,0,none⟩),.pointer (some ⟨g4,0,none⟩),.pointer (some ⟨g5,0,none⟩),.int .i64 ((x.1:Nat):Int),.pointer (some ⟨Bx,0,none⟩),.slice a 0 cap,.func (.func 142) #[] #[.pointer (some ⟨gB,0,none⟩)],.int .i64 ((x.1:Nat):Int),.agg #[.bool false,.int .u64 0,.int .u64 0,.pointer none],undef,undef,undef,undef,undef,undef,undef,undef,undef,undef,undef,undef,undef,undef],defers:=[] })
  (fun x a' _ A B row ⟨Bx,h1,e⟩ hg hr=>⟨Bx,h1.calm (calm_of_grown hg (fun r e=>(hr r e).2)),e⟩) ?assign ?body ?done ?stop
 case assign =>
  intro l pre x
  exact x.elim0
 case body =>
  intro l pre x
  exact x.elim0
 case done =>
  rintro D ys W hD-hi hK
  obtain ⟨⟨⟨s5,x5,y5,p5,c5,f5⟩,z5⟩,⟨⟨s4,x4,y4,p4,c4,f4⟩,z4⟩,i3,i4,i5,i6,i7⟩:=hi
  have HF5:=hide f5
  have H7:=hide i7
  have C4:=hide c4
  obtain ⟨a0,a1,a2,a3⟩:=c5
  obtain ⟨r0,r1,r2,r3⟩:=c4
  have hK2:Hid ((put4 W g4 s5 x5 y5 p5).heap[D]? = some (.deferred (some []))):=((put4_but W g4 s5 x5 y5 p5).block D (Array.getElem?_eq_some_iff.1 hK).1 (by simp;omega)).trans hK
  clear i4 i5 i7 f5 f4 i3 hr hK
  gi_wp2
  have hcalm:Calm (put4 W g4 s5 x5 y5 p5) ((put4 W g4 s5 x5 y5 p5).putObj D (.deferred none)):=calm_of_grown (grownBy_putObj' _ D _) (fun r e=>by cases e;exact ⟨_,unhide hK2,rfl⟩)
  have hpp:=(put4_p4 W g4 s5 x5 y5 p5 (unhide C4)).calm hcalm
  have hff:=((unhide HF5).over r0 (put4_but W g4 s5 x5 y5 p5)).calm hcalm
  have hB1:But [] w (put4 W g4 s5 x5 y5 p5):=(But.of_below (unhide H7)).trans (put4_but W g4 s5 x5 y5 p5) (fun x hx=>by simp at hx;subst hx;exact .inr (by omega))
  have hB2:But [] w ((put4 W g4 s5 x5 y5 p5).putObj D (.deferred none)):=hB1.trans (l':=[D]) ⟨rfl,rfl,rfl,by simp,fun k _ hk=>World.putObj_heap_other (by simpa using hk)⟩ (fun x hx=>by simp at hx;subst hx;exact .inr (by omega))
  obtain ⟨t0,t1,t2,t3⟩:=hpp
  change bodyPostM _ _ _ _ _ Exit.ret _ (put4 W g4 s5 x5 y5 p5)
  generalize put4 W g4 s5 x5 y5 p5=V at *
  refine ⟨by simp,.inl ⟨_,_,rfl,run_takeDeferred (unhide hK2),?_⟩⟩
  exact ⟨.agg #[.bool s5,.int .u64 x5,.int .u64 y5,.pointer p5],(by simp [results,Tryz.results57,go_sem,t0,t1,t2,t3]),_,rfl,hff,hB2⟩
 case stop =>
  rintro D c pre W _ _ h
  exact h.elim
end Go.Proofs.YtollloafckcogaaGreatDoor
