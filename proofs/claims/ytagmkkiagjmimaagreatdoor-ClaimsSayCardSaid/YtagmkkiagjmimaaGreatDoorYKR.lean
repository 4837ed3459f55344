/- The library's iterator over a list from  -/
import Derived.RangeFuncNested
import Derived.RangeFuncBound
import Derived.RangeFuncCalls
import Derived.RangeFuncLeaves
import Derived.Shelf.Abstract
import Derived.Shelf.RegionOpen
import Derived.WalkKit
import Derived.OwnWalkIn
import Derived.TacticsInMore
import Derived.LoopNIn
import Derived.LoopIn
import Derived.Test.YtagmkkiagjmimaaGreatDoorProg
import Derived.Test.YtagmkkiagjmimaaGreatDoorYKA
import Derived.Test.YtagmkkiagjmimaaGreatDoorYKPr
import Derived.Test.YtagmkkiagjmimaaGreatDoorYKQ
namespace Go.Proofs.YtagmkkiagjmimaaGreatDoor
set_option linter.unusedVariables false
open Go.Proofs.Tryz
open Go.RowKit Go.Shelf
set_option maxHeartbeats 16000000
set_option maxRecDepth 100000
attribute [local go_sem] Oper.semAt_some
def oz (len k:Nat):List (Fin len):=((List.finRange len).drop k).reverse
theorem zmw (len:Nat):oz len len=[]:=by unfold oz;rw[List.drop_eq_nil_of_le (by simp)];rfl
theorem zkv (len k:Nat) (h:k<len):oz len k=oz len (k+1)++[⟨k,h⟩]:=by(
 unfold oz
 rw[List.drop_eq_getElem_cons (by simpa using h),List.reverse_cons]
 simp)
theorem zgm (len k:Nat):(oz len k).length=len-k:=by unfold oz;simp
def zba (n₀:Nat) (gs:List Nat) (A B:World):Prop:=∀ k,k<n₀→k ∉ gs→B.heap[k]? = A.heap[k]?
theorem zba.refl (n₀:Nat) (gs:List Nat) (A:World):zba n₀ gs A A:=fun _ _ _=>rfl
theorem zba.trans {n₀:Nat} {gs:List Nat} {A B C:World} (h:zba n₀ gs A B) (k:zba n₀ gs B C):zba n₀ gs A C:=fun i h1 h2=>(k i h1 h2).trans (h i h1 h2)
theorem zba.cell {n₀:Nat} {gs:List Nat} {A B:World} (h:zba n₀ gs A B) {p:Addr} (hp:p.block<n₀) (hn:p.block ∉ gs):B.cell? p=A.cell? p:=World.cell?_of_block (w:=A) (h p.block hp hn)
theorem zba.put {n₀:Nat} {gs:List Nat} (W:World) (l:Nat) (o:Obj) (hl:n₀≤l):zba n₀ gs W (W.putObj l o):=fun k hk _=>World.putObj_heap_other (by omega)
theorem qbl (F:Fence) (n:Nat) (hf:F.fn 176) (hro:F.round=none) (hn:1≤n) (l Bs n₀:Nat) (gs:List Nat) (b off len cap:Nat) (S:Nat→Bool) (X Y:Nat→Int) (Q:Nat→Option Addr) (hreach:len≤1000000) (hb:b<n₀) (hbg:b ∉ gs) (J Jx:List (Fin len)→World→Prop)
   (hY:∀ pre (x:Fin len) W,J pre W→pre.length<len→YieldAt F (n-1) prog l #[.int .i64 ((x.1:Nat):Int),.agg #[.bool (S x.1),.int .u64 (X x.1),.int .u64 (Y x.1),.pointer (Q x.1)]] W fun e W' =>
    (e=.returned (.bool true)∧J (pre++[x]) W'∧zba n₀ gs W W')∨(e=.returned (.bool false)∧Jx (pre++[x]) W'))
   (W:World) (hBs:W.cell? ⟨Bs,0,none⟩=some (.slice (some ⟨b,off,none⟩) len cap)) (hBn:Bs<n₀) (hBg:Bs ∉ gs)
   (hc:∀ j,j<len→W.cell? ⟨b,off+j*4,none⟩=some (.bool (S j))∧W.cell? ⟨b,off+j*4+1,none⟩=some (.int .u64 (X j))∧W.cell? ⟨b,off+j*4+2,none⟩=some (.int .u64 (Y j))∧W.cell? ⟨b,off+j*4+3,none⟩=some (.pointer (Q j))) (h0:J [] W) :
   CallsIn F n prog 176 #[.func (.yield l) #[] #[],.pointer (some ⟨Bs,0,none⟩)] W fun e W'=>(∃ v,e=.returned v) ∧
    ((∃ ys,ys=oz len 0∧J ys W')∨(∃ pre,True∧Jx pre W')):=by(
 refine callsIn_of_wp func176 rfl hf ?_ hro
 simp only[ntmps176,List.size_toArray,List.length_cons,List.length_nil,Nat.reduceAdd,Nat.reduceSub,Array.replicate_succ,Array.replicate_zero,List.push_toArray,List.append_toArray,List.nil_append,List.cons_append]
 gi_wp2
 gi_loopw [3] (fun i wr=>∃ k:Nat,k≤len∧i=.int .i64 ((k:Int)-1)∧J (oz len k) wr∧zba n₀ gs W wr) (fun i _=>(intOf i+1).toNat)
 case atStart=>exact⟨len,Nat.le_refl _,rfl,by rw[zmw];exact h0,zba.refl _ _ _⟩
 case round =>(
 obtain⟨k,hk,rfl,hJs,hnx⟩:=hrel
 by_cases hlt:k=0
 ·subst hlt
  gi_wp2
  go_end0
  exact⟨⟨_,rfl⟩,.inl ⟨_,rfl,hJs⟩⟩
 ·(
 obtain⟨j,rfl⟩:∃ j,k=j+1:=⟨k-1,by omega⟩
 rw[show (((j+1:Nat):Int)-1)=(j:Int) from by omega]
 obtain⟨fn,tmps,assign,body,hy,hR⟩:=hY _ ⟨j,by omega⟩ wr hJs (by rw[zgm];omega)
 dsimp only at hy
 obtain⟨c0,c1,c2,c3⟩:=hc j (by omega)
 have c0':=(hnx.cell (p:=⟨b,off+j*4,none⟩) hb hbg).trans c0
 have c1':=(hnx.cell (p:=⟨b,off+j*4+1,none⟩) hb hbg).trans c1
 have c2':=(hnx.cell (p:=⟨b,off+j*4+2,none⟩) hb hbg).trans c2
 have c3':=(hnx.cell (p:=⟨b,off+j*4+3,none⟩) hb hbg).trans c3
 have hBs':=(hnx.cell (p:=⟨Bs,0,none⟩) hBn hBg).trans hBs
 clear hc c0 c1 c2 c3
 gi_wp2
 refine hR.mono ?_
 rintro e W3 (⟨rfl,hJ3,hk3⟩|⟨rfl,hJx3⟩)
 ·gi_wp2
  go_roundw
  case rel=>exact⟨j,by omega,by simp,by rw[zkv len j (by omega)];exact hJ3,hnx.trans hk3⟩
  case measure=>simp[intOf]
 ·gi_wp2
  refine bodyPost_ret (results_none rfl _ _ _) rfl ?_
  exact⟨⟨_,rfl⟩,.inr ⟨_,trivial,hJx3⟩⟩)))
theorem zui (F:Fence) (n:Nat) (hf:F.fn 176) (hro:F.round=none) (hn:1≤n) (Bs n₀:Nat) (gs:List Nat) (b off len cap:Nat) (S:Nat→Bool) (X Y:Nat→Int) (Q:Nat→Option Addr) (hreach:len≤1000000) (w:World) (hb:b<n₀) (hbg:b ∉ gs) (hn₀:n₀≤w.heap.size)
  (hBs:w.cell? ⟨Bs,0,none⟩=some (.slice (some ⟨b,off,none⟩) len cap)) (hBn:Bs<n₀) (hBg:Bs ∉ gs)
  (hc:∀ j,j<len→w.cell? ⟨b,off+j*4,none⟩=some (.bool (S j))∧w.cell? ⟨b,off+j*4+1,none⟩=some (.int .u64 (X j))∧w.cell? ⟨b,off+j*4+2,none⟩=some (.int .u64 (Y j))∧w.cell? ⟨b,off+j*4+3,none⟩=some (.pointer (Q j))) :
  SeqStopsK F n prog 176 #[.pointer (some ⟨Bs,0,none⟩)] (fun x:Fin len=>#[.int .i64 ((x.1:Nat):Int),.agg #[.bool (S x.1),.int .u64 (X x.1),.int .u64 (Y x.1),.pointer (Q x.1)]]) (zba n₀ gs) (fun ys=>ys=oz len 0) (fun _=>True) len w:=fun l J Jx W hW _ _ hY h0 =>
 qbl F n hf hro hn l Bs n₀ gs b off len cap S X Y Q hreach hb hbg J Jx hY W ((hW.cell (p:=⟨Bs,0,none⟩) (by show Bs<_;omega)).trans hBs) hBn hBg (fun j hj=>by
  obtain⟨c0,c1,c2,c3⟩:=hc j hj
  have hbl:b<w.heap.size:=by omega
  exact⟨(hW.cell (p:=⟨b,off+j*4,none⟩) hbl).trans c0,(hW.cell (p:=⟨b,off+j*4+1,none⟩) hbl).trans c1,(hW.cell (p:=⟨b,off+j*4+2,none⟩) hbl).trans c2,(hW.cell (p:=⟨b,off+j*4+3,none⟩) hbl).trans c3⟩) h0
theorem qgj (F:Fence) (n:Nat) (hf:F.fn 116) (hro:F.round=none) (a:Option Addr) (len cap:Nat) (w:World) :
   CallsIn F n prog 116 #[.slice a len cap] w fun e w'=>e=.returned (.func (.func 176) #[] #[.pointer (some ⟨w.heap.size,0,none⟩)])∧w'=w.alloc (.cells #[.slice a len cap] 47):=by(
 refine callsIn_of_wp func116 rfl hf ?_ hro
 simp only[ntmps116,List.size_toArray,List.length_cons,List.length_nil,Nat.reduceAdd,Nat.reduceSub,Array.replicate_succ,Array.replicate_zero,List.push_toArray,List.append_toArray,List.nil_append,List.cons_append]
 gi_wp2
 go_ret
 exact⟨rfl,rfl⟩)
attribute [local go_sem] Oper.semAt_some
theorem zfn {A B:World} {row:Option Nat} (hg:A.grownBy B row) (hr:∀ r,row=some r→∃ o:Obj,A.heap[r]? = some o∧o.isCells=false):Calm A B :=
 ⟨hg.size,fun k i v h=>by
  obtain⟨o,ho,hc⟩:=cells_of_cell h
  exact grownBy_keeps_cells hg hr ho hc⟩
theorem zgk {W V:World} {l gs:List Nat} (hb:But l W V) (hc:∀ g ∈ l,∃ v,W.cell? ⟨g,0,none⟩=some v) (B n₀:Nat) (hn:n₀≤W.heap.size) (hl:∀ g ∈ l,g ∈ gs∨n₀≤g):KeepsFrom B W V∧zba n₀ gs W V :=
 ⟨⟨hb.size,fun k o _ hk ho=>by
  have hne:k ∉ l:=by
   intro hkl
   obtain⟨v,hv⟩:=hc k hkl
   obtain⟨o',ho',hc'⟩:=cells_of_cell hv
   rw[hk] at ho'
   obtain rfl:=Option.some.inj ho'
   rw[ho] at hc'
   simp at hc'
  exact (hb.block k (Array.getElem?_eq_some_iff.1 hk).1 hne).trans hk⟩,fun k hk hne=>hb.block k (by omega) (fun h=>(hl k h).elim hne (fun h=>by omega))⟩
structure eu (w W0:World) (g4 g7 g8 g9:Nat) (S:Nat→Bool) (X Y:Nat→Int) (Q:Nat→Option Addr) (fs:List Rat) (part left sum:Rat) (W:World):Prop where
 b8:bf W g8 left
 b9:bf W g9 sum
 b7:bf W g7 part
 b4:bf W g4 0
 all:∀ t,t<fs.length→aq W (.agg #[.bool (S t),.int .u64 (X t),.int .u64 (Y t),.pointer (Q t)]) (fs[t]?.getD 0)
 size:W0.heap.size≤W.heap.size
 below:Below w.heap.size w W
theorem eu.but {w W0:World} {g4 g7 g8 g9:Nat} {S:Nat→Bool} {X Y:Nat→Int} {Q:Nat→Option Addr} {fs:List Rat} {part left sum:Rat} {W V:World} (h:eu w W0 g4 g7 g8 g9 S X Y Q fs part left sum W) (hb:But [] W V):eu w W0 g4 g7 g8 g9 S X Y Q fs part left sum V :=
 ⟨h.b8.but hb,h.b9.but hb,h.b7.but hb,h.b4.but hb,fun t ht=>(h.all t ht).but hb,Nat.le_trans h.size hb.size,((But.of_below h.below).trans' hb).below⟩
theorem eu.calm {w W0:World} {g4 g7 g8 g9:Nat} {S:Nat→Bool} {X Y:Nat→Int} {Q:Nat→Option Addr} {fs:List Rat} {part left sum:Rat} {W V:World} (h:eu w W0 g4 g7 g8 g9 S X Y Q fs part left sum W) (hc:Calm W V) (hb:Below w.heap.size w V):eu w W0 g4 g7 g8 g9 S X Y Q fs part left sum V :=
 ⟨h.b8.calm hc,h.b9.calm hc,h.b7.calm hc,h.b4.calm hc,fun t ht=>(h.all t ht).calm hc,Nat.le_trans h.size hc.size,hb⟩
theorem eu.qmm {w W0:World} {g4 g7 g8 g9:Nat} {S:Nat→Bool} {X Y:Nat→Int} {Q:Nat→Option Addr} {fs:List Rat} {part left sum left':Rat} {W:World} (h:eu w W0 g4 g7 g8 g9 S X Y Q fs part left sum W) (o:w.heap.size≤g4∧g4<g7∧g7<g8∧g8<g9) {s:Bool} {x y:Int} {p:Option Addr} (hf:aq W (.agg #[.bool s,.int .u64 x,.int .u64 y,.pointer p]) left'):eu w W0 g4 g7 g8 g9 S X Y Q fs part left' sum (qw W g8 s x y p):=by(
 have hP:=ax W g8 s x y p
 obtain⟨c,hc⟩:=h.b8.bool
 have hcs:∀ g ∈ [g8],∃ s,W.cell? ⟨g,0,none⟩=some (.bool s):=fun g hg=>by simp at hg;subst hg;exact⟨c,hc⟩
 exact⟨h.b8.put hf,h.b9.beside hP (by simp;omega) hcs,h.b7.beside hP (by simp;omega) hcs,h.b4.beside hP (by simp;omega) hcs,fun t ht=>(h.all t ht).over hc hP,Nat.le_trans h.size hP.size,((But.of_below h.below).trans hP (fun x hx=>by simp at hx;subst hx;exact .inr (by omega))).below⟩)
theorem eu.qml {w W0:World} {g4 g7 g8 g9:Nat} {S:Nat→Bool} {X Y:Nat→Int} {Q:Nat→Option Addr} {fs:List Rat} {part left sum sum':Rat} {W:World} (h:eu w W0 g4 g7 g8 g9 S X Y Q fs part left sum W) (o:w.heap.size≤g4∧g4<g7∧g7<g8∧g8<g9) {s:Bool} {x y:Int} {p:Option Addr} (hf:aq W (.agg #[.bool s,.int .u64 x,.int .u64 y,.pointer p]) sum'):eu w W0 g4 g7 g8 g9 S X Y Q fs part left sum' (qw W g9 s x y p):=by(
 have hP:=ax W g9 s x y p
 obtain⟨c,hc⟩:=h.b9.bool
 have hcs:∀ g ∈ [g9],∃ s,W.cell? ⟨g,0,none⟩=some (.bool s):=fun g hg=>by simp at hg;subst hg;exact⟨c,hc⟩
 exact⟨h.b8.beside hP (by simp;omega) hcs,h.b9.put hf,h.b7.beside hP (by simp;omega) hcs,h.b4.beside hP (by simp;omega) hcs,fun t ht=>(h.all t ht).over hc hP,Nat.le_trans h.size hP.size,((But.of_below h.below).trans hP (fun x hx=>by simp at hx;subst hx;exact .inr (by omega))).below⟩)
theorem eu.qmw {w W0:World} {g4 g7 g8 g9:Nat} {S:Nat→Bool} {X Y:Nat→Int} {Q:Nat→Option Addr} {fs:List Rat} {part left sum:Rat} {W:World} (h:eu w W0 g4 g7 g8 g9 S X Y Q fs part left sum W) (o:w.heap.size≤g4∧g4<g7∧g7<g8∧g8<g9) {gx:Nat} (hx:g9<gx) {f:Rat} (hbx:bf W gx f) (s:Bool) (x y:Int) (p:Option Addr):eu w W0 g4 g7 g8 g9 S X Y Q fs part left sum (qw W gx s x y p):=by(
 have hP:=ax W gx s x y p
 obtain⟨c,hc⟩:=hbx.bool
 have hcs:∀ g ∈ [gx],∃ s,W.cell? ⟨g,0,none⟩=some (.bool s):=fun g hg=>by simp at hg;subst hg;exact⟨c,hc⟩
 exact⟨h.b8.beside hP (by simp;omega) hcs,h.b9.beside hP (by simp;omega) hcs,h.b7.beside hP (by simp;omega) hcs,h.b4.beside hP (by simp;omega) hcs,fun t ht=>(h.all t ht).over hc hP,Nat.le_trans h.size hP.size,((But.of_below h.below).trans hP (fun x hx=>by simp at hx;subst hx;exact .inr (by omega))).below⟩)
theorem zot (f:Nat→Rat) (c:Nat):∀ (l:List Nat) (q:Rat × Rat) (a s:Nat),Len q.1 a→Len q.2 s→(∀ t ∈ l,Len (f t) c∧t<1000000)→Len (l.foldl (zdr f) q).1 (a+l.length*(c+1))∧Len (l.foldl (zdr f) q).2 (s+l.length*(a+l.length*(c+1)+c+3))
 | [],q,a,s,h1,h2,_=>⟨h1.mono (by omega),h2.mono (by omega)⟩
 | t::l,q,a,s,h1,h2,h=>by
  obtain⟨hf,ht⟩:=h t (by simp)
  have lint:Len ((((t:Nat):Int)):Rat) 1:=zan _ (by omega)
  have l1:Len (zdr f q t).1 (a+c+1):=by
   show Len (q.1-(if f t≤q.1 then f t else q.1)) _
   by_cases hle:f t≤q.1
   ·rw[if_pos hle];exact zyb h1 hf _ (by omega)
   ·rw[if_neg hle,Rat.sub_self];exact zfh _ (by omega)
  have l0:Len (if f t≤q.1 then f t else q.1) (a+c):=by
   by_cases hle:f t≤q.1
   ·rw[if_pos hle];exact hf.mono (by omega)
   ·rw[if_neg hle];exact h1.mono (by omega)
  have l2:Len (zdr f q t).2 (s+a+c+2):=by
   show Len (q.2+(if f t≤q.1 then f t else q.1)*((t:Int):Rat)) _
   exact zhx h2 (zgc l0 lint (a+c+1) (by omega)) _ (by omega)
  have ih:=zot f c l (zdr f q t) (a+c+1) (s+a+c+2) l1 l2 (fun u hu=>h u (by simp[hu]))
  have e0:(t::l).length=l.length+1:=rfl
  have e1:(l.length+1)*(c+1)=l.length*(c+1)+(c+1):=Nat.succ_mul _ _
  rw[e0]
  refine⟨ih.1.mono (by omega),ih.2.mono ?_⟩
  rw[e1]
  have e2:a+c+1+l.length*(c+1)+c+3=a+(l.length*(c+1)+(c+1))+c+3:=by omega
  rw[e2,Nat.succ_mul]
  generalize l.length*(a+(l.length*(c+1)+(c+1))+c+3)=z
  omega
theorem zya (f:Nat→Rat) (part:Rat) (c d:Nat) (hp:Len part d) (l:List Nat) (h:∀ t ∈ l,Len (f t) c∧t<1000000):Len (wsf f part l).1 (l.length*(c+1)+d+1)∧Len (wsf f part l).2 (l.length*(l.length*(c+1)+d+c+3)+1):=by(
 have h1:=zot f c l (part,0) d 1 hp (zfh _ (by omega)) h
 unfold wsf
 refine⟨h1.1.mono (by omega),h1.2.mono ?_⟩
 rw[show d+l.length*(c+1)+c+3=l.length*(c+1)+d+c+3 from by omega]
 omega)
theorem zks (b off cap n:Nat) (fs:List Rat) (c:Nat) (vch:Value) (ch:Rat) (w:World) (hv:au w (.slice (some ⟨b,off,none⟩) n cap) fs) (hN:n=fs.length) (hck:yc fs=0) (hch:aq w vch ch) (lf:∀ f ∈ fs,Len f c) (hc:c≤3) (lch:Len ch 3) :
   Calls prog 47 #[.slice (some ⟨b,off,none⟩) n cap,vch] w fun e w'=>But [] w w'∧((¬ (0≤ch∧ch<1)∧e=.returned (.tuple #[.agg #[.bool false,.int .u64 0,.int .u64 0,.pointer none],.iface 33 (.int .i64 2)]))∨((0≤ch∧ch<1)∧∃ s x y p,e=.returned (.tuple #[.agg #[.bool s,.int .u64 x,.int .u64 y,.pointer p],.nilIface])∧aq w' (.agg #[.bool s,.int .u64 x,.int .u64 y,.pointer p]) ((wsf (fun t=>fs[t]?.getD 0) (((1:Int):Rat)-ch) ((oz fs.length 0).map (·.1))).2/(((1:Int):Rat)-ch)))):=by(
 subst hN
 obtain⟨hn0,hn1,hpos,hone⟩:=zcf hck
 obtain⟨S,X,Y,Q,hV⟩:∃ (S:Nat→Bool) (X Y:Nat→Int) (Q:Nat→Option Addr),∀ t,t<fs.length→P4o w b (off+t*4) (S t) (X t) (Y t) (Q t)∧aq w (.agg #[.bool (S t),.int .u64 (X t),.int .u64 (Y t),.pointer (Q t)]) (fs[t]?.getD 0):=by
  have h:∀ t,∃ q:Bool × Int × Int × Option Addr,t<fs.length→P4o w b (off+t*4) q.1 q.2.1 q.2.2.1 q.2.2.2∧aq w (.agg #[.bool q.1,.int .u64 q.2.1,.int .u64 q.2.2.1,.pointer q.2.2.2]) (fs[t]?.getD 0):=fun t=>by
   by_cases ht:t<fs.length
   ·obtain⟨s,x,y,p,h1,h2⟩:=hv.get t (by omega)
    exact⟨(s,x,y,p),fun _=>⟨h1,h2⟩⟩
   ·exact⟨(false,0,0,none),fun h=>absurd h ht⟩
  obtain⟨q,hq⟩:=Classical.axiomOfChoice h
  exact⟨fun t=>(q t).1,fun t=>(q t).2.1,fun t=>(q t).2.2.1,fun t=>(q t).2.2.2,hq⟩
 have CH:=af (fun W (h:But [] w W)=>jm _ fs c W (hv.but h) (by omega) lf (by omega))
 rw[hck] at CH
 have BE:=af (fun W (h:But [] w W)=>zwm vch ch W (hch.but h) (lch.mono (by omega)))
 obtain⟨x1,y1,p1,rfl,-⟩:=hch.agg
 generalize hsf:decide (ch.num<0)=s1 at *
 clear hsf
 obtain⟨W1,hW1⟩:∃ W1,W1=(w.alloc (.cells #[.bool s1,.int .u64 x1,.int .u64 y1,.pointer p1] 27)).alloc (.cells #[.bool false,.int .u64 0,.int .u64 0,.pointer none] 27):=⟨_,rfl⟩
 have x3:bf W1 w.heap.size ch:=by rw[hW1];exact (bf.new w s1 x1 y1 p1 ch 27 hch).but ((But.refl _ _).alloc _)
 have c3:P4 W1 w.heap.size s1 x1 y1 p1:=by rw[hW1];exact⟨((But.refl [] _).alloc _).ag (by simp) (by simp),((But.refl [] _).alloc _).ag (by simp) (by simp),((But.refl [] _).alloc _).ag (by simp) (by simp),((But.refl [] _).alloc _).ag (by simp) (by simp)⟩
 have x4:bf W1 (w.heap.size+1) 0:=by
  rw[hW1]
  have h:=bf.new (w.alloc (.cells #[.bool s1,.int .u64 x1,.int .u64 y1,.pointer p1] 27)) false 0 0 none 0 27 (yw _)
  rw[show (w.alloc (.cells #[.bool s1,.int .u64 x1,.int .u64 y1,.pointer p1] 27)).heap.size=w.heap.size+1 from by simp] at h
  exact h
 have bW:But [] w W1:=by rw[hW1];exact ((But.refl _ _).alloc _).alloc _
 have X4:=af x4
 have C3:=af c3
 have BW:=af bW
 have HV:=af hV
 have HCH:=af hch
 clear x3 c3 x4 bW hV hch hv
 refine (callsIn_wide (n:=4)).1 ?_
 refine callsIn_of_wp_marks func47 rfl trivial ?_ rfl
 simp only[ntmps47,List.size_toArray,List.length_cons,List.length_nil,Nat.reduceAdd,Nat.reduceSub,Array.replicate_succ,Array.replicate_zero,List.push_toArray,List.append_toArray,List.nil_append,List.cons_append]
 gi_wp2_with fail
 rw[← hW1]
 clear hW1
 refine⟨trivial,(callsIn_wide.2 (ae CH _ (ae BW))).mono ?_⟩
 rintro e w1 ⟨rfl,hb1⟩
 have B1:=af ((ae BW).trans' hb1)
 have X41:=af ((ae X4).but hb1)
 have C31:=af ((ae C3).but hb1 (by simp))
 obtain⟨c0,c1,c2,c3⟩:=(ae C3).but hb1 (by simp)
 clear hb1 CH X4 BW C3
 generalize hg4:w.heap.size+1=g4 at *
 generalize hg3:w.heap.size=g3 at *
 rw[show zcm 0=.nilIface from rfl]
 gi_wp2_with fail
 refine⟨trivial,(callsIn_wide.2 (ae BE _ (ae B1))).mono ?_⟩
 rintro e w2 ⟨rfl,hb2⟩
 have B2:=af ((ae B1).trans' hb2)
 have X42:=af ((ae X41).but hb2)
 have C32:=af ((ae C31).but hb2 (by simp))
 clear hb2 BE X41 B1 C31 c0 c1 c2 c3
 by_cases hb:0≤ch∧ch<1
 ·(
 rw[decide_eq_true hb]
 gi_wp2
 obtain⟨ws,wx,FW,CW⟩:=zbq 1 (by omega) (by omega)
 refine wpIn_wide.2 (znj 6 _ _ w2 w2.heap.size s1 x1 y1 p1 ws wx ch (by simp) g3 (Nat.le_refl _) (by simp[Act.eval]) (ae C32) CW (fun w' hb=>zcx _ _ ((1:Int):Rat) ch w' (FW w') ((ae HCH).but ((ae B2).trans' hb)) ((zan 1 (by decide)).mono (by omega)) (lch.mono (by omega))) ?_)
 intro w3 g7 s7 x7 y7 p7 hb3 hg7 hP7 hz7 hf7
 simp only[bj,List.foldl_cons,List.foldl_nil,Act.put,List.setIfInBounds_toArray,List.set_cons_zero,List.set_cons_succ]
 have hP:=ax w3 g7 s7 x7 y7 p7
 have x7':bf (qw w3 g7 s7 x7 y7 p7) g7 (((1:Int):Rat)-ch):=bf.put (f:=0) ⟨⟨false,0,0,none,hP7,yw _⟩,hz7⟩ hf7
 have hl4:g4<w2.heap.size:=(ae X42).lt
 have x4':bf (qw w3 g7 s7 x7 y7 p7) g4 0:=((ae X42).but hb3).beside hP (by simp;omega) (fun g hg=>by simp at hg;subst hg;exact⟨_,hP7.1⟩)
 have bN:But [] w (qw w3 g7 s7 x7 y7 p7):=((ae B2).trans' hb3).trans hP (fun x hx=>by simp at hx;subst hx;exact .inr (by have:=(ae B2).size;omega))
 have m7:P4 (qw w3 g7 s7 x7 y7 p7) g7 s7 x7 y7 p7:=j6 w3 g7 s7 x7 y7 p7 hP7
 have hf7':=hf7.over hP7.1 hP
 have n47:g4<g7:=by omega
 have o4:w.heap.size≤g4:=by omega
 generalize qw w3 g7 s7 x7 y7 p7=V at *
 have l7:g7<V.heap.size:=x7'.lt
 have X7:=af x7'
 have X4':=af x4'
 have BN:=af bN
 have HF7:=af hf7'
 obtain⟨d0,d1,d2,d3⟩:=m7
 clear x7' x4' bN hP hb3 hg7 hP7 hz7 hf7 hf7' X42 B2 hl4 C32 CW FW
 gi_wp2_with (refine⟨trivial,?_⟩;gi_at_call 116;refine (qgj Fence.wide _ trivial rfl _ _ _ _).mono ?_;rintro e w' ⟨rfl,rfl⟩)
 have e8:=(bf.new V s7 x7 y7 p7 _ 27 (ae HF7))
 obtain⟨W0,hW0⟩:∃ W0,((V.alloc (.cells #[.bool s7,.int .u64 x7,.int .u64 y7,.pointer p7] 27)).alloc (.cells #[.bool false,.int .u64 0,.int .u64 0,.pointer none] 27)).alloc (.cells #[.slice (some ⟨b,off,none⟩) fs.length cap] 47)=W0:=⟨_,rfl⟩
 have hz:W0.heap.size=V.heap.size+1+1+1:=by rw[← hW0];simp
 have b8:bf W0 V.heap.size (((1:Int):Rat)-ch):=by rw[← hW0];exact (e8.but ((But.refl _ _).alloc _)).but ((But.refl _ _).alloc _)
 have b9:bf W0 (V.heap.size+1) 0:=by
  rw[← hW0]
  have h:=(bf.new (V.alloc (.cells #[.bool s7,.int .u64 x7,.int .u64 y7,.pointer p7] 27)) false 0 0 none 0 27 (yw _)).but ((But.refl _ _).alloc (.cells #[.slice (some ⟨b,off,none⟩) fs.length cap] 47))
  simp only[World.size_alloc] at h
  exact h
 have cB:W0.cell? ⟨V.heap.size+1+1,0,none⟩=some (.slice (some ⟨b,off,none⟩) fs.length cap):=by
  rw[← hW0]
  have n2:(((V.alloc (.cells #[.bool s7,.int .u64 x7,.int .u64 y7,.pointer p7] 27)).alloc (.cells #[.bool false,.int .u64 0,.int .u64 0,.pointer none] 27)).alloc (.cells #[.slice (some ⟨b,off,none⟩) fs.length cap] 47)).cell? ⟨((V.alloc (.cells #[.bool s7,.int .u64 x7,.int .u64 y7,.pointer p7] 27)).alloc (.cells #[.bool false,.int .u64 0,.int .u64 0,.pointer none] 27)).heap.size,0,none⟩=some (.slice (some ⟨b,off,none⟩) fs.length cap):=by rw[World.cell?_alloc_new];rfl
  rw[World.size_alloc,World.size_alloc] at n2
  exact n2
 have hBV:But [] V W0:=by rw[← hW0];exact (((But.refl _ _).alloc _).alloc _).alloc _
 rw[hW0]
 clear hW0 e8
 have hB0:But [] w W0:=(ae BN).trans' hBV
 have b7:=(ae X7).but hBV
 have b4:=(ae X4').but hBV
 obtain⟨g8,hg8⟩:∃ g8,g8=V.heap.size:=⟨_,rfl⟩
 obtain⟨g9,hg9⟩:∃ g9,g9=V.heap.size+1:=⟨_,rfl⟩
 obtain⟨gB,hgB⟩:∃ gB,gB=V.heap.size+1+1:=⟨_,rfl⟩
 rw[← hgB] at cB
 rw[← hg9] at b9
 rw[← hg8] at b8
 rw[← hgB,← hg9,← hg8]
 have hbw:b<w.heap.size:=ai (ae HV 0 hn0).1.1
 have n78:g7<g8:=by omega
 have n89:g8<g9:=by omega
 have oB:g9<gB:=by omega
 have oW:gB<W0.heap.size:=by omega
 have hord:w.heap.size≤g4∧g4<g7∧g7<g8∧g8<g9:=⟨o4,n47,n78,n89⟩
 have hlw:=fun t (ht:t<fs.length)=>show Len (fs[t]?.getD 0) c by rw[List.getElem?_eq_getElem ht];exact lf _ (List.getElem_mem ht)
 have HLW:=af hlw
 have HORD:=af hord
 have hpart:((1:Int):Rat)-ch≠0:=by
  have h1:((1:Int):Rat)=1:=rfl
  rw[h1];grind
 have lpart:Len (((1:Int):Rat)-ch) 5:=zyb (zan 1 (by decide)) lch 5 (by omega)
 have HPT:=af hpart
 have LPT:=af lpart
 clear hg8 hg9 hgB hz hlw d0 d1 d2 d3 hord hpart lpart
 generalize hpt:((1:Int):Rat)-ch=part at *
 have HPE:=af hpt
 clear hpt
 refine wpIn_rangeFunc_ownH rfl (by omega) (gf := 176) (lb:=#[.pointer (some ⟨gB,0,none⟩)]) rfl trivial (enters_of func176 (by kernel_rfl) rfl)
  (zui Fence.wide _ trivial rfl (by omega) gB W0.heap.size [g8,g9] b off fs.length cap S X Y Q (by omega) W0 (by omega) (by simp;omega) (Nat.le_refl _) cB (by omega) (by simp;omega) (fun j hj=>(ae HV j hj).1.but hB0 (by simp)))
  (fun h k=>zba.trans h k) (fun W l o o' hl _ _ _=>zba.put W l o' hl) (Below.refl _ _) (fun _=>rfl)
  (fun (pre:List (Fin fs.length)) W=>eu w W0 g4 g7 g8 g9 S X Y Q fs part (wsf (fun t=>fs[t]?.getD 0) part (pre.map (fun z:Fin fs.length=>z.1))).1 (wsf (fun t=>fs[t]?.getD 0) part (pre.map (fun z:Fin fs.length=>z.1))).2 W)
  (fun _ _ _=>False)
  (fun pre A B row hi hg hr=>hi.calm (zfn hg (fun r e=>(hr r e).2)) (ownFrom_below (β:=Unit) (Nat.le_refl _) (by omega) () A B row hi.below hg hr))
  (fun _ _ _ _ _ h _ _=>h)
  ⟨b8,b9,b7,b4,fun t ht=>(ae HV t ht).2.but hB0,Nat.le_refl _,hB0.below⟩
  (fun x a' W=>∃ Bx,W0.heap.size≤Bx∧bf W Bx (fs[x.1]?.getD 0)∧a'={ tmps:=#[.slice (some ⟨b,off,none⟩) fs.length cap,.agg #[.bool s1,.int .u64 x1,.int .u64 y1,.pointer p1],undef,.pointer (some ⟨g3,0,none⟩),.pointer (some ⟨g4,0,none⟩),.nilIface,.nilIface,.pointer (some ⟨g7,0,none⟩),.pointer (some ⟨g8,0,none⟩),.pointer (some ⟨g9,0,none⟩),.int .i64 ((x.1:Nat):Int),.pointer (some ⟨Bx,0,none⟩),.slice (some ⟨b,off,none⟩) fs.length cap,.nilIface,.nilIface,.bool false,undef,undef,.agg #[.bool s1,.int .u64 x1,.int .u64 y1,.pointer p1],.bool true,.bool false,undef,undef,.agg #[.bool ws,.int .u64 wx,.int .u64 0,.pointer none],.agg #[.bool s1,.int .u64 x1,.int .u64 y1,.pointer p1],.agg #[.bool s7,.int .u64 x7,.int .u64 y7,.pointer p7],.agg #[.bool s7,.int .u64 x7,.int .u64 y7,.pointer p7],.slice (some ⟨b,off,none⟩) fs.length cap,.func (.func 176) #[] #[.pointer (some ⟨gB,0,none⟩)],.int .i64 ((x.1:Nat):Int),.agg #[.bool (S x.1),.int .u64 (X x.1),.int .u64 (Y x.1),.pointer (Q x.1)],undef,undef,undef,undef,undef,undef,undef,undef,undef,undef,undef,undef,undef,undef,undef,undef,undef],defers:=[] })
  (fun x a' _ A B row ⟨Bx,h0,h1,e⟩ hg hr=>⟨Bx,h0,h1.calm (zfn hg (fun r e=>(hr r e).2)),e⟩) ?assign ?body ?done ?stop
 case assign =>(
 rintro l pre x W K hi hK
 gi_wp2
 have hbn:=(But.refl [] W).alloc (.cells #[.bool (S x.1),.int .u64 (X x.1),.int .u64 (Y x.1),.pointer (Q x.1)] 27)
 exact hK _ _ ((KeepsOthers.alloc _ _).from _) (fun k hk _=>hbn.block k (by have:=hi.size;omega) (by simp)) (hi.but hbn) ⟨W.heap.size,hi.size,bf.new W _ _ _ _ _ 27 (hi.all x.1 x.2),rfl⟩)
 case body =>(
 rintro l pre ⟨t,ht⟩ a' W hl' ⟨rec,hrec⟩ hi ⟨Bx,hBx,hx,rfl⟩ hlt
 have hlen:∀ s ∈ pre.map (·.1),Len ((fun t=>fs[t]?.getD 0) s) c∧s<1000000:=fun s hs=>by
  obtain⟨y,-,rfl⟩:=List.mem_map.1 hs
  exact⟨ae HLW y.1 y.2,by have:=y.2;omega⟩
 have hw:=zya (fun t=>fs[t]?.getD 0) part c 5 (ae LPT) (pre.map (·.1)) hlen
 have hsn:Hid (wsf (fun t=>fs[t]?.getD 0) part ((pre++[(⟨t,ht⟩:Fin fs.length)]).map (·.1))=zdr (fun t=>fs[t]?.getD 0) (wsf (fun t=>fs[t]?.getD 0) part (pre.map (·.1))) t):=by
  show _=_
  rw[List.map_append]
  exact zgx _ _ _ t
 rw[List.length_map] at hw
 have hpl:pre.length≤201:=by omega
 have m1:pre.length*(c+1)≤201*4:=Nat.mul_le_mul hpl (by omega)
 have m2:pre.length*(pre.length*(c+1)+5+c+3)≤201*815:=Nat.mul_le_mul hpl (by omega)
 have ll:=hw.1.mono (show pre.length*(c+1)+5+1≤1000 by omega)
 have ls:=hw.2.mono (show pre.length*(pre.length*(c+1)+5+c+3)+1≤170000 by omega)
 generalize wsf (fun t=>fs[t]?.getD 0) part (pre.map (·.1))=q at *
 obtain⟨lft,sm⟩:=q
 dsimp only at hi hx ll ls
 have HI:=af hi
 have HX:=af hx
 have lt':=ae HLW t ht
 obtain⟨⟨sx,xx,yx,px,⟨q0,q1,q2,q3⟩,fx⟩,zx⟩:=id hx
 obtain⟨⟨s8,x8,y8,p8,⟨a0,a1,a2,a3⟩,f8⟩,z8⟩:=id hi.b8
 obtain⟨r,hr⟩:∃ r,r=zbk ((fs[t]?.getD 0).num*(lft.den:Int)) (lft.num*((fs[t]?.getD 0).den:Int)):=⟨_,rfl⟩
 have hgt:=(zef (fs[t]?.getD 0) lft r hr).2.1
 have CM:=af (zaz _ _ (fs[t]?.getD 0) lft W fx f8 (lt'.mono (by omega)) (ll.mono (by omega)) r hr)
 have HGT:=af hgt
 have ht1:t<1000000:=by omega
 clear hi hx hgt hr hw m1 m2 hlen z8 zx fx f8
 gi_wp2_with fail
 refine⟨trivial,(CallsIn.inRound l (callsIn_wide.2 (ae CM))).mono ?_⟩
 rintro e w1 ⟨rfl,hb1⟩
 have I1:=af ((ae HI).but hb1)
 have X1:=af ((ae HX).but hb1)
 have BW1:=af hb1
 have lx:Bx<w1.heap.size:=(ae X1).lt
 have n8x:g8≠Bx:=by have:=(ae HORD);omega
 clear hb1 CM a0 a1 a2 a3 q0 q1 q2 q3
 obtain⟨⟨sx',xx',yx',px',⟨q0,q1,q2,q3⟩,fx⟩,zx⟩:=id (ae X1)
 obtain⟨⟨s8',x8',y8',p8',⟨a0,a1,a2,a3⟩,f8⟩,z8⟩:=id (ae I1).b8
 have K8:Hid (P4 w1 g8 s8' x8' y8' p8'):=⟨a0,a1,a2,a3⟩
 have KX:Hid (P4 w1 Bx sx' xx' yx' px'):=⟨q0,q1,q2,q3⟩
 have F8:=af f8
 have FX:=af fx
 have gl8:g8<w1.heap.size:=ai a0
 clear f8 fx
 by_cases hr0:0<r
 ·(
 have hgt:lft<fs[t]?.getD 0:=(ae HGT).1 hr0
 have hP1:=ax w1 Bx s8' x8' y8' p8'
 obtain⟨v0,v1,v2,v3⟩:=j6 w1 Bx s8' x8' y8' p8' (ae KX)
 have I2:=af ((ae I1).qmw (ae HORD) (by omega) (ae X1) s8' x8' y8' p8')
 have X2:=af ((ae X1).put (ae F8))
 have F8b:=af ((ae F8).over (ae KX).1 hP1)
 have BW2:Hid (But [Bx,g8,g9] W _):=(But.of_nil (ae BW1)).trans hP1 (fun z hz=>by simp at hz;subst hz;exact .inl (by simp))
 have u0:=hP1.ag a0 (by simp;omega)
 have u1:=hP1.ag a1 (by simp;omega)
 have u2:=hP1.ag a2 (by simp;omega)
 have u3:=hP1.ag a3 (by simp;omega)
 have SU:=af (zfl (zcx _ _ lft lft (qw w1 Bx s8' x8' y8' p8') (ae F8b) (ae F8b) (ll.mono (by omega)) (ll.mono (by omega))))
 gi_wp2_with fail
 refine⟨trivial,(CallsIn.inRound l (callsIn_wide.2 (ae SU))).mono ?_⟩
 rintro e w3' ⟨s3,x3,y3,p3,rfl,hf3,hb3⟩
 have I3:=af ((ae I2).but hb3)
 have X3:=af ((ae X2).but hb3)
 have BW3:=af ((ae BW2).trans hb3 (fun z hz=>by simp at hz))
 obtain⟨⟨s8',x8',y8',p8',⟨k0,k1,k2,k3⟩,f8'⟩,z8'⟩:=id (ae I3).b8
 have K8':Hid (P4 w3' g8 s8' x8' y8' p8'):=⟨k0,k1,k2,k3⟩
 have gl8':g8<w3'.heap.size:=ai k0
 have HF3:=af hf3
 clear f8' hf3 hb3 SU I2 X2 BW2 u0 u1 u2 u3 v0 v1 v2 v3
 gi_wp2
 have hP3:=ax w3' g8 s3 x3 y3 p3
 have ji:=(ae I3).qmm (ae HORD) (ae HF3)
 have jx:bf (qw w3' g8 s3 x3 y3 p3) Bx (lft):=(ae X3).beside hP3 (by simp;omega) (fun g hg=>by simp at hg;subst hg;exact (ae I3).b8.bool)
 have jb:=(ae BW3).trans hP3 (fun z hz=>by simp at hz;subst hz;exact .inl (by simp))
 change Code.wpIn _ _ _ _ _ _ (qw w3' g8 s3 x3 y3 p3)
 have JI:=af ji
 have JX:=af jx
 have JB3:=af jb
 clear ji jx jb hP3
 generalize qw w3' g8 s3 x3 y3 p3=V3 at *
 obtain⟨⟨s9,x9,y9,p9,c9,f9⟩,z9⟩:=id (ae JI).b9
 obtain⟨ws',wx',FW,CW⟩:=zbq (t:Int) (by omega) (by omega)
 have lint:Len ((((t:Nat):Int)):Rat) 1:=zan _ (by omega)
 obtain⟨⟨sy,xy,yy,py,cy,fy⟩,-⟩:=id (ae JX)
 refine zeq 15 l _ _ _ V3 s9 x9 y9 p9 sy xy yy py (t:Int) ws' wx' sm lft g9 Bx (by simp) (by simp[Act.eval]) (by simp[Act.eval]) (by simp[Act.eval]) c9 z9 cy CW (fun w' hb=>zay _ _ _ _ w' (fy.but hb) (FW w') (ll.mono (by omega)) (lint.mono (by omega))) (fun w' v' hb hv'=>mg 200000 200000 (by omega) _ _ _ _ w' (f9.but hb) hv' (ls.mono (by omega)) (zgc ll lint 200000 (by omega))) ?_
 intro a2 w5 s' x' y' p' hb5 hf5
 have hi5:=((ae JI).but hb5).qml (ae HORD) hf5
 have kp:=zgk (l:=[Bx,g8,g9]) (gs:=[g8,g9]) ((ae JB3).trans ((But.of_nil hb5).trans (ax w5 g9 s' x' y' p') (fun z hz=>.inl hz)) (fun z hz=>by simp at hz;subst hz;exact .inl (by simp))) (fun z hz=>by
  simp at hz
  rcases hz with rfl|rfl|rfl
  ·exact⟨_,(ae HX).bool.choose_spec⟩
  ·exact⟨_,(ae HI).b8.bool.choose_spec⟩
  ·exact⟨_,(ae HI).b9.bool.choose_spec⟩) W0.heap.size W0.heap.size (ae HI).size (fun z hz=>by
  simp at hz
  rcases hz with rfl|rfl|rfl
  ·exact .inr hBx
  ·exact .inl (by simp)
  ·exact .inl (by simp))
 refine⟨kp.1,kp.2,?_⟩
 show eu w W0 g4 g7 g8 g9 S X Y Q fs part _ _ _
 rw[ae hsn]
 have e1:(zdr (fun t=>fs[t]?.getD 0) (lft,sm) t).1=lft-lft:=by
  unfold zdr
  show _=_
  dsimp only
  rw[if_neg (Rat.not_le.2 hgt)]
 have e2:(zdr (fun t=>fs[t]?.getD 0) (lft,sm) t).2=sm+lft*(((t:Nat):Int):Rat):=by
  unfold zdr
  show _=_
  dsimp only
  rw[if_neg (Rat.not_le.2 hgt)]
 rw[e1,e2]
 exact hi5)
 ·(
 have hle:fs[t]?.getD 0≤lft:=Rat.not_lt.1 (fun h=>hr0 ((ae HGT).2 h))
 have I2:=I1
 have X2:=X1
 have BW2:Hid (But [Bx,g8,g9] W w1):=But.of_nil (ae BW1)
 have SU:=af (zfl (zcx _ _ lft (fs[t]?.getD 0) w1 (ae F8) (ae FX) (ll.mono (by omega)) (lt'.mono (by omega))))
 gi_wp2_with fail
 refine⟨trivial,(CallsIn.inRound l (callsIn_wide.2 (ae SU))).mono ?_⟩
 rintro e w3' ⟨s3,x3,y3,p3,rfl,hf3,hb3⟩
 have I3:=af ((ae I2).but hb3)
 have X3:=af ((ae X2).but hb3)
 have BW3:=af ((ae BW2).trans hb3 (fun z hz=>by simp at hz))
 obtain⟨⟨s8',x8',y8',p8',⟨k0,k1,k2,k3⟩,f8'⟩,z8'⟩:=id (ae I3).b8
 have K8':Hid (P4 w3' g8 s8' x8' y8' p8'):=⟨k0,k1,k2,k3⟩
 have gl8':g8<w3'.heap.size:=ai k0
 have HF3:=af hf3
 clear f8' hf3 hb3 SU I2 X2 BW2 a0 a1 a2 a3 q0 q1 q2 q3
 gi_wp2
 have hP3:=ax w3' g8 s3 x3 y3 p3
 have ji:=(ae I3).qmm (ae HORD) (ae HF3)
 have jx:bf (qw w3' g8 s3 x3 y3 p3) Bx (fs[t]?.getD 0):=(ae X3).beside hP3 (by simp;omega) (fun g hg=>by simp at hg;subst hg;exact (ae I3).b8.bool)
 have jb:=(ae BW3).trans hP3 (fun z hz=>by simp at hz;subst hz;exact .inl (by simp))
 change Code.wpIn _ _ _ _ _ _ (qw w3' g8 s3 x3 y3 p3)
 have JI:=af ji
 have JX:=af jx
 have JB3:=af jb
 clear ji jx jb hP3
 generalize qw w3' g8 s3 x3 y3 p3=V3 at *
 obtain⟨⟨s9,x9,y9,p9,c9,f9⟩,z9⟩:=id (ae JI).b9
 obtain⟨ws',wx',FW,CW⟩:=zbq (t:Int) (by omega) (by omega)
 have lint:Len ((((t:Nat):Int)):Rat) 1:=zan _ (by omega)
 obtain⟨⟨sy,xy,yy,py,cy,fy⟩,-⟩:=id (ae JX)
 refine zeq 15 l _ _ _ V3 s9 x9 y9 p9 sy xy yy py (t:Int) ws' wx' sm (fs[t]?.getD 0) g9 Bx (by simp) (by simp[Act.eval]) (by simp[Act.eval]) (by simp[Act.eval]) c9 z9 cy CW (fun w' hb=>zay _ _ _ _ w' (fy.but hb) (FW w') (lt'.mono (by omega)) (lint.mono (by omega))) (fun w' v' hb hv'=>mg 200000 200000 (by omega) _ _ _ _ w' (f9.but hb) hv' (ls.mono (by omega)) (zgc lt' lint 200000 (by omega))) ?_
 intro a2 w5 s' x' y' p' hb5 hf5
 have hi5:=((ae JI).but hb5).qml (ae HORD) hf5
 have kp:=zgk (l:=[Bx,g8,g9]) (gs:=[g8,g9]) ((ae JB3).trans ((But.of_nil hb5).trans (ax w5 g9 s' x' y' p') (fun z hz=>.inl hz)) (fun z hz=>by simp at hz;subst hz;exact .inl (by simp))) (fun z hz=>by
  simp at hz
  rcases hz with rfl|rfl|rfl
  ·exact⟨_,(ae HX).bool.choose_spec⟩
  ·exact⟨_,(ae HI).b8.bool.choose_spec⟩
  ·exact⟨_,(ae HI).b9.bool.choose_spec⟩) W0.heap.size W0.heap.size (ae HI).size (fun z hz=>by
  simp at hz
  rcases hz with rfl|rfl|rfl
  ·exact .inr hBx
  ·exact .inl (by simp)
  ·exact .inl (by simp))
 refine⟨kp.1,kp.2,?_⟩
 show eu w W0 g4 g7 g8 g9 S X Y Q fs part _ _ _
 rw[ae hsn]
 have e1:(zdr (fun t=>fs[t]?.getD 0) (lft,sm) t).1=lft-(fs[t]?.getD 0):=by
  unfold zdr
  show _=_
  dsimp only
  rw[if_pos hle]
 have e2:(zdr (fun t=>fs[t]?.getD 0) (lft,sm) t).2=sm+(fs[t]?.getD 0)*(((t:Nat):Int):Rat):=by
  unfold zdr
  show _=_
  dsimp only
  rw[if_pos hle]
 rw[e1,e2]
 exact hi5))
 case done =>(
 rintro D ys W hD rfl hi hK
 have hlen:∀ s ∈ (oz fs.length 0).map (fun z:Fin fs.length=>z.1),Len ((fun t=>fs[t]?.getD 0) s) c∧s<1000000:=fun s hs=>by
  obtain⟨y,-,rfl⟩:=List.mem_map.1 hs
  exact⟨ae HLW y.1 y.2,by have:=y.2;omega⟩
 have hw:=(zya (fun t=>fs[t]?.getD 0) part c 5 (ae LPT) _ hlen).2
 rw[List.length_map,zgm,Nat.sub_zero] at hw
 have m1:fs.length*(c+1)≤201*4:=Nat.mul_le_mul hn1 (by omega)
 have m2:fs.length*(fs.length*(c+1)+5+c+3)≤201*815:=Nat.mul_le_mul hn1 (by omega)
 have ls:=hw.mono (show fs.length*(fs.length*(c+1)+5+c+3)+1≤170000 by omega)
 obtain⟨⟨s9,x9,y9,p9,⟨a0,a1,a2,a3⟩,f9⟩,z9⟩:=id hi.b9
 obtain⟨⟨t7,a7,b7',q7,⟨c0,c1,c2,c3⟩,f7⟩,z7⟩:=id hi.b7
 have QU:=af (zfl (zqb _ _ _ part W f9 f7 (ls.mono (by omega)) ((ae LPT).mono (by omega)) (fun h=>ae HPT (Rat.num_eq_zero.1 h))))
 have HI:=af hi
 have HK:=af hK
 have hDl:D<W.heap.size:=(Array.getElem?_eq_some_iff.1 hK).1
 clear hi hK f9 f7 z9 z7 hlen hw m1 m2 ls
 gi_wp2_with fail
 refine⟨trivial,(callsIn_wide.2 (ae QU)).mono ?_⟩
 rintro e w5 ⟨s5,x5,y5,p5,rfl,hf5,hb5⟩
 have I5:=af ((ae HI).but hb5)
 have hK5:=(hb5.block D hDl (by simp)).trans (ae HK)
 obtain⟨⟨s4,x4,y4,p4,⟨r0,r1,r2,r3⟩,-⟩,z4⟩:=id (ae I5).b4
 have C4:Hid (P4 w5 g4 s4 x4 y4 p4):=⟨r0,r1,r2,r3⟩
 have HF5:=af hf5
 have gl4:g4<w5.heap.size:=ai r0
 have hK2:Hid ((qw w5 g4 s5 x5 y5 p5).heap[D]? = some (.deferred (some []))):=((ax w5 g4 s5 x5 y5 p5).block D (Array.getElem?_eq_some_iff.1 hK5).1 (by simp;omega)).trans hK5
 clear hf5 hb5 QU a0 a1 a2 a3 c0 c1 c2 c3 HI HK hK5
 gi_wp2
 have hcalm:Calm (qw w5 g4 s5 x5 y5 p5) ((qw w5 g4 s5 x5 y5 p5).putObj D (.deferred none)):=zfn (grownBy_putObj' _ D _) (fun r e=>by cases e;exact⟨_,ae hK2,rfl⟩)
 have hpp:=(j6 w5 g4 s5 x5 y5 p5 (ae C4)).calm hcalm
 have hff:=((ae HF5).over (ae C4).1 (ax w5 g4 s5 x5 y5 p5)).calm hcalm
 have hB1:But [] w (qw w5 g4 s5 x5 y5 p5):=(But.of_below (ae I5).below).trans (ax w5 g4 s5 x5 y5 p5) (fun x hx=>by simp at hx;subst hx;exact .inr (by omega))
 have hB2:But [] w ((qw w5 g4 s5 x5 y5 p5).putObj D (.deferred none)):=hB1.trans (l':=[D]) ⟨rfl,rfl,rfl,by simp,fun k _ hk=>World.putObj_heap_other (by simpa using hk)⟩ (fun x hx=>by simp at hx;subst hx;exact .inr (by omega))
 obtain⟨t0,t1,t2,t3⟩:=hpp
 change bodyPostM _ _ _ _ _ Exit.ret _ (qw w5 g4 s5 x5 y5 p5)
 generalize qw w5 g4 s5 x5 y5 p5=V5 at *
 refine⟨by simp,.inl ⟨_,_,rfl,run_takeDeferred (ae hK2),?_⟩⟩
 refine⟨.tuple #[.agg #[.bool s5,.int .u64 x5,.int .u64 y5,.pointer p5],.nilIface],(by simp[results,results47,go_sem,t0,t1,t2,t3]),hB2,.inr ⟨hb,s5,x5,y5,p5,rfl,?_⟩⟩
 rw[ae HPE]
 exact hff)
 case stop =>
  rintro D c pre W _ _ h
  exact h.elim)
 ·(
 rw[decide_eq_false hb]
 obtain⟨⟨t4,a4,b4,q4,⟨d0,d1,d2,d3⟩,-⟩,z4⟩:=ae X42
 have P2:Hid (P4 w2 g4 t4 a4 b4 q4):=⟨d0,d1,d2,d3⟩
 gi_wp2
 have hP:=ax w2 g4 false 0 0 none
 obtain⟨m0,m1,m2,m3⟩:=j6 w2 g4 false 0 0 none (ae P2)
 have hF:But [] w (qw w2 g4 false 0 0 none):=(ae B2).trans hP (fun x hx=>by simp at hx;subst hx;exact .inr (by omega))
 change bodyPostM _ _ _ _ _ _ _ (qw w2 g4 false 0 0 none)
 generalize qw w2 g4 false 0 0 none=F at *
 exact⟨.tuple #[.agg #[.bool false,.int .u64 0,.int .u64 0,.pointer none],.iface 33 (.int .i64 2)],(by simp[results,results47,go_sem,m0,m1,m2,m3]),hF,.inl ⟨hb,rfl⟩⟩))
open Go.RowKit
theorem zlh (fs:List Rat):∀ k,k≤fs.length→si (fs.take k)=sgR (fun j=>fs[j]?.getD 0) k
 | 0,_=>rfl
 | k+1,h=>by
  rw[zbo fs k (by omega),zlh fs k (by omega)]
  rfl
theorem zlx (fs:List Rat):si fs=sgR (fun j=>fs[j]?.getD 0) fs.length:=by(
 have h:=zlh fs fs.length (Nat.le_refl _)
 rw[List.take_length] at h
 exact h)
theorem zyd (fs:List Rat) (a b:Nat):∀ i,zqp fs a b i=vw (fun j=>fs[j]?.getD 0) (wi a b) i
 | 0=>rfl
 | i+1=>by
  show zvf (zqp fs a b i) (wi a b i) (zqp fs a b i (wi a b i)+fs[i]?.getD 0)=_
  rw[zyd fs a b i]
  rfl
theorem ztf (fs:List Rat) (g:Nat→Int):∀ k,l9 fs g k=sgR (fun j=>fs[j]?.getD 0*((g j:Int):Rat)) k
 | 0=>rfl
 | k+1=>by
  show l9 fs g k+_=sgR _ k+_
  rw[ztf fs g k]
theorem zjd {fs:List Rat} (h:∀ f ∈ fs,0≤f) (k:Nat) (hk:k<fs.length):0≤fs[k]?.getD 0:=by
 rw[List.getElem?_eq_getElem hk]
 exact h _ (List.getElem_mem hk)
theorem ztu {fs:List Rat} (h:yc fs=0):∃ m,m<fs.length∧(fs[m]?.getD 0).num≠0∧∀ j,m<j→j<fs.length→(fs[j]?.getD 0).num=0:=by(
 obtain⟨h0,h1,hp,hs⟩:=zcf h
 have key:∀ d,d≤fs.length→(∃ m,m<fs.length∧(fs[m]?.getD 0).num≠0∧∀ j,m<j→j<fs.length→(fs[j]?.getD 0).num=0)∨∀ j,fs.length-d≤j→j<fs.length→(fs[j]?.getD 0).num=0:=by
  intro d
  induction d with
  | zero=>exact fun _=>.inr (fun j h1 h2=>by omega)
  | succ d ih =>
   intro hd
   rcases ih (by omega) with h | h
   ·exact .inl h
   ·by_cases hz:(fs[fs.length-(d+1)]?.getD 0).num=0
    ·refine .inr (fun j h1 h2=>?_)
     by_cases e:j=fs.length-(d+1)
     ·rw[e];exact hz
     ·exact h j (by omega) h2
    ·exact .inl ⟨fs.length-(d+1),by omega,hz,fun j h1 h2=>h j (by omega) h2⟩
 rcases key fs.length (Nat.le_refl _) with h | h
 ·exact h
 ·exfalso
  rw[zlx] at hs
  rw[zol _ (fun _=>0) fs.length (fun k hk=>Rat.num_eq_zero.1 (h k (by omega) hk)),zrz] at hs
  exact absurd hs (by decide))
theorem qmf (a b m j:Nat) (h:j≤m):wi a b j<wi a b m+1:=by unfold wi;omega
theorem zua (n:Nat):∀ d,d≤n→(oz n (n-d)).map (fun z:Fin n=>z.1)=dnL n d
 | 0,_=>by rw[Nat.sub_zero,zmw];rfl
 | d+1,h=>by
  rw[zkv n (n-(d+1)) (by omega),List.map_append,show n-(d+1)+1=n-d from by omega,zua n d (by omega)]
  rfl
end Go.Proofs.YtagmkkiagjmimaaGreatDoor
