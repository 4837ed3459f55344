/- What payments are worth now, as the Go t -/
import Derived.RangeFuncNested
import Derived.RangeFuncBound
import Derived.RangeFuncCalls
import Derived.RangeFuncLeaves
import Derived.Shelf.Abstract
import Derived.Shelf.RegionOpen
import Derived.WalkKit
import Derived.OwnWalkIn
import Derived.TacticsInMore
import Derived.LoopNIn
import Derived.LoopIn
import Derived.Test.YtollloafckcogaaGreatDoorKFU1
namespace Go.Proofs.YtollloafckcogaaGreatDoor
open Go.RowKit Go.Shelf
set_option maxHeartbeats 8000000
set_option maxRecDepth 100000
attribute [local go_sem] Oper.semAt_some
def wstep (p r:Nat→Rat) (v:Rat) (t:Nat):Rat:=if t=0 then v+p t else (v+p t)/(1+r (t-1))
def wfold (p r:Nat→Rat) (l:List Nat):Rat:=l.foldl (wstep p r) 0
theorem wfold_snoc (p r:Nat→Rat) (l:List Nat) (t:Nat):wfold p r (l++[t])=wstep p r (wfold p r l) t:=by unfold wfold;rw [List.foldl_append];rfl
theorem keeps_of_but {W V:World} {g:Nat} {v:Value} (hb:But [g] W V) (hc:W.cell? ⟨g,0,none⟩=some v) (B n₀:Nat) (hn:n₀≤W.heap.size):KeepsFrom B W V∧Kept n₀ g W V :=
 ⟨⟨hb.size,fun k o _ hk ho=>by
  have hne:k≠g:=by
   rintro rfl
   obtain ⟨o',ho',hc'⟩:=cells_of_cell hc
   rw [hk] at ho'
   obtain rfl:=Option.some.inj ho'
   rw [ho] at hc'
   simp at hc'
  exact (hb.block k (Array.getElem?_eq_some_iff.1 hk).1 (by simpa using hne)).trans hk⟩,fun k hk hne=>hb.block k (by omega) (by simpa using hne)⟩
def WorthI (w W0:World) (g3 g4 g5:Nat) (vr:Value) (S:Nat→Bool) (X Y:Nat→Int) (Q:Nat→Option Addr) (ps rs:List Rat) (val:Rat) (W:World):Prop :=
 BoxAt W g5 val∧BoxAt W g4 0∧W.cell? ⟨g3,0,none⟩=some vr∧FracsAt W vr rs∧(∀ t,t<ps.length→FracAt W (.agg #[.bool (S t),.int .u64 (X t),.int .u64 (Y t),.pointer (Q t)]) (ps[t]?.getD 0))∧W0.heap.size≤W.heap.size∧Below w.heap.size w W
theorem WorthI.step {w W0:World} {g3 g4 g5:Nat} {vr:Value} {S:Nat→Bool} {X Y:Nat→Int} {Q:Nat→Option Addr} {ps rs:List Rat} {val val':Rat} {W w1:World} (h:WorthI w W0 g3 g4 g5 vr S X Y Q ps rs val W) (hr:FracsAt w vr rs) (o3:w.heap.size≤g3) (o4:g3<g4) (o5:g4<g5) (hb:But [] W w1) {s:Bool} {x y:Int} {p:Option Addr} (hf:FracAt w1 (.agg #[.bool s,.int .u64 x,.int .u64 y,.pointer p]) val') (B:Nat) :
  KeepsFrom B W (put4 w1 g5 s x y p)∧Kept W0.heap.size g5 W (put4 w1 g5 s x y p)∧WorthI w W0 g3 g4 g5 vr S X Y Q ps rs val' (put4 w1 g5 s x y p):=by
 obtain ⟨i1,i2,i3,i4,i5,i6,i7⟩:=h
 have hB:But [g5] W (put4 w1 g5 s x y p):=(But.of_nil hb).trans (put4_but _ _ _ _ _ _) (fun _ h=>.inl h)
 obtain ⟨s5,c5⟩:=i1.bool
 obtain ⟨k1,k2⟩:=keeps_of_but hB c5 B W0.heap.size i6
 have c5':=hb.cell_some c5 (by simp)
 have hp:=put4_but w1 g5 s x y p
 refine ⟨k1,k2,(i1.but hb).put hf,(i2.but hb).beside hp (by simp;omega) (fun g hg=>by simp at hg;subst hg;exact ⟨_,c5'⟩),hB.cell_some i3 (by simp;omega),hr.behind (i4.but hb) hp (by omega) ⟨_,c5'⟩,fun t ht=>((i5 t ht).but hb).over c5' hp,Nat.le_trans i6 hB.size,((But.of_below i7).trans hB (fun x hx=>by simp at hx;subst hx;exact .inr (by omega))).below⟩
theorem worth_any (vp vr:Value) (ps rs:List Rat) (w:World) (hp:FracsAt w vp ps) (hr:FracsAt w vr rs) (h0:0<ps.length) (hl:ps.length≤rs.length+1) (hn:rs.length<1000)
  (lp:∀ t,t<ps.length→Len (ps[t]?.getD 0) 1000) (lr:∀ t,t<rs.length→Len (rs[t]?.getD 0) 1) (hg:∀ t,t<rs.length→(1+rs[t]?.getD 0).num≠0)
  (hF:∀ l:List (Fin ps.length),l.length≤ps.length→Len (wfold (fun t=>ps[t]?.getD 0) (fun t=>rs[t]?.getD 0) (l.map (·.1))) 20000) :
  Calls Tryz.prog 57 #[vp,vr] w fun e w'=>∃ v,e=.returned v∧FracAt w' v (wfold (fun t=>ps[t]?.getD 0) (fun t=>rs[t]?.getD 0) ((downs ps.length 0).map (·.1)))∧But [] w w':=by
 rcases hp.open with ⟨rfl,-⟩ | ⟨-,b,off,cap,rfl,hcap,-⟩
 ·simp at h0
 obtain ⟨ra,rcap,rfl,hrc,-⟩:=id hr
 obtain ⟨S,X,Y,Q,hV⟩:∃ (S:Nat→Bool) (X Y:Nat→Int) (Q:Nat→Option Addr),∀ t,t<ps.length→P4o w b (off+t*4) (S t) (X t) (Y t) (Q t)∧FracAt w (.agg #[.bool (S t),.int .u64 (X t),.int .u64 (Y t),.pointer (Q t)]) (ps[t]?.getD 0):=by
  have h:∀ t,∃ q:Bool × Int × Int × Option Addr,t<ps.length→P4o w b (off+t*4) q.1 q.2.1 q.2.2.1 q.2.2.2∧FracAt w (.agg #[.bool q.1,.int .u64 q.2.1,.int .u64 q.2.2.1,.pointer q.2.2.2]) (ps[t]?.getD 0):=fun t=>by
   by_cases ht:t<ps.length
   ·obtain ⟨s,x,y,p,h1,h2⟩:=hp.get t ht
    exact ⟨(s,x,y,p),fun _=>⟨h1,h2⟩⟩
   ·exact ⟨(false,0,0,none),fun h=>absurd h ht⟩
  obtain ⟨q,hq⟩:=Classical.axiomOfChoice h
  exact ⟨fun t=>(q t).1,fun t=>(q t).2.1,fun t=>(q t).2.2.1,fun t=>(q t).2.2.2,hq⟩
 refine (callsIn_wide (n:=4)).1 ?_
 refine callsIn_of_wp_marks Tryz.func57 rfl trivial ?_ rfl
 simp only [Tryz.ntmps57,List.size_toArray,List.length_cons,List.length_nil,Nat.reduceAdd,Nat.reduceSub,Array.replicate_succ,Array.replicate_zero,List.push_toArray,List.append_toArray,List.nil_append,List.cons_append]
 gi_wp2_with (refine ⟨trivial,?_⟩;gi_at_call 106;refine (back_in Fence.wide _ trivial rfl _ _ _ _).mono ?_;rintro e w' ⟨rfl,rfl⟩)
 have n1:(w.alloc (.cells #[.slice ra rs.length rcap] 42)).cell? ⟨w.heap.size,0,none⟩=some (.slice ra rs.length rcap):=by rw [World.cell?_alloc_new];rfl
 have c3:=((((But.refl [] (w.alloc (.cells #[.slice ra rs.length rcap] 42))).alloc (.cells #[.bool false,.int .u64 0,.int .u64 0,.pointer none] 27)).alloc (.cells #[.bool false,.int .u64 0,.int .u64 0,.pointer none] 27)).alloc (.cells #[.slice (some ⟨b,off,none⟩) ps.length cap] 42)).cell_some n1 (by simp)
 have n2:((((w.alloc (.cells #[.slice ra rs.length rcap] 42)).alloc (.cells #[.bool false,.int .u64 0,.int .u64 0,.pointer none] 27)).alloc (.cells #[.bool false,.int .u64 0,.int .u64 0,.pointer none] 27)).alloc (.cells #[.slice (some ⟨b,off,none⟩) ps.length cap] 42)).cell? ⟨(((w.alloc (.cells #[.slice ra rs.length rcap] 42)).alloc (.cells #[.bool false,.int .u64 0,.int .u64 0,.pointer none] 27)).alloc (.cells #[.bool false,.int .u64 0,.int .u64 0,.pointer none] 27)).heap.size,0,none⟩=some (.slice (some ⟨b,off,none⟩) ps.length cap):=by rw [World.cell?_alloc_new];rfl
 have cB:=n2
 rw [World.size_alloc,World.size_alloc,World.size_alloc] at cB
 clear n1 n2
 have hz:((((w.alloc (.cells #[.slice ra rs.length rcap] 42)).alloc (.cells #[.bool false,.int .u64 0,.int .u64 0,.pointer none] 27)).alloc (.cells #[.bool false,.int .u64 0,.int .u64 0,.pointer none] 27)).alloc (.cells #[.slice (some ⟨b,off,none⟩) ps.length cap] 42)).heap.size=w.heap.size+1+1+1+1:=by simp
 have b4:=((BoxAt.new (w.alloc (.cells #[.slice ra rs.length rcap] 42)) false 0 0 none 0 27 (zero_at _)).but ((But.refl _ _).alloc (.cells #[.bool false,.int .u64 0,.int .u64 0,.pointer none] 27))).but ((But.refl _ _).alloc (.cells #[.slice (some ⟨b,off,none⟩) ps.length cap] 42))
 have b5:=(BoxAt.new ((w.alloc (.cells #[.slice ra rs.length rcap] 42)).alloc (.cells #[.bool false,.int .u64 0,.int .u64 0,.pointer none] 27)) false 0 0 none 0 27 (zero_at _)).but ((But.refl _ _).alloc (.cells #[.slice (some ⟨b,off,none⟩) ps.length cap] 42))
 simp only [World.size_alloc] at b4 b5
 have hB0:But [] w ((((w.alloc (.cells #[.slice ra rs.length rcap] 42)).alloc (.cells #[.bool false,.int .u64 0,.int .u64 0,.pointer none] 27)).alloc (.cells #[.bool false,.int .u64 0,.int .u64 0,.pointer none] 27)).alloc (.cells #[.slice (some ⟨b,off,none⟩) ps.length cap] 42)):=((((But.refl _ _).alloc _).alloc _).alloc _).alloc _
 obtain ⟨W0,hW0⟩:∃ W0,((((w.alloc (.cells #[.slice ra rs.length rcap] 42)).alloc (.cells #[.bool false,.int .u64 0,.int .u64 0,.pointer none] 27)).alloc (.cells #[.bool false,.int .u64 0,.int .u64 0,.pointer none] 27)).alloc (.cells #[.slice (some ⟨b,off,none⟩) ps.length cap] 42))=W0:=⟨_,rfl⟩
 rw [hW0] at c3 cB hz b4 b5 hB0 ⊢
 clear hW0
 obtain ⟨g3,hg3⟩:∃ g3,g3=w.heap.size:=⟨_,rfl⟩
 obtain ⟨g4,hg4⟩:∃ g4,g4=w.heap.size+1:=⟨_,rfl⟩
 obtain ⟨g5,hg5⟩:∃ g5,g5=w.heap.size+1+1:=⟨_,rfl⟩
 obtain ⟨gB,hgB⟩:∃ gB,gB=w.heap.size+1+1+1:=⟨_,rfl⟩
 rw [← hgB] at cB
 rw [← hg5] at b5
 rw [← hg4] at b4
 rw [← hg3] at c3
 rw [← hgB,← hg5,← hg4,← hg3]
 have hbw:b<w.heap.size:=lt_of_cell (hV 0 h0).1.1
 have o3:w.heap.size≤g3:=by omega
 have o4:g3<g4:=by omega
 have o5:g4<g5:=by omega
 have oB:g5<gB:=by omega
 have oW:gB<W0.heap.size:=by omega
 clear hg3 hg4 hg5 hgB hz
 refine wpIn_rangeFunc_ownH rfl (by omega) (gf := 142) (lb:=#[.pointer (some ⟨gB,0,none⟩)]) rfl trivial (enters_of Tryz.func142 (by kernel_rfl) rfl)
  (back_stops Fence.wide _ trivial rfl (by omega) gB W0.heap.size g5 b off ps.length cap S X Y Q (by omega) W0 (by omega) (by omega) (Nat.le_refl _) cB (by omega) (by omega) (fun j hj=>(hV j hj).1.but hB0 (by simp)))
  (fun h k=>Kept.trans h k) (fun W l o o' hl _ _ _=>Kept.put W l o' hl) (Below.refl _ _) (fun _=>rfl)
  (fun pre W=>WorthI w W0 g3 g4 g5 (.slice ra rs.length rcap) S X Y Q ps rs (wfold (fun t=>ps[t]?.getD 0) (fun t=>rs[t]?.getD 0) (pre.map (·.1))) W)
  (fun _ _ _=>False)
  (fun pre A B row ⟨i1,i2,i3,i4,i5,i6,i7⟩ hg hr=>by
   have hc:=calm_of_grown hg (fun r e=>(hr r e).2)
   exact ⟨i1.calm hc,i2.calm hc,hc.cell i3,i4.calm hc,fun t ht=>(i5 t ht).calm hc,Nat.le_trans i6 hc.size,ownFrom_below (β:=Unit) (Nat.le_refl _) (by omega) () A B row i7 hg hr⟩)
  (fun _ _ _ _ _ h _ _=>h)
  ⟨b5,b4,c3,hr.but hB0,fun t ht=>(hV t ht).2.but hB0,Nat.le_refl _,hB0.below⟩
  (fun x a' W=>∃ Bx,P4 W Bx (S x.1) (X x.1) (Y x.1) (Q x.1)∧a'={ tmps:=#[.slice (some ⟨b,off,none⟩) ps.length cap,.slice ra rs.length rcap,undef,.pointer (some ⟨g3,0,none⟩),.pointer (some ⟨g4,0,none⟩),.pointer (some ⟨g5,0,none⟩),.int .i64 ((x.1:Nat):Int),.pointer (some ⟨Bx,0,none⟩),.slice (some ⟨b,off,none⟩) ps.length cap,.func (.func 142) #[] #[.pointer (some ⟨gB,0,none⟩)],.int .i64 ((x.1:Nat):Int),.agg #[.bool (S x.1),.int .u64 (X x.1),.int .u64 (Y x.1),.pointer (Q x.1)],undef,undef,undef,undef,undef,undef,undef,undef,undef,undef,undef,undef,undef,undef],defers:=[] })
  (fun x a' _ A B row ⟨Bx,h1,e⟩ hg hr=>⟨Bx,h1.calm (calm_of_grown hg (fun r e=>(hr r e).2)),e⟩) ?assign ?body ?done ?stop
 case assign =>
  rintro l pre x W K ⟨i1,i2,i3,i4,i5,i6,i7⟩ hK
  gi_wp2
  have hbn:=(But.refl [] W).alloc (.cells #[.bool (S x.1),.int .u64 (X x.1),.int .u64 (Y x.1),.pointer (Q x.1)] 27)
  exact hK _ _ ((KeepsOthers.alloc _ _).from _) (fun k hk _=>hbn.block k (by omega) (by simp)) ⟨i1.but hbn,i2.but hbn,hbn.cell_some i3 (by simp),i4.but hbn,fun t ht=>(i5 t ht).but hbn,Nat.le_trans i6 hbn.size,(i7.alloc i7.size _)⟩ ⟨W.heap.size,⟨by simp,by simp,by simp,by simp⟩,rfl⟩
 case body =>
  rintro l pre ⟨t,ht⟩ a' W hl' ⟨rec,hrec⟩ hi ⟨Bx,hx,rfl⟩ hlt
  obtain ⟨⟨⟨s5,x5,y5,p5,c5,f5⟩,z5⟩,i2,i3,i4,i5,i6,i7⟩:=id hi
  have HI:=hide hi
  clear hi
  dsimp only at hx
  have AD:=hide (in_parts (fracAdd_gen 20000 1000 (by omega) _ _ _ _ W f5 (i5 t ht) (hF pre (by omega)) (lp t ht)))
  have LV:Hid (Len (wfold (fun t=>ps[t]?.getD 0) (fun t=>rs[t]?.getD 0) (pre.map (·.1))+ps[t]?.getD 0) 1000000):=(len_add (hF pre (by omega)) (lp t ht) 21001 (by omega)).mono (by omega)
  have hsn:Hid (wfold (fun t=>ps[t]?.getD 0) (fun t=>rs[t]?.getD 0) ((pre++[(⟨t,ht⟩:Fin ps.length)]).map (·.1))=wstep (fun t=>ps[t]?.getD 0) (fun t=>rs[t]?.getD 0) (wfold (fun t=>ps[t]?.getD 0) (fun t=>rs[t]?.getD 0) (pre.map (·.1))) t):=by
   show _=_
   rw [List.map_append]
   exact wfold_snoc _ _ _ t
  generalize wfold (fun t=>ps[t]?.getD 0) (fun t=>rs[t]?.getD 0) (pre.map (·.1))=val at *
  have C5:=hide c5
  have H2:=hide i2
  have H3:=hide i3
  have H4:=hide i4
  have H5:=hide i5
  have H7:=hide i7
  have HF5:=hide f5
  obtain ⟨a0,a1,a2,a3⟩:=c5
  obtain ⟨q0,q1,q2,q3⟩:=hx
  have gl5:g5<W.heap.size:=lt_of_cell a0
  have Z5:=hide z5
  have HR:=hide hr
  clear i2 i4 i5 i7 f5 z5 hF lp hV hp hlt i3 H2 H3 H5 H7 HF5 hr
  by_cases ht0:t=0
  ·subst ht0
   gi_wp2_with (refine ⟨trivial,?_⟩;gi_at_call 59;refine (CallsIn.inRound l (callsIn_wide.2 (unhide AD))).mono ?_;rintro e w1 ⟨s8,x8,y8,p8,rfl,hv1,hb1⟩;have HV1:=hide hv1;have B1:=hide hb1;have u0:=hb1.cell_some a0 (by simp);have u1:=hb1.cell_some a1 (by simp);have u2:=hb1.cell_some a2 (by simp);have u3:=hb1.cell_some a3 (by simp);have uf:∀ j,w1.frozen? ⟨g5,j,none⟩=false:=fun j=>(hb1.frozen (p:=⟨g5,j,none⟩) gl5 (by simp)).trans (unhide Z5 j);clear hv1 hb1)
   have hst:=(unhide HI).step (unhide HR) o3 o4 o5 (unhide B1) (unhide HV1) W0.heap.size
   show KeepsFrom _ _ _∧Kept _ _ _ _∧WorthI w W0 g3 g4 g5 (.slice ra rs.length rcap) S X Y Q ps rs _ _
   rw [unhide hsn]
   unfold wstep
   rw [if_pos rfl]
   exact hst
  ·obtain ⟨k,rfl⟩:∃ k,t=k+1:=⟨t-1,by omega⟩
   gi_wp2_with (refine ⟨trivial,?_⟩;gi_at_call 59;refine (CallsIn.inRound l (callsIn_wide.2 (unhide AD))).mono ?_;rintro e w1 ⟨s8,x8,y8,p8,rfl,hv1,hb1⟩;have HV1:=hide hv1;have B1:=hide hb1;have u0:=hb1.cell_some a0 (by simp);have u1:=hb1.cell_some a1 (by simp);have u2:=hb1.cell_some a2 (by simp);have u3:=hb1.cell_some a3 (by simp);have uf:∀ j,w1.frozen? ⟨g5,j,none⟩=false:=fun j=>(hb1.frozen (p:=⟨g5,j,none⟩) gl5 (by simp)).trans (unhide Z5 j);clear hv1 hb1)
   obtain ⟨k1,k2,hst⟩:=(unhide HI).step (unhide HR) o3 o4 o5 (unhide B1) (unhide HV1) W0.heap.size
   have hkr:k<rs.length:=by omega
   obtain ⟨⟨⟨t5,z5',z6',z7',d5,e5⟩,d6⟩,j2,j3,j4,j5,j6,j7⟩:=id hst
   rcases j4.open with ⟨er,-⟩ | ⟨-,rb,roff,rcap2,er,-,-⟩
   ·rw [er] at hkr
    simp at hkr
   simp only [Value.slice.injEq] at er
   obtain ⟨rfl,-,rfl⟩:=er
   obtain ⟨sr,xr,yr,pr,cr,fr⟩:=j4.get k hkr
   refine worth_region 7 l _ _ _ (put4 w1 g5 s8 x8 y8 p8) g5 g3 rb roff rs.length rcap k t5 z5' z6' z7' sr xr yr pr _ _ (by simp) rfl rfl rfl d5 e5 j3 hkr (by omega) cr fr (lr k hkr) (unhide LV) (hg k hkr) d6 ?_
   intro a2 w2 s' x' y' p' hb2 hf2
   obtain ⟨k3,k4,hst2⟩:=hst.step (unhide HR) o3 o4 o5 hb2 hf2 W0.heap.size
   show KeepsFrom _ _ _∧Kept _ _ _ _∧WorthI w W0 g3 g4 g5 (.slice _ rs.length rcap) S X Y Q ps rs _ _
   rw [unhide hsn]
   unfold wstep
   rw [if_neg (by omega)]
   exact ⟨k1.trans k3,k2.trans k4,hst2⟩
 case done =>
  rintro D ys W hD rfl hi hK
  obtain ⟨⟨⟨s5,x5,y5,p5,c5,f5⟩,z5⟩,⟨⟨s4,x4,y4,p4,c4,f4⟩,z4⟩,i3,i4,i5,i6,i7⟩:=hi
  have HF5:=hide f5
  have H7:=hide i7
  have C4:=hide c4
  obtain ⟨a0,a1,a2,a3⟩:=c5
  obtain ⟨r0,r1,r2,r3⟩:=c4
  have hK2:Hid ((put4 W g4 s5 x5 y5 p5).heap[D]? = some (.deferred (some []))):=((put4_but W g4 s5 x5 y5 p5).block D (Array.getElem?_eq_some_iff.1 hK).1 (by simp;omega)).trans hK
  clear i4 i5 i7 f5 f4 hF lp hV hp i3 hr hK
  gi_wp2
  have hcalm:Calm (put4 W g4 s5 x5 y5 p5) ((put4 W g4 s5 x5 y5 p5).putObj D (.deferred none)):=calm_of_grown (grownBy_putObj' _ D _) (fun r e=>by cases e;exact ⟨_,unhide hK2,rfl⟩)
  have hpp:=(put4_p4 W g4 s5 x5 y5 p5 (unhide C4)).calm hcalm
  have hff:=((unhide HF5).over r0 (put4_but W g4 s5 x5 y5 p5)).calm hcalm
  have hB1:But [] w (put4 W g4 s5 x5 y5 p5):=(But.of_below (unhide H7)).trans (put4_but W g4 s5 x5 y5 p5) (fun x hx=>by simp at hx;subst hx;exact .inr (by omega))
  have hB2:But [] w ((put4 W g4 s5 x5 y5 p5).putObj D (.deferred none)):=hB1.trans (l':=[D]) ⟨rfl,rfl,rfl,by simp,fun k _ hk=>World.putObj_heap_other (by simpa using hk)⟩ (fun x hx=>by simp at hx;subst hx;exact .inr (by omega))
  obtain ⟨t0,t1,t2,t3⟩:=hpp
  change bodyPostM _ _ _ _ _ Exit.ret _ (put4 W g4 s5 x5 y5 p5)
  generalize put4 W g4 s5 x5 y5 p5=V at *
  refine ⟨by simp,.inl ⟨_,_,rfl,run_takeDeferred (unhide hK2),?_⟩⟩
  exact ⟨.agg #[.bool s5,.int .u64 x5,.int .u64 y5,.pointer p5],(by simp [results,Tryz.results57,go_sem,t0,t1,t2,t3]),_,rfl,hff,hB2⟩
 case stop =>
  rintro D c pre W _ _ h
  exact h.elim
end Go.Proofs.YtollloafckcogaaGreatDoor

namespace Go.Proofs.YtollloafckcogaaGreatDoor
open Go.RowKit
theorem pos_num (x:Rat):0<x.num↔0<x:=by
 have h1:=Rat.num_nonneg (q:=x)
 have h2:=Rat.num_eq_zero (q:=x)
 constructor
 ·intro h
  have:0≤x:=h1.1 (by omega)
  rcases Rat.le_iff_lt_or_eq.1 this with h3 | h3
  ·exact h3
  ·have:=h2.2 h3.symm
   omega
 ·intro h
  have h3:0≤x.num:=h1.2 (Rat.le_of_lt h)
  have h4:x.num≠0:=fun e=>by
   have:=h2.1 e
   rw [this] at h
   exact absurd h (Rat.lt_irrefl)
  omega
theorem rat_fit (z:Rat) (A:Int) (b:Nat) (hb:0<b) (h:z*((b:Int):Rat)=((A:Int):Rat)):z.num.natAbs≤A.natAbs∧z.den≤b:=by
 have h1:=den_times z
 have hd:=int_ne (z.den:Int) (by have:=den_pos z;omega)
 have h2:((z.num*(b:Int):Int):Rat)=((A*(z.den:Int):Int):Rat):=by
  rw [Rat.intCast_mul,Rat.intCast_mul,← h1,← h]
  grind
 have h3:=Rat.intCast_inj.1 h2
 have h4:=congrArg Int.natAbs h3
 rw [Int.natAbs_mul,Int.natAbs_mul,Int.natAbs_natCast,Int.natAbs_natCast] at h4
 have h5:z.den ∣ z.num.natAbs*b:=⟨A.natAbs,by rw [h4,Nat.mul_comm]⟩
 have h6:z.den ∣ b:=(Nat.Coprime.symm z.reduced).dvd_of_dvd_mul_left h5
 refine ⟨?_,Nat.le_of_dvd hb h6⟩
 obtain ⟨t,ht⟩:=h6
 have ht0:0<t:=by
  rcases Nat.eq_zero_or_pos t with e | e
  ·rw [e,Nat.mul_zero] at ht;omega
  ·exact e
 have h7:z.num.natAbs*t=A.natAbs:=by
  rw [ht] at h4
  have hz:=den_pos z
  refine Nat.eq_of_mul_eq_mul_right hz ?_
  rw [← h4]
  rw [Nat.mul_assoc,Nat.mul_comm t]
 rw [← h7]
 exact Nat.le_mul_of_pos_right _ ht0
def unitW:List Rat→Rat
 | []=>0
 | r::rs=>(1+unitW rs)/(1+r)
theorem unitW_nonneg:∀ rs:List Rat,(∀ r ∈ rs,0<1+r)→0≤unitW rs
 | [],_=>Rat.le_refl
 | r::rs,h=>by
  have ih:=unitW_nonneg rs (fun x hx=>h x (by simp [hx]))
  unfold unitW
  rw [Rat.div_def]
  exact Rat.le_of_lt (Rat.mul_pos (by grind) (Rat.inv_pos.2 (h r (by simp))))
theorem unitW_pos (rs:List Rat) (h:∀ r ∈ rs,0<1+r) (h0:0<rs.length):0<unitW rs:=by
 cases rs with
 | nil=>simp at h0
 | cons r rs =>
  have ih:=unitW_nonneg rs (fun x hx=>h x (by simp [hx]))
  unfold unitW
  rw [Rat.div_def]
  exact Rat.mul_pos (by grind) (Rat.inv_pos.2 (h r (by simp)))
theorem unitW_step (rs:List Rat) (k:Nat) (hk:k<rs.length):unitW (rs.drop k)=(1+unitW (rs.drop (k+1)))/(1+rs[k]?.getD 0):=by
 rw [List.drop_eq_getElem_cons hk,List.getElem?_eq_getElem hk]
 rfl
theorem fit_step (u r:Rat) (M:Nat) (hu:0≤u) (h1:u.num.natAbs≤M) (h2:u.den≤M) (lr:Len r 1) (hr:0<1+r):((1+u)/(1+r)).num.natAbs≤M*36893488147419103232∧((1+u)/(1+r)).den≤M*36893488147419103232:=by
 obtain ⟨a1,a2⟩:=lr.lt
 rw [Nat.pow_one] at a1 a2
 have hun:0≤u.num:=Rat.num_nonneg.2 hu
 have du:=den_times u
 have dr:=den_times r
 have dup:=den_pos u
 have drp:=den_pos r
 have hs:0<((r.den:Int)+r.num):=by
  have e:(1+r)*((r.den:Int):Rat)=(((r.den:Int)+r.num:Int):Rat):=by
   rw [Rat.intCast_add,← dr];grind
  have hp:(0:Rat)<((r.den:Int):Rat):=by
   have:((0:Int):Rat)<((r.den:Int):Rat):=Rat.intCast_lt_intCast.2 (by omega)
   simpa using this
  have hq:((0:Int):Rat)<(((r.den:Int)+r.num:Int):Rat):=by
   rw [← e]
   simpa using Rat.mul_pos hr hp
  exact Rat.intCast_lt_intCast.1 hq
 obtain ⟨q,hq⟩:∃ q:Nat,(q:Int)=(r.den:Int)+r.num:=⟨((r.den:Int)+r.num).toNat,by omega⟩
 have key:=rat_fit ((1+u)/(1+r)) (((u.den:Int)+u.num)*(r.den:Int)) (u.den*q) (Nat.mul_pos dup (by omega)) (by
  have hd1:=int_ne (u.den:Int) (by omega)
  have hd2:=int_ne (r.den:Int) (by omega)
  have hr0:1+r≠0:=fun e=>by rw [e] at hr;exact Rat.lt_irrefl hr
  rw [Int.natCast_mul,Rat.intCast_mul,hq,Rat.intCast_add,Rat.intCast_mul,Rat.intCast_add,← du,← dr]
  generalize ((u.den:Int):Rat)=D at *
  generalize ((r.den:Int):Rat)=E at *
  grind)
 have hqB:q≤36893488147419103232:=by omega
 refine ⟨Nat.le_trans key.1 ?_,Nat.le_trans key.2 (Nat.mul_le_mul h2 hqB)⟩
 rw [Int.natAbs_mul,Int.natAbs_natCast]
 have:((u.den:Int)+u.num).natAbs≤2*M:=by omega
 refine Nat.le_trans (Nat.mul_le_mul this (Nat.le_of_lt a2)) ?_
 omega
theorem unitW_fit:∀ rs:List Rat,(∀ r ∈ rs,0<1+r)→(∀ r ∈ rs,Len r 1)→(unitW rs).num.natAbs≤36893488147419103232^rs.length∧(unitW rs).den≤36893488147419103232^rs.length
 | [],_,_=>⟨Nat.zero_le _,Nat.le_refl _⟩
 | r::rs,h,hl=>by
  have ih:=unitW_fit rs (fun x hx=>h x (by simp [hx])) (fun x hx=>hl x (by simp [hx]))
  have hs:=fit_step (unitW rs) r _ (unitW_nonneg rs (fun x hx=>h x (by simp [hx]))) ih.1 ih.2 (hl r (by simp)) (h r (by simp))
  unfold unitW
  rw [List.length_cons,Nat.pow_succ]
  exact hs
theorem unitW_len (rs:List Rat) (h:∀ r ∈ rs,0<1+r) (hl:∀ r ∈ rs,Len r 1) (hn:rs.length≤60):Len (unitW rs) 61:=by
 obtain ⟨h1,h2⟩:=unitW_fit rs h hl
 have e:36893488147419103232^rs.length < 18446744073709551616^61:=Nat.lt_of_le_of_lt (Nat.pow_le_pow_right (by omega) hn) (by decide +kernel)
 exact len_of (m:=61) (n:=61) (by omega) (by omega) 61 (Nat.le_refl _) (Nat.le_refl _)
theorem wfold_units (c:Rat) (rs:List Rat) (k:Nat) (hk:1≤k) (hkn:k≤rs.length+1):wfold (fun t=>(0::List.replicate rs.length c)[t]?.getD 0) (fun t=>rs[t]?.getD 0) ((downs (rs.length+1) k).map (·.1))=c*unitW (rs.drop (k-1)):=by
 obtain ⟨j,hj⟩:∃ j,j=rs.length+1-k:=⟨_,rfl⟩
 induction j generalizing k with
 | zero =>
  obtain rfl:k=rs.length+1:=by omega
  rw [downs_end,List.map_nil,Nat.add_sub_cancel,List.drop_length]
  show (0:Rat)=c*0
  rw [Rat.mul_zero]
 | succ j ih =>
  have hlt:k<rs.length+1:=by omega
  rw [downs_next _ k hlt,List.map_append,List.map_cons,List.map_nil,wfold_snoc,ih (k+1) (by omega) (by omega) (by omega),Nat.add_sub_cancel]
  obtain ⟨m,rfl⟩:∃ m,k=m+1:=⟨k-1,by omega⟩
  have hm:m<rs.length:=by omega
  unfold wstep
  dsimp only
  rw [if_neg (by omega),Nat.add_sub_cancel,unitW_step rs m hm,List.getElem?_cons_succ,List.getElem?_replicate,if_pos hm]
  simp only [Option.getD_some,Rat.div_def]
  grind
theorem wfold_all (c:Rat) (rs:List Rat):wfold (fun t=>(0::List.replicate rs.length c)[t]?.getD 0) (fun t=>rs[t]?.getD 0) ((downs (rs.length+1) 0).map (·.1))=c*unitW rs:=by
 rw [downs_next _ 0 (by omega),List.map_append,List.map_cons,List.map_nil,wfold_snoc,wfold_units c rs 1 (by omega) (by omega)]
 unfold wstep
 rw [if_pos rfl]
 simp only [List.getElem?_cons_zero,Option.getD_some,Rat.add_zero]
 rfl
theorem wfold_scale (c:Rat) (n:Nat) (r:Nat→Rat) (l:List Nat) (hl:∀ t ∈ l,t≤n):wfold (fun t=>(0::List.replicate n c)[t]?.getD 0) r l=c*wfold (fun t=>(0::List.replicate n 1)[t]?.getD 0) r l:=by
 obtain ⟨m,hm⟩:∃ m,m=l.length:=⟨_,rfl⟩
 induction m generalizing l with
 | zero =>
  have:l=[]:=List.length_eq_zero_iff.1 hm.symm
  subst this
  show (0:Rat)=c*0
  rw [Rat.mul_zero]
 | succ m ih =>
  obtain ⟨l',t,rfl⟩:∃ l' t,l=l'++[t]:=⟨l.dropLast,l.getLast (by intro e;rw [e] at hm;simp at hm),(List.dropLast_concat_getLast _).symm⟩
  rw [wfold_snoc,wfold_snoc,ih l' (fun x hx=>hl x (by simp [hx])) (by simp at hm;omega)]
  have ht:=hl t (by simp)
  have hp:(0::List.replicate n c)[t]?.getD 0=c*(0::List.replicate n (1:Rat))[t]?.getD 0:=by
   cases t with
   | zero=>simp
   | succ t =>
    rw [List.getElem?_cons_succ,List.getElem?_cons_succ,List.getElem?_replicate,List.getElem?_replicate]
    by_cases h:t<n
    ·rw [if_pos h,if_pos h];simp
    ·rw [if_neg h,if_neg h];simp
  unfold wstep
  dsimp only
  rw [hp]
  split
  ·grind
  ·simp only [Rat.div_def]
   grind
theorem wfold_len (n:Nat) (rs:List Rat) (l:List Nat) (hn:n≤rs.length) (hl:∀ t ∈ l,t≤n) (lr:∀ r ∈ rs,Len r 1) (hg:∀ r ∈ rs,0<1+r):Len (wfold (fun t=>(0::List.replicate n 1)[t]?.getD 0) (fun t=>rs[t]?.getD 0) l) (5*l.length+1):=by
 obtain ⟨m,hm⟩:∃ m,m=l.length:=⟨_,rfl⟩
 induction m generalizing l with
 | zero =>
  have:l=[]:=List.length_eq_zero_iff.1 hm.symm
  subst this
  exact len_int 0 (by decide)
 | succ m ih =>
  obtain ⟨l',t,rfl⟩:∃ l' t,l=l'++[t]:=⟨l.dropLast,l.getLast (by intro e;rw [e] at hm;simp at hm),(List.dropLast_concat_getLast _).symm⟩
  have hm':m=l'.length:=by simp at hm;omega
  have ih':=ih l' (fun x hx=>hl x (by simp [hx])) hm'
  rw [wfold_snoc,List.length_append,List.length_singleton]
  have ht:=hl t (by simp)
  have hp:Len ((0::List.replicate n (1:Rat))[t]?.getD 0) 1:=by
   cases t with
   | zero=>exact len_int 0 (by decide)
   | succ t =>
    rw [List.getElem?_cons_succ,List.getElem?_replicate,if_pos (by omega)]
    exact len_int 1 (by decide)
  unfold wstep
  dsimp only
  have ha:=len_add ih' hp (5*l'.length+3) (by omega)
  split
  ·exact ha.mono (by omega)
  ·rename_i ht0
   have hlt:t-1<rs.length:=by omega
   rw [List.getElem?_eq_getElem hlt,Option.getD_some]
   have hmem:=List.getElem_mem hlt
   have hpos:=hg _ hmem
   exact len_div ha (len_add (len_int 1 (by decide)) (lr _ hmem) 3 (by omega)) (by have:=(pos_num (1+rs[t-1])).2 hpos;exact fun e=>by rw [show (((1:Int):Rat)+rs[t-1])=1+rs[t-1] from rfl] at e;omega) _ (by omega)
end Go.Proofs.YtollloafckcogaaGreatDoor

namespace Go.Proofs.YtollloafckcogaaGreatDoor
open Go.RowKit
set_option maxRecDepth 100000
theorem worth_units (vp vr:Value) (c:Rat) (rs:List Rat) (w:World) (hp:FracsAt w vp (0::List.replicate rs.length c)) (hr:FracsAt w vr rs) (hn:rs.length≤60) (lc:Len c 1000) (lr:∀ r ∈ rs,Len r 1) (hg:∀ r ∈ rs,0<1+r) :
  Calls Tryz.prog 57 #[vp,vr] w fun e w'=>∃ v,e=.returned v∧FracAt w' v (c*unitW rs)∧But [] w w':=by
 have hlen:(0::List.replicate rs.length c).length=rs.length+1:=by simp
 have h:=worth_any vp vr (0::List.replicate rs.length c) rs w hp hr (by rw [hlen];omega) (by rw [hlen];omega) (by omega) (fun t ht=>?_) (fun t ht=>?_) (fun t ht=>?_) (fun l hl=>?_)
 ·rw [show (downs (0::List.replicate rs.length c).length 0).map (·.1)=(downs (rs.length+1) 0).map (·.1) from by rw [hlen],wfold_all] at h
  exact h
 ·cases t with
  | zero=>exact (len_int 0 (by decide)).mono (by omega)
  | succ t =>
   rw [hlen] at ht
   rw [List.getElem?_cons_succ,List.getElem?_replicate,if_pos (by omega)]
   exact lc
 ·rw [List.getElem?_eq_getElem ht]
  exact lr _ (List.getElem_mem ht)
 ·rw [List.getElem?_eq_getElem ht,Option.getD_some]
  have:=(pos_num (1+rs[t])).2 (hg _ (List.getElem_mem ht))
  omega
 ·have hb:∀ t ∈ l.map (·.1),t≤rs.length:=fun t ht=>by
   obtain ⟨x,-,rfl⟩:=List.mem_map.1 ht
   have h2:x.1<rs.length+1:=Nat.lt_of_lt_of_le x.2 (Nat.le_of_eq hlen)
   omega
  have hl':l.length≤rs.length+1:=Nat.le_trans hl (Nat.le_of_eq hlen)
  rw [wfold_scale c rs.length _ _ hb]
  have h1:=wfold_len rs.length rs (l.map (·.1)) (Nat.le_refl _) hb lr hg
  rw [List.length_map] at h1
  exact len_mul lc h1 20000 (by omega)
theorem run_len (a:Act) (w:World) (d t:Nat) (u:TypeId) (ps:String) (ed:Array Edge) (q:Option Addr) (n c:Nat) (h:a.eval (.tmp t)=.slice q n c) :
  (execOp a.eval { dst:=some d,op:=Op.call { callee:=Callee.builtin Builtin.len,args:=#[Operand.tmp t],argTypes:=#[42] },type:=u,pos:=ps,after:=ed,guard:=none }).run Tryz.prog w=.ok (.value (.int .i64 (n:Int))) w:=by
 have h':a.tmps[t]?.getD undef=.slice q n c:=by rw [← Array.getD_eq_getD_getElem?];exact h
 unfold execOp
 go_simp
theorem run_yearly (a:Act) (w:World) (d t1:Nat) (u:TypeId) (ps:String) (ed:Array Edge) (x1:Value) (h1:a.eval (.tmp t1)=x1) :
  (execOp a.eval { dst:=some d,op:=Op.call { callee:=Callee.value (Operand.func 62),args:=#[Operand.tmp t1],argTypes:=#[3] },type:=u,pos:=ps,after:=ed,guard:=none }).run Tryz.prog w=.ok (.enter 62 #[x1]) w:=by
 unfold execOp
 go_simp
 rw [← h1]
 simp [Act.eval]
theorem run_worth (a:Act) (w:World) (d t1 t2:Nat) (u:TypeId) (ps:String) (ed:Array Edge) (x1 x2:Value) (h1:a.eval (.tmp t1)=x1) (h2:a.eval (.tmp t2)=x2) :
  (execOp a.eval { dst:=some d,op:=Op.call { callee:=Callee.value (Operand.func 57),args:=#[Operand.tmp t1,Operand.tmp t2],argTypes:=#[42,42] },type:=u,pos:=ps,after:=ed,guard:=none }).run Tryz.prog w=.ok (.enter 57 #[x1,x2]) w:=by
 unfold execOp
 go_simp
 rw [← h1,← h2]
 simp [Act.eval]
theorem run_alloc4 (a:Act) (w:World) (d:Nat) (u:TypeId) (ps:String) (ed:Array Edge) :
  (execOp a.eval { dst:=some d,op:=Op.alloc 27,type:=u,pos:=ps,after:=ed,guard:=none }).run Tryz.prog w=.ok (.value (.pointer (some ⟨w.heap.size,0,none⟩))) (w.alloc (.cells #[.bool false,.int .u64 0,.int .u64 0,.pointer none] 27)):=by
 unfold execOp
 go_simp
def opL0:Oper:={ dst:=some 26,op:=Op.load 27 (Operand.tmp 2),type := 27,pos := "loan.go:21",after:=#[],guard:=none }
def opL1:Oper:={ dst:=some 27,op:=Op.move (Operand.tmp 1),type := 42,pos := "loan.go:21",after:=#[],guard:=none }
def opL2:Oper:={ dst:=some 28,op:=Op.call { callee:=Callee.builtin Builtin.len,args:=#[Operand.tmp 27],argTypes:=#[42] },type := 3,pos := "loan.go:21",after:=#[⟨1,.data⟩],guard:=none }
def opL3:Oper:={ dst:=some 29,op:=Op.call { callee:=Callee.value (Operand.func 62),args:=#[Operand.tmp 28],argTypes:=#[3] },type := 42,pos := "loan.go:21",after:=#[⟨2,.data⟩],guard:=none }
def opL4:Oper:={ dst:=some 30,op:=Op.move (Operand.tmp 1),type := 42,pos := "loan.go:21",after:=#[],guard:=none }
def opL5:Oper:={ dst:=some 31,op:=Op.call { callee:=Callee.value (Operand.func 57),args:=#[Operand.tmp 29,Operand.tmp 30],argTypes:=#[42,42] },type := 27,pos := "loan.go:21",after:=#[⟨3,.data⟩,⟨4,.data⟩,⟨3,.chain⟩],guard:=none }
def opL6:Oper:={ dst:=some 32,op:=Op.call { callee:=Callee.value (Operand.func 51),args:=#[Operand.tmp 26,Operand.tmp 31],argTypes:=#[27,27] },type := 27,pos := "loan.go:21",after:=#[⟨0,.data⟩,⟨5,.data⟩,⟨5,.chain⟩],guard:=none }
def opL7:Oper:={ dst:=some 8,op:=Op.alloc 27,type:=0,pos := "loan.go:21",after:=#[],guard:=none }
def opL8:Oper:={ dst:=none,op:=Op.store 27 (Operand.tmp 8) (Operand.tmp 32),type:=0,pos := "loan.go:21",after:=#[⟨7,.data⟩,⟨6,.data⟩,⟨6,.chain⟩,⟨0,.phase⟩,⟨1,.phase⟩,⟨2,.phase⟩,⟨3,.phase⟩,⟨4,.phase⟩,⟨5,.phase⟩,⟨6,.phase⟩,⟨7,.phase⟩],guard:=none }
def opsL:Array Oper:=#[opL0,opL1,opL2,opL3,opL4,opL5,opL6,opL7,opL8]
def Laid4 (B:Nat) (w:World) (v:Value):Prop:=∃ b,v=.pointer (some ⟨b,0,none⟩)∧B≤b∧P4 w b false 0 0 none∧∀ j,w.frozen? ⟨b,j,none⟩=false
theorem Laid4.but {B:Nat} {w w':World} {v:Value} (h:Laid4 B w v) (hb:But [] w w'):Laid4 B w' v:=by
 obtain ⟨b,e,h1,h2,h3⟩:=h
 have hl:b<w.heap.size:=lt_of_cell h2.1
 exact ⟨b,e,h1,h2.but hb (by simp),fun j=>(hb.frozen (p:=⟨b,j,none⟩) hl (by simp)).trans (h3 j)⟩
def loanC (W0:World) (vd vr:Value) (n:Nat) (d:Rat) (rs:List Rat) (i:Nat) (w:World) (v:Value):Prop:=match i with
 | 0=>v=vd
 | 1=>v=vr
 | 2=>v=.int .i64 (n:Int)
 | 3=>FracsAt w v (0::List.replicate n 1)
 | 4=>v=vr
 | 5=>FracAt w v (unitW rs)
 | 6=>FracAt w v (d/unitW rs)
 | _=>Laid4 W0.heap.size w v
theorem loanC_but {W0:World} {vd vr:Value} {n:Nat} {d:Rat} {rs:List Rat} {i:Nat} {w w':World} {v:Value} (h:loanC W0 vd vr n d rs i w v) (hi:i<8) (hb:But [] w w'):loanC W0 vd vr n d rs i w' v:=by
 have:i=0∨i=1∨i=2∨i=3∨i=4∨i=5∨i=6∨i=7:=by omega
 rcases this with rfl | rfl | rfl | rfl | rfl | rfl | rfl | rfl
 all_goals first | exact h | exact FracAt.but h hb | exact FracsAt.but h hb | exact Laid4.but h hb
theorem loan_region (id:Nat) (Q:Exit→Act→World→Prop) (base:Act) (W0:World) (g2:Nat) (s:Bool) (x y:Int) (p:Option Addr) (q:Option Addr) (n c:Nat) (d:Rat) (rs:List Rat) (hs:32<base.tmps.size)
  (e2:base.eval (.tmp 2)=.pointer (some ⟨g2,0,none⟩)) (e1:base.eval (.tmp 1)=.slice q n c) (c2:P4 W0 g2 s x y p) (hd:FracAt W0 (.agg #[.bool s,.int .u64 x,.int .u64 y,.pointer p]) d) (hr:FracsAt W0 (.slice q n c) rs) (hnn:n=rs.length) (hn:n≤60) (h0:0<n) (ld:Len d 1) (lr:∀ r ∈ rs,Len r 1) (hg:∀ r ∈ rs,0<1+r)
  (hQ:∀ w1 b v3 v5 s' x' y' p',But [] W0 w1→W0.heap.size≤b→P4 w1 b false 0 0 none→(∀ j,w1.frozen? ⟨b,j,none⟩=false)→FracAt w1 (.agg #[.bool s',.int .u64 x',.int .u64 y',.pointer p']) (d/unitW rs)→Q .normal (putted base [(26,.agg #[.bool s,.int .u64 x,.int .u64 y,.pointer p]),(27,.slice q n c),(28,.int .i64 (n:Int)),(29,v3),(30,.slice q n c),(31,v5),(32,.agg #[.bool s',.int .u64 x',.int .u64 y',.pointer p']),(8,.pointer (some ⟨b,0,none⟩))]) (put4 w1 b s' x' y' p')) :
  (Code.region id opsL true).wp Tryz.prog Q base W0:=by
 have hdr:∀ {w},But [] W0.drew w→But [] W0 w:=fun h=>(But.refl _ _).drew.trans' h
 have hW:=unitW_pos rs hg (by omega)
 have hW0:(unitW rs).num≠0:=by have:=(pos_num (unitW rs)).2 hW;omega
 have lW:=unitW_len rs hg lr (by omega)
 refine region_flow (by kernel_rfl) (low_of (by kernel_rfl)) (fun i o ho=>(calm_of (ops:=opsL) (by kernel_rfl) i o ho).1)
  (fun _ w=>But [] W0.drew w) (loanC W0 (.agg #[.bool s,.int .u64 x,.int .u64 y,.pointer p]) (.slice q n c) n d rs) (fun i=>if i=7 then 8 else 26+i) 8 rfl (fun i j hi hj e=>by
   split at e <;> split at e <;> omega) (fun i hi=>by split <;> omega) (But.refl _ _)
  (fun i hi=>?_) ?_ (fun a w=>∃ w1 b v3 v5 s' x' y' p',a=putted base [(26,.agg #[.bool s,.int .u64 x,.int .u64 y,.pointer p]),(27,.slice q n c),(28,.int .i64 (n:Int)),(29,v3),(30,.slice q n c),(31,v5),(32,.agg #[.bool s',.int .u64 x',.int .u64 y',.pointer p']),(8,.pointer (some ⟨b,0,none⟩))]∧w=put4 w1 b s' x' y' p'∧But [] W0 w1∧W0.heap.size≤b∧P4 w1 b false 0 0 none∧(∀ j,w1.frozen? ⟨b,j,none⟩=false)∧FracAt w1 (.agg #[.bool s',.int .u64 x',.int .u64 y',.pointer p']) (d/unitW rs)) ?_ ?_
 ·exact dep_of (ops:=opsL) (ps:=[(8,0),(8,1),(8,2),(8,3),(8,4),(8,5),(8,6),(8,7)]) (by kernel_rfl) 8 i (by
   have:i=0∨i=1∨i=2∨i=3∨i=4∨i=5∨i=6∨i=7:=by omega
   rcases this with rfl | rfl | rfl | rfl | rfl | rfl | rfl | rfl <;> simp)
 ·intro dn i o a w K hi ho hdi hH he hdep hK
  have hD:=dep_have (ps:=[(2,1),(3,2),(5,3),(5,4),(6,0),(6,5)]) (by kernel_rfl) ho (fun j=>dn j=true∧loanC W0 (.agg #[.bool s,.int .u64 x,.int .u64 y,.pointer p]) (.slice q n c) n d rs j w (a.eval (.tmp (if j=7 then 8 else 26+j)))) hdep
  have e2':=(he 2 (fun j _=>by split <;> omega)).trans e2
  have e1':=(he 1 (fun j _=>by split <;> omega)).trans e1
  have hk:∀ v w',But [] w w'→loanC W0 (.agg #[.bool s,.int .u64 x,.int .u64 y,.pointer p]) (.slice q n c) n d rs i w' v→K (a.put (some (if i=7 then 8 else 26+i)) v) w':=fun v w' hb hv=>hK v w' (hH.trans' hb) (fun j hj _ u hu=>loanC_but hu hj hb) hv
  have:i=0∨i=1∨i=2∨i=3∨i=4∨i=5∨i=6∨i=7:=by omega
  rcases this with rfl | rfl | rfl | rfl | rfl | rfl | rfl | rfl
  ·obtain rfl:=Option.some.inj ((show opsL[0]? = some opL0 from rfl).symm.trans ho)
   exact wp_value (run_load4 a w _ _ _ _ _ g2 0 _ _ _ _ e2' (c2.but (hdr hH) (by simp))) (hk _ _ (But.refl _ _) rfl)
  ·obtain rfl:=Option.some.inj ((show opsL[1]? = some opL1 from rfl).symm.trans ho)
   exact wp_value (run_moved a w _ _ _ _ _ _ e1') (hk _ _ (But.refl _ _) rfl)
  ·obtain rfl:=Option.some.inj ((show opsL[2]? = some opL2 from rfl).symm.trans ho)
   exact wp_value (run_len a w _ _ _ _ _ q n c (hD 1 (by simp)).2) (hk _ _ (But.refl _ _) rfl)
  ·obtain rfl:=Option.some.inj ((show opsL[3]? = some opL3 from rfl).symm.trans ho)
   exact wp_enter (run_yearly a w _ _ _ _ _ _ (hD 2 (by simp)).2) (R:=fun w' v=>FracsAt w' v (0::List.replicate n 1)∧But [] w w') (yearly_any n (by omega) w) (fun v w' hv=>hk v w' hv.2 hv.1)
  ·obtain rfl:=Option.some.inj ((show opsL[4]? = some opL4 from rfl).symm.trans ho)
   exact wp_value (run_moved a w _ _ _ _ _ _ e1') (hk _ _ (But.refl _ _) rfl)
  ·obtain rfl:=Option.some.inj ((show opsL[5]? = some opL5 from rfl).symm.trans ho)
   have hy:FracsAt w (a.eval (.tmp 29)) (0::List.replicate n 1):=(hD 3 (by simp)).2
   rw [hnn] at hy
   have hw:=worth_units (a.eval (.tmp 29)) (.slice q n c) 1 rs w hy (hr.but (hdr hH)) (by omega) ((len_int 1 (by decide)).mono (by omega)) lr hg
   rw [Rat.one_mul] at hw
   exact wp_enter (run_worth a w _ _ _ _ _ _ _ _ rfl (hD 4 (by simp)).2) (R:=fun w' v=>FracAt w' v (unitW rs)∧But [] w w') hw (fun v w' hv=>hk v w' hv.2 hv.1)
  ·obtain rfl:=Option.some.inj ((show opsL[6]? = some opL6 from rfl).symm.trans ho)
   exact wp_enter (run_divided a w _ _ _ _ _ _ _ _ (hD 0 (by simp)).2 rfl) (R:=fun w' v=>FracAt w' v (d/unitW rs)∧But [] w w') (divided_any _ _ d (unitW rs) w (hd.but (hdr hH)) (hD 5 (by simp)).2 (ld.mono (by omega)) (lW.mono (by omega)) hW0) (fun v w' hv=>hk v w' hv.2 hv.1)
  ·obtain rfl:=Option.some.inj ((show opsL[7]? = some opL7 from rfl).symm.trans ho)
   exact wp_value (run_alloc4 a w _ _ _ _) (hk _ _ ((But.refl _ _).alloc _) ⟨w.heap.size,rfl,(hdr hH).size,⟨by simp,by simp,by simp,by simp⟩,fun j=>by simp⟩)
 ·intro dn o a w K ho hall h hK
  obtain rfl:=Option.some.inj ((show opsL[8]? = some opL8 from rfl).symm.trans ho)
  have c0:a.eval (.tmp 26)=.agg #[.bool s,.int .u64 x,.int .u64 y,.pointer p]:=h.has 0 (by omega) (hall 0 (by omega))
  have c1:a.eval (.tmp 27)=.slice q n c:=h.has 1 (by omega) (hall 1 (by omega))
  have c2':a.eval (.tmp 28)=.int .i64 (n:Int):=h.has 2 (by omega) (hall 2 (by omega))
  have c4:a.eval (.tmp 30)=.slice q n c:=h.has 4 (by omega) (hall 4 (by omega))
  have c6:FracAt w (a.eval (.tmp 32)) (d/unitW rs):=h.has 6 (by omega) (hall 6 (by omega))
  obtain ⟨b,eb,hb1,hb2,hb3⟩:Laid4 W0.heap.size w (a.eval (.tmp 8)):=h.has 7 (by omega) (hall 7 (by omega))
  have c6':=c6
  obtain ⟨x',y',p',ev,-⟩:=c6.agg
  rw [ev] at c6'
  have ea:=h.puts (fun i hi=>by split <;> omega) (fun i=>if i=0 then .agg #[.bool s,.int .u64 x,.int .u64 y,.pointer p] else if i=1 then .slice q n c else if i=2 then .int .i64 (n:Int) else if i=3 then a.eval (.tmp 29) else if i=4 then .slice q n c else if i=5 then a.eval (.tmp 31) else if i=6 then .agg #[.bool (decide ((d/unitW rs).num<0)),.int .u64 x',.int .u64 y',.pointer p'] else .pointer (some ⟨b,0,none⟩)) (fun i hi=>by
   have:i=0∨i=1∨i=2∨i=3∨i=4∨i=5∨i=6∨i=7:=by omega
   rcases this with rfl | rfl | rfl | rfl | rfl | rfl | rfl | rfl
   all_goals first | exact c0 | exact c1 | exact c2' | exact c4 | exact ev | exact eb | rfl)
  refine wp_skipped (run_store4 a w _ _ _ _ _ b _ x' y' p' eb ev hb2 hb3) (hK _ _ ⟨w,b,a.eval (.tmp 29),a.eval (.tmp 31),_,x',y',p',?_,rfl,hdr h.mem,hb1,hb2,hb3,c6'⟩)
  exact ea
 ·rintro a w ⟨w1,b,v3,v5,s',x',y',p',rfl,rfl,h1,h2,h3,h4,h5⟩
  exact hQ w1 b v3 v5 s' x' y' p' h1 h2 h3 h4 h5
end Go.Proofs.YtollloafckcogaaGreatDoor

namespace Go.Proofs.YtollloafckcogaaGreatDoor
open Go.RowKit
theorem run_makeP (wx:World) (n:Nat) (h:n<1000000):(Instr.makeSlice 58 (.int .i64 (n:Int)) (.int .i64 (n:Int))).run Tryz.prog wx=.ok (.slice (some ⟨wx.heap.size,0,none⟩) n n) (wx.alloc (.cells (madeCells #[.bool false,.int .u64 0,.int .u64 0,.pointer none,.bool false,.int .u64 0,.int .u64 0,.pointer none,.bool false,.int .u64 0,.int .u64 0,.pointer none] (n*12)) 66)):=by
 have hinfo:∃ i,Tryz.prog.info? 66 = some i∧i.zero=some (.agg #[.bool false,.int .u64 0,.int .u64 0,.pointer none,.bool false,.int .u64 0,.int .u64 0,.pointer none,.bool false,.int .u64 0,.int .u64 0,.pointer none])∧i.size=12∧i.bytes=96:=by
  have h:(Tryz.prog.info? 66).map (fun i=>(i.zero,i.size,i.bytes))=some (some (.agg #[.bool false,.int .u64 0,.int .u64 0,.pointer none,.bool false,.int .u64 0,.int .u64 0,.pointer none,.bool false,.int .u64 0,.int .u64 0,.pointer none]),12,96):=by kernel_rfl
  cases e:Tryz.prog.info? 66 with
  | none=>rw [e] at h;simp at h
  | some i =>
   rw [e] at h
   simp only [Option.map_some,Option.some.injEq,Prod.mk.injEq] at h
   exact ⟨i,rfl,h.1,h.2.1,h.2.2⟩
 obtain ⟨ti,hi,hz,hs,hbt⟩:=hinfo
 have hmk:=run_make (P:=Tryz.prog) wx 58 66 ti _ Tryz.underlying58 hi hz .i64 .i64 (n:Int) (n:Int) (by omega) (by omega) (by rw [hbt];omega) (by omega)
 rw [hs,Int.toNat_natCast] at hmk
 exact hmk
theorem made_twelve (n o:Nat) (h:o<n*12):(madeCells #[Value.bool false,.int .u64 0,.int .u64 0,.pointer none,.bool false,.int .u64 0,.int .u64 0,.pointer none,.bool false,.int .u64 0,.int .u64 0,.pointer none] (n*12))[o]? = (#[Value.bool false,.int .u64 0,.int .u64 0,.pointer none,.bool false,.int .u64 0,.int .u64 0,.pointer none,.bool false,.int .u64 0,.int .u64 0,.pointer none]:Array Value)[o%12]?:=by
 unfold madeCells
 rw [Array.getElem?_map,Array.getElem?_eq_getElem (by simpa using h),Array.getElem_range,Option.map_some]
 show some ((#[Value.bool false,.int .u64 0,.int .u64 0,.pointer none,.bool false,.int .u64 0,.int .u64 0,.pointer none,.bool false,.int .u64 0,.int .u64 0,.pointer none]:Array Value)[o%12]!)=_
 have h12:o%12<12:=Nat.mod_lt _ (by omega)
 generalize o%12=k at *
 match k,h12 with
 | 0,_=>rfl
 | 1,_=>rfl
 | 2,_=>rfl
 | 3,_=>rfl
 | 4,_=>rfl
 | 5,_=>rfl
 | 6,_=>rfl
 | 7,_=>rfl
 | 8,_=>rfl
 | 9,_=>rfl
 | 10,_=>rfl
 | 11,_=>rfl
structure Parts (w:World) (g n i:Nat) (I B L:Nat→Rat):Prop where
 blank:∀ j,i≤j→j<n→P4o w g (j*12) false 0 0 none∧P4o w g (j*12+4) false 0 0 none∧P4o w g (j*12+8) false 0 0 none
 told:∀ j,j<i→LiesAt w g (j*12) (I j)∧LiesAt w g (j*12+4) (B j)∧LiesAt w g (j*12+8) (L j)
 loose:∀ o,w.frozen? ⟨g,o,none⟩=false
theorem Parts.made (w:World) (n:Nat) (I B L:Nat→Rat):Parts (w.alloc (.cells (madeCells #[Value.bool false,.int .u64 0,.int .u64 0,.pointer none,.bool false,.int .u64 0,.int .u64 0,.pointer none,.bool false,.int .u64 0,.int .u64 0,.pointer none] (n*12)) 66)) w.heap.size n 0 I B L:=by
 have hc:∀ j k,j<n→k<12→(w.alloc (.cells (madeCells #[Value.bool false,.int .u64 0,.int .u64 0,.pointer none,.bool false,.int .u64 0,.int .u64 0,.pointer none,.bool false,.int .u64 0,.int .u64 0,.pointer none] (n*12)) 66)).cell? ⟨w.heap.size,j*12+k,none⟩=(#[Value.bool false,.int .u64 0,.int .u64 0,.pointer none,.bool false,.int .u64 0,.int .u64 0,.pointer none,.bool false,.int .u64 0,.int .u64 0,.pointer none]:Array Value)[k]?:=fun j k hj hk=>by
  rw [World.cell?_alloc_new,made_twelve n _ (by omega),show (j*12+k)%12=k from by omega]
 exact ⟨fun j _ hj=>⟨⟨hc j 0 hj (by omega),hc j 1 hj (by omega),hc j 2 hj (by omega),hc j 3 hj (by omega)⟩,⟨hc j 4 hj (by omega),hc j 5 hj (by omega),hc j 6 hj (by omega),hc j 7 hj (by omega)⟩,⟨hc j 8 hj (by omega),hc j 9 hj (by omega),hc j 10 hj (by omega),hc j 11 hj (by omega)⟩⟩,fun j hj=>by omega,fun o=>by simp⟩
theorem Parts.but {w w':World} {g n i:Nat} {I B L:Nat→Rat} (h:Parts w g n i I B L) (hb:But [] w w') (hg:g<w.heap.size):Parts w' g n i I B L :=
 ⟨fun j h1 h2=>by
  obtain ⟨a,b,c⟩:=h.blank j h1 h2
  exact ⟨a.but hb (by simp),b.but hb (by simp),c.but hb (by simp)⟩,fun j hj=>by
  obtain ⟨a,b,c⟩:=h.told j hj
  exact ⟨a.but hb,b.but hb,c.but hb⟩,fun o=>(hb.frozen (p:=⟨g,o,none⟩) hg (by simp)).trans (h.loose o)⟩
theorem Parts.beside {w w':World} {g n i:Nat} {I B L:Nat→Rat} {l:List Nat} (h:Parts w g n i I B L) (hb:But l w w') (hg:g<w.heap.size) (hn:g ∉ l) (hc:∀ g ∈ l,∃ s,w.cell? ⟨g,0,none⟩=some (.bool s)):Parts w' g n i I B L :=
 ⟨fun j h1 h2=>by
  obtain ⟨a,b,c⟩:=h.blank j h1 h2
  exact ⟨a.but hb hn,b.but hb hn,c.but hb hn⟩,fun j hj=>by
  obtain ⟨a,b,c⟩:=h.told j hj
  exact ⟨a.beside hb hn hc,b.beside hb hn hc,c.beside hb hn hc⟩,fun o=>(hb.frozen (p:=⟨g,o,none⟩) hg hn).trans (h.loose o)⟩
theorem Parts.bool {w:World} {g n i:Nat} {I B L:Nat→Rat} (h:Parts w g n i I B L) (h0:0<n):∃ s,w.cell? ⟨g,0,none⟩=some (.bool s):=by
 rcases Nat.eq_zero_or_pos i with e | e
 ·subst e
  obtain ⟨a,-,-⟩:=h.blank 0 (Nat.le_refl _) h0
  rw [Nat.zero_mul] at a
  exact ⟨_,a.1⟩
 ·obtain ⟨⟨s,x,y,p,a,-⟩,-,-⟩:=h.told 0 e
  rw [Nat.zero_mul] at a
  exact ⟨_,a.1⟩
theorem Parts.next {w:World} {g n i:Nat} {I B L:Nat→Rat} (h:Parts w g n i I B L) (hi:i<n) (s1 s2 s3:Bool) (x1 y1 x2 y2 x3 y3:Int) (p1 p2 p3:Option Addr) (h1:FracAt w (.agg #[.bool s1,.int .u64 x1,.int .u64 y1,.pointer p1]) (I i)) (h2:FracAt w (.agg #[.bool s2,.int .u64 x2,.int .u64 y2,.pointer p2]) (B i)) (h3:FracAt w (.agg #[.bool s3,.int .u64 x3,.int .u64 y3,.pointer p3]) (L i)) :
  Parts (w.setCells g (i*12) [.bool s1,.int .u64 x1,.int .u64 y1,.pointer p1,.bool s2,.int .u64 x2,.int .u64 y2,.pointer p2,.bool s3,.int .u64 x3,.int .u64 y3,.pointer p3]) g n (i+1) I B L:=by
 obtain ⟨c,hc⟩:=h.bool (by omega)
 obtain ⟨a1,a2,a3⟩:=h.blank i (Nat.le_refl _) hi
 have hb:=but_setCells w g [.bool s1,.int .u64 x1,.int .u64 y1,.pointer p1,.bool s2,.int .u64 x2,.int .u64 y2,.pointer p2,.bool s3,.int .u64 x3,.int .u64 y3,.pointer p3] (i*12)
 have some12:∀ k,k<12→(w.cell? ⟨g,i*12+k,none⟩).isSome=true:=fun k hk=>by
  have:k=0∨k=1∨k=2∨k=3∨k=4∨k=5∨k=6∨k=7∨k=8∨k=9∨k=10∨k=11:=by omega
  rcases this with rfl | rfl | rfl | rfl | rfl | rfl | rfl | rfl | rfl | rfl | rfl | rfl
  ·rw [show i*12+0=i*12 from rfl,a1.1];rfl
  ·rw [a1.2.1];rfl
  ·rw [a1.2.2.1];rfl
  ·rw [a1.2.2.2];rfl
  ·rw [a2.1];rfl
  ·rw [show i*12+5=i*12+4+1 from rfl,a2.2.1];rfl
  ·rw [show i*12+6=i*12+4+2 from rfl,a2.2.2.1];rfl
  ·rw [show i*12+7=i*12+4+3 from rfl,a2.2.2.2];rfl
  ·rw [a3.1];rfl
  ·rw [show i*12+9=i*12+8+1 from rfl,a3.2.1];rfl
  ·rw [show i*12+10=i*12+8+2 from rfl,a3.2.2.1];rfl
  ·rw [show i*12+11=i*12+8+3 from rfl,a3.2.2.2];rfl
 have hin:∀ k (hk:k<12),(w.setCells g (i*12) [.bool s1,.int .u64 x1,.int .u64 y1,.pointer p1,.bool s2,.int .u64 x2,.int .u64 y2,.pointer p2,.bool s3,.int .u64 x3,.int .u64 y3,.pointer p3]).cell? ⟨g,i*12+k,none⟩=some ([Value.bool s1,.int .u64 x1,.int .u64 y1,.pointer p1,.bool s2,.int .u64 x2,.int .u64 y2,.pointer p2,.bool s3,.int .u64 x3,.int .u64 y3,.pointer p3][k]'hk):=fun k hk =>
  World.cell?_setCells_in g [.bool s1,.int .u64 x1,.int .u64 y1,.pointer p1,.bool s2,.int .u64 x2,.int .u64 y2,.pointer p2,.bool s3,.int .u64 x3,.int .u64 y3,.pointer p3] (i*12) w (fun j hj=>some12 j hj) k hk
 have hout:∀ o,o<i*12∨i*12+12≤o→(w.setCells g (i*12) [.bool s1,.int .u64 x1,.int .u64 y1,.pointer p1,.bool s2,.int .u64 x2,.int .u64 y2,.pointer p2,.bool s3,.int .u64 x3,.int .u64 y3,.pointer p3]).cell? ⟨g,o,none⟩=w.cell? ⟨g,o,none⟩:=fun o ho=>World.cell?_setCells_out g _ (i*12) w _ (fun _ _=>by simp;omega)
 have keep:∀ o s x y p,o+4≤i*12∨i*12+12≤o→P4o w g o s x y p→P4o (w.setCells g (i*12) [.bool s1,.int .u64 x1,.int .u64 y1,.pointer p1,.bool s2,.int .u64 x2,.int .u64 y2,.pointer p2,.bool s3,.int .u64 x3,.int .u64 y3,.pointer p3]) g o s x y p:=fun o s x y p ho hp=>⟨(hout o (by omega)).trans hp.1,(hout (o+1) (by omega)).trans hp.2.1,(hout (o+2) (by omega)).trans hp.2.2.1,(hout (o+3) (by omega)).trans hp.2.2.2⟩
 have hfr:∀ {v f},FracAt w v f→FracAt (w.setCells g (i*12) [.bool s1,.int .u64 x1,.int .u64 y1,.pointer p1,.bool s2,.int .u64 x2,.int .u64 y2,.pointer p2,.bool s3,.int .u64 x3,.int .u64 y3,.pointer p3]) v f:=fun hf=>hf.over hc hb
 refine ⟨fun j h1 h2=>?_,fun j hj=>?_,fun o=>by rw [World.frozen?_setCells];exact h.loose o⟩
 ·obtain ⟨b1,b2,b3⟩:=h.blank j (by omega) h2
  exact ⟨keep _ _ _ _ _ (by omega) b1,keep _ _ _ _ _ (by omega) b2,keep _ _ _ _ _ (by omega) b3⟩
 ·by_cases e:j=i
  ·subst e
   exact ⟨⟨s1,x1,y1,p1,⟨hin 0 (by omega),hin 1 (by omega),hin 2 (by omega),hin 3 (by omega)⟩,hfr h1⟩,⟨s2,x2,y2,p2,⟨hin 4 (by omega),hin 5 (by omega),hin 6 (by omega),hin 7 (by omega)⟩,hfr h2⟩,⟨s3,x3,y3,p3,⟨hin 8 (by omega),hin 9 (by omega),hin 10 (by omega),hin 11 (by omega)⟩,hfr h3⟩⟩
  ·obtain ⟨⟨t1,u1,v1,q1,b1,f1⟩,⟨t2,u2,v2,q2,b2,f2⟩,⟨t3,u3,v3,q3,b3,f3⟩⟩:=h.told j (by omega)
   exact ⟨⟨t1,u1,v1,q1,keep _ _ _ _ _ (by omega) b1,hfr f1⟩,⟨t2,u2,v2,q2,keep _ _ _ _ _ (by omega) b2,hfr f2⟩,⟨t3,u3,v3,q3,keep _ _ _ _ _ (by omega) b3,hfr f3⟩⟩
end Go.Proofs.YtollloafckcogaaGreatDoor
