/- A law cloned, as the Go text of package  -/
import Derived.RangeFuncNested
import Derived.RangeFuncBound
import Derived.RangeFuncCalls
import Derived.RangeFuncLeaves
import Derived.Shelf.Abstract
import Derived.Shelf.RegionOpen
import Derived.WalkKit
import Derived.OwnWalkIn
import Derived.TacticsInMore
import Derived.LoopNIn
import Derived.LoopIn
import Derived.Test.YtagmkkiagjmimaaGreatDoorProg
import Derived.Test.YtagmkkiagjmimaaGreatDoorXKXr
import Derived.Test.YtagmkkiagjmimaaGreatDoorXOC
namespace Go.Proofs.YtagmkkiagjmimaaGreatDoor
set_option linter.unusedVariables false
open Go.Proofs.Tryz
open Go.RowKit
set_option maxHeartbeats 16000000
set_option maxRecDepth 100000
theorem zli:∀ (vs:List Value),(∀ v ∈ vs,v.cells.size=4)→(eu vs).length=vs.length*4
 | [],_=>rfl
 | v::vs,h=>by
  have ih:=zli vs (fun u hu=>h u (by simp[hu]))
  have h0:=h v (by simp)
  unfold eu at *
  rw[List.flatMap_cons,List.length_append,ih,Array.length_toList,h0,List.length_cons]
  omega
theorem zpx (b off c n:Nat) (fs:List Rat) (w:World) (hv:av w (.slice (some ⟨b,off,none⟩) n c) fs) (hN:n=fs.length) (h0:0<n) (hl:n≤1000) :
   Calls prog 102 #[.slice (some ⟨b,off,none⟩) n c] w fun e w'=>∃ g c',e=.returned (.slice (some ⟨g,0,none⟩) n c')∧yw w' g n (fun k=>fs[k]?.getD 0)∧w.heap.size≤g∧g<w'.heap.size∧But [] w w':=by(
 have hnil:=fun W=>Lib.run_eql_slice_nil (P:=prog) W 47 27 (some ⟨b,off,none⟩) n c 0 0 underlying47
 obtain⟨S,X,Y,Q,hV⟩:∃ (S:Nat→Bool) (X Y:Nat→Int) (Q:Nat→Option Addr),∀ t,t<n→P4o w b (off+t*4) (S t) (X t) (Y t) (Q t)∧au w (.agg #[.bool (S t),.int .u64 (X t),.int .u64 (Y t),.pointer (Q t)]) (fs[t]?.getD 0):=by
  have h:∀ t,∃ q:Bool × Int × Int × Option Addr,t<n→P4o w b (off+t*4) q.1 q.2.1 q.2.2.1 q.2.2.2∧au w (.agg #[.bool q.1,.int .u64 q.2.1,.int .u64 q.2.2.1,.pointer q.2.2.2]) (fs[t]?.getD 0):=fun t=>by
   by_cases ht:t<n
   ·obtain⟨s,x,y,p,h1,h2⟩:=hv.get t ht
    exact⟨(s,x,y,p),fun _=>⟨h1,h2⟩⟩
   ·exact⟨(false,0,0,none),fun h=>absurd h ht⟩
  obtain⟨q,hq⟩:=Classical.axiomOfChoice h
  exact⟨fun t=>(q t).1,fun t=>(q t).2.1,fun t=>(q t).2.2.1,fun t=>(q t).2.2.2,hq⟩
 obtain⟨vs,hvs⟩:∃ vs:List Value,vs=(List.range n).map fun t=>.agg #[.bool (S t),.int .u64 (X t),.int .u64 (Y t),.pointer (Q t)]:=⟨_,rfl⟩
 have hv4:∀ v ∈ vs,v.cells.size=4:=fun v hv=>by
  rw[hvs] at hv
  obtain⟨t,-,rfl⟩:=List.mem_map.1 hv
  rfl
 have hvl:vs.length=n:=by rw[hvs];simp
 have hpl:=zli vs hv4
 rw[hvl] at hpl
 have hget:∀ t k,t<n→k<4→(eu vs)[4*t+k]? = (#[Value.bool (S t),.int .u64 (X t),.int .u64 (Y t),.pointer (Q t)]:Array Value)[k]?:=fun t k ht hk=>by
  rw[zgf vs hv4 t k (.agg #[.bool (S t),.int .u64 (X t),.int .u64 (Y t),.pointer (Q t)]) (by rw[hvs,List.getElem?_map,List.getElem?_range ht];rfl) hk]
  rfl
 obtain⟨i,hi,hz,hs,hbt⟩:=zio
 obtain⟨W0,hW0⟩:∃ W0,W0=w.alloc (.cells #[] 27):=⟨_,rfl⟩
 have hb0:But [] w W0:=by rw[hW0];exact (But.refl _ _).alloc _
 have hr:=fun ty=>run_append_grow (P:=prog) W0 47 ty 27 i (.agg #[.bool false,.int .u64 0,.int .u64 0,.pointer none]) underlying47 hi hz ⟨w.heap.size,0,none⟩ 0 0 [] (by simp) (by simp) ⟨b,off,none⟩ n c (eu vs) (by rw[hs,hpl]) (fun j v hj=>by
  have hjl:j<n*4:=by rw[← hpl];exact (List.getElem?_eq_some_iff.1 hj).1
  have hd:j=4*(j/4)+j%4:=by omega
  rw[hd,hget (j/4) (j%4) (by omega) (by omega)] at hj
  obtain⟨⟨p0,p1,p2,p3⟩,-⟩:=hV (j/4) (by omega)
  rw[addr_add]
  have:j%4=0∨j%4=1∨j%4=2∨j%4=3:=by omega
  have eo:∀ r,j%4=r→off+j=off+j/4*4+r:=fun r hr=>by omega
  rcases this with h | h | h | h
  ·rw[h] at hj;simp at hj;subst hj;rw[eo 0 h];exact hb0.ag p0 (by simp)
  ·rw[h] at hj;simp at hj;subst hj;rw[eo 1 h];exact hb0.ag p1 (by simp)
  ·rw[h] at hj;simp at hj;subst hj;rw[eo 2 h];exact hb0.ag p2 (by simp)
  ·rw[h] at hj;simp at hj;subst hj;rw[eo 3 h];exact hb0.ag p3 (by simp)) (by omega) (by omega) (growslice_fits (by omega) (by rw[hbt];omega))
 have hcg:=grownCap_ge W0 (0+n) 0 27
 rw[Nat.zero_add] at hr hcg
 generalize grownCap W0 n 0 27 = cg at hr hcg
 have hsz:W0.heap.size=w.heap.size+1:=by rw[hW0];simp
 rw[Array.empty_append] at hr
 rw[hW0] at hr
 have H:=af hr
 have HW0:=af hW0
 have HB0:=af hb0
 have HSZ:=af hsz
 have HV:=af hV
 have HG:=af hget
 have HPL:=af hpl
 clear hr hi hz hs hbt i hv hW0 hb0 hsz hV hget hpl hvs hv4 hvl hN
 go_enter func102,ntmps102
 go_wp2_with (at_builtin;refine zw rfl _ _ 47 47 rfl _ _ _ _ rfl rfl (ae H _) ?_)
 go_ret
 rw[← ae HW0]
 have es:w.heap.size+1=W0.heap.size:=(ae HSZ).symm
 have hbf:But [] W0 (W0.drew.alloc (.cells ((eu vs).toArray++Builtin.zeroCells (Value.agg #[.bool false,.int .u64 0,.int .u64 0,.pointer none]).cells (cg-n)) 27)):=((But.refl _ _).drew).alloc _
 refine⟨w.heap.size+1,cg,rfl,⟨fun t ht=>?_,fun o=>?_⟩,by omega,?_,(ae HB0).trans' hbf⟩
 ·(
 obtain⟨-,hfr⟩:=ae HV t ht
 have hcell:∀ k,k<4→(W0.drew.alloc (.cells ((eu vs).toArray++Builtin.zeroCells (Value.agg #[.bool false,.int .u64 0,.int .u64 0,.pointer none]).cells (cg-n)) 27)).cell? ⟨w.heap.size+1,t*4+k,none⟩=(#[Value.bool (S t),.int .u64 (X t),.int .u64 (Y t),.pointer (Q t)]:Array Value)[k]?:=fun k hk=>by
  have e2:w.heap.size+1=W0.drew.heap.size:=es
  rw[e2,World.cell?_alloc_new,Array.getElem?_append_left (by have:=ae HPL;simp;omega),List.getElem?_toArray,show t*4+k=4*t+k from by omega]
  exact ae HG t k ht hk
 exact⟨S t,X t,Y t,Q t,⟨hcell 0 (by omega),hcell 1 (by omega),hcell 2 (by omega),hcell 3 (by omega)⟩,(hfr.but (ae HB0)).but hbf⟩)
 ·rw[es]
  have e2:W0.heap.size=W0.drew.heap.size:=rfl
  rw[e2]
  simp
 ·rw[es];simp)
theorem yw.beside {w w':World} {g n:Nat} {F:Nat→Rat} {l:List Nat} (h:yw w g n F) (hb:But l w w') (hg:g<w.heap.size) (hn:g ∉ l) (hc:∀ g ∈ l,∃ s,w.cell? ⟨g,0,none⟩=some (.bool s)):yw w' g n F :=
 ⟨fun j hj=>(h.told j hj).beside hb hn hc,fun o=>(hb.frozen (p:=⟨g,o,none⟩) hg hn).trans (h.loose o)⟩
def zve (F L:Nat→Rat) (c:Rat) (e0 k:Nat) (j:Nat):Rat:=if e0≤j∧j<e0+k then tkP L c (j-e0) else F j
def zsg (L:Nat→Rat) (c:Rat) (k j:Nat):Rat:=if j<k then L j-tkP L c j else L j
theorem znp {f g:Rat} {n:Nat} (h1:Len f n) (h2:Len g n):Len (xu f g) n:=by
 unfold xu
 split <;> assumption
theorem zvc (ga gl N m cl e0:Nat) (F L:Nat→Rat) (c:Rat) (vc:Value) (w:World) (hA:yw w ga N F) (hL:yw w gl m L) (hc:au w vc c) (hal:ga<w.heap.size) (hll:gl<w.heap.size) (hne:ga≠gl) (he:e0+m≤N) (hN:N<1000000) (hm0:0<m)
   (lL:∀ k,k<m→Len (L k) 10000) (lC:∀ k,k≤m→Len (tkC L c k) 10000) :
   Calls prog 103 #[.slice (some ⟨ga,e0*4,none⟩) m m,.slice (some ⟨gl,0,none⟩) m cl,vc] w fun e w'=>(∃ v,e=.returned v)∧yw w' ga N (zve F L c e0 m)∧yw w' gl m (zsg L c m)∧But [ga,gl] w w':=by(
 obtain⟨x1,y1,p1,rfl,-⟩:=hc.agg
 generalize hsf:decide (c.num<0)=s1 at *
 clear hsf
 have bA:But [] w (w.alloc (.cells #[.bool s1,.int .u64 x1,.int .u64 y1,.pointer p1] 27)):=(But.refl _ _).alloc _
 have X5:=af (bh.new w s1 x1 y1 p1 c 27 hc)
 have BA:Hid (But [ga,gl] w (w.alloc (.cells #[.bool s1,.int .u64 x1,.int .u64 y1,.pointer p1] 27))):=But.of_nil bA
 have RA:=af (hA.but bA hal)
 have RL:=af (hL.but bA hll)
 have LL:=af lL
 have LC:=af lC
 have hgs:w.heap.size<(w.alloc (.cells #[.bool s1,.int .u64 x1,.int .u64 y1,.pointer p1] 27)).heap.size:=by simp
 clear hA hL hc bA lL lC
 go_enter func103,ntmps103
 go_wp2
 have OW:Hid (w.heap.size≤w.heap.size):=Nat.le_refl _
 generalize hg5:w.heap.size=g5 at *
 generalize w.alloc (.cells #[.bool s1,.int .u64 x1,.int .u64 y1,.pointer p1] 27)=U at *
 go_loopw [10] (fun iv wr=>∃ k:Nat,k≤m∧iv=.int .i64 (k:Int)∧Hid (yw wr ga N (zve F L c e0 k)∧yw wr gl m (zsg L c k)∧bh wr g5 (tkC L c k)∧g5<wr.heap.size∧But [ga,gl] w wr)) (fun iv _=>m-(intOf iv).toNat)
 case atStart =>(
 refine⟨0,Nat.zero_le _,rfl,(ae RA).congr (fun j _=>?_),(ae RL).congr (fun j _=>?_),ae X5,hgs,ae BA⟩
 ·unfold zve;rw[if_neg (by omega)]
 ·unfold zsg;rw[if_neg (by omega)])
 case round =>(
 obtain⟨k,hk,rfl,HI⟩:=hrel
 rename World=>wr
 clear RA RL X5 BA hgs
 by_cases hlt:k<m
 ·(
 go_wp2
 obtain⟨hrA,hrL,hb5,hgl5,hbw⟩:=ae HI
 obtain⟨⟨t5,a5,b5,q5,k5,f5⟩,z5⟩:=id hb5
 obtain⟨sr,xr,yr,pr,kr,fr⟩:=hrL.told k hlt
 have eL:zsg L c k k=L k:=by unfold zsg;rw[if_neg (by omega)]
 rw[eL] at fr
 have lt1:=ae LC k (by omega)
 have lt2:=ae LL k hlt
 refine zln 4 _ _ wr gl 0 m cl k wr.heap.size t5 a5 b5 q5 sr xr yr pr (tkP L c k) (by simp) g5 (Nat.le_refl _) (by simp[Act.eval]) (by simp[Act.eval]) (by simp[Act.eval]) hlt (by omega) k5 (by rw[Nat.zero_add];exact kr) (fun w' hb=>(zyz _ _ _ _ w' (f5.but hb) (fr.but hb) (lt1.mono (by omega)) (lt2.mono (by omega))).mono (fun e w'' ⟨s,x,y,p,h1,h2,h3⟩=>⟨_,h1,h2,h3⟩)) ?_
 intro w1 g7 s7 x7 y7 p7 hb1 hg7 hP7 hz7 hf7
 simp only[bk,List.foldl_cons,List.foldl_nil,Act.put,List.setIfInBounds_toArray,List.set_cons_zero,List.set_cons_succ]
 have hP:=ay w1 g7 s7 x7 y7 p7
 have hcs:∀ g ∈ [g7],∃ s,w1.cell? ⟨g,0,none⟩=some (.bool s):=fun g hg=>by simp at hg;subst hg;exact⟨_,hP7.1⟩
 have al:ga<wr.heap.size:=by have:=hbw.size;omega
 have ll:gl<wr.heap.size:=by have:=hbw.size;omega
 have A1:=af ((hrA.but hb1 al).beside hP (Nat.lt_of_lt_of_le al hb1.size) (by simp;omega) hcs)
 have L1:=af ((hrL.but hb1 ll).beside hP (Nat.lt_of_lt_of_le ll hb1.size) (by simp;omega) hcs)
 have Y5:=af ((hb5.but hb1).beside hP (by simp;omega) hcs)
 have X7:Hid (bh (mh w1 g7 s7 x7 y7 p7) g7 (tkP L c k)):=bh.put (f:=0) ⟨⟨false,0,0,none,hP7,zav _⟩,hz7⟩ hf7
 have M7:=af (zgz w1 g7 s7 x7 y7 p7 hP7)
 have F7:=af (hf7.over hP7.1 hP)
 have BW:=af ((hbw.trans (But.of_nil (l:=[ga,gl]) hb1) (fun x hx=>.inl hx)).trans hP (fun x hx=>by simp at hx;subst hx;exact .inr (by have:=hbw.size;omega)))
 have o7:wr.heap.size≤g7:=hg7
 have S7:g5<(mh w1 g7 s7 x7 y7 p7).heap.size:=Nat.lt_of_lt_of_le (Nat.lt_of_lt_of_le hgl5 hb1.size) hP.size
 generalize mh w1 g7 s7 x7 y7 p7=V1 at *
 clear hrA hrL hb5 hbw k5 f5 z5 kr fr hb1 hg7 hP7 hz7 hf7 hP hcs HI
 obtain⟨m0,m1,m2,m3⟩:=ae M7
 obtain⟨sa,xa,ya,pa,⟨n0,n1,n2,n3⟩,-⟩:=(ae A1).told (e0+k) (by omega)
 have fzA:∀ o,V1.frozen? ⟨ga,o,none⟩=false:=(ae A1).loose
 have eo:(e0+k)*4=e0*4+k*4:=by omega
 rw[eo] at n0 n1 n2 n3
 go_wp2
 have hb2:=br V1 ga [.bool s7,.int .u64 x7,.int .u64 y7,.pointer p7] (e0*4+k*4)
 have a2:=(ae A1).set (i:=e0+k) (by omega) s7 x7 y7 p7 _ (ae F7)
 rw[eo] at a2
 have alV:ga<V1.heap.size:=ai n0
 have cgA:∀ g ∈ [ga],∃ s,V1.cell? ⟨g,0,none⟩=some (.bool s):=fun g hg=>by simp at hg;subst hg;exact (ae A1).bool (by omega)
 have llV:gl<V1.heap.size:=by
  obtain⟨s,hs⟩:=(ae L1).bool hm0
  exact ai hs
 have l2:=(ae L1).beside hb2 llV (by simp;omega) cgA
 have y52:=(ae Y5).beside hb2 (by simp;omega) cgA
 have x72:=(ae X7).beside hb2 (by simp;omega) cgA
 have bw2:=(ae BW).trans hb2 (fun x hx=>by simp at hx;subst hx;exact .inl (by simp))
 change Code.wp _ _ _ _ (V1.setCells ga (e0*4+k*4) [.bool s7,.int .u64 x7,.int .u64 y7,.pointer p7])
 have A2:=af a2
 have L2:=af l2
 have Y52:=af y52
 have X72:=af x72
 have BW2:=af bw2
 have S72:g5<(V1.setCells ga (e0*4+k*4) [.bool s7,.int .u64 x7,.int .u64 y7,.pointer p7]).heap.size:=Nat.lt_of_lt_of_le S7 hb2.size
 clear a2 l2 y52 x72 bw2 hb2 cgA llV alV m0 m1 m2 m3 n0 n1 n2 n3 fzA A1 L1 Y5 X7 M7 F7 BW S7
 generalize V1.setCells ga (e0*4+k*4) [.bool s7,.int .u64 x7,.int .u64 y7,.pointer p7]=V2 at *
 obtain⟨sr,xr,yr,pr,kr,fr⟩:=(ae L2).told k hlt
 rw[eL] at fr
 obtain⟨⟨t7,a7,b7,q7,k7,f7⟩,-⟩:=ae X72
 refine zlm 6 _ _ V2 gl (k*4) 0 m cl k sr xr yr pr t7 a7 b7 q7 (L k) (tkP L c k) g7 (by simp) kr (ae L2).loose (by simp[Act.eval]) (by simp[Act.eval]) (by simp[Act.eval]) (by omega) hlt (by omega) kr k7 (fun w' hb=>o5 _ _ _ _ w' (fr.but hb) (f7.but hb) (lt2.mono (by omega)) ((znp lt1 lt2).mono (by omega))) ?_
 intro w3 s3 x3 y3 p3 hb3 hf3
 simp only[bk,List.foldl_cons,List.foldl_nil,Act.put,List.setIfInBounds_toArray,List.set_cons_zero,List.set_cons_succ]
 have alV:ga<V2.heap.size:=by
  obtain⟨s,hs⟩:=(ae A2).bool (by omega)
  exact ai hs
 have llV:gl<V2.heap.size:=ai kr.1
 have hrl3:=(ae L2).but hb3 llV
 have hb4:=br w3 gl [.bool s3,.int .u64 x3,.int .u64 y3,.pointer p3] (k*4)
 have cgL:∀ g ∈ [gl],∃ s,w3.cell? ⟨g,0,none⟩=some (.bool s):=fun g hg=>by simp at hg;subst hg;exact hrl3.bool hm0
 have L4:=af (hrl3.set hlt s3 x3 y3 p3 _ hf3)
 have A4:=af (((ae A2).but hb3 alV).beside hb4 (Nat.lt_of_lt_of_le alV hb3.size) (by simp;omega) cgL)
 have Y54:=af (((ae Y52).but hb3).beside hb4 (by simp;omega) cgL)
 have X74:=af (((ae X72).but hb3).beside hb4 (by simp;omega) cgL)
 have BW4:=af (((ae BW2).trans (But.of_nil (l:=[ga,gl]) hb3) (fun x hx=>.inl hx)).trans hb4 (fun x hx=>by simp at hx;subst hx;exact .inl (by simp)))
 have S74:g5<(w3.setCells gl (k*4) [.bool s3,.int .u64 x3,.int .u64 y3,.pointer p3]).heap.size:=Nat.lt_of_lt_of_le (Nat.lt_of_lt_of_le S72 hb3.size) hb4.size
 clear kr fr k7 f7 hb3 hf3 hrl3 hb4 cgL alV llV A2 L2 Y52 X72 BW2 S72
 generalize w3.setCells gl (k*4) [.bool s3,.int .u64 x3,.int .u64 y3,.pointer p3]=V4 at *
 obtain⟨⟨t5,a5,b5,q5,⟨k0,k1,k2,k3⟩,f5⟩,z5⟩:=ae Y54
 obtain⟨⟨t7,a7,b7,q7,⟨l0,l1,l2,l3⟩,f7⟩,-⟩:=ae X74
 have SU:=af (l6 (o5 _ _ _ _ V4 f5 f7 (lt1.mono (by omega)) ((znp lt1 lt2).mono (by omega))))
 clear f5 f7
 go_wp2_with fail
 refine (ae SU).mono ?_
 rintro e w5 ⟨s5,x5,y5,p5,rfl,hf5,hb5⟩
 have Y56:=af ((ae Y54).but hb5)
 have HF5:=af hf5
 have z5':∀ i,w5.frozen? ⟨g5,i,none⟩=false:=(ae Y56).2
 have alV:ga<V4.heap.size:=by
  obtain⟨s,hs⟩:=(ae A4).bool (by omega)
  exact ai hs
 have llV:gl<V4.heap.size:=by
  obtain⟨s,hs⟩:=(ae L4).bool hm0
  exact ai hs
 have A6:=af ((ae A4).but hb5 alV)
 have L6:=af ((ae L4).but hb5 llV)
 have BW6:=af ((ae BW4).trans (But.of_nil (l:=[ga,gl]) hb5) (fun x hx=>.inl hx))
 have gl5:g5<w5.heap.size:=Nat.lt_of_lt_of_le S74 hb5.size
 have alW:ga<w5.heap.size:=Nat.lt_of_lt_of_le alV hb5.size
 have llW:gl<w5.heap.size:=Nat.lt_of_lt_of_le llV hb5.size
 clear hb5 hf5 SU k0 k1 k2 k3 l0 l1 l2 l3 z5 A4 L4 Y54 X74 BW4 S74 alV llV
 obtain⟨⟨t9,a9,b9,q9,⟨k0,k1,k2,k3⟩,-⟩,-⟩:=ae Y56
 go_wp2
 have hP:=ay w5 g5 s5 x5 y5 p5
 have hcs:∀ g ∈ [g5],∃ s,w5.cell? ⟨g,0,none⟩=some (.bool s):=fun g hg=>by simp at hg;subst hg;exact (ae Y56).bool
 refine⟨⟨k+1,by omega,by go_num,((ae A6).beside hP alW (by simp;omega) hcs).congr (fun j hj=>?_),((ae L6).beside hP llW (by simp;omega) hcs).congr (fun j hj=>?_),(ae Y56).put (ae HF5),Nat.lt_of_lt_of_le gl5 hP.size,(ae BW6).trans hP (fun x hx=>by simp at hx;subst hx;exact .inr (by omega))⟩,by simp[intOf];omega⟩
 ·(
 unfold qdt zve
 by_cases e:j=e0+k
 ·rw[if_pos e,if_pos (by omega),e,Nat.add_sub_cancel_left]
 ·rw[if_neg e]
  by_cases h:e0≤j∧j<e0+k
  ·rw[if_pos h,if_pos (by omega)]
  ·rw[if_neg h,if_neg (by omega)])
 ·(
 unfold qdt zsg
 by_cases e:j=k
 ·rw[if_pos e,if_pos (by omega),e]
 ·rw[if_neg e]
  by_cases h:j<k
  ·rw[if_pos h,if_pos (by omega)]
  ·rw[if_neg h,if_neg (by omega)]))
 ·obtain rfl:k=m:=by omega
  go_wp2
  go_end0
  exact⟨⟨_,rfl⟩,(ae HI).1,(ae HI).2.1,(ae HI).2.2.2.2⟩))
theorem zrb (a:Act) (w:World) (d t1 t2:Nat) (u:TypeId) (ps:String) (ed:Array Edge) (gd:Option (Nat × Bool)) (b off n c k:Nat) (hk:k<n) (_hn:n<1000000) (h1:a.eval (.tmp t1)=.slice (some ⟨b,off,none⟩) n c) (h2:a.eval (.tmp t2)=.int .i64 (k:Int)) :
   (execOp a.eval { dst:=some d,op:=Op.indexAddr 63 (.tmp t1) (.tmp t2),type:=u,pos:=ps,after:=ed,guard:=gd }).run prog w=.ok (.value (.pointer (some ⟨b,off+k,none⟩))) w:=by(
 unfold execOp
 simp only[h1,h2]
 go_simp)
theorem zuf (a:Act) (w:World) (d t:Nat) (u:TypeId) (ps:String) (ed:Array Edge) (gd:Option (Nat × Bool)) (b o:Nat) (q:Option Addr) (m c:Nat) (h1:a.eval (.tmp t)=.pointer (some ⟨b,o,none⟩)) (hc:w.cell? ⟨b,o,none⟩=some (.slice q m c)) :
   (execOp a.eval { dst:=some d,op:=Op.load 46 (.tmp t),type:=u,pos:=ps,after:=ed,guard:=gd }).run prog w=.ok (.value (.slice q m c)) w:=by(
 unfold execOp
 simp only[h1]
 go_simp)
theorem zra (a:Act) (w:World) (d t1 t2 t3:Nat) (u:TypeId) (ps:String) (ed:Array Edge) (gd:Option (Nat × Bool)) (x1 x2 x3:Value) (h1:a.eval (.tmp t1)=x1) (h2:a.eval (.tmp t2)=x2) (h3:a.eval (.tmp t3)=x3) :
   (execOp a.eval { dst:=some d,op:=Op.call { callee:=Callee.value (Operand.func 103),args:=#[Operand.tmp t1,Operand.tmp t2,Operand.tmp t3],argTypes:=#[46,46,27] },type:=u,pos:=ps,after:=ed,guard:=gd }).run prog w=.ok (.enter 103 #[x1,x2,x3]) w:=by(
 unfold execOp
 go_simp
 rw[← h1,← h2,← h3]
 simp[Act.eval])
def qfu:Oper:=⟨some 49,.move (.tmp 9),63, "beside.go:26",#[],none⟩
def qft:Oper:=⟨some 50,.move (.tmp 11),3, "beside.go:26",#[],none⟩
def qfs:Oper:=⟨some 51,.indexAddr 63 (.tmp 49) (.tmp 50),0, "beside.go:26",#[⟨0,.data⟩,⟨1,.data⟩],none⟩
def qfr:Oper:=⟨some 52,.load 46 (.tmp 51),46, "beside.go:26",#[⟨2,.data⟩],none⟩
def qfq:Oper:=⟨some 53,.move (.tmp 10),47, "beside.go:26",#[],none⟩
def qfp:Oper:=⟨some 54,.load 27 (.tmp 12),27, "beside.go:26",#[],none⟩
def qfo:Oper:=⟨some 55,.call { callee:=.value (.func 103),args:=#[.tmp 52,.tmp 53,.tmp 54],argTypes:=#[46,46,27] },0, "beside.go:26",#[⟨3,.data⟩,⟨4,.data⟩,⟨5,.data⟩],none⟩
def zbn:Array Oper:=#[qfu,qft,qfs,qfr,qfq,qfp,qfo]
def zhe (i:Nat):Nat:=match i with
 | 0=>49
 | 1=>50
 | 2=>51
 | 3=>52
 | 4=>53
 | _=>54
def zrx (go N ka:Nat) (q:Option Addr) (m c:Nat) (q2:Option Addr) (m2 c2:Nat) (s1:Bool) (x1 y1:Int) (p1:Option Addr) (i:Nat) (_w:World) (v:Value):Prop:=match i with
 | 0=>v=.slice (some ⟨go,0,none⟩) N N
 | 1=>v=.int .i64 (ka:Int)
 | 2=>v=.pointer (some ⟨go,0+ka,none⟩)
 | 3=>v=.slice q m c
 | 4=>v=.slice q2 m2 c2
 | _=>v=.agg #[.bool s1,.int .u64 x1,.int .u64 y1,.pointer p1]
theorem zyg {go N ka:Nat} {q:Option Addr} {m c:Nat} {q2:Option Addr} {m2 c2:Nat} {s1:Bool} {x1 y1:Int} {p1:Option Addr} {i:Nat} {w w':World} {v:Value} (h:zrx go N ka q m c q2 m2 c2 s1 x1 y1 p1 i w v) (hi:i<6) (_hb:But [] w w'):zrx go N ka q m c q2 m2 c2 s1 x1 y1 p1 i w' v:=by(
 have:i=0∨i=1∨i=2∨i=3∨i=4∨i=5:=by omega
 rcases this with rfl|rfl|rfl|rfl|rfl|rfl
 all_goals exact h)
theorem zyf:∀ i j,i<6→j<6→zhe i=zhe j→i=j:=fun i j hi hj=>(by decide:∀ i,i<6→∀ j,j<6→zhe i=zhe j→i=j) i hi j hj
theorem znc (id:Nat) (Q:Exit→Act→World→Prop) (base:Act) (W0:World) (go N ka:Nat) (q:Option Addr) (m c:Nat) (q2:Option Addr) (m2 c2:Nat) (s1:Bool) (x1 y1:Int) (p1:Option Addr) (g12:Nat) (R:World→World→Prop) (hs:55<base.tmps.size) (e9:base.eval (.tmp 9)=.slice (some ⟨go,0,none⟩) N N) (e11:base.eval (.tmp 11)=.int .i64 (ka:Int)) (e10:base.eval (.tmp 10)=.slice q2 m2 c2) (e12:base.eval (.tmp 12)=.pointer (some ⟨g12,0,none⟩))
   (hka:ka<N) (hN2:N<1000000) (cr:W0.cell? ⟨go,0+ka,none⟩=some (.slice q m c)) (c1:P4 W0 g12 s1 x1 y1 p1)
   (TL:∀ w,But [] W0 w→Calls prog 103 #[.slice q m c,.slice q2 m2 c2,.agg #[.bool s1,.int .u64 x1,.int .u64 y1,.pointer p1]] w fun e w'=>∃ v,e=.returned v∧R w w')
   (hQ:∀ w1 v w2,But [] W0 w1→R w1 w2→Q .normal (bk base ([(49,.slice (some ⟨go,0,none⟩) N N),(50,.int .i64 (ka:Int)),(51,.pointer (some ⟨go,0+ka,none⟩)),(52,.slice q m c),(53,.slice q2 m2 c2),(54,.agg #[.bool s1,.int .u64 x1,.int .u64 y1,.pointer p1])]++[(55,v)])) w2) :
   (Code.region id zbn true).wp prog Q base W0:=by(
 have hdr:∀ {w},But [] W0.drew w→But [] W0 w:=fun h=>(But.refl _ _).drew.trans' h
 have hT:∀ i,i<6→zhe i<base.tmps.size:=fun i hi=>by
  have h:zhe i≤54:=by revert i;decide
  omega
 refine zov (by kernel_rfl) (zcu (by kernel_rfl)) (fun i o ho=>(zkh (ops:=zbn) (by kernel_rfl) i o ho).1)
  (fun _ w=>But [] W0.drew w) (zrx go N ka q m c q2 m2 c2 s1 x1 y1 p1) zhe 6 rfl zyf hT (But.refl _ _)
  (fun d hs hl=>?_) ?_ (fun a w=>∃ w1 v,a=bk base ([(49,.slice (some ⟨go,0,none⟩) N N),(50,.int .i64 (ka:Int)),(51,.pointer (some ⟨go,0+ka,none⟩)),(52,.slice q m c),(53,.slice q2 m2 c2),(54,.agg #[.bool s1,.int .u64 x1,.int .u64 y1,.pointer p1])]++[(55,v)])∧But [] W0 w1∧R w1 w) ?_ ?_
 ·(
 obtain⟨o6,ho6,ed3,he3,hb3,h3⟩:=zcw (ops:=zbn) (ps:=[(6,3),(6,4),(6,5)]) (by kernel_rfl) 6 3 (by simp)
 obtain⟨o6',ho6',ed4,he4,hb4,h4⟩:=zcw (ops:=zbn) (ps:=[(6,3),(6,4),(6,5)]) (by kernel_rfl) 6 4 (by simp)
 obtain⟨o6'',ho6'',ed5,he5,hb5,h5⟩:=zcw (ops:=zbn) (ps:=[(6,3),(6,4),(6,5)]) (by kernel_rfl) 6 5 (by simp)
 have d3:d 3=true:=by rw[← h3];exact hl o6 ho6 ed3 he3 hb3
 have d4:d 4=true:=by rw[← h4];exact hl o6' ho6' ed4 he4 hb4
 have d5:d 5=true:=by rw[← h5];exact hl o6'' ho6'' ed5 he5 hb5
 have d2:=zoq (ops:=zbn) (ps:=[(3,2)]) (by kernel_rfl) hs 3 2 (by simp) d3
 have d1:=zoq (ops:=zbn) (ps:=[(2,1)]) (by kernel_rfl) hs 2 1 (by simp) d2
 have d0:=zoq (ops:=zbn) (ps:=[(2,0)]) (by kernel_rfl) hs 2 0 (by simp) d2
 intro i hi
 have:i=0∨i=1∨i=2∨i=3∨i=4∨i=5:=by omega
 rcases this with rfl|rfl|rfl|rfl|rfl|rfl <;> assumption)
 ·(
 intro dn i o a w K hi ho hdi hH he hdep hK
 have hD:=fun j hj=>(zex (ps:=[(2,0),(2,1),(3,2)]) (by kernel_rfl) ho (fun j=>dn j=true∧zrx go N ka q m c q2 m2 c2 s1 x1 y1 p1 j w (a.eval (.tmp (zhe j)))) hdep j hj).2
 have hk:∀ v w',But [] w w'→zrx go N ka q m c q2 m2 c2 s1 x1 y1 p1 i w' v→K (a.put (some (zhe i)) v) w':=fun v w' hb hv=>hK v w' (hH.trans' hb) (fun j hj _ u hu=>zyg hu hj hb) hv
 have e9':=(he 9 (fun j hj e=>absurd e.symm (by revert j;decide))).trans e9
 have e11':=(he 11 (fun j hj e=>absurd e.symm (by revert j;decide))).trans e11
 have e10':=(he 10 (fun j hj e=>absurd e.symm (by revert j;decide))).trans e10
 have e12':=(he 12 (fun j hj e=>absurd e.symm (by revert j;decide))).trans e12
 have:i=0∨i=1∨i=2∨i=3∨i=4∨i=5:=by omega
 rcases this with rfl|rfl|rfl|rfl|rfl|rfl
 ·obtain rfl:=so (show zbn[0]? =some qfu from rfl) ho
  exact aq (bz a w _ _ _ _ _ _ _ e9') (hk _ _ (But.refl _ _) rfl)
 ·obtain rfl:=so (show zbn[1]? =some qft from rfl) ho
  exact aq (bz a w _ _ _ _ _ _ _ e11') (hk _ _ (But.refl _ _) rfl)
 ·obtain rfl:=so (show zbn[2]? =some qfs from rfl) ho
  exact aq (zrb a w _ _ _ _ _ _ _ go 0 N N ka hka hN2 (hD 0 (by simp)) (hD 1 (by simp))) (hk _ _ (But.refl _ _) rfl)
 ·obtain rfl:=so (show zbn[3]? =some qfr from rfl) ho
  exact aq (zuf a w _ _ _ _ _ _ go _ _ _ _ (hD 2 (by simp)) ((hdr hH).ag cr (by simp))) (hk _ _ (But.refl _ _) rfl)
 ·obtain rfl:=so (show zbn[4]? =some qfq from rfl) ho
  exact aq (bz a w _ _ _ _ _ _ _ e10') (hk _ _ (But.refl _ _) rfl)
 ·obtain rfl:=so (show zbn[5]? =some qfp from rfl) ho
  exact aq (ax a w _ _ _ _ _ _ g12 0 _ _ _ _ e12' (c1.but (hdr hH) (by simp))) (hk _ _ (But.refl _ _) rfl))
 ·(
 intro dn o a w K ho hall h hK
 obtain rfl:=so (show zbn[6]? =some qfo from rfl) ho
 have ea:=h.puts hT (fun i=>match i with
  | 0=>.slice (some ⟨go,0,none⟩) N N
  | 1=>.int .i64 (ka:Int)
  | 2=>.pointer (some ⟨go,0+ka,none⟩)
  | 3=>.slice q m c
  | 4=>.slice q2 m2 c2
  | _=>.agg #[.bool s1,.int .u64 x1,.int .u64 y1,.pointer p1]) (fun i hi=>by
  have hc:=h.has i hi (hall i hi)
  have:i=0∨i=1∨i=2∨i=3∨i=4∨i=5:=by omega
  rcases this with rfl|rfl|rfl|rfl|rfl|rfl
  all_goals exact hc)
 have v3:a.eval (.tmp 52)=.slice q m c:=h.has 3 (by omega) (hall 3 (by omega))
 have v4:a.eval (.tmp 53)=.slice q2 m2 c2:=h.has 4 (by omega) (hall 4 (by omega))
 have v5:a.eval (.tmp 54)=.agg #[.bool s1,.int .u64 x1,.int .u64 y1,.pointer p1]:=h.has 5 (by omega) (hall 5 (by omega))
 exact az (zra a w _ _ _ _ _ _ _ _ _ _ _ v3 v4 v5) (R:=fun w' _=>R w w') ((TL w (hdr h.mem)).mono fun e w' ⟨v,he,hr⟩=>⟨v,he,hr⟩) (fun v w' hv=>hK _ _ ⟨w,v,(congrArg (fun z:Act=>z.put (some 55) v) ea).trans (zrp _ _ _ _),hdr h.mem,hv⟩))
 ·rintro a w ⟨w1,v,rfl,h1,h2⟩
  exact hQ w1 v w h1 h2)
theorem qey (a b:Nat→Rat) (na nb:Nat) (la:∀ k,Len (a k) 1) (lb:∀ k,Len (b k) 1) (ha:∀ i,0≤a i) (hb:∀ k,0≤b k) (hna:na≤100) (hnb:nb≤100) (i:Nat) (hi:i<na):(∀ k,k<nb→Len (mi a b i k) 10000)∧∀ k,k≤nb→Len (tkC (mi a b i) (a i) k) 10000:=by(
 obtain⟨h1,h2⟩:=ztc a b na nb (fun j _=>ha j) (fun j _=>hb j) i (by omega)
 have lp:∀ k,k≤nb→Len (sgR (mi a b i) k) 1000:=fun k hk=>by
  rw[h2 k hk]
  have l1:=(zpj 1 b lb k).mono (show k*(1+1)+1≤300 by omega)
  have l2:=(zpj 1 a la i).mono (show i*(1+1)+1≤300 by omega)
  exact (zsh (zfm l1 l2 601 (by omega)) (by omega)).mono (by omega)
 refine⟨fun k hk=>?_,fun k hk=>?_⟩
 ·(
 have e:mi a b i k=sgR (mi a b i) (k+1)-sgR (mi a b i) k:=by
  have:sgR (mi a b i) (k+1)=sgR (mi a b i) k+mi a b i k:=rfl
  grind
 rw[e]
 exact zfm (lp (k+1) (by omega)) (lp k (by omega)) 10000 (by omega))
 ·rw[(zom (mi a b i) (a i) nb h1 (ha i) k hk).1]
  exact (zsh (zfm ((la i).mono (show 1≤1000 by omega)) (lp k hk) 2001 (by omega)) (by omega)).mono (by omega))
def zmx (a b:Nat→Rat) (m i j:Nat):Rat:=if j<i*m then qid a b (j/m) (j%m) else 0
theorem zyu (a b:Nat→Rat) (m i j:Nat) (hm:0<m):zve (zmx a b m i) (mi a b i) (a i) (i*m) m j=zmx a b m (i+1) j:=by(
 unfold zve zmx
 by_cases h:i*m≤j∧j<i*m+m
 ·(
 rw[if_pos h,if_pos (by rw[Nat.succ_mul];omega)]
 have h1:j/m=i:=by
  rw[Nat.div_eq_iff hm]
  constructor
  ·exact h.1
  ·omega
 have h2:j%m=j-i*m:=by
  have:=Nat.div_add_mod j m
  rw[h1,Nat.mul_comm] at this
  omega
 rw[h1,h2]
 rfl)
 ·rw[if_neg h]
  by_cases h2:j<i*m
  ·rw[if_pos h2,if_pos (by rw[Nat.succ_mul];omega)]
  ·rw[if_neg h2,if_neg (by rw[Nat.succ_mul];omega)])
theorem zob (ba oa ca n bb ob cb m:Nat) (fs gs:List Rat) (N:Nat) (w:World) (ha:av w (.slice (some ⟨ba,oa,none⟩) n ca) fs) (hb:av w (.slice (some ⟨bb,ob,none⟩) m cb) gs) (hn:n=fs.length) (hm:m=gs.length) (hn1:n≤40) (hm1:m≤40) (lf:∀ f ∈ fs,Len f 1) (lg:∀ f ∈ gs,Len f 1) (hN:N=max fs.length gs.length) (hbe:jq fs gs=0) :
   Calls prog 32 #[.slice (some ⟨ba,oa,none⟩) n ca,.slice (some ⟨bb,ob,none⟩) m cb] w fun e w'=>But [] w w' ∧
    ((¬ (∀ j,j<N→¬ 0<upS (qw fs gs) N j)∧e=.returned (.tuple #[.slice none 0 0,.iface 33 (.int .i64 8)]))∨((∀ j,j<N→¬ 0<upS (qw fs gs) N j)∧∃ go ga,e=.returned (.tuple #[.slice (some ⟨go,0,none⟩) n n,.nilIface])∧zmh w' go ga n m (zmx (atR fs) (atR gs) m n))):=by(
 have hca:ni fs=0:=by
  unfold jq at hbe
  by_cases h:ni fs=0
  ·exact h
  ·rw[if_pos h] at hbe;exact hbe
 have hcb:ni gs=0:=by
  unfold jq at hbe
  rw[if_neg (by rw[hca];simp)] at hbe
  exact hbe
 obtain⟨a0,a1,apos,aone⟩:=zhv hca
 obtain⟨b0,b1,bpos,bone⟩:=zhv hcb
 have AL:=af (zmd _ _ fs gs N w ha hb (by omega) (by omega) lf lg hN)
 rw[hbe] at AL
 have RN:=af (zrd n m (by omega) (by omega) (by omega))
 have CL:=af (fun W (h:But [] w W)=>zpx bb ob cb m gs W (hb.but h) hm (by omega) (by omega))
 have pA:∀ i,0≤atR fs i:=fun i=>by
  unfold atR
  by_cases h:i<fs.length
  ·exact zfl apos i h
  ·rw[List.getElem?_eq_none (by omega)];decide
 have pB:∀ i,0≤atR gs i:=fun i=>by
  unfold atR
  by_cases h:i<gs.length
  ·exact zfl bpos i h
  ·rw[List.getElem?_eq_none (by omega)];decide
 have LE:=af (qey (atR fs) (atR gs) n m (fun k=>zan lf (Nat.le_refl _) k) (fun k=>zan lg (Nat.le_refl _) k) pA pB (by omega) (by omega))
 have HA:=af ha
 have HN:=af hn
 have m0:0<m:=by omega
 have hnn:n<1000000:=by omega
 clear ha hb lf lg hbe hca hcb apos bpos aone bone pA pB hm hN a0 a1 b0 b1 hn
 go_enter func32,ntmps32
 go_wp2_with fail
 refine (ae AL).mono ?_
 rintro e w1 ⟨bl,f,rfl,hbl,hb1⟩
 have HBL:=af (hbl (by first|rfl | trivial))
 have B1:=af hb1
 clear hb1 hbl AL
 rw[show zfs 0=.nilIface from rfl]
 cases bl with
 | false =>
  go_wp2
  exact bodyPost_ret (v:=.tuple #[.slice none 0 0,.iface 33 (.int .i64 8)]) (by simp[results,results32,go_sem]) rfl ⟨ae B1,.inl ⟨fun h=>by have:=(ae HBL).2 h;simp at this,rfl⟩⟩
 | true =>
  go_wp2_with fail
  refine (ae RN _).mono ?_
  rintro e w2 ⟨go,ga,rfl,hmat,hga,hgo,hgos,hb2⟩
  have B2:=af ((ae B1).trans' hb2)
  have oga:w.heap.size≤ga:=by have:=(ae B1).size;omega
  have MT:=af hmat
  clear hb2 hmat RN
  go_wp2_with fail
  refine (ae CL _ (ae B2)).mono ?_
  rintro e w3 ⟨gl,cl,rfl,hrl,hgl,hgls,hb3⟩
  have B3:=af ((ae B2).trans' hb3)
  have gal:ga<w2.heap.size:=by omega
  have MT3:Hid (zmh w3 go ga n m (fun _=>0)):=⟨(ae MT).all.but hb3 gal,fun i hi=>hb3.ag ((ae MT).rows i hi) (by simp)⟩
  have RL3:=af hrl
  have S3:ga<w3.heap.size∧go<w3.heap.size∧gl<w3.heap.size:=by have:=hb3.size;omega
  have nal:ga≠gl∧go≠gl∧ga≠go:=by omega
  have ogl:w.heap.size≤gl:=by have:=(ae B2).size;omega
  clear hb3 hrl CL MT B1 B2
  go_wp2
  go_loopw [44] (fun iv wr=>∃ k:Nat,k≤n∧iv=.int .i64 (k:Int)∧Hid (zmh wr go ga n m (zmx (atR fs) (atR gs) m k)∧yw wr gl m (mi (atR fs) (atR gs) k)∧(ga<wr.heap.size∧go<wr.heap.size∧gl<wr.heap.size)∧But [] w wr)) (fun iv _=>n-(intOf iv).toNat)
  case atStart =>
   refine⟨0,Nat.zero_le _,rfl,⟨(ae MT3).all.congr (fun j _=>?_),(ae MT3).rows⟩,ae RL3,S3,ae B3⟩
   unfold zmx
   rw[if_neg (by omega)]
  case round =>
   obtain⟨k,hk,rfl,HI⟩:=hrel
   rename World=>wr
   clear MT3 RL3 S3 B3
   by_cases hlt:k<n
   ·obtain⟨hmt,hrl,hsz,hbw⟩:=ae HI
    obtain⟨sr,xr,yr,pr,⟨r0,r1,r2,r3⟩,hfr⟩:=((ae HA).but hbw).get k hlt
    have HFR:=af hfr
    have bA:But [] wr (wr.alloc (.cells #[.bool sr,.int .u64 xr,.int .u64 yr,.pointer pr] 27)):=(But.refl _ _).alloc _
    have k12:Hid (P4 (wr.alloc (.cells #[.bool sr,.int .u64 xr,.int .u64 yr,.pointer pr] 27)) wr.heap.size sr xr yr pr):=⟨by simp,by simp,by simp,by simp⟩
    have DM:Hid (zmh (wr.alloc (.cells #[.bool sr,.int .u64 xr,.int .u64 yr,.pointer pr] 27)) go ga n m (zmx (atR fs) (atR gs) m k)):=⟨hmt.all.but bA hsz.1,fun i hi=>bA.ag (hmt.rows i hi) (by simp)⟩
    have DR:=af (hrl.but bA hsz.2.2)
    have DF:=af (hfr.but bA)
    have DB:=af (hbw.trans' bA)
    have DS:ga<(wr.alloc (.cells #[.bool sr,.int .u64 xr,.int .u64 yr,.pointer pr] 27)).heap.size∧go<(wr.alloc (.cells #[.bool sr,.int .u64 xr,.int .u64 yr,.pointer pr] 27)).heap.size∧gl<(wr.alloc (.cells #[.bool sr,.int .u64 xr,.int .u64 yr,.pointer pr] 27)).heap.size:=by have:=bA.size;omega
    clear hmt hrl hbw hfr bA HI
    go_wp2
    generalize wr.heap.size=g12 at *
    generalize wr.alloc (.cells #[.bool sr,.int .u64 xr,.int .u64 yr,.pointer pr] 27)=U at *
    have hle:=ae LE k hlt
    have hkm:k*m+m≤n*m:=by
     have:=Nat.mul_le_mul_right m (show k+1≤n by omega)
     rw[Nat.succ_mul] at this
     exact this
    have hnm:n*m≤40*40:=Nat.mul_le_mul hn1 hm1
    refine znc 12 _ _ U go n k (some ⟨ga,k*m*4,none⟩) m m (some ⟨gl,0,none⟩) m cl sr xr yr pr g12 (fun W W'=>yw W' ga (n*m) (zve (zmx (atR fs) (atR gs) m k) (mi (atR fs) (atR gs) k) (atR fs k) (k*m) m)∧yw W' gl m (zsg (mi (atR fs) (atR gs) k) (atR fs k) m)∧But [ga,gl] W W') (by simp) (by simp[Act.eval]) (by simp[Act.eval]) (by simp[Act.eval]) (by simp[Act.eval]) hlt hnn (by rw[Nat.zero_add];exact (ae DM).rows k hlt) (ae k12) (fun W hb=>(zvc ga gl (n*m) m cl (k*m) _ _ (atR fs k) _ W ((ae DM).all.but hb DS.1) ((ae DR).but hb DS.2.2) ((ae DF).but hb) (Nat.lt_of_lt_of_le DS.1 hb.size) (Nat.lt_of_lt_of_le DS.2.2 hb.size) nal.1 hkm (by omega) m0 hle.1 hle.2).mono (fun e W' ⟨⟨v,hv⟩,h1,h2,h3⟩=>⟨v,hv,h1,h2,h3⟩)) ?_
    intro w4 v55 w5 hb4 ⟨hA5,hL5,hb5⟩
    simp only[bk,List.cons_append,List.nil_append,List.foldl_cons,List.foldl_nil,Act.put,List.setIfInBounds_toArray,List.set_cons_zero,List.set_cons_succ]
    have J1:Hid (zmh w5 go ga n m (zmx (atR fs) (atR gs) m (k+1))):=⟨hA5.congr (fun j _=>zyu _ _ m k j m0),fun i hi=>hb5.ag (hb4.ag ((ae DM).rows i hi) (by simp)) (by simp;omega)⟩
    have J2:Hid (yw w5 gl m (mi (atR fs) (atR gs) (k+1))):=hL5.congr (fun j hj=>by unfold zsg;rw[if_pos hj];rfl)
    have J3:ga<w5.heap.size∧go<w5.heap.size∧gl<w5.heap.size:=by have:=hb4.size;have:=hb5.size;omega
    have J4:=af (((ae DB).trans' hb4).trans hb5 (fun x hx=>by simp at hx;rcases hx with rfl|rfl <;> exact .inr (by omega)))
    clear hA5 hL5 hb5 hb4 DM DR DF DB DS k12 hle
    go_wp2
    exact⟨⟨k+1,by omega,by go_num,ae J1,ae J2,J3,ae J4⟩,by simp[intOf];omega⟩
   ·obtain rfl:k=n:=by omega
    go_wp2
    exact bodyPost_ret (v:=.tuple #[.slice (some ⟨go,0,none⟩) k k,.nilIface]) (by simp[results,results32,go_sem]) rfl ⟨(ae HI).2.2.2,.inr ⟨(ae HBL).1 (by first|rfl | trivial),go,ga,rfl,(ae HI).1⟩⟩)
theorem zvp (va vb:Value) (fs gs:List Rat) (N:Nat) (w:World) (ha:av w va fs) (hb:av w vb gs) (hn:fs.length≤1000) (hm:gs.length≤1000) (lf:∀ f ∈ fs,Len f 1) (lg:∀ f ∈ gs,Len f 1) (hN:N=max fs.length gs.length) (hbe:jq fs gs≠0) :
   Calls prog 32 #[va,vb] w fun e w'=>e=.returned (.tuple #[.slice none 0 0,.iface 33 (.int .i64 (jq fs gs))])∧But [] w w':=by(
 have AL:=af (zmd va vb fs gs N w ha hb hn hm lf lg hN)
 obtain⟨q,cap,rfl,-,-⟩:=id ha
 obtain⟨q',cap',rfl,-,-⟩:=id hb
 obtain⟨be,hb0⟩:∃ be,be=jq fs gs:=⟨_,rfl⟩
 rw[← hb0] at AL hbe ⊢
 have ev:zfs be=.iface 33 (.int .i64 be):=by unfold zfs;rw[if_neg hbe]
 rw[ev] at AL
 clear ha hb hb0 lf lg ev
 go_enter func32,ntmps32
 go_wp2_with fail
 refine (ae AL).mono ?_
 rintro e w1 ⟨bl,f,rfl,-,hb1⟩
 have B1:=af hb1
 clear hb1 AL
 go_wp2
 exact bodyPost_ret (v:=.tuple #[.slice none 0 0,.iface 33 (.int .i64 be)]) (by simp[results,results32,go_sem]) rfl ⟨rfl,ae B1⟩)
end Go.Proofs.YtagmkkiagjmimaaGreatDoor
