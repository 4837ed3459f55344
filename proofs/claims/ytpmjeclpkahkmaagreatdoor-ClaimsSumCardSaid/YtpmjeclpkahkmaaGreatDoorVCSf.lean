/- As many amounts together as a number tel -/
import Derived.Test.YtpmjeclpkahkmaaGreatDoorVCSa
namespace Go.Proofs.YtpmjeclpkahkmaaGreatDoor
open Go.Proofs.Tryz
open Go.RowKit
set_option maxHeartbeats 16000000
set_option maxRecDepth 100000
set_option linter.unusedVariables false
theorem zlj (va vb:Value) (ns ss:List Rat) (k q a c d e:Nat) (D E:Rat) (w:World) (ha:za w va ns) (na:ns.length≤300) (ma:k<ns.length) (ra:kg (lf ns) k) (oa:Over (lf ns) D a d) (hvb:za w vb ss) (nb:ss.length≤300) (mb:q<ss.length) (rb:kg (lf ss) q) (ob:Over (lf ss) E c e) (hkq:k*q≤250) (hl:a+d+k*(c+2*e+2)+c+e≤9000) :
  Calls prog 24 #[va,vb] w fun e w'=>∃ v',e=.returned v'∧za w' v' ((List.range (k*q+1)).map (hor (lf ns) (lf ss) k k))∧But [] w w':=by(
have lfs:∀ (xs:List Rat) i,i<xs.length→xs[i]? = some (lf xs i):=fun xs i hi=>by
 unfold lf
 rw[List.getElem?_eq_getElem hi];rfl
obtain⟨no,hno⟩:∃ f,f=lf ns:=⟨_,rfl⟩
obtain⟨s,hs⟩:∃ f,f=lf ss:=⟨_,rfl⟩
have T1:=af (fun W (hb:But [] w W)=>wu va ns (lf ns) k W (ha.but hb) (lfs ns) (by omega) (fun i _=>(oa.len i).mono (by omega)) ma (.inr (fun h=>by have:=ra.top;rw[Rat.num_eq_zero.1 h] at this;exact absurd this (by decide))) (fun j h _=>by rw[ra.far j h];rfl))
have tk1:∀ i,i<(ns.take (k+1)).length→(ns.take (k+1))[i]? = some (no i):=fun i hi=>by
 rw[List.length_take] at hi
 rw[List.getElem?_take,if_pos (by omega),hno]
 exact lfs ns i (by omega)
have k1:(ns.take (k+1)).length=k+1:=by rw[List.length_take];omega
have RC1:=af (fun W v (h:za W v (ns.take (k+1)))=>zck h tk1)
rw[k1] at RC1
have rh:∀ t,t≤k→kg (hor no s k t) (t*q):=fun t ht=>by rw[hno,hs];exact kg.horner ra rb t ht
have oh:∀ t,t≤k→Over (hor no s k t) (D*qy E t) (a+t*(c+e+2)) (d+t*e):=fun t ht=>by rw[hno,hs];exact Over.horner oa ob ra rb (by omega) t ht
have tq:∀ t,t≤k→t*q≤k*q:=fun t ht=>Nat.mul_le_mul_right q ht
have tl:∀ t,t≤k→a+t*(c+e+2)+(d+t*e)+c+e≤9000:=fun t ht=>by
 have h1:t*(c+2*e+2)≤k*(c+2*e+2):=Nat.mul_le_mul_right _ ht
 have h2:t*(c+2*e+2)=t*(c+e+2)+t*e:=by rw[← Nat.mul_add];congr 1;omega
 omega
have eL:∀ t,t≤k→lf ((List.range (t*q+1)).map (hor no s k t))=hor no s k t:=fun t ht=>zwr _ _ (rh t ht).far
have TG:=af (fun t (ht:t≤k) W u (hu:za W u ((List.range (t*q+1)).map (hor no s k t))) (hb:But [] w W)=>show Calls prog 21 #[u,vb] W fun e w'=>∃ v',e=.returned v'∧za w' v' ((List.range ((t+1)*q+1)).map (znr no s k (t+1)))∧But [] W w' by
 have hlen:((List.range (t*q+1)).map (hor no s k t)).length=t*q+1:=by simp
 have h:=o9 u vb _ ss (t*q) q (a+t*(c+e+2)) c (d+t*e) e (D*qy E t) E W hu (by rw[hlen];have:=tq t ht;omega) (by rw[eL t ht,hlen];exact (rh t ht).zkm (by omega)) (by rw[eL t ht];exact oh t ht) (hvb.but hb) nb (rb.zkm mb) ob (by have:=tl t ht;omega)
 rw[eL t ht,← hs,show t*q+q=(t+1)*q from (Nat.succ_mul t q).symm] at h
 exact h)
have TE:=af (fun W u (hu:za W u ((List.range (k*q+1)).map (hor no s k k)))=>wu u _ (hor no s k k) (k*q) W hu (fun i hi=>by
 have hi2:i<k*q+1:=by simpa using hi
 rw[List.getElem?_map,List.getElem?_range hi2,Option.map_some]) (by simp;omega) (fun i _=>((oh k (Nat.le_refl _)).len i).mono (by have:=tl k (Nat.le_refl _);omega)) (by simp) (.inr (fun h=>by have:=(rh k (Nat.le_refl _)).top;rw[Rat.num_eq_zero.1 h] at this;exact absurd this (by decide))) (fun j h _=>by rw[(rh k (Nat.le_refl _)).far j h];rfl))
have hTK:((List.range (k*q+1)).map (hor no s k k)).take (k*q+1)=(List.range (k*q+1)).map (hor no s k k):=List.take_of_length_le (by simp)
rw[hTK] at TE
have lG:∀ j,j≤k→jc (znr no s k j 0) 1000000:=fun j hj=>by
 cases j with
 | zero=>exact (jc.int (z:=0) (by decide)).mono (by omega)
 | succ t =>
  have h1:=(oh t (by omega)).prod ob (t*q+1) (by have:=tq t (by omega);omega) (fun i hi=>(rh t (by omega)).far i (by omega)) (q+1) (fun i hi=>rb.far i (by omega))
  have h2:=h1.len 0
  rw[← hs] at h2
  exact h2.mono (by have:=tl t (by omega);omega)
have AD:=af (fun j (hj:j≤k) W x y (h1:zo W x (znr no s k j 0)) (h2:zo W y (no (k-j)))=>show Calls prog 58 #[.pointer (some ⟨x,0,none⟩),.pointer (some ⟨y,0,none⟩)] W fun e w'=>∃ zb,e=.returned (.pointer (some ⟨zb,0,none⟩))∧zo w' zb (hor no s k j 0)∧But [] W w' by
 have e1:hor no s k j 0=znr no s k j 0+no (k-j):=by
  rw[qmc]
  have e2:un 0=1:=rfl
  rw[e2,Rat.mul_one]
 rw[e1]
 exact zrc x y _ _ W h1 h2 ((lG j hj).mono (by omega)) ((show jc (no (k-j)) 1000000 by rw[hno];exact (oa.len _).mono (by omega)).mono (by omega)))
have HN:Hid (∀ j i,i≠0→hor no s k j i=znr no s k j i):=fun j i hi=>by
 rw[qmc,kg.unit.far i (by omega),Rat.mul_zero,Rat.add_zero]
have TQ:Hid (∀ j,j≤k→j*q+1≤251):=fun j hj=>by have:=tq j hj;omega
have I0:=af (fun W=>zls 0 W (by omega) (by omega))
have hk300:k≤300:=by omega
rw[← hno,← hs]
clear hno hs tk1 k1 lfs ha hvb ra rb oa ob rh oh tq tl eL hTK lG na nb ma mb hl hkq
go_enter func24,ntmps24
go_wp2_with fail
refine (ae I0 _).mono ?_
rintro e w1 ⟨z0,rfl,h0,hb0⟩
obtain⟨V1,hV1⟩:∃ V,V=w1.alloc (.cells #[.pointer (some ⟨z0,0,none⟩)] 37):=⟨_,rfl⟩
obtain⟨g5,hg5⟩:∃ g,g=w1.heap.size:=⟨_,rfl⟩
have hbV:But [] w V1:=by rw[hV1];exact hb0.trans' ((But.refl _ _).alloc _)
have hO:za V1 (.slice (some ⟨g5,0,none⟩) 1 1) [((0:Int):Rat)]:=by
 rw[hV1,hg5]
 exact (zeh.one w1 (.pointer (some ⟨z0,0,none⟩)) ((0:Int):Rat) ⟨z0,rfl,h0⟩).qai
have HB:=af hbV
have R0:=af hO
have HV:=af (And.intro hV1 hg5)
clear h0 hb0 hbV hO hV1 hg5 I0
go_wp2_with fail
rw[← (ae HV).1,← (ae HV).2]
clear HV
refine (ae T1 _ (ae HB)).mono ?_
rintro e w2 ⟨v1,rfl,h1,hb2⟩
replace HB:=af ((ae HB).trans' hb2)
replace R0:=af ((ae R0).but hb2)
obtain⟨qa,ca,rfl,hca,hV⟩:=ae RC1 _ _ h1
have HA:=af hV
clear h1 hb2 hV T1 RC1
go_wp2
go_loopw [5,6] (fun o i wr=>∃ j:Nat,j≤k+1∧i=.int .i64 ((k:Int)-(j:Int))∧Hid ((j=0→za wr o [((0:Int):Rat)])∧(∀ t,j=t+1→za wr o ((List.range (t*q+1)).map (hor no s k t)))∧But [] w2 wr)) (fun _ i _=>(intOf i+1).toNat)
case atStart=>exact⟨0,Nat.zero_le _,by simp,fun _=>ae R0,fun t h=>absurd h (by omega),But.refl _ _⟩
case round =>(
obtain⟨j,hj,rfl,HI⟩:=hrel
rename World=>wr
clear R0
by_cases hjk:j≤k
·(
obtain⟨i0,hi0⟩:∃ i,i=k-j:=⟨_,rfl⟩
have hI:(k:Int)-(j:Int)=(i0:Int):=by omega
have hin:i0<k+1:=by omega
have STEP:Hid (∀ (W:World) (u:Value),But [] w2 W→za W u ((List.range (j*q+1)).map (znr no s k j))→∃ b off c,u=.slice (some ⟨b,off,none⟩) (j*q+1) c∧∀ V g,But [] W V→V.ownsRow W.heap.size 37 1 (.slice (some ⟨g,0,none⟩) 0 0) 0 []→∃ g' c' w',(Builtin.append_ #[42,42] 42 #[.slice (some ⟨g,0,none⟩) 0 0,.slice (some ⟨b,off,none⟩) (j*q+1) c]).run prog V=.ok (.slice (some ⟨g',0,none⟩) (j*q+1) c') w'∧j*q+1≤c'∧W.heap.size≤g'∧jq w' g' (j*q+1) (fun _=>True) (znr no s k j)∧But [] W w'):=fun W u hb hu=>by
 obtain⟨a',c',rfl,hc'⟩:=hu.open
 rw[List.length_map,List.length_range] at hu ⊢
 obtain⟨-,b,off,g,f,h3,-⟩:=hu.at 0 (by simp)
 subst h3
 exact⟨b,off,c',rfl,fun V g hV ho=>qcb W V g b off (j*q+1) c' _ (znr no s k j) hu (fun i hi=>by rw[List.getElem?_map,List.getElem?_range hi,Option.map_some]) hV ho (by omega) (by have:=ae TQ j hjk;omega)⟩
have hor2:(j=0∧i0=k)∨(∃ t,j=t+1∧i0<k):=by
 rcases j with _ | t
 ·exact .inl ⟨rfl,by omega⟩
 ·exact .inr ⟨t,rfl,by omega⟩
have HI0:=af hi0
clear hi0
rcases hor2 with ⟨hj0,hik⟩|⟨t,hjt,hik⟩
·(
have R1:Hid (za wr u5 ((List.range (j*q+1)).map (znr no s k j))∧But [] w2 wr):=⟨by
 subst hj0
 rw[Nat.zero_mul]
 exact (ae HI).1 rfl,(ae HI).2.2⟩
have hc1:¬ (i0:Int)<(k:Int):=by omega
clear HI hj0 hik
obtain⟨b,off,cc,hu,hCP⟩:=ae STEP wr _ (ae R1).2 (ae R1).1
subst hu
have bV:But [] wr (wr.alloc (.cells #[] 37)):=(But.refl _ _).alloc _
have hown:(wr.alloc (.cells #[] 37)).ownsRow wr.heap.size 37 1 (.slice (some ⟨wr.heap.size,0,none⟩) 0 0) 0 []:=⟨rfl,.inr ⟨wr.heap.size,0,#[],rfl,Nat.le_refl _,by show (wr.heap.push _)[wr.heap.size]? = some _;exact Array.getElem?_push_size,by omega,by unfold maxLen;omega,rfl,rfl⟩⟩
obtain⟨g',c',w',hr,hc1',hgW,hrow,hb⟩:=hCP _ wr.heap.size bV hown
have HR:=af hr
have HROW:=af hrow
have HB4:=af ((ae R1).2.trans' hb)
have HGW:=af (Nat.le_trans (ae R1).2.size hgW)
clear hr hrow hb bV hown hCP R1 STEP hgW
go_wp2_with (at_builtin;refine qp rfl _ _ 42 42 rfl _ _ (.slice (some ⟨g',0,none⟩) (j*q+1) c') w' rfl rfl (ae HR) ?_)
clear HR
obtain⟨x0,cx,rx⟩:=(ae HROW).told 0 (by omega) trivial
obtain⟨bn,on,gy,en,cy,ry⟩:=ae HA w' (ae HB4) i0 hin
subst en
have fz:=(ae HROW).loose 0
have ADH:Hid (∀ W,But [] w' W→Calls prog 58 #[.pointer (some ⟨x0,0,none⟩),.pointer (some ⟨gy,0,none⟩)] W fun e w'=>∃ zb,e=.returned (.pointer (some ⟨zb,0,none⟩))∧zo w' zb (hor no s k j 0)∧But [] W w'):=fun W hb=>ae AD j hjk W x0 gy (rx.but hb) (by have:=ry.but hb;rw[ae HI0] at this;exact this)
have ST:Hid (∀ W z,But [] w' W→zo W z (hor no s k j 0)→za (W.setCell ⟨g',0,none⟩ (.pointer (some ⟨z,0,none⟩))) (.slice (some ⟨g',0,none⟩) (j*q+1) c') ((List.range (j*q+1)).map (hor no s k j))∧But [] w2 (W.setCell ⟨g',0,none⟩ (.pointer (some ⟨z,0,none⟩)))):=fun W z hb hz=>⟨((((ae HROW).but hb).put (i:=0) (by omega) hz).mono (S':=fun _=>True) (F':=hor no s k j) (fun i _ _=>⟨.inr trivial,by
 by_cases hi:i=0
 ·rw[if_pos hi,hi]
 ·rw[if_neg hi,ae HN j i hi]⟩)).qjp hc1',((ae HB4).trans' hb).trans (zbi W g' 0 _) (fun y hy=>by simp at hy;subst hy;exact .inr (ae HGW))⟩
obtain⟨N',hN'⟩:∃ N',N'=j*q+1:=⟨_,rfl⟩
have hN0:0<N':=by omega
rw[← hN'] at ST
have HNN:=af hN'
try rw[← hN']
clear rx ry HROW hc1' hN'
have hNI:(N':Int) > 0:=by omega
go_upto_region 9 with fail
try rw[← ae HNN]
go_region_with (go_at_call 58;refine (ae ADH _ ?_).mono ?_;(repeat (first | exact But.refl _ _ | apply But.drew));rintro e w5 ⟨z,rfl,hz,hbz⟩;have hX:But [] w' w5:=(by repeat (first | exact hbz | exact But.refl _ _ | refine But.trans' ?_ hbz | apply But.drew));have fz5:w5.frozen? ⟨g',0,none⟩=false:=(hX.frozen (p:=⟨g',0,none⟩) (show g' < _ from ai cx) (by simp)).trans fz;have cx5:=hX.ag cx (by simp))
all_goals(
have NZ:=af (ae ST w5 z hX hz)
clear hX hz hbz ADH ST cx cy fz HI0 fz5 cx5
go_wp2
refine⟨⟨j+1,by omega,by simp;omega,fun h=>absurd h (by omega),fun t ht=>?_,(ae NZ).2⟩,by simp[intOf];omega⟩
obtain rfl:t=j:=by omega
rw[← ae HNN]
exact (ae NZ).1))
·(
have R0:=af ((ae HI).2.1 t hjt)
have B0:=af (ae HI).2.2
have hc1:(i0:Int)<(k:Int):=by omega
have htk:t≤k:=by omega
go_wp2_with fail
refine (ae TG t htk _ _ (ae R0) ((ae HB).trans' (ae B0))).mono ?_
rintro e w3 ⟨v3,rfl,h3,hb3⟩
have R1:Hid (za w3 v3 ((List.range (j*q+1)).map (znr no s k j))∧But [] w2 w3):=⟨by rw[hjt];exact h3,(ae B0).trans' hb3⟩
clear HI R0 B0 h3 hb3 hjt hik
obtain⟨b,off,cc,hu,hCP⟩:=ae STEP w3 _ (ae R1).2 (ae R1).1
subst hu
have bV:But [] w3 (w3.alloc (.cells #[] 37)):=(But.refl _ _).alloc _
have hown:(w3.alloc (.cells #[] 37)).ownsRow w3.heap.size 37 1 (.slice (some ⟨w3.heap.size,0,none⟩) 0 0) 0 []:=⟨rfl,.inr ⟨w3.heap.size,0,#[],rfl,Nat.le_refl _,by show (w3.heap.push _)[w3.heap.size]? = some _;exact Array.getElem?_push_size,by omega,by unfold maxLen;omega,rfl,rfl⟩⟩
obtain⟨g',c',w',hr,hc1',hgW,hrow,hb⟩:=hCP _ w3.heap.size bV hown
have HR:=af hr
have HROW:=af hrow
have HB4:=af ((ae R1).2.trans' hb)
have HGW:=af (Nat.le_trans (ae R1).2.size hgW)
clear hr hrow hb bV hown hCP R1 STEP hgW
go_wp2_with (at_builtin;refine qp rfl _ _ 42 42 rfl _ _ (.slice (some ⟨g',0,none⟩) (j*q+1) c') w' rfl rfl (ae HR) ?_)
clear HR
obtain⟨x0,cx,rx⟩:=(ae HROW).told 0 (by omega) trivial
obtain⟨bn,on,gy,en,cy,ry⟩:=ae HA w' (ae HB4) i0 hin
subst en
have fz:=(ae HROW).loose 0
have ADH:Hid (∀ W,But [] w' W→Calls prog 58 #[.pointer (some ⟨x0,0,none⟩),.pointer (some ⟨gy,0,none⟩)] W fun e w'=>∃ zb,e=.returned (.pointer (some ⟨zb,0,none⟩))∧zo w' zb (hor no s k j 0)∧But [] W w'):=fun W hb=>ae AD j hjk W x0 gy (rx.but hb) (by have:=ry.but hb;rw[ae HI0] at this;exact this)
have ST:Hid (∀ W z,But [] w' W→zo W z (hor no s k j 0)→za (W.setCell ⟨g',0,none⟩ (.pointer (some ⟨z,0,none⟩))) (.slice (some ⟨g',0,none⟩) (j*q+1) c') ((List.range (j*q+1)).map (hor no s k j))∧But [] w2 (W.setCell ⟨g',0,none⟩ (.pointer (some ⟨z,0,none⟩)))):=fun W z hb hz=>⟨((((ae HROW).but hb).put (i:=0) (by omega) hz).mono (S':=fun _=>True) (F':=hor no s k j) (fun i _ _=>⟨.inr trivial,by
 by_cases hi:i=0
 ·rw[if_pos hi,hi]
 ·rw[if_neg hi,ae HN j i hi]⟩)).qjp hc1',((ae HB4).trans' hb).trans (zbi W g' 0 _) (fun y hy=>by simp at hy;subst hy;exact .inr (ae HGW))⟩
obtain⟨N',hN'⟩:∃ N',N'=j*q+1:=⟨_,rfl⟩
have hN0:0<N':=by omega
rw[← hN'] at ST
have HNN:=af hN'
try rw[← hN']
clear rx ry HROW hc1' hN'
have hNI:(N':Int) > 0:=by omega
go_upto_region 9 with fail
try rw[← ae HNN]
go_region_with (go_at_call 58;refine (ae ADH _ ?_).mono ?_;(repeat (first | exact But.refl _ _ | apply But.drew));rintro e w5 ⟨z,rfl,hz,hbz⟩;have hX:But [] w' w5:=(by repeat (first | exact hbz | exact But.refl _ _ | refine But.trans' ?_ hbz | apply But.drew));have fz5:w5.frozen? ⟨g',0,none⟩=false:=(hX.frozen (p:=⟨g',0,none⟩) (show g' < _ from ai cx) (by simp)).trans fz;have cx5:=hX.ag cx (by simp))
all_goals(
have NZ:=af (ae ST w5 z hX hz)
clear hX hz hbz ADH ST cx cy fz HI0 fz5 cx5
go_wp2
refine⟨⟨j+1,by omega,by simp;omega,fun h=>absurd h (by omega),fun t ht=>?_,(ae NZ).2⟩,by simp[intOf];omega⟩
obtain rfl:t=j:=by omega
rw[← ae HNN]
exact (ae NZ).1)))
·(
obtain rfl:j=k+1:=by omega
have R1:=af ((ae HI).2.1 k rfl)
have B1:=af (ae HI).2.2
have hneg:¬ (k:Int)-((k+1:Nat):Int) ≥ 0:=by omega
clear HI
go_wp2_with fail
refine (ae TE _ _ (ae R1)).mono ?_
rintro e w3 ⟨v3,rfl,h3,hb3⟩
have FIN:=af (And.intro h3 (((ae HB).trans' (ae B1)).trans' hb3))
clear h3 hb3 R1 B1
go_wp2
go_ret
exact⟨_,rfl,(ae FIN).1,(ae FIN).2⟩)))
end Go.Proofs.YtpmjeclpkahkmaaGreatDoor
