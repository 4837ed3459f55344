/- Steps are taken, in the place of two num -/
import Derived.Laws.Append
import Derived.OwnWalk
import Derived.WalkSpells
import Derived.Test.YtagmkkiagjmimaaGreatDoorYN15
namespace Go.Proofs.YtagmkkiagjmimaaGreatDoor
set_option linter.unusedVariables false
open Go.Proofs.Tryz
open Go.RowKit
set_option maxHeartbeats 8000000
set_option maxRecDepth 100000
def znf (g:Nat) (w:World) (v:Value):Prop:=∀ b off n c,v=.slice (some ⟨b,off,none⟩) n c→b=g∧∀ i,i<n→w.frozen? ⟨b,off+i,none⟩=false
theorem zqe {w:World} {g o n c:Nat} {rs ys:List Nat} {v:Value} (hs:Seg w g o rs) (hb:zch (.slice (some ⟨g,o,none⟩) n c) v) (hv:Sl .u64 w v ys) (hl:ys.length≤rs.length):znf g w v:=fun b off m c' e=>by
 obtain⟨n',c'',e'⟩:=hb b off m c' e
 simp only[Value.slice.injEq,Option.some.injEq,Addr.mk.injEq] at e'
 obtain⟨⟨rfl,rfl,-⟩,-,-⟩:=e'
 obtain⟨a,cap,e2,-,-⟩:=hv
 rw[e] at e2
 simp only[Value.slice.injEq] at e2
 obtain⟨-,rfl,-⟩:=e2
 exact⟨rfl,fun i hi=>(hs i (by omega)).2⟩
theorem zfs (rs:List Nat) (hm:∀ x ∈ rs,x < 18446744073709551616):(wd 18446744073709551616 (vl 18446744073709551616 rs)).length≤rs.length:=aj (by omega) _ _ (ni (by omega) rs hm)
theorem zyv (g1 o1 cx g2 o2 cy nx n:Nat) (ps qs:List Nat) (w:World) (xx xy yx yy:Nat) (hxx:xx < 18446744073709551616) (hxy:xy < 18446744073709551616) (hyx:yx < 18446744073709551616) (hyy:yy < 18446744073709551616) (hne:g1≠g2) (hP:Seg w g1 o1 ps) (hQ:Seg w g2 o2 qs) (hlp:ps.length=n) (hlq:qs.length=n) (hn0:0<n) (hnx:n≤nx) (hcx:nx≤cx) (hcy:n≤cy) (hl:nx<1073741824) (mp:∀ x ∈ ps,x < 18446744073709551616) (mq:∀ x ∈ qs,x < 18446744073709551616) (X' Y':Nat)
   (hfin:Hid (∀ ps' qs' u d l r b o,kv ps qs ps' qs' xx xy yx yy n u d l r b o→vl 18446744073709551616 ps'=X'∧vl 18446744073709551616 qs'=Y')) :
   Calls prog 240 #[.agg #[.int .u64 (xx:Int),.int .u64 (xy:Int),.int .u64 (yx:Int),.int .u64 (yy:Int),.bool false],.slice (some ⟨g1,o1,none⟩) nx cx,.slice (some ⟨g2,o2,none⟩) n cy] w fun e w'=>∃ v1 v2,e=.returned (.tuple #[v1,v2])∧Sl .u64 w' v1 (wd 18446744073709551616 X')∧Sl .u64 w' v2 (wd 18446744073709551616 Y')∧But [g1,g2] w w'∧znf g1 w' v1∧znf g2 w' v2:=by(
 have hb1:g1<w.heap.size:=hP.lt (by omega)
 have hb2:g2<w.heap.size:=hQ.lt (by omega)
 have I0:Hid (kv ps qs ps qs xx xy yx yy 0 0 0 0 0 0 0):=kv.start ps qs xx xy yx yy mp mq
 have HP:=af hP
 have HQ:=af hQ
 have MP:=af mp
 have MQ:=af mq
 clear hP hQ mp mq
 have hnI:(n:Int)≤(cx:Int):=by omega
 go_enter func240,ntmps240
 go_wp2
 obtain⟨W,hW⟩:∃ W,W=w.alloc (.cells #[.int .u64 (xx:Int),.int .u64 (xy:Int),.int .u64 (yx:Int),.int .u64 (yy:Int),.bool false] 276):=⟨_,rfl⟩
 have HBW:Hid (But [] w W):=by show But _ _ _;rw[hW];exact (But.refl _ _).alloc _
 have z0:W.cell? ⟨w.heap.size,0,none⟩=some (.int .u64 (xx:Int)):=by rw[hW];simp
 have z1:W.cell? ⟨w.heap.size,1,none⟩=some (.int .u64 (xy:Int)):=by rw[hW];simp
 have z2:W.cell? ⟨w.heap.size,2,none⟩=some (.int .u64 (yx:Int)):=by rw[hW];simp
 have z3:W.cell? ⟨w.heap.size,3,none⟩=some (.int .u64 (yy:Int)):=by rw[hW];simp
 rw[← hW]
 clear hW
 have hzp:w.heap.size≠g1:=by omega
 have hzq:w.heap.size≠g2:=by omega
 have hpq:g1≠g2:=by omega
 have SP:=af ((ae HP).but (l:=[]) (ae HBW) (by simp))
 have SQ:=af ((ae HQ).but (l:=[]) (ae HBW) (by simp))
 generalize w.heap.size=gz at *
 have Z:=af (And.intro z0 (And.intro z1 (And.intro z2 z3)))
 clear z0 z1 z2 z3
 go_loopw [10,11,12,13,14,15,41] (fun pu pd pl pr pb po i wr=>∃ (k u d l r b o:Nat) (ps' qs':List Nat),k≤n∧i=.int .i64 k∧pu=.int .u64 u∧pd=.int .u64 d∧pl=.int .u64 l∧pr=.int .u64 r∧pb=.int .u64 b∧po=.int .u64 o∧u < 18446744073709551616∧d < 18446744073709551616∧l < 18446744073709551616∧r < 18446744073709551616∧b≤1∧o≤1∧ps'.length=n∧qs'.length=n∧Hid (kv ps qs ps' qs' xx xy yx yy k u d l r b o∧But [g1,g2] W wr∧Seg wr g1 o1 ps'∧Seg wr g2 o2 qs')) (fun _ _ _ _ _ _ i _=>n-(intOf i).toNat)
 case atStart=>exact⟨0,0,0,0,0,0,0,ps,qs,Nat.zero_le _,rfl,rfl,rfl,rfl,rfl,rfl,rfl,by omega,by omega,by omega,by omega,by omega,by omega,hlp,hlq,ae I0,But.refl _ _,ae SP,ae SQ⟩
 case round =>(
 clear I0 SP SQ
 obtain⟨k,u,d,l,r,b,o,ps',qs',hk,rfl,rfl,rfl,rfl,rfl,rfl,rfl,hu,hd,hll,hr,hb,ho,hlp',hlq',HI⟩:=hrel
 rename World=>wr
 by_cases hlt:k<n
 ·(
 obtain⟨pa,pf⟩:=(ae HI).2.2.1 k (by omega)
 obtain⟨qa,qf⟩:=(ae HI).2.2.2 k (by omega)
 have z0:=(ae HI).2.1.ag (ae Z).1 (by simp[hzp,hzq])
 have z1:=(ae HI).2.1.ag (ae Z).2.1 (by simp[hzp,hzq])
 have z2:=(ae HI).2.1.ag (ae Z).2.2.1 (by simp[hzp,hzq])
 have z3:=(ae HI).2.1.ag (ae Z).2.2.2 (by simp[hzp,hzq])
 have ea:=zic _ _ _ (ae HI).1.dp
 have eb:=zic _ _ _ (ae HI).1.dq
 rw[ea] at pa
 rw[eb] at qa
 have haB:ps[k]?.getD 0 < 18446744073709551616:=bt (ae MP) (by omega) k
 have hbB:qs[k]?.getD 0 < 18446744073709551616:=bt (ae MQ) (by omega) k
 obtain⟨p1,u',hp1,hu',e1⟩:=bp xx (ps[k]?.getD 0) u hxx haB hu
 obtain⟨m1,d',hm1,hd',e2⟩:=bp xy (qs[k]?.getD 0) d hxy hbB hd
 obtain⟨p2,r',hp2,hr',e4⟩:=bp yy (qs[k]?.getD 0) r hyy hbB hr
 obtain⟨m2,l',hm2,hl',e5⟩:=bp yx (ps[k]?.getD 0) l hyx haB hll
 obtain⟨s1,b',hs1,hb',e3⟩:=kg p1 m1 b hp1 hm1 hb
 obtain⟨s2,o',hs2,ho',e6⟩:=kg p2 m2 o hp2 hm2 ho
 have T1:=af (fun W=>jf xx (ps[k]?.getD 0) u p1 u' hxx haB hu hp1 hu' e1 W)
 have T2:=af (fun W=>jf xy (qs[k]?.getD 0) d m1 d' hxy hbB hd hm1 hd' e2 W)
 have T4:=af (fun W=>jf yy (qs[k]?.getD 0) r p2 r' hyy hbB hr hp2 hr' e4 W)
 have T5:=af (fun W=>jf yx (ps[k]?.getD 0) l m2 l' hyx haB hll hm2 hl' e5 W)
 have S3:=fun W=>zly p1 m1 b hb s1 b' e3 hs1 hp1 hm1 W
 have S6:=fun W=>zly p2 m2 o ho s2 o' e6 hs2 hp2 hm2 W
 have ST:=af ((ae HI).1.step (by omega) (by omega) s1 s2 u' d' l' r' b' o' p1 m1 p2 m2 hs1 hs2 e1 e2 e3 e4 e5 e6)
 clear e1 e2 e3 e4 e5 e6 ea eb
 generalize ps[k]?.getD 0=a at *
 generalize qs[k]?.getD 0=c at *
 go_wp2
 go_quiet (fail)
 obtain⟨V,hV⟩:∃ V,V=wr.drewN nq:=⟨_,rfl⟩
 rw[← hV]
 have hVc:∀ p,V.cell? p=wr.cell? p:=fun p=>by rw[hV];rfl
 have hVf:∀ p,V.frozen? p=wr.frozen? p:=fun p=>by rw[hV];rfl
 rw[← hVc] at pa qa z0 z1 z2 z3
 rw[← hVf] at pf qf
 have HB2:Hid (But [g1,g2] W V):=by show But _ _ _;rw[hV];exact (ae HI).2.1.drewN nq
 have SPV:Hid (Seg V g1 o1 ps'):=by show Seg _ _ _ _;rw[hV];exact (ae HI).2.2.1
 have SQV:Hid (Seg V g2 o2 qs'):=by show Seg _ _ _ _;rw[hV];exact (ae HI).2.2.2
 clear hV hVc hVf HI
 go_wp2_with fail
 refine (ae T1 _).mono ?_
 rintro e w1 ⟨rfl,hw⟩
 obtain rfl:=hw.symm
 clear hw
 go_wp2_with fail
 refine (ae T2 _).mono ?_
 rintro e w1 ⟨rfl,hw⟩
 obtain rfl:=hw.symm
 clear hw
 go_wp2_with fail
 refine (ae T4 _).mono ?_
 rintro e w1 ⟨rfl,hw⟩
 obtain rfl:=hw.symm
 clear hw
 go_wp2_with fail
 refine (ae T5 _).mono ?_
 rintro e w1 ⟨rfl,hw⟩
 obtain rfl:=hw.symm
 clear hw
 go_wp2
 have sp:=(ae SPV).set k (by omega) s1
 have b1:But [g1] V (V.setCell ⟨g1,o1+k,none⟩ (.int .u64 (s1:Int))):=(But.refl _ _).setCell (by simp) _
 have sq:=((ae SQV).but b1 (by simpa using hpq.symm)).set k (by omega) s2
 have b2:But [g2] (V.setCell ⟨g1,o1+k,none⟩ (.int .u64 (s1:Int))) ((V.setCell ⟨g1,o1+k,none⟩ (.int .u64 (s1:Int))).setCell ⟨g2,o2+k,none⟩ (.int .u64 (s2:Int))):=(But.refl _ _).setCell (by simp) _
 refine⟨⟨k+1,u',d',l',r',b',o',ps'.set k s1,qs'.set k s2,by omega,by go_num,rfl,rfl,rfl,rfl,rfl,rfl,hu',hd',hl',hr',hb',ho',by rw[List.length_set];exact hlp',by rw[List.length_set];exact hlq',ae ST,((ae HB2).setCell (.inl (by simp)) _).setCell (.inl (by simp)) _,sp.but b2 (by simpa using hpq),sq⟩,?_⟩
 simp[intOf];omega)
 ·(
 have hke:k=n:=by omega
 subst hke
 have hf:=ae hfin ps' qs' u d l r b o (ae HI).1
 have sp:=(ae HI).2.2.1.sl cx (by omega)
 have sq:=(ae HI).2.2.2.sl cy (by omega)
 rw[hlp'] at sp
 rw[hlq'] at sq
 have HSP:=af sp
 have HSQ:=af sq
 have HF:=af hf
 have hlp2:ps'.length<2147483648:=by omega
 have hlq2:qs'.length<2147483648:=by omega
 clear sp sq hf
 go_wp2_with fail
 refine (qo _ ps' _ (ae HSP) (ae HI).1.mp hlp2).mono ?_
 rintro e w3 ⟨v1,rfl,hv1,hw,hsb1⟩
 obtain rfl:=hw.symm
 clear hw
 have ho1:=zqe (ae HI).2.2.1 hsb1 hv1 (zfs _ (ae HI).1.mp)
 rw[(ae HF).1] at hv1
 have H1:=af (And.intro hv1 ho1)
 clear hv1 hsb1 ho1
 go_wp2_with fail
 refine (qo _ qs' _ (ae HSQ) (ae HI).1.mq hlq2).mono ?_
 rintro e w3 ⟨v2,rfl,hv2,hw,hsb2⟩
 obtain rfl:=hw.symm
 clear hw
 have ho2:=zqe (ae HI).2.2.2 hsb2 hv2 (zfs _ (ae HI).1.mq)
 rw[(ae HF).2] at hv2
 have H2:=af (And.intro hv2 ho2)
 clear hv2 hsb2 ho2
 go_wp2
 go_ret2
 refine⟨v1,v2,rfl,(ae H1).1,(ae H2).1,?_,(ae H1).2,(ae H2).2⟩
 exact (But.of_nil (ae HBW)).trans (ae HI).2.1 (fun x hx=>.inl (by simp at hx ⊢;omega)))))
theorem zuz (g1 o1 cx g2 o2 cy nx n:Nat) (ps qs:List Nat) (w:World) (xx xy yx yy:Nat) (hxx:xx < 18446744073709551616) (hxy:xy < 18446744073709551616) (hyx:yx < 18446744073709551616) (hyy:yy < 18446744073709551616) (hne:g1≠g2) (hP:Seg w g1 o1 qs) (hQ:Seg w g2 o2 ps) (hlp:ps.length=n) (hlq:qs.length=n) (hn0:0<n) (hnx:n≤nx) (hcx:nx≤cx) (hcy:n≤cy) (hl:nx<1073741824) (mp:∀ x ∈ ps,x < 18446744073709551616) (mq:∀ x ∈ qs,x < 18446744073709551616) (X' Y':Nat)
   (hfin:Hid (∀ ps' qs' u d l r b o,kv ps qs ps' qs' xy xx yy yx n u d l r b o→vl 18446744073709551616 ps'=X'∧vl 18446744073709551616 qs'=Y')) :
   Calls prog 240 #[.agg #[.int .u64 (xx:Int),.int .u64 (xy:Int),.int .u64 (yx:Int),.int .u64 (yy:Int),.bool true],.slice (some ⟨g1,o1,none⟩) nx cx,.slice (some ⟨g2,o2,none⟩) n cy] w fun e w'=>∃ v1 v2,e=.returned (.tuple #[v1,v2])∧Sl .u64 w' v1 (wd 18446744073709551616 X')∧Sl .u64 w' v2 (wd 18446744073709551616 Y')∧But [g1,g2] w w'∧znf g2 w' v1∧znf g1 w' v2:=by(
 have hb1:g1<w.heap.size:=hP.lt (by omega)
 have hb2:g2<w.heap.size:=hQ.lt (by omega)
 have I0:Hid (kv ps qs ps qs xy xx yy yx 0 0 0 0 0 0 0):=kv.start ps qs xy xx yy yx mp mq
 have HP:=af hP
 have HQ:=af hQ
 have MP:=af mp
 have MQ:=af mq
 clear hP hQ mp mq
 have hnI:(n:Int)≤(cx:Int):=by omega
 go_enter func240,ntmps240
 go_wp2
 obtain⟨W,hW⟩:∃ W,W=w.alloc (.cells #[.int .u64 (xy:Int),.int .u64 (xx:Int),.int .u64 (yy:Int),.int .u64 (yx:Int),.bool false] 276):=⟨_,rfl⟩
 have HBW:Hid (But [] w W):=by show But _ _ _;rw[hW];exact (But.refl _ _).alloc _
 have z0:W.cell? ⟨w.heap.size,0,none⟩=some (.int .u64 (xy:Int)):=by rw[hW];simp
 have z1:W.cell? ⟨w.heap.size,1,none⟩=some (.int .u64 (xx:Int)):=by rw[hW];simp
 have z2:W.cell? ⟨w.heap.size,2,none⟩=some (.int .u64 (yy:Int)):=by rw[hW];simp
 have z3:W.cell? ⟨w.heap.size,3,none⟩=some (.int .u64 (yx:Int)):=by rw[hW];simp
 rw[← hW]
 clear hW
 have hzp:w.heap.size≠g2:=by omega
 have hzq:w.heap.size≠g1:=by omega
 have hpq:g2≠g1:=by omega
 have SP:=af ((ae HQ).but (l:=[]) (ae HBW) (by simp))
 have SQ:=af ((ae HP).but (l:=[]) (ae HBW) (by simp))
 generalize w.heap.size=gz at *
 have Z:=af (And.intro z0 (And.intro z1 (And.intro z2 z3)))
 clear z0 z1 z2 z3
 go_loopw [10,11,12,13,14,15,41] (fun pu pd pl pr pb po i wr=>∃ (k u d l r b o:Nat) (ps' qs':List Nat),k≤n∧i=.int .i64 k∧pu=.int .u64 u∧pd=.int .u64 d∧pl=.int .u64 l∧pr=.int .u64 r∧pb=.int .u64 b∧po=.int .u64 o∧u < 18446744073709551616∧d < 18446744073709551616∧l < 18446744073709551616∧r < 18446744073709551616∧b≤1∧o≤1∧ps'.length=n∧qs'.length=n∧Hid (kv ps qs ps' qs' xy xx yy yx k u d l r b o∧But [g2,g1] W wr∧Seg wr g2 o2 ps'∧Seg wr g1 o1 qs')) (fun _ _ _ _ _ _ i _=>n-(intOf i).toNat)
 case atStart=>exact⟨0,0,0,0,0,0,0,ps,qs,Nat.zero_le _,rfl,rfl,rfl,rfl,rfl,rfl,rfl,by omega,by omega,by omega,by omega,by omega,by omega,hlp,hlq,ae I0,But.refl _ _,ae SP,ae SQ⟩
 case round =>(
 clear I0 SP SQ
 obtain⟨k,u,d,l,r,b,o,ps',qs',hk,rfl,rfl,rfl,rfl,rfl,rfl,rfl,hu,hd,hll,hr,hb,ho,hlp',hlq',HI⟩:=hrel
 rename World=>wr
 by_cases hlt:k<n
 ·(
 obtain⟨pa,pf⟩:=(ae HI).2.2.1 k (by omega)
 obtain⟨qa,qf⟩:=(ae HI).2.2.2 k (by omega)
 have z0:=(ae HI).2.1.ag (ae Z).1 (by simp[hzp,hzq])
 have z1:=(ae HI).2.1.ag (ae Z).2.1 (by simp[hzp,hzq])
 have z2:=(ae HI).2.1.ag (ae Z).2.2.1 (by simp[hzp,hzq])
 have z3:=(ae HI).2.1.ag (ae Z).2.2.2 (by simp[hzp,hzq])
 have ea:=zic _ _ _ (ae HI).1.dp
 have eb:=zic _ _ _ (ae HI).1.dq
 rw[ea] at pa
 rw[eb] at qa
 have haB:ps[k]?.getD 0 < 18446744073709551616:=bt (ae MP) (by omega) k
 have hbB:qs[k]?.getD 0 < 18446744073709551616:=bt (ae MQ) (by omega) k
 obtain⟨p1,u',hp1,hu',e1⟩:=bp xy (ps[k]?.getD 0) u hxy haB hu
 obtain⟨m1,d',hm1,hd',e2⟩:=bp xx (qs[k]?.getD 0) d hxx hbB hd
 obtain⟨p2,r',hp2,hr',e4⟩:=bp yx (qs[k]?.getD 0) r hyx hbB hr
 obtain⟨m2,l',hm2,hl',e5⟩:=bp yy (ps[k]?.getD 0) l hyy haB hll
 obtain⟨s1,b',hs1,hb',e3⟩:=kg p1 m1 b hp1 hm1 hb
 obtain⟨s2,o',hs2,ho',e6⟩:=kg p2 m2 o hp2 hm2 ho
 have T1:=af (fun W=>jf xy (ps[k]?.getD 0) u p1 u' hxy haB hu hp1 hu' e1 W)
 have T2:=af (fun W=>jf xx (qs[k]?.getD 0) d m1 d' hxx hbB hd hm1 hd' e2 W)
 have T4:=af (fun W=>jf yx (qs[k]?.getD 0) r p2 r' hyx hbB hr hp2 hr' e4 W)
 have T5:=af (fun W=>jf yy (ps[k]?.getD 0) l m2 l' hyy haB hll hm2 hl' e5 W)
 have S3:=fun W=>zly p1 m1 b hb s1 b' e3 hs1 hp1 hm1 W
 have S6:=fun W=>zly p2 m2 o ho s2 o' e6 hs2 hp2 hm2 W
 have ST:=af ((ae HI).1.step (by omega) (by omega) s1 s2 u' d' l' r' b' o' p1 m1 p2 m2 hs1 hs2 e1 e2 e3 e4 e5 e6)
 clear e1 e2 e3 e4 e5 e6 ea eb
 generalize ps[k]?.getD 0=a at *
 generalize qs[k]?.getD 0=c at *
 go_wp2
 go_quiet (fail)
 obtain⟨V,hV⟩:∃ V,V=wr.drewN nq:=⟨_,rfl⟩
 rw[← hV]
 have hVc:∀ p,V.cell? p=wr.cell? p:=fun p=>by rw[hV];rfl
 have hVf:∀ p,V.frozen? p=wr.frozen? p:=fun p=>by rw[hV];rfl
 rw[← hVc] at pa qa z0 z1 z2 z3
 rw[← hVf] at pf qf
 have HB2:Hid (But [g2,g1] W V):=by show But _ _ _;rw[hV];exact (ae HI).2.1.drewN nq
 have SPV:Hid (Seg V g2 o2 ps'):=by show Seg _ _ _ _;rw[hV];exact (ae HI).2.2.1
 have SQV:Hid (Seg V g1 o1 qs'):=by show Seg _ _ _ _;rw[hV];exact (ae HI).2.2.2
 clear hV hVc hVf HI
 go_wp2_with fail
 refine (ae T1 _).mono ?_
 rintro e w1 ⟨rfl,hw⟩
 obtain rfl:=hw.symm
 clear hw
 go_wp2_with fail
 refine (ae T2 _).mono ?_
 rintro e w1 ⟨rfl,hw⟩
 obtain rfl:=hw.symm
 clear hw
 go_wp2_with fail
 refine (ae T4 _).mono ?_
 rintro e w1 ⟨rfl,hw⟩
 obtain rfl:=hw.symm
 clear hw
 go_wp2_with fail
 refine (ae T5 _).mono ?_
 rintro e w1 ⟨rfl,hw⟩
 obtain rfl:=hw.symm
 clear hw
 go_wp2
 have sp:=(ae SPV).set k (by omega) s1
 have b1:But [g2] V (V.setCell ⟨g2,o2+k,none⟩ (.int .u64 (s1:Int))):=(But.refl _ _).setCell (by simp) _
 have sq:=((ae SQV).but b1 (by simpa using hpq.symm)).set k (by omega) s2
 have b2:But [g1] (V.setCell ⟨g2,o2+k,none⟩ (.int .u64 (s1:Int))) ((V.setCell ⟨g2,o2+k,none⟩ (.int .u64 (s1:Int))).setCell ⟨g1,o1+k,none⟩ (.int .u64 (s2:Int))):=(But.refl _ _).setCell (by simp) _
 refine⟨⟨k+1,u',d',l',r',b',o',ps'.set k s1,qs'.set k s2,by omega,by go_num,rfl,rfl,rfl,rfl,rfl,rfl,hu',hd',hl',hr',hb',ho',by rw[List.length_set];exact hlp',by rw[List.length_set];exact hlq',ae ST,((ae HB2).setCell (.inl (by simp)) _).setCell (.inl (by simp)) _,sp.but b2 (by simpa using hpq),sq⟩,?_⟩
 simp[intOf];omega)
 ·(
 have hke:k=n:=by omega
 subst hke
 have hf:=ae hfin ps' qs' u d l r b o (ae HI).1
 have sp:=(ae HI).2.2.1.sl cy (by omega)
 have sq:=(ae HI).2.2.2.sl cx (by omega)
 rw[hlp'] at sp
 rw[hlq'] at sq
 have HSP:=af sp
 have HSQ:=af sq
 have HF:=af hf
 have hlp2:ps'.length<2147483648:=by omega
 have hlq2:qs'.length<2147483648:=by omega
 clear sp sq hf
 go_wp2_with fail
 refine (qo _ ps' _ (ae HSP) (ae HI).1.mp hlp2).mono ?_
 rintro e w3 ⟨v1,rfl,hv1,hw,hsb1⟩
 obtain rfl:=hw.symm
 clear hw
 have ho1:=zqe (ae HI).2.2.1 hsb1 hv1 (zfs _ (ae HI).1.mp)
 rw[(ae HF).1] at hv1
 have H1:=af (And.intro hv1 ho1)
 clear hv1 hsb1 ho1
 go_wp2_with fail
 refine (qo _ qs' _ (ae HSQ) (ae HI).1.mq hlq2).mono ?_
 rintro e w3 ⟨v2,rfl,hv2,hw,hsb2⟩
 obtain rfl:=hw.symm
 clear hw
 have ho2:=zqe (ae HI).2.2.2 hsb2 hv2 (zfs _ (ae HI).1.mq)
 rw[(ae HF).2] at hv2
 have H2:=af (And.intro hv2 ho2)
 clear hv2 hsb2 ho2
 go_wp2
 go_ret2
 refine⟨v1,v2,rfl,(ae H1).1,(ae H2).1,?_,(ae H1).2,(ae H2).2⟩
 exact (But.of_nil (ae HBW)).trans (ae HI).2.1 (fun x hx=>.inl (by simp at hx ⊢;omega)))))
theorem ja {P:Program} {w:World} {ops:Array Oper} {rest:List Oper} {o:Oper} {a:Act} {Q:Exit→Act→World→Prop} (hgd:o.guard=none) (s x:Operand) (t u:TypeId)
  (ho:o.op=.call { callee:=.builtin .append,args:=#[s,x],argTypes:=#[t,u] }) (vs vx v':Value) (w':World) (hs:a.eval s=vs) (hx:a.eval x=vx)
  (hr:(Builtin.append_ #[t,u] o.type #[vs,vx]).run P w=.ok v' w') (h:wpList P ops Q rest (a.put o.dst v') w'):wpList P ops Q (o::rest) a w :=
 wpList_plain hgd fun _ hK=>by
  unfold Oper.wp execOp
  simp only[ho,resolve,invoke,builtin,Sem.run_bind,Sem.run_pure,Result.andThen_ok,List.map_toArray,List.map_cons,List.map_nil,hs,hx,hr]
  exact hK _ _ h
theorem zpf (b off c:Nat) (xs:List Nat) (w:World) (hv:Sl .u64 w (.slice (some ⟨b,off,none⟩) xs.length c) xs) (h0:0<xs.length) (hl:xs.length<1073741824) :
   Calls prog 206 #[.slice (some ⟨b,off,none⟩) xs.length c] w fun e w'=>∃ v',e=.returned v'∧Sl .u64 w' v' xs∧But [] w w'∧Own w.heap.size w' v'∧(∃ g c',v'=.slice (some ⟨g,0,none⟩) xs.length c'):=by(
 have hnil:=fun W=>Lib.run_eql_slice_nil (P:=prog) W 103 24 (some ⟨b,off,none⟩) xs.length c 0 0 underlying103
 obtain⟨i,hi,hz,hs,hbt⟩:=ztr
 obtain⟨W0,hW0⟩:∃ W0,W0=w.alloc (.cells #[] 24):=⟨_,rfl⟩
 have hb0:But [] w W0:=by rw[hW0];exact (But.refl _ _).alloc _
 have hv0:=hv.ah hb0
 rcases hv0.open with ⟨e,-⟩|⟨-,b',off',c',e,hc,-,hcell⟩
 ·rw[e] at h0;simp at h0
 simp only[Value.slice.injEq,Option.some.injEq,Addr.mk.injEq] at e
 obtain⟨⟨rfl,rfl,-⟩,-,rfl⟩:=e
 have hr:=fun ty=>run_append_grow (P:=prog) W0 103 ty 24 i (.int .u64 0) underlying103 hi hz ⟨w.heap.size,0,none⟩ 0 0 [] (by simp) (by simp) ⟨b,off,none⟩ xs.length c (xs.map fun (x:Nat)=>Value.int .u64 (x:Int)) (by simp[hs]) (fun j v hj=>by
  obtain⟨h1,rfl⟩:=zib xs j v hj
  rw[addr_add];exact hcell j h1) (by omega) (by omega) (growslice_fits (by omega) (by rw[hbt];omega))
 have hcg:=grownCap_ge W0 (0+xs.length) 0 24
 rw[Nat.zero_add] at hr hcg
 generalize grownCap W0 xs.length 0 24 = cg at hr hcg
 have hsz:W0.heap.size=w.heap.size+1:=by rw[hW0];simp
 rw[hW0] at hr
 have H:=af hr
 have HW0:=af hW0
 have HB0:=af hb0
 have HSZ:=af hsz
 clear hr hi hz hs hbt i hv hcell hv0 hW0 hb0 hsz
 go_enter func206,ntmps206
 go_wp2_with (at_builtin;refine ja rfl _ _ 103 103 rfl _ _ _ _ rfl rfl (ae H _) ?_)
 go_ret
 rw[← ae HW0]
 have es:w.heap.size+1=W0.heap.size:=(ae HSZ).symm
 refine⟨.slice (some ⟨w.heap.size+1,0,none⟩) xs.length cg,rfl,?_,((ae HB0).alloc _).drew,?_,⟨_,_,rfl⟩⟩
 ·(
 rw[es]
 exact Sl.mk W0.heap.size 0 cg hcg (fun j hj=>by
  rw[Nat.zero_add,World.cell?_drew,World.cell?_alloc_new,Array.getElem?_append_left (by simp;exact hj)]
  simp[hj]) (fun _ i v hv=>by
  rw[World.cell?_drew,World.cell?_alloc_new] at hv
  have hm:=Array.mem_of_getElem? hv
  rw[Array.mem_append] at hm
  rcases hm with hm | hm
  ·simp only[List.mem_toArray,List.mem_map] at hm
   obtain⟨x,-,rfl⟩:=hm
   exact⟨_,rfl⟩
  ·unfold Builtin.zeroCells at hm
   exact⟨0,by simp at hm;grind⟩))
 ·(
 intro b off n c e
 simp only[Value.slice.injEq,Option.some.injEq,Addr.mk.injEq] at e
 obtain⟨⟨rfl,rfl,-⟩,-,-⟩:=e
 refine⟨by omega,fun i _=>?_⟩
 rw[es]
 simp))
def Apart (v1 v2:Value):Prop:=∀ b off n c b' off' n' c',v1=.slice (some ⟨b,off,none⟩) n c→v2=.slice (some ⟨b',off',none⟩) n' c'→b≠b'
structure zoh (lo:Nat) (w:World) (v1 v2:Value) (X Y:Nat):Prop where
 s1:Sl .u64 w v1 (wd 18446744073709551616 X)
 s2:Sl .u64 w v2 (wd 18446744073709551616 Y)
 o1:Own lo w v1
 o2:Own lo w v2
 ap:Apart v1 v2
theorem Sl.seg {w:World} {g o c n:Nat} {xs:List Nat} (h:Sl .u64 w (.slice (some ⟨g,o,none⟩) n c) xs) (ho:∀ i,i<n→w.frozen? ⟨g,o+i,none⟩=false):Seg w g o xs:=⟨fun i hi=>by
 obtain⟨a,cap,e,-,hc,-⟩:=h
 simp only[Value.slice.injEq] at e
 obtain⟨rfl,rfl,-⟩:=e
 obtain⟨b,off,e,h2⟩:=hc i hi
 simp only[Option.some.injEq,Addr.mk.injEq] at e
 obtain⟨rfl,rfl,-⟩:=e
 exact⟨h2,ho i hi⟩,fun h0=>by
 obtain⟨a,cap,e,-,-,hi⟩:=h
 simp only[Value.slice.injEq] at e
 obtain⟨rfl,-,-⟩:=e
 exact hi _ _ rfl h0⟩
theorem znf.own {g lo:Nat} {w:World} {v:Value} (h:znf g w v) (hg:lo≤g):Own lo w v:=fun b off n c e=>by
 obtain⟨rfl,h2⟩:=h b off n c e
 exact⟨hg,h2⟩
theorem Own.but {lo:Nat} {w w':World} {v:Value} {k:IntKind} {xs:List Nat} (h:Own lo w v) (hs:Sl k w v xs) (hb:But [] w w'):Own lo w' v:=fun b off n c e=>by
 obtain⟨h1,h2⟩:=h b off n c e
 refine⟨h1,fun i hi=>?_⟩
 obtain⟨a,cap,e2,-,hc,-⟩:=hs
 rw[e] at e2
 simp only[Value.slice.injEq] at e2
 obtain⟨rfl,rfl,-⟩:=e2
 obtain⟨b',off',e3,h4⟩:=hc i hi
 simp only[Option.some.injEq,Addr.mk.injEq] at e3
 obtain⟨rfl,rfl,-⟩:=e3
 exact (hb.frozen (p:=⟨b,off+i,none⟩) (ai h4) (by simp)).trans (h2 i hi)
theorem zoh.but {lo:Nat} {w w':World} {v1 v2:Value} {X Y:Nat} (h:zoh lo w v1 v2 X Y) (hb:But [] w w'):zoh lo w' v1 v2 X Y :=
 ⟨h.s1.ah hb,h.s2.ah hb,h.o1.but h.s1 hb,h.o2.but h.s2 hb,h.ap⟩
theorem wu (B:Nat) (xs:List Nat) (k:Nat):vl B (xs.take (k+1))=vl B (xs.take k)+xs[k]?.getD 0*B^k:=by(
 rcases Nat.lt_or_ge k xs.length with h | h
 ·exact qz B xs k h
 ·rw[List.take_of_length_le h,List.take_of_length_le (by omega),List.getElem?_eq_none h];simp)
theorem zlg (B:Nat) (rs:List Nat) (k s:Nat) (hk:k<rs.length) (hz:rs[k]?.getD 0=0):vl B (rs.set k s)=vl B rs+s*B^k:=by(
 have:=ig B rs k s hk
 rw[hz,Nat.zero_mul,Nat.add_zero] at this
 exact this)
structure xk (k:IntKind) (w:World) (g:Nat) (rs:List Nat):Prop where
 row:Row k w g rs
 ints:0<rs.length→Ints k w g
theorem zwc (k:IntKind) (w:World) (n:Nat) (t:TypeId):Ints k (w.alloc (.cells (madeCells #[.int k 0] n) t)) w.heap.size:=fun i v hv=>by
 rw[World.cell?_alloc_new] at hv
 unfold madeCells at hv
 rw[Array.getElem?_map] at hv
 obtain⟨x,-,rfl⟩:=Option.map_eq_some_iff.1 hv
 exact⟨0,by simp[Nat.mod_one]⟩
theorem xk.made (k:IntKind) (w:World) (n:Nat) (t:TypeId):xk k (w.alloc (.cells (madeCells #[.int k 0] n) t)) w.heap.size (List.replicate n 0):=⟨Row.made k w n t,fun _=>zwc k w n t⟩
theorem xk.set {k:IntKind} {w:World} {g:Nat} {rs:List Nat} (h:xk k w g rs) (i:Nat) (hi:i<rs.length) (t:Nat):xk k (w.setCell ⟨g,i,none⟩ (.int k t)) g (rs.set i t):=⟨h.row.set i hi t,fun h0=>(h.ints (by rw[List.length_set] at h0;exact h0)).set i t⟩
theorem xk.sl {k:IntKind} {w:World} {g:Nat} {rs:List Nat} (h:xk k w g rs) (cap:Nat) (hc:rs.length≤cap):Sl k w (.slice (some ⟨g,0,none⟩) rs.length cap) rs:=Sl.mk g 0 cap hc (fun i hi=>by rw[Nat.zero_add];exact (h.row i hi).1) h.ints
theorem xk.lt {k:IntKind} {w:World} {g:Nat} {rs:List Nat} (h:xk k w g rs) (h0:0<rs.length):g<w.heap.size:=ai (h.row 0 h0).1
theorem xk.but {k:IntKind} {w w':World} {g:Nat} {rs:List Nat} {l:List Nat} (h:xk k w g rs) (hb:But l w w') (hn:g ∉ l):xk k w' g rs:=⟨fun i hi=>by
 have hl:=ai (h.row i hi).1
 exact⟨hb.ag (h.row i hi).1 hn,(hb.frozen (p:=⟨g,i,none⟩) hl hn).trans (h.row i hi).2⟩,fun h0=>(h.ints h0).but hb (h.lt h0) hn⟩
theorem xk.drewN {k:IntKind} {w:World} {g:Nat} {rs:List Nat} (h:xk k w g rs) (q:Nat):xk k (w.drewN q) g rs:=h.but ((But.refl [] _).drewN q) (by simp)
/-! ### sums -/
structure zrk (xs ys rs:List Nat) (k c:Nat):Prop where
 len:rs.length=xs.length+1
 mem:∀ x ∈ rs,x<4294967296
 car:c≤1
 val:vl 4294967296 rs+c*4294967296^k=vl 4294967296 (xs.take k)+vl 4294967296 (ys.take k)
 zero:∀ j,k≤j→rs[j]?.getD 0=0
theorem zrk.start (xs ys:List Nat):zrk xs ys (List.replicate (xs.length+1) 0) 0 0 :=
 ⟨by simp,fun x hx=>by rw[List.mem_replicate] at hx;omega,by omega,by simp[jc,vl],fun j _=>by rw[List.getElem?_replicate];split <;> rfl⟩
theorem zrk.step {xs ys rs:List Nat} {k c:Nat} (h:zrk xs ys rs k c) (hk:k<xs.length) (hx:xs[k]?.getD 0<4294967296) (hy:ys[k]?.getD 0<4294967296) (t:Nat) (ht:t=c+xs[k]?.getD 0+ys[k]?.getD 0):zrk xs ys (rs.set k (t%4294967296)) (k+1) (t/4294967296):=by(
 have hl:=h.len
 refine⟨by rw[List.length_set];exact hl,mem_set h.mem _ _ (Nat.mod_lt _ (by omega)),by have:=h.car;omega,?_,fun j hj=>by rw[List.getElem?_set_ne (by omega)];exact h.zero j (by omega)⟩
 rw[zlg _ rs k _ (by omega) (h.zero k (Nat.le_refl _)),wu,wu,Nat.pow_succ]
 have hv:=h.val
 have he:=Nat.div_add_mod t 4294967296
 have h3:c+xs[k]?.getD 0+ys[k]?.getD 0=4294967296*(t/4294967296)+t%4294967296:=by omega
 have h2:(c+xs[k]?.getD 0+ys[k]?.getD 0)*4294967296^k=(4294967296*(t/4294967296)+t%4294967296)*4294967296^k:=by rw[h3]
 generalize (4294967296:Nat)^k=P at *
 generalize t/4294967296=q at *
 generalize t%4294967296=s at *
 generalize vl 4294967296 rs=R at *
 generalize vl 4294967296 (xs.take k)=V1 at *
 generalize vl 4294967296 (ys.take k)=V2 at *
 grind)
theorem zrk.fin {xs ys rs:List Nat} {c:Nat} (h:zrk xs ys rs xs.length c) (hy:ys.length≤xs.length):vl 4294967296 (rs.set xs.length c)=vl 4294967296 xs+vl 4294967296 ys∧(∀ x ∈ rs.set xs.length c,x<4294967296):=by(
 refine⟨?_,mem_set h.mem _ _ (by have:=h.car;omega)⟩
 have hv:=h.val
 rw[List.take_length,List.take_of_length_le hy] at hv
 rw[zlg _ rs _ _ (by have:=h.len;omega) (h.zero _ (Nat.le_refl _)),hv])
/-! ### differences -/
structure zrg (xs ys rs:List Nat) (k c:Nat):Prop where
 len:rs.length=xs.length
 mem:∀ x ∈ rs,x<4294967296
 car:c≤1
 val:vl 4294967296 rs+vl 4294967296 (ys.take k)=vl 4294967296 (xs.take k)+c*4294967296^k
 zero:∀ j,k≤j→rs[j]?.getD 0=0
theorem zrg.start (xs ys:List Nat):zrg xs ys (List.replicate xs.length 0) 0 0 :=
 ⟨by simp,fun x hx=>by rw[List.mem_replicate] at hx;omega,by omega,by simp[jc,vl],fun j _=>by rw[List.getElem?_replicate];split <;> rfl⟩
theorem zrg.step {xs ys rs:List Nat} {k c:Nat} (h:zrg xs ys rs k c) (hk:k<xs.length) (s c':Nat) (hs:s<4294967296) (hc:c'≤1) (e:s+c+ys[k]?.getD 0=xs[k]?.getD 0+4294967296*c'):zrg xs ys (rs.set k s) (k+1) c':=by(
 have hl:=h.len
 refine⟨by rw[List.length_set];exact hl,mem_set h.mem _ _ hs,hc,?_,fun j hj=>by rw[List.getElem?_set_ne (by omega)];exact h.zero j (by omega)⟩
 rw[zlg _ rs k _ (by omega) (h.zero k (Nat.le_refl _)),wu,wu,Nat.pow_succ]
 have hv:=h.val
 have h2:(s+c+ys[k]?.getD 0)*4294967296^k=(xs[k]?.getD 0+4294967296*c')*4294967296^k:=by rw[e]
 generalize (4294967296:Nat)^k=P at *
 generalize vl 4294967296 rs=R at *
 generalize vl 4294967296 (xs.take k)=V1 at *
 generalize vl 4294967296 (ys.take k)=V2 at *
 grind)
theorem zrg.fin {xs ys rs:List Nat} {c:Nat} (h:zrg xs ys rs xs.length c) (hy:ys.length≤xs.length) (hle:vl 4294967296 ys≤vl 4294967296 xs):vl 4294967296 rs=vl 4294967296 xs-vl 4294967296 ys:=by(
 have hv:=h.val
 rw[List.take_length,List.take_of_length_le hy] at hv
 have h1:=ni (by omega:0<4294967296) rs h.mem
 rw[h.len] at h1
 rcases Nat.eq_zero_or_pos c with h0 | h0
 ·rw[h0] at hv;omega
 ·have:4294967296^xs.length≤c*4294967296^xs.length:=Nat.le_mul_of_pos_left _ h0
  omega)
/-! ### shifts -/
theorem zyu (B Y:Nat):∀ (n:Nat) (rs:List Nat),rs.length=n→(∀ j,j<n→rs[j]?.getD 0=Y/B^j%B)→vl B rs=Y%B^n:=by(
 intro n
 induction n with
 | zero =>
  intro rs h _
  have:rs=[]:=List.length_eq_zero_iff.1 h
  subst this;simp[vl,Nat.mod_one]
 | succ n ih =>
  intro rs h hd
  have e:=qz B rs n (by omega)
  rw[List.take_of_length_le (by omega)] at e
  rw[e,ih (rs.take n) (by rw[List.length_take];omega) (fun j hj=>by rw[List.getElem?_take_of_lt hj];exact hd j (by omega)),hd n (by omega),Nat.pow_succ,Nat.mod_mul,Nat.mul_comm (Y/B^n%B)])
end Go.Proofs.YtagmkkiagjmimaaGreatDoor
