/- Two products compared, as the Go text of -/
import Derived.Test.YtjlfllhedceigaaGreatDoorRPh
namespace Go.Proofs.YtjlfllhedceigaaGreatDoor
set_option linter.unusedVariables false
open Go.Proofs.Tryz
open Go.RowKit
set_option maxHeartbeats 8000000
set_option maxRecDepth 100000
theorem zbk {x y:Nat} (h:y<x):zn x y=1:=by unfold zn;rw[if_neg (by omega),if_neg (by omega)]
theorem zim (va vb vc vd:Value) (A B C D:Nat) (w:World) (ha:Sl .u64 w va (wd 18446744073709551616 A)) (hb:Sl .u64 w vb (wd 18446744073709551616 B)) (hc:Sl .u64 w vc (wd 18446744073709551616 C)) (hd:Sl .u64 w vd (wd 18446744073709551616 D)) (hla:(wd 18446744073709551616 A).length<33554432) (hlb:(wd 18446744073709551616 B).length<33554432) (hlc:(wd 18446744073709551616 C).length<33554432) (hld:(wd 18446744073709551616 D).length<33554432) (r:Int) (hr:Hid (r=zn (A*B) (C*D))) :
   Calls prog 190 #[va,vb,vc,vd] w fun e w'=>e=.returned (.int .i64 r)∧But [] w w':=by(
 have wm:∀ X Y:Nat,(wd 18446744073709551616 X).length<33554432→(wd 18446744073709551616 Y).length<33554432→(wd 18446744073709551616 (X*Y)).length<67108864:=fun X Y h1 h2=>by
  have:=xg X Y;omega
 have M1:Hid (∀ W,But [] w W→Calls prog 177 #[va,vb] W fun e w'=>∃ v',e=.returned v'∧Sl .u64 w' v' (wd 18446744073709551616 (A*B))∧But [] W w'∧zrk W.heap.size v' va vb A B):=fun W hB=>mo va vb A B W (ha.ah hB) (hb.ah hB) (by omega)
 have M2:Hid (∀ W,But [] w W→Calls prog 177 #[vc,vd] W fun e w'=>∃ v',e=.returned v'∧Sl .u64 w' v' (wd 18446744073709551616 (C*D))∧But [] W w'∧zrk W.heap.size v' vc vd C D):=fun W hB=>mo vc vd C D W (hc.ah hB) (hd.ah hB) (by omega)
 have CM:Hid (∀ W v1 v2,Sl .u64 W v1 (wd 18446744073709551616 (A*B))→Sl .u64 W v2 (wd 18446744073709551616 (C*D))→Calls prog 200 #[v1,v2] W fun e w'=>e=.returned (.int .i64 r)∧∃ q,w'=W.drewN q):=fun W v1 v2 h1 h2=>by
  rw[ae hr]
  have l1:=wm A B hla hlb
  have l2:=wm C D hlc hld
  exact wz v1 v2 _ _ W h1 h2 (by omega) (by omega)
 have zl:∀ X:Nat,((wd 18446744073709551616 X).length=0↔X=0):=fun X=>zi (by omega) X
 have LP1:Hid (∀ p K,0<A→0<B→Hid (p=zav A B)→Hid (K=(sj A B:Int)-126)→Calls prog 246 #[va,vb] w fun e w'=>e=.returned (.tuple #[.int .u64 (p:Int),.int .i64 K])∧w'=w):=fun p K h1 h2 h3 h4=>zaj va vb A B h1 h2 w ha hb (by omega) (by omega) p K h3 h4
 have LP2:Hid (∀ p K,0<C→0<D→Hid (p=zav C D)→Hid (K=(sj C D:Int)-126)→Calls prog 246 #[vc,vd] w fun e w'=>e=.returned (.tuple #[.int .u64 (p:Int),.int .i64 K])∧w'=w):=fun p K h1 h2 h3 h4=>zaj vc vd C D h1 h2 w hc hd (by omega) (by omega) p K h3 h4
 have ZA:=zl A
 have ZB:=zl B
 have ZC:=zl C
 have ZD:=zl D
 have kl1:=zqf A B _ hla hlb
 have kl2:=zqf C D _ hlc hld
 obtain⟨aa,ca,rfl,-,-⟩:=ha
 obtain⟨ab,cb,rfl,-,-⟩:=hb
 obtain⟨ac,cc,rfl,-,-⟩:=hc
 obtain⟨ad,cd,rfl,-,-⟩:=hd
 clear zl wm
 generalize (wd 18446744073709551616 A).length=la at *
 generalize (wd 18446744073709551616 B).length=lb at *
 generalize (wd 18446744073709551616 C).length=lc at *
 generalize (wd 18446744073709551616 D).length=ld at *
 by_cases h0:la=0∨lb=0∨lc=0∨ld=0
 ·(
 clear LP1 LP2 kl1 kl2 ZA ZB ZC ZD hr
 by_cases z1:la=0
 ·(
 have q1:((la:Int)==0)=true:=beq_iff_eq.2 (by omega)
 clear h0 z1
 go_enter func190,ntmps190
 go_wp2_with fail
 refine (ae M1 _ (But.refl _ _)).mono ?_
 rintro e w1 ⟨v1,rfl,hv1,hb1,-⟩
 have H1:=af hv1
 have B1:=af hb1
 clear hv1 hb1
 go_wp2_with fail
 refine (ae M2 _ (ae B1)).mono ?_
 rintro e w2 ⟨v2,rfl,hv2,hb2,-⟩
 have H2:=af hv2
 have H1':=af ((ae H1).ah hb2)
 have B2:Hid (But [] w w2):=(ae B1).trans' hb2
 clear hv2 hb2 H1
 go_wp2_with fail
 refine (ae CM _ _ _ (ae H1') (ae H2)).mono ?_
 rintro e w3 ⟨rfl,q,rfl⟩
 go_wp2
 go_ret
 exact⟨rfl,(ae B2).drewN q⟩)
 ·(
 have q1:((la:Int)==0)=false:=beq_eq_false_iff_ne.2 (by omega)
 by_cases z2:lb=0
 ·(
 have q2:((lb:Int)==0)=true:=beq_iff_eq.2 (by omega)
 clear h0 z2
 go_enter func190,ntmps190
 go_wp2_with fail
 refine (ae M1 _ (But.refl _ _)).mono ?_
 rintro e w1 ⟨v1,rfl,hv1,hb1,-⟩
 have H1:=af hv1
 have B1:=af hb1
 clear hv1 hb1
 go_wp2_with fail
 refine (ae M2 _ (ae B1)).mono ?_
 rintro e w2 ⟨v2,rfl,hv2,hb2,-⟩
 have H2:=af hv2
 have H1':=af ((ae H1).ah hb2)
 have B2:Hid (But [] w w2):=(ae B1).trans' hb2
 clear hv2 hb2 H1
 go_wp2_with fail
 refine (ae CM _ _ _ (ae H1') (ae H2)).mono ?_
 rintro e w3 ⟨rfl,q,rfl⟩
 go_wp2
 go_ret
 exact⟨rfl,(ae B2).drewN q⟩)
 ·(
 have q2:((lb:Int)==0)=false:=beq_eq_false_iff_ne.2 (by omega)
 by_cases z3:lc=0
 ·(
 have q3:((lc:Int)==0)=true:=beq_iff_eq.2 (by omega)
 clear h0 z3
 go_enter func190,ntmps190
 go_wp2_with fail
 refine (ae M1 _ (But.refl _ _)).mono ?_
 rintro e w1 ⟨v1,rfl,hv1,hb1,-⟩
 have H1:=af hv1
 have B1:=af hb1
 clear hv1 hb1
 go_wp2_with fail
 refine (ae M2 _ (ae B1)).mono ?_
 rintro e w2 ⟨v2,rfl,hv2,hb2,-⟩
 have H2:=af hv2
 have H1':=af ((ae H1).ah hb2)
 have B2:Hid (But [] w w2):=(ae B1).trans' hb2
 clear hv2 hb2 H1
 go_wp2_with fail
 refine (ae CM _ _ _ (ae H1') (ae H2)).mono ?_
 rintro e w3 ⟨rfl,q,rfl⟩
 go_wp2
 go_ret
 exact⟨rfl,(ae B2).drewN q⟩)
 ·(
 have q3:((lc:Int)==0)=false:=beq_eq_false_iff_ne.2 (by omega)
 have q4:((ld:Int)==0)=true:=beq_iff_eq.2 (by omega)
 clear h0
 go_enter func190,ntmps190
 go_wp2_with fail
 refine (ae M1 _ (But.refl _ _)).mono ?_
 rintro e w1 ⟨v1,rfl,hv1,hb1,-⟩
 have H1:=af hv1
 have B1:=af hb1
 clear hv1 hb1
 go_wp2_with fail
 refine (ae M2 _ (ae B1)).mono ?_
 rintro e w2 ⟨v2,rfl,hv2,hb2,-⟩
 have H2:=af hv2
 have H1':=af ((ae H1).ah hb2)
 have B2:Hid (But [] w w2):=(ae B1).trans' hb2
 clear hv2 hb2 H1
 go_wp2_with fail
 refine (ae CM _ _ _ (ae H1') (ae H2)).mono ?_
 rintro e w3 ⟨rfl,q,rfl⟩
 go_wp2
 go_ret
 exact⟨rfl,(ae B2).drewN q⟩))))
 ·(
 have hA:0<A:=by omega
 have hB:0<B:=by omega
 have hC:0<C:=by omega
 have hD:0<D:=by omega
 have P1:=zui A B hA hB
 have P2:=zui C D hC hD
 have x1:=P1.hi
 have x2:=P2.hi
 have FAR1:=af (fun h=>zmz P1 P2 h)
 have FAR2:=af (fun h=>zmz P2 P1 h)
 have NEAR1:Hid (sj A B=sj C D→zav C D+8≤zav A B→C*D<A*B):=fun e h=>zky P1 (e ▸ P2) h
 have NEAR2:Hid (sj A B=sj C D→zav A B+8≤zav C D→A*B<C*D):=fun e h=>zky P2 (e ▸ P1) h
 have L1:=af (ae LP1 (zav A B) ((sj A B:Int)-126) hA hB rfl rfl)
 have L2:=af (ae LP2 (zav C D) ((sj C D:Int)-126) hC hD rfl rfl)
 have nz1:((la:Int)==0)=false:=beq_eq_false_iff_ne.2 (by omega)
 have nz2:((lb:Int)==0)=false:=beq_eq_false_iff_ne.2 (by omega)
 have nz3:((lc:Int)==0)=false:=beq_eq_false_iff_ne.2 (by omega)
 have nz4:((ld:Int)==0)=false:=beq_eq_false_iff_ne.2 (by omega)
 clear LP1 LP2 P1 P2 ZA ZB ZC ZD
 generalize zav A B=x at *
 generalize zav C D=y at *
 generalize sj A B=n at *
 generalize sj C D=m at *
 obtain⟨N,hN⟩:∃ N,N=(n:Int)-126:=⟨_,rfl⟩
 obtain⟨M,hM⟩:∃ M,M=(m:Int)-126:=⟨_,rfl⟩
 rw[← hN] at L1
 rw[← hM] at L2
 have F1:Hid (M+1<N→C*D<A*B):=fun h=>ae FAR1 (by omega)
 have F2:Hid (N+1<M→A*B<C*D):=fun h=>ae FAR2 (by omega)
 have G1:Hid (N=M→y+8≤x→C*D<A*B):=fun h h2=>ae NEAR1 (by omega) h2
 have G2:Hid (N=M→x+8≤y→A*B<C*D):=fun h h2=>ae NEAR2 (by omega) h2
 have n1:-126≤N:=by omega
 have n2:N≤4294967424:=by omega
 have m1:-126≤M:=by omega
 have m2:M≤4294967424:=by omega
 clear FAR1 FAR2 NEAR1 NEAR2 hN hM kl1 kl2 h0
 by_cases c1:M+1<N
 ·(
 have ER:Hid (r=1):=by show _=_;rw[ae hr,zbk (ae F1 c1)]
 clear hr F1 F2 G1 G2
 have d1:decide (M+1<N)=true:=decide_eq_true c1
 go_enter func190,ntmps190
 go_wp2_with fail
 refine (ae L1).mono ?_
 rintro e w1 ⟨rfl,hw⟩
 obtain rfl:=hw.symm
 clear hw
 go_wp2_with fail
 refine (ae L2).mono ?_
 rintro e w1 ⟨rfl,hw⟩
 obtain rfl:=hw.symm
 clear hw
 go_wp2
 go_ret
 exact⟨by rw[ae ER];rfl,But.refl _ _⟩)
 ·(
 have d1:decide (M+1<N)=false:=decide_eq_false c1
 by_cases c2:N=M
 ·(
 have d2:(N==M)=true:=beq_iff_eq.2 c2
 have c3:¬ (N+1<M):=by omega
 have d3:decide (N+1<M)=false:=decide_eq_false c3
 rcases Nat.lt_trichotomy x y with hxy | hxy | hxy
 ·(
 have d4:decide ((y:Int)<(x:Int))=false:=decide_eq_false (by omega)
 have d5:decide ((x:Int)<(y:Int))=true:=decide_eq_true (by omega)
 have d7:IntKind.u64.wrap ((y:Int)-(x:Int))=(y:Int)-(x:Int):=by rw[IntKind.wrap_u64];omega
 by_cases c4:x+8≤y
 ·(
 have ER:Hid (r=-1):=by show _=_;rw[ae hr,uj (ae G2 c2 c4)]
 clear hr F1 F2 G1 G2
 have d6:decide (8≤(y:Int)-(x:Int))=true:=decide_eq_true (by omega)
 go_enter func190,ntmps190
 go_wp2_with fail
 refine (ae L1).mono ?_
 rintro e w1 ⟨rfl,hw⟩
 obtain rfl:=hw.symm
 clear hw
 go_wp2_with fail
 refine (ae L2).mono ?_
 rintro e w1 ⟨rfl,hw⟩
 obtain rfl:=hw.symm
 clear hw
 go_wp2
 go_ret
 exact⟨by rw[ae ER];rfl,But.refl _ _⟩)
 ·(
 have d6:decide (8≤(y:Int)-(x:Int))=false:=decide_eq_false (by omega)
 clear hr F1 F2 G1 G2
 go_enter func190,ntmps190
 go_wp2_with fail
 refine (ae L1).mono ?_
 rintro e w1 ⟨rfl,hw⟩
 obtain rfl:=hw.symm
 clear hw
 go_wp2_with fail
 refine (ae L2).mono ?_
 rintro e w1 ⟨rfl,hw⟩
 obtain rfl:=hw.symm
 clear hw
 go_wp2_with fail
 refine (ae M1 _ (But.refl _ _)).mono ?_
 rintro e w1 ⟨v1,rfl,hv1,hb1,-⟩
 have H1:=af hv1
 have B1:=af hb1
 clear hv1 hb1
 go_wp2_with fail
 refine (ae M2 _ (ae B1)).mono ?_
 rintro e w2 ⟨v2,rfl,hv2,hb2,-⟩
 have H2:=af hv2
 have H1':=af ((ae H1).ah hb2)
 have B2:Hid (But [] w w2):=(ae B1).trans' hb2
 clear hv2 hb2 H1
 go_wp2_with fail
 refine (ae CM _ _ _ (ae H1') (ae H2)).mono ?_
 rintro e w3 ⟨rfl,q,rfl⟩
 go_wp2
 go_ret
 exact⟨rfl,(ae B2).drewN q⟩))
 ·(
 have d4:decide ((y:Int)<(x:Int))=false:=decide_eq_false (by omega)
 have d5:decide ((x:Int)<(y:Int))=false:=decide_eq_false (by omega)
 clear hr F1 F2 G1 G2
 go_enter func190,ntmps190
 go_wp2_with fail
 refine (ae L1).mono ?_
 rintro e w1 ⟨rfl,hw⟩
 obtain rfl:=hw.symm
 clear hw
 go_wp2_with fail
 refine (ae L2).mono ?_
 rintro e w1 ⟨rfl,hw⟩
 obtain rfl:=hw.symm
 clear hw
 go_wp2_with fail
 refine (ae M1 _ (But.refl _ _)).mono ?_
 rintro e w1 ⟨v1,rfl,hv1,hb1,-⟩
 have H1:=af hv1
 have B1:=af hb1
 clear hv1 hb1
 go_wp2_with fail
 refine (ae M2 _ (ae B1)).mono ?_
 rintro e w2 ⟨v2,rfl,hv2,hb2,-⟩
 have H2:=af hv2
 have H1':=af ((ae H1).ah hb2)
 have B2:Hid (But [] w w2):=(ae B1).trans' hb2
 clear hv2 hb2 H1
 go_wp2_with fail
 refine (ae CM _ _ _ (ae H1') (ae H2)).mono ?_
 rintro e w3 ⟨rfl,q,rfl⟩
 go_wp2
 go_ret
 exact⟨rfl,(ae B2).drewN q⟩)
 ·(
 have d4:decide ((y:Int)<(x:Int))=true:=decide_eq_true (by omega)
 have d5:decide ((x:Int)<(y:Int))=false:=decide_eq_false (by omega)
 have d7:IntKind.u64.wrap ((x:Int)-(y:Int))=(x:Int)-(y:Int):=by rw[IntKind.wrap_u64];omega
 by_cases c4:y+8≤x
 ·(
 have ER:Hid (r=1):=by show _=_;rw[ae hr,zbk (ae G1 c2 c4)]
 clear hr F1 F2 G1 G2
 have d6:decide (8≤(x:Int)-(y:Int))=true:=decide_eq_true (by omega)
 go_enter func190,ntmps190
 go_wp2_with fail
 refine (ae L1).mono ?_
 rintro e w1 ⟨rfl,hw⟩
 obtain rfl:=hw.symm
 clear hw
 go_wp2_with fail
 refine (ae L2).mono ?_
 rintro e w1 ⟨rfl,hw⟩
 obtain rfl:=hw.symm
 clear hw
 go_wp2
 go_ret
 exact⟨by rw[ae ER];rfl,But.refl _ _⟩)
 ·(
 have d6:decide (8≤(x:Int)-(y:Int))=false:=decide_eq_false (by omega)
 clear hr F1 F2 G1 G2
 go_enter func190,ntmps190
 go_wp2_with fail
 refine (ae L1).mono ?_
 rintro e w1 ⟨rfl,hw⟩
 obtain rfl:=hw.symm
 clear hw
 go_wp2_with fail
 refine (ae L2).mono ?_
 rintro e w1 ⟨rfl,hw⟩
 obtain rfl:=hw.symm
 clear hw
 go_wp2_with fail
 refine (ae M1 _ (But.refl _ _)).mono ?_
 rintro e w1 ⟨v1,rfl,hv1,hb1,-⟩
 have H1:=af hv1
 have B1:=af hb1
 clear hv1 hb1
 go_wp2_with fail
 refine (ae M2 _ (ae B1)).mono ?_
 rintro e w2 ⟨v2,rfl,hv2,hb2,-⟩
 have H2:=af hv2
 have H1':=af ((ae H1).ah hb2)
 have B2:Hid (But [] w w2):=(ae B1).trans' hb2
 clear hv2 hb2 H1
 go_wp2_with fail
 refine (ae CM _ _ _ (ae H1') (ae H2)).mono ?_
 rintro e w3 ⟨rfl,q,rfl⟩
 go_wp2
 go_ret
 exact⟨rfl,(ae B2).drewN q⟩)))
 ·(
 have d2:(N==M)=false:=beq_eq_false_iff_ne.2 c2
 by_cases c3:N+1<M
 ·(
 have ER:Hid (r=-1):=by show _=_;rw[ae hr,uj (ae F2 c3)]
 clear hr F1 F2 G1 G2
 have d3:decide (N+1<M)=true:=decide_eq_true c3
 go_enter func190,ntmps190
 go_wp2_with fail
 refine (ae L1).mono ?_
 rintro e w1 ⟨rfl,hw⟩
 obtain rfl:=hw.symm
 clear hw
 go_wp2_with fail
 refine (ae L2).mono ?_
 rintro e w1 ⟨rfl,hw⟩
 obtain rfl:=hw.symm
 clear hw
 go_wp2
 go_ret
 exact⟨by rw[ae ER];rfl,But.refl _ _⟩)
 ·(
 have d3:decide (N+1<M)=false:=decide_eq_false c3
 clear hr F1 F2 G1 G2
 go_enter func190,ntmps190
 go_wp2_with fail
 refine (ae L1).mono ?_
 rintro e w1 ⟨rfl,hw⟩
 obtain rfl:=hw.symm
 clear hw
 go_wp2_with fail
 refine (ae L2).mono ?_
 rintro e w1 ⟨rfl,hw⟩
 obtain rfl:=hw.symm
 clear hw
 go_wp2_with fail
 refine (ae M1 _ (But.refl _ _)).mono ?_
 rintro e w1 ⟨v1,rfl,hv1,hb1,-⟩
 have H1:=af hv1
 have B1:=af hb1
 clear hv1 hb1
 go_wp2_with fail
 refine (ae M2 _ (ae B1)).mono ?_
 rintro e w2 ⟨v2,rfl,hv2,hb2,-⟩
 have H2:=af hv2
 have H1':=af ((ae H1).ah hb2)
 have B2:Hid (But [] w w2):=(ae B1).trans' hb2
 clear hv2 hb2 H1
 go_wp2_with fail
 refine (ae CM _ _ _ (ae H1') (ae H2)).mono ?_
 rintro e w3 ⟨rfl,q,rfl⟩
 go_wp2
 go_ret
 exact⟨rfl,(ae B2).drewN q⟩)))))
end Go.Proofs.YtjlfllhedceigaaGreatDoor
