/- The sum of two fractions of words, if wo -/
import Derived.Test.YtagmkkiagjmimaaGreatDoorRF3
namespace Go.Proofs.YtagmkkiagjmimaaGreatDoor
open Go.Proofs.Tryz
open Go.RowKit
set_option maxHeartbeats 8000000
set_option maxRecDepth 100000
theorem zpf (f g:Rat) (w:World) (hfp:f.num.natAbs < 18446744073709551616) (hfq:f.den < 18446744073709551616) (hgp:g.num.natAbs < 18446744073709551616) (hgq:g.den < 18446744073709551616) :
  Calls prog 174 #[.agg #[.bool (decide (f.num<0)),.int .u64 (f.num.natAbs:Int),.int .u64 ((f.den:Int)-1),.pointer none],.agg #[.bool (decide (g.num<0)),.int .u64 (g.num.natAbs:Int),.int .u64 ((g.den:Int)-1),.pointer none]] w fun e w'=>∃ (r:Bool) (x y:Int) (ok:Bool),e=.returned (.tuple #[.agg #[.bool r,.int .u64 x,.int .u64 y,.pointer none],.bool ok])∧(ok=true→am w' (.agg #[.bool r,.int .u64 x,.int .u64 y,.pointer none]) (f+g))∧But [] w w':=by(
have hb0:=den_pos f
have hd0:=den_pos g
obtain⟨k,hk⟩:∃ k,k=Nat.gcd f.den g.den:=⟨_,rfl⟩
have k0p:0<k:=by rw[hk];exact Nat.gcd_pos_of_pos_left _ hb0
have kB:k < 18446744073709551616:=Nat.lt_of_le_of_lt (by rw[hk];exact Nat.gcd_le_left _ hb0) hfq
have AL:=af (fun (r:Bool) (M m:Nat) (hm:m=Nat.gcd M k) (hN:f.num*(g.den/k:Nat)+g.num*(f.den/k:Nat)=sgn r M)=>zsv f g r M k m hk hm hN)
have nf:=zgb f
have ng:=zgb g
rw[nf,ng] at AL
have G1:=af (fun W=>jr f.den g.den W hfq hgq)
rw[← hk] at G1
have U1:=af (fun W=>mg (decide (f.num<0)) f.num.natAbs f.den hfq hb0 W)
have U2:=af (fun W=>mg (decide (g.num<0)) g.num.natAbs g.den hgq hd0 W)
have q3B:=di f.den k hfq
have q4B:=di g.den k hgq
obtain⟨lox,hix,hlox,hhix,e1⟩:=bt f.num.natAbs (g.den/k) 0 hfp q4B (by omega)
obtain⟨loy,hiy,hloy,hhiy,e2⟩:=bt g.num.natAbs (f.den/k) 0 hgp q3B (by omega)
rw[Nat.add_zero] at e1 e2
have M1:=af (fun W=>yo f.num.natAbs (g.den/k) hix lox hfp q4B hlox e1 W)
have M2:=af (fun W=>yo g.num.natAbs (f.den/k) hiy loy hgp q3B hloy e2 W)
have SM1:=af e1
have SM2:=af e2
have DP:=af (fun (m:Nat) (hm:m=k→True)=>trivial)
have D3:(f.den:Int)/(k:Int)=((f.den/k:Nat):Int):=(Int.natCast_ediv _ _).symm
have D4:(g.den:Int)/(k:Int)=((g.den/k:Nat):Int):=(Int.natCast_ediv _ _).symm
have DM:=af (fun (m:Nat)=>(Int.natCast_ediv g.den m).symm)
have FP:=af (den_pos (f+g))
clear hk e1 e2 nf ng DP
generalize g.den/k=q4 at *
generalize f.den/k=q3 at *
generalize decide (f.num<0)=s1 at *
generalize decide (g.num<0)=s2 at *
generalize f.num.natAbs=a at *
generalize g.num.natAbs=c at *
generalize hfd:f.den=b at *
generalize hgd:g.den=d at *
clear hfd hgd
have T3:(b:Int).tdiv (k:Int)=(q3:Int):=by rw[Int.tdiv_eq_ediv_of_nonneg (by omega)];exact D3
have T4:(d:Int).tdiv (k:Int)=(q4:Int):=by rw[Int.tdiv_eq_ediv_of_nonneg (by omega)];exact D4
have W3:IntKind.u64.wrap (q3:Int)=(q3:Int):=by rw[IntKind.wrap_u64];omega
have W4:IntKind.u64.wrap (q4:Int)=(q4:Int):=by rw[IntKind.wrap_u64];omega
have zk:((k:Int)==0)=false:=beq_eq_false_iff_ne.2 (by omega)
go_enter func174,ntmps174
go_wp2
obtain⟨W,hW⟩:∃ W,W=(((w.alloc (.cells #[.bool s1,.int .u64 (a:Int),.int .u64 ((b:Int)-1),.pointer none] 27)).alloc (.cells #[.bool s2,.int .u64 (c:Int),.int .u64 ((d:Int)-1),.pointer none] 27)).alloc (.cells #[.bool false,.int .u64 0,.int .u64 0,.pointer none] 27)):=⟨_,rfl⟩
obtain⟨tA,tB,tC,fz,hB⟩:=zbu w W _ _ _ _ hW
have x0:=tA 0
have x1:=tA 1
have x2:=tA 2
have x3:=tA 3
have y0:=tB 0
have y1:=tB 1
have y2:=tB 2
have y3:=tB 3
have r0:=tC 0
have r1:=tC 1
have r2:=tC 2
have r3:=tC 3
simp only[List.getElem?_toArray,List.getElem?_cons_zero,List.getElem?_cons_succ] at x0 x1 x2 x3 y0 y1 y2 y3 r0 r1 r2 r3
clear tA tB tC
rw[← hW]
clear hW
obtain⟨ga,hga⟩:∃ ga,ga=w.heap.size:=⟨_,rfl⟩
obtain⟨gb,hgb⟩:∃ gb,gb=w.heap.size+1:=⟨_,rfl⟩
obtain⟨gr,hgr⟩:∃ gr,gr=w.heap.size+2:=⟨_,rfl⟩
rw[← hga] at x0 x1 x2 x3
rw[← hgb] at y0 y1 y2 y3
rw[← hgr] at r0 r1 r2 r3 fz
rw[← hgr,← hgb,← hga]
have HGR:Hid (w.heap.size≤gr):=by show _≤_;omega
clear hga hgb hgr
have HB:=af hB
clear hB
have hrl:gr<W.heap.size:=ai r0
go_region_held (fun w'=>w'.cell? ⟨ga,0,none⟩=some (.bool s1)∧w'.cell? ⟨ga,1,none⟩=some (.int .u64 (a:Int))∧w'.cell? ⟨ga,2,none⟩=some (.int .u64 ((b:Int)-1))∧w'.cell? ⟨ga,3,none⟩=some (.pointer none)∧w'.cell? ⟨gb,0,none⟩=some (.bool s2)∧w'.cell? ⟨gb,1,none⟩=some (.int .u64 (c:Int))∧w'.cell? ⟨gb,2,none⟩=some (.int .u64 ((d:Int)-1))∧w'.cell? ⟨gb,3,none⟩=some (.pointer none)) (go_keep) (first
 | (go_at_call 140;have hchk:=B1;clear hchk;refine (ae U2 _).mono ?_;rintro e w2 ⟨rfl,hb2⟩;have B2:But [] W w2:=B1.trans' hb2;have m0:=B2.ag x0 (by simp);have m1:=B2.ag x1 (by simp);have m2:=B2.ag x2 (by simp);have m3:=B2.ag x3 (by simp);have n0:=B2.ag y0 (by simp);have n1:=B2.ag y1 (by simp);have n2:=B2.ag y2 (by simp);have n3:=B2.ag y3 (by simp))
 | (go_at_call 140;refine (ae U1 _).mono ?_;rintro e w1 ⟨rfl,hb1⟩;have B1:But [] W w1:=(by first | exact hb1 | exact (But.refl _ _).drew.trans' hb1);have k0:=B1.ag x0 (by simp);have k1':=B1.ag x1 (by simp);have k2':=B1.ag x2 (by simp);have k3:=B1.ag x3 (by simp);have l0:=B1.ag y0 (by simp);have l1:=B1.ag y1 (by simp);have l2:=B1.ag y2 (by simp);have l3:=B1.ag y3 (by simp)))
have t0:=B2.ag r0 (by simp)
have t1:=B2.ag r1 (by simp)
have t2:=B2.ag r2 (by simp)
have t3:=B2.ag r3 (by simp)
have tfw2:∀ j,w2.frozen? ⟨gr,j,none⟩=false:=fun j=>(B2.frozen (p:=⟨gr,j,none⟩) hrl (by simp)).trans (fz j)
have HBw2:Hid (But [] w w2):=(ae HB).trans' B2
clear B1 B2 hb1 hb2 k0 k1' k2' k3 l0 l1 l2 l3 m2 m3 n2 n3 x0 x1 x2 x3 y0 y1 y2 y3 r0 r1 r2 r3 fz hrl HB U1 U2
go_wp2_with fail
refine (ae G1 _).mono ?_
rintro e w3 ⟨rfl,nq0,hw3⟩
obtain⟨V0,hV0⟩:∃ V0,V0=w3:=⟨_,rfl⟩
have hcV0:∀ p,V0.cell? p=w2.cell? p:=fun p=>by rw[hV0,hw3];rfl
have hfV0:∀ p,V0.frozen? p=w2.frozen? p:=fun p=>by rw[hV0,hw3];rfl
have HBV0:Hid (But [] w V0):=by show But _ _ _;rw[hV0,hw3];exact (ae HBw2).drewN nq0
rw[← hcV0] at m0 n0 m1 n1 t0 t1 t2 t3
have tfV0:∀ j,V0.frozen? ⟨gr,j,none⟩=false:=fun j=>(hfV0 _).trans (tfw2 j)
rw[← hV0]
clear hV0 hw3 hcV0 hfV0 tfw2
go_wp2
go_quiet ((go_at_call 178;exact Calls.quiet_of_same (ae M1 _)))
obtain⟨V1,hV1⟩:∃ V1,V1=V0.drewN nq:=⟨_,rfl⟩
rw[← hV1]
have hcV1:∀ p,V1.cell? p=V0.cell? p:=fun p=>by rw[hV1];rfl
have hfV1:∀ p,V1.frozen? p=V0.frozen? p:=fun p=>by rw[hV1];rfl
have HBV1:Hid (But [] w V1):=by show But _ _ _;rw[hV1];exact (ae HBV0).drewN nq
rw[← hcV1] at m0 n0 m1 n1 t0 t1 t2 t3
have tfV1:∀ j,V1.frozen? ⟨gr,j,none⟩=false:=fun j=>(hfV1 _).trans (tfV0 j)
clear hV1 hcV1 hfV1 tfV0
go_wp2
go_quiet ((go_at_call 178;exact Calls.quiet_of_same (ae M2 _)))
obtain⟨V2,hV2⟩:∃ V2,V2=V1.drewN nq:=⟨_,rfl⟩
rw[← hV2]
have hcV2:∀ p,V2.cell? p=V1.cell? p:=fun p=>by rw[hV2];rfl
have hfV2:∀ p,V2.frozen? p=V1.frozen? p:=fun p=>by rw[hV2];rfl
have HBV2:Hid (But [] w V2):=by show But _ _ _;rw[hV2];exact (ae HBV1).drewN nq
rw[← hcV2] at m0 n0 m1 n1 t0 t1 t2 t3
have tfV2:∀ j,V2.frozen? ⟨gr,j,none⟩=false:=fun j=>(hfV2 _).trans (tfV1 j)
clear hV2 hcV2 hfV2 tfV1
by_cases hss:s1=s2
·(
have hsb:(s1==s2)=true:=by simp[hss]
obtain⟨ov,be,hov,hbe,he⟩:=l6 lox loy 0 hlox hloy (by omega)
rw[Nat.add_zero] at he
have AD:=fun W=>zoc lox loy hlox hloy ov be he hov W
have HE:=af he
have HSS:=af hss
clear he hss
have GM:=af (fun W=>jr k ov W kB hov)
obtain⟨m,hm⟩:∃ m,m=Nat.gcd k ov:=⟨_,rfl⟩
rw[← hm] at GM
have m0p:0<m:=by rw[hm];exact Nat.gcd_pos_of_pos_left _ k0p
have FN:=af (ae AL s1 ov m (by rw[hm,Nat.gcd_comm]))
clear hm
have q5B:=di d m hgq
have q6B:=di ov m hov
have T5:(d:Int).tdiv (m:Int)=((d/m:Nat):Int):=by rw[Int.tdiv_eq_ediv_of_nonneg (by omega)];exact (Int.natCast_ediv _ _).symm
have T6:(ov:Int).tdiv (m:Int)=((ov/m:Nat):Int):=by rw[Int.tdiv_eq_ediv_of_nonneg (by omega)];exact (Int.natCast_ediv _ _).symm
generalize d/m=q5 at *
generalize ov/m=q6 at *
have W5:IntKind.u64.wrap (q5:Int)=(q5:Int):=by rw[IntKind.wrap_u64];omega
have W6:IntKind.u64.wrap (q6:Int)=(q6:Int):=by rw[IntKind.wrap_u64];omega
have zm:((m:Int)==0)=false:=beq_eq_false_iff_ne.2 (by omega)
obtain⟨lou,hiu,hlou,hhiu,e3⟩:=bt q3 q5 0 q3B q5B (by omega)
rw[Nat.add_zero] at e3
have M3:=af (fun W=>yo q3 q5 hiu lou q3B q5B hlou e3 W)
obtain⟨z1,hz1⟩:∃ z1,z1=hix ||| hiy:=⟨_,rfl⟩
have EO1:bits .or .u64 (hix:Int) (hiy:Int)=(z1:Int):=by rw[bits_or_u64_nat _ _ hhix hhiy,hz1]
have z1B:z1 < 18446744073709551616:=by rw[hz1];exact Nat.or_lt_two_pow (n:=64) hhix hhiy
obtain⟨z2,hz2⟩:∃ z2,z2=z1 ||| be:=⟨_,rfl⟩
have EO2:bits .or .u64 (z1:Int) ((be:Int))=(z2:Int):=by rw[bits_or_u64_nat _ _ z1B (by omega),hz2]
have z2B:z2 < 18446744073709551616:=by rw[hz2];exact Nat.or_lt_two_pow (n:=64) z1B (by omega)
obtain⟨z,hz⟩:∃ z,z=z2 ||| hiu:=⟨_,rfl⟩
have EO3:bits .or .u64 (z2:Int) (hiu:Int)=(z:Int):=by rw[bits_or_u64_nat _ _ z2B hhiu,hz]
obtain⟨r,hr⟩:∃ r,r=(s1 && decide (q6≠0)):=⟨_,rfl⟩
obtain⟨x,hx⟩:∃ x,IntKind.u64.wrap ((lou:Int)-1)=x:=⟨_,rfl⟩
have FIN:Hid (∀ (W:World),((z:Int)==0)=true→am W (.agg #[.bool r,.int .u64 (q6:Int),.int .u64 x,.pointer none]) (f+g)):=by
 intro W hz0
 have hz9:z=0:=by have:=beq_iff_eq.1 hz0;omega
 rw[hz,or_zero,hz2,or_zero,hz1,or_zero] at hz9
 obtain⟨⟨⟨h1,h2⟩,h3⟩,h4⟩:=hz9
 have e1:=ae SM1
 have e2:=ae SM2
 rw[h1,Nat.mul_zero,Nat.add_zero] at e1
 rw[h2,Nat.mul_zero,Nat.add_zero] at e2
 rw[h4,Nat.mul_zero,Nat.add_zero] at e3
 have e1i:(a:Int)*q4=lox:=by rw[← e1];simp
 have e2i:(c:Int)*q3=loy:=by rw[← e2];simp
 obtain⟨hn,hd⟩:=ae FN (by
  have he:=ae HE
  rw[h3,Nat.mul_zero,Nat.add_zero] at he
  rw[← ae HSS]
  rw[← zak,← zak,e1,e2,← he]
  cases s1 <;> simp[sgn] <;> omega)
 rw[e3] at hd
 have hlp:0<lou:=by rw[← hd];exact ae FP
 have hx2:x=(lou:Int)-1:=by rw[← hx,IntKind.wrap_u64];omega
 left
 have habs:(f+g).num.natAbs=q6:=by rw[hn,jk]
 rw[habs,hd]
 refine⟨q6B,hlou,?_⟩
 rw[hr,hx2,hn,zdy]
have OS:=af (fun W=>zcs s1 q6 lou r hr x hx W)
clear hz1 hz2 hz hr hx e3 FN AL FP SM1 SM2
go_wp2_with fail
refine (ae GM _).mono ?_
rintro e w5 ⟨rfl,nq5,hw5⟩
obtain⟨V3,hV3⟩:∃ V3,V3=w5:=⟨_,rfl⟩
have hcV3:∀ p,V3.cell? p=V2.cell? p:=fun p=>by rw[hV3,hw5];rfl
have hfV3:∀ p,V3.frozen? p=V2.frozen? p:=fun p=>by rw[hV3,hw5];rfl
have HBV3:Hid (But [] w V3):=by show But _ _ _;rw[hV3,hw5];exact (ae HBV2).drewN nq5
rw[← hcV3] at t0 t1 t2 t3
have tfV3:∀ j,V3.frozen? ⟨gr,j,none⟩=false:=fun j=>(hfV3 _).trans (tfV2 j)
rw[← hV3]
clear hV3 hw5 hcV3 hfV3 tfV2 m0 n0 m1 n1
go_wp2
go_quiet ((go_at_call 178;exact Calls.quiet_of_same (ae M3 _)))
obtain⟨V4,hV4⟩:∃ V4,V4=V3.drewN nq:=⟨_,rfl⟩
rw[← hV4]
have hcV4:∀ p,V4.cell? p=V3.cell? p:=fun p=>by rw[hV4];rfl
have hfV4:∀ p,V4.frozen? p=V3.frozen? p:=fun p=>by rw[hV4];rfl
have HBV4:Hid (But [] w V4):=by show But _ _ _;rw[hV4];exact (ae HBV3).drewN nq
rw[← hcV4] at t0 t1 t2 t3
have tfV4:∀ j,V4.frozen? ⟨gr,j,none⟩=false:=fun j=>(hfV4 _).trans (tfV3 j)
clear hV4 hcV4 hfV4 tfV3
go_wp2_with fail
refine (ae OS _).mono ?_
rintro e w4 ⟨rfl,hb4⟩
have u0:=hb4.ag t0 (by simp)
have u1:=hb4.ag t1 (by simp)
have u2:=hb4.ag t2 (by simp)
have u3:=hb4.ag t3 (by simp)
have hgl:gr<V4.heap.size:=ai t0
have uf:∀ j,w4.frozen? ⟨gr,j,none⟩=false:=fun j=>(hb4.frozen (p:=⟨gr,j,none⟩) hgl (by simp)).trans (tfV4 j)
have HB4:Hid (But [] w w4):=(ae HBV4).trans' hb4
clear hb4 t0 t1 t2 t3 tfV4 hgl
obtain⟨ok,hok⟩:∃ ok,((z:Int)==0)=ok:=⟨_,rfl⟩
have FIN2:Hid (∀ W,ok=true→am W (.agg #[.bool r,.int .u64 (q6:Int),.int .u64 x,.pointer none]) (f+g)):=fun W h1=>ae FIN W (by rw[hok];exact h1)
clear FIN
go_wp2
have hBf:=((((ae HB4).setCell (p:=⟨gr,0,none⟩) (.inr (ae HGR)) (.bool r)).setCell (p:=⟨gr,1,none⟩) (.inr (ae HGR)) (.int .u64 (q6:Int))).setCell (p:=⟨gr,2,none⟩) (.inr (ae HGR)) (.int .u64 x)).setCell (p:=⟨gr,3,none⟩) (.inr (ae HGR)) (.pointer none)
exact bodyPost_ret (v:=.tuple #[.agg #[.bool r,.int .u64 (q6:Int),.int .u64 x,.pointer none],.bool ok]) (by simp[results,results174,go_sem,u0,u1,u2,u3]) rfl ⟨r,(q6:Int),x,ok,rfl,fun h1=>ae FIN2 _ h1,hBf⟩)
·(
have hsb:(s1==s2)=false:=by simp[hss]
have HSS:=af hss
clear hss
by_cases hle:loy≤lox
·(
obtain⟨ov,hov1⟩:∃ ov,ov=lox-loy:=⟨_,rfl⟩
have hov:ov < 18446744073709551616:=by omega
have HE:Hid (lox=ov+loy):=by show _=_;omega
have WS:IntKind.u64.wrap ((lox:Int)-(loy:Int))=(ov:Int):=by rw[IntKind.wrap_u64];omega
have hcp:(loy:Int)≤(lox:Int):=by omega
clear hov1 hle
have GM:=af (fun W=>jr k ov W kB hov)
obtain⟨m,hm⟩:∃ m,m=Nat.gcd k ov:=⟨_,rfl⟩
rw[← hm] at GM
have m0p:0<m:=by rw[hm];exact Nat.gcd_pos_of_pos_left _ k0p
have FN:=af (ae AL s1 ov m (by rw[hm,Nat.gcd_comm]))
clear hm
have q5B:=di d m hgq
have q6B:=di ov m hov
have T5:(d:Int).tdiv (m:Int)=((d/m:Nat):Int):=by rw[Int.tdiv_eq_ediv_of_nonneg (by omega)];exact (Int.natCast_ediv _ _).symm
have T6:(ov:Int).tdiv (m:Int)=((ov/m:Nat):Int):=by rw[Int.tdiv_eq_ediv_of_nonneg (by omega)];exact (Int.natCast_ediv _ _).symm
generalize d/m=q5 at *
generalize ov/m=q6 at *
have W5:IntKind.u64.wrap (q5:Int)=(q5:Int):=by rw[IntKind.wrap_u64];omega
have W6:IntKind.u64.wrap (q6:Int)=(q6:Int):=by rw[IntKind.wrap_u64];omega
have zm:((m:Int)==0)=false:=beq_eq_false_iff_ne.2 (by omega)
obtain⟨lou,hiu,hlou,hhiu,e3⟩:=bt q3 q5 0 q3B q5B (by omega)
rw[Nat.add_zero] at e3
have M3:=af (fun W=>yo q3 q5 hiu lou q3B q5B hlou e3 W)
obtain⟨z1,hz1⟩:∃ z1,z1=hix ||| hiy:=⟨_,rfl⟩
have EO1:bits .or .u64 (hix:Int) (hiy:Int)=(z1:Int):=by rw[bits_or_u64_nat _ _ hhix hhiy,hz1]
have z1B:z1 < 18446744073709551616:=by rw[hz1];exact Nat.or_lt_two_pow (n:=64) hhix hhiy
obtain⟨z2,hz2⟩:∃ z2,z2=z1 ||| 0:=⟨_,rfl⟩
have EO2:bits .or .u64 (z1:Int) ((0:Int))=(z2:Int):=by rw[show (0:Int)=((0:Nat):Int) from rfl,bits_or_u64_nat _ _ z1B (by omega),hz2]
have z2B:z2 < 18446744073709551616:=by rw[hz2];exact Nat.or_lt_two_pow (n:=64) z1B (by omega)
obtain⟨z,hz⟩:∃ z,z=z2 ||| hiu:=⟨_,rfl⟩
have EO3:bits .or .u64 (z2:Int) (hiu:Int)=(z:Int):=by rw[bits_or_u64_nat _ _ z2B hhiu,hz]
obtain⟨r,hr⟩:∃ r,r=(s1 && decide (q6≠0)):=⟨_,rfl⟩
obtain⟨x,hx⟩:∃ x,IntKind.u64.wrap ((lou:Int)-1)=x:=⟨_,rfl⟩
have FIN:Hid (∀ (W:World),((z:Int)==0)=true→am W (.agg #[.bool r,.int .u64 (q6:Int),.int .u64 x,.pointer none]) (f+g)):=by
 intro W hz0
 have hz9:z=0:=by have:=beq_iff_eq.1 hz0;omega
 rw[hz,or_zero,hz2,or_zero,hz1,or_zero] at hz9
 obtain⟨⟨⟨h1,h2⟩,h3⟩,h4⟩:=hz9
 have e1:=ae SM1
 have e2:=ae SM2
 rw[h1,Nat.mul_zero,Nat.add_zero] at e1
 rw[h2,Nat.mul_zero,Nat.add_zero] at e2
 rw[h4,Nat.mul_zero,Nat.add_zero] at e3
 have e1i:(a:Int)*q4=lox:=by rw[← e1];simp
 have e2i:(c:Int)*q3=loy:=by rw[← e2];simp
 obtain⟨hn,hd⟩:=ae FN (by
  have he:=ae HE
  have hss:=ae HSS
  rw[← zak,← zak,e1,e2]
  revert hss
  cases s1 <;> cases s2 <;> simp[sgn] <;> omega)
 rw[e3] at hd
 have hlp:0<lou:=by rw[← hd];exact ae FP
 have hx2:x=(lou:Int)-1:=by rw[← hx,IntKind.wrap_u64];omega
 left
 have habs:(f+g).num.natAbs=q6:=by rw[hn,jk]
 rw[habs,hd]
 refine⟨q6B,hlou,?_⟩
 rw[hr,hx2,hn,zdy]
have OS:=af (fun W=>zcs s1 q6 lou r hr x hx W)
clear hz1 hz2 hz hr hx e3 FN AL FP SM1 SM2
go_wp2_with fail
refine (ae GM _).mono ?_
rintro e w5 ⟨rfl,nq5,hw5⟩
obtain⟨V3,hV3⟩:∃ V3,V3=w5:=⟨_,rfl⟩
have hcV3:∀ p,V3.cell? p=V2.cell? p:=fun p=>by rw[hV3,hw5];rfl
have hfV3:∀ p,V3.frozen? p=V2.frozen? p:=fun p=>by rw[hV3,hw5];rfl
have HBV3:Hid (But [] w V3):=by show But _ _ _;rw[hV3,hw5];exact (ae HBV2).drewN nq5
rw[← hcV3] at t0 t1 t2 t3
have tfV3:∀ j,V3.frozen? ⟨gr,j,none⟩=false:=fun j=>(hfV3 _).trans (tfV2 j)
rw[← hV3]
clear hV3 hw5 hcV3 hfV3 tfV2 m0 n0 m1 n1
go_wp2
go_quiet ((go_at_call 178;exact Calls.quiet_of_same (ae M3 _)))
obtain⟨V4,hV4⟩:∃ V4,V4=V3.drewN nq:=⟨_,rfl⟩
rw[← hV4]
have hcV4:∀ p,V4.cell? p=V3.cell? p:=fun p=>by rw[hV4];rfl
have hfV4:∀ p,V4.frozen? p=V3.frozen? p:=fun p=>by rw[hV4];rfl
have HBV4:Hid (But [] w V4):=by show But _ _ _;rw[hV4];exact (ae HBV3).drewN nq
rw[← hcV4] at t0 t1 t2 t3
have tfV4:∀ j,V4.frozen? ⟨gr,j,none⟩=false:=fun j=>(hfV4 _).trans (tfV3 j)
clear hV4 hcV4 hfV4 tfV3
go_wp2_with fail
refine (ae OS _).mono ?_
rintro e w4 ⟨rfl,hb4⟩
have u0:=hb4.ag t0 (by simp)
have u1:=hb4.ag t1 (by simp)
have u2:=hb4.ag t2 (by simp)
have u3:=hb4.ag t3 (by simp)
have hgl:gr<V4.heap.size:=ai t0
have uf:∀ j,w4.frozen? ⟨gr,j,none⟩=false:=fun j=>(hb4.frozen (p:=⟨gr,j,none⟩) hgl (by simp)).trans (tfV4 j)
have HB4:Hid (But [] w w4):=(ae HBV4).trans' hb4
clear hb4 t0 t1 t2 t3 tfV4 hgl
obtain⟨ok,hok⟩:∃ ok,((z:Int)==0)=ok:=⟨_,rfl⟩
have FIN2:Hid (∀ W,ok=true→am W (.agg #[.bool r,.int .u64 (q6:Int),.int .u64 x,.pointer none]) (f+g)):=fun W h1=>ae FIN W (by rw[hok];exact h1)
clear FIN
go_wp2
have hBf:=((((ae HB4).setCell (p:=⟨gr,0,none⟩) (.inr (ae HGR)) (.bool r)).setCell (p:=⟨gr,1,none⟩) (.inr (ae HGR)) (.int .u64 (q6:Int))).setCell (p:=⟨gr,2,none⟩) (.inr (ae HGR)) (.int .u64 x)).setCell (p:=⟨gr,3,none⟩) (.inr (ae HGR)) (.pointer none)
exact bodyPost_ret (v:=.tuple #[.agg #[.bool r,.int .u64 (q6:Int),.int .u64 x,.pointer none],.bool ok]) (by simp[results,results174,go_sem,u0,u1,u2,u3]) rfl ⟨r,(q6:Int),x,ok,rfl,fun h1=>ae FIN2 _ h1,hBf⟩)
·(
obtain⟨ov,hov1⟩:∃ ov,ov=loy-lox:=⟨_,rfl⟩
have hov:ov < 18446744073709551616:=by omega
have HE:Hid (loy=ov+lox):=by show _=_;omega
have WS:IntKind.u64.wrap ((loy:Int)-(lox:Int))=(ov:Int):=by rw[IntKind.wrap_u64];omega
have hcp:¬ ((loy:Int)≤(lox:Int)):=by omega
clear hov1 hle
have GM:=af (fun W=>jr k ov W kB hov)
obtain⟨m,hm⟩:∃ m,m=Nat.gcd k ov:=⟨_,rfl⟩
rw[← hm] at GM
have m0p:0<m:=by rw[hm];exact Nat.gcd_pos_of_pos_left _ k0p
have FN:=af (ae AL s2 ov m (by rw[hm,Nat.gcd_comm]))
clear hm
have q5B:=di d m hgq
have q6B:=di ov m hov
have T5:(d:Int).tdiv (m:Int)=((d/m:Nat):Int):=by rw[Int.tdiv_eq_ediv_of_nonneg (by omega)];exact (Int.natCast_ediv _ _).symm
have T6:(ov:Int).tdiv (m:Int)=((ov/m:Nat):Int):=by rw[Int.tdiv_eq_ediv_of_nonneg (by omega)];exact (Int.natCast_ediv _ _).symm
generalize d/m=q5 at *
generalize ov/m=q6 at *
have W5:IntKind.u64.wrap (q5:Int)=(q5:Int):=by rw[IntKind.wrap_u64];omega
have W6:IntKind.u64.wrap (q6:Int)=(q6:Int):=by rw[IntKind.wrap_u64];omega
have zm:((m:Int)==0)=false:=beq_eq_false_iff_ne.2 (by omega)
obtain⟨lou,hiu,hlou,hhiu,e3⟩:=bt q3 q5 0 q3B q5B (by omega)
rw[Nat.add_zero] at e3
have M3:=af (fun W=>yo q3 q5 hiu lou q3B q5B hlou e3 W)
obtain⟨z1,hz1⟩:∃ z1,z1=hix ||| hiy:=⟨_,rfl⟩
have EO1:bits .or .u64 (hix:Int) (hiy:Int)=(z1:Int):=by rw[bits_or_u64_nat _ _ hhix hhiy,hz1]
have z1B:z1 < 18446744073709551616:=by rw[hz1];exact Nat.or_lt_two_pow (n:=64) hhix hhiy
obtain⟨z2,hz2⟩:∃ z2,z2=z1 ||| 0:=⟨_,rfl⟩
have EO2:bits .or .u64 (z1:Int) ((0:Int))=(z2:Int):=by rw[show (0:Int)=((0:Nat):Int) from rfl,bits_or_u64_nat _ _ z1B (by omega),hz2]
have z2B:z2 < 18446744073709551616:=by rw[hz2];exact Nat.or_lt_two_pow (n:=64) z1B (by omega)
obtain⟨z,hz⟩:∃ z,z=z2 ||| hiu:=⟨_,rfl⟩
have EO3:bits .or .u64 (z2:Int) (hiu:Int)=(z:Int):=by rw[bits_or_u64_nat _ _ z2B hhiu,hz]
obtain⟨r,hr⟩:∃ r,r=(s2 && decide (q6≠0)):=⟨_,rfl⟩
obtain⟨x,hx⟩:∃ x,IntKind.u64.wrap ((lou:Int)-1)=x:=⟨_,rfl⟩
have FIN:Hid (∀ (W:World),((z:Int)==0)=true→am W (.agg #[.bool r,.int .u64 (q6:Int),.int .u64 x,.pointer none]) (f+g)):=by
 intro W hz0
 have hz9:z=0:=by have:=beq_iff_eq.1 hz0;omega
 rw[hz,or_zero,hz2,or_zero,hz1,or_zero] at hz9
 obtain⟨⟨⟨h1,h2⟩,h3⟩,h4⟩:=hz9
 have e1:=ae SM1
 have e2:=ae SM2
 rw[h1,Nat.mul_zero,Nat.add_zero] at e1
 rw[h2,Nat.mul_zero,Nat.add_zero] at e2
 rw[h4,Nat.mul_zero,Nat.add_zero] at e3
 have e1i:(a:Int)*q4=lox:=by rw[← e1];simp
 have e2i:(c:Int)*q3=loy:=by rw[← e2];simp
 obtain⟨hn,hd⟩:=ae FN (by
  have he:=ae HE
  have hss:=ae HSS
  rw[← zak,← zak,e1,e2]
  revert hss
  cases s1 <;> cases s2 <;> simp[sgn] <;> omega)
 rw[e3] at hd
 have hlp:0<lou:=by rw[← hd];exact ae FP
 have hx2:x=(lou:Int)-1:=by rw[← hx,IntKind.wrap_u64];omega
 left
 have habs:(f+g).num.natAbs=q6:=by rw[hn,jk]
 rw[habs,hd]
 refine⟨q6B,hlou,?_⟩
 rw[hr,hx2,hn,zdy]
have OS:=af (fun W=>zcs s2 q6 lou r hr x hx W)
clear hz1 hz2 hz hr hx e3 FN AL FP SM1 SM2
go_wp2_with fail
refine (ae GM _).mono ?_
rintro e w5 ⟨rfl,nq5,hw5⟩
obtain⟨V3,hV3⟩:∃ V3,V3=w5:=⟨_,rfl⟩
have hcV3:∀ p,V3.cell? p=V2.cell? p:=fun p=>by rw[hV3,hw5];rfl
have hfV3:∀ p,V3.frozen? p=V2.frozen? p:=fun p=>by rw[hV3,hw5];rfl
have HBV3:Hid (But [] w V3):=by show But _ _ _;rw[hV3,hw5];exact (ae HBV2).drewN nq5
rw[← hcV3] at t0 t1 t2 t3
have tfV3:∀ j,V3.frozen? ⟨gr,j,none⟩=false:=fun j=>(hfV3 _).trans (tfV2 j)
rw[← hV3]
clear hV3 hw5 hcV3 hfV3 tfV2 m0 n0 m1 n1
go_wp2
go_quiet ((go_at_call 178;exact Calls.quiet_of_same (ae M3 _)))
obtain⟨V4,hV4⟩:∃ V4,V4=V3.drewN nq:=⟨_,rfl⟩
rw[← hV4]
have hcV4:∀ p,V4.cell? p=V3.cell? p:=fun p=>by rw[hV4];rfl
have hfV4:∀ p,V4.frozen? p=V3.frozen? p:=fun p=>by rw[hV4];rfl
have HBV4:Hid (But [] w V4):=by show But _ _ _;rw[hV4];exact (ae HBV3).drewN nq
rw[← hcV4] at t0 t1 t2 t3
have tfV4:∀ j,V4.frozen? ⟨gr,j,none⟩=false:=fun j=>(hfV4 _).trans (tfV3 j)
clear hV4 hcV4 hfV4 tfV3
go_wp2_with fail
refine (ae OS _).mono ?_
rintro e w4 ⟨rfl,hb4⟩
have u0:=hb4.ag t0 (by simp)
have u1:=hb4.ag t1 (by simp)
have u2:=hb4.ag t2 (by simp)
have u3:=hb4.ag t3 (by simp)
have hgl:gr<V4.heap.size:=ai t0
have uf:∀ j,w4.frozen? ⟨gr,j,none⟩=false:=fun j=>(hb4.frozen (p:=⟨gr,j,none⟩) hgl (by simp)).trans (tfV4 j)
have HB4:Hid (But [] w w4):=(ae HBV4).trans' hb4
clear hb4 t0 t1 t2 t3 tfV4 hgl
obtain⟨ok,hok⟩:∃ ok,((z:Int)==0)=ok:=⟨_,rfl⟩
have FIN2:Hid (∀ W,ok=true→am W (.agg #[.bool r,.int .u64 (q6:Int),.int .u64 x,.pointer none]) (f+g)):=fun W h1=>ae FIN W (by rw[hok];exact h1)
clear FIN
go_wp2
have hBf:=((((ae HB4).setCell (p:=⟨gr,0,none⟩) (.inr (ae HGR)) (.bool r)).setCell (p:=⟨gr,1,none⟩) (.inr (ae HGR)) (.int .u64 (q6:Int))).setCell (p:=⟨gr,2,none⟩) (.inr (ae HGR)) (.int .u64 x)).setCell (p:=⟨gr,3,none⟩) (.inr (ae HGR)) (.pointer none)
exact bodyPost_ret (v:=.tuple #[.agg #[.bool r,.int .u64 (q6:Int),.int .u64 x,.pointer none],.bool ok]) (by simp[results,results174,go_sem,u0,u1,u2,u3]) rfl ⟨r,(q6:Int),x,ok,rfl,fun h1=>ae FIN2 _ h1,hBf⟩)))
end Go.Proofs.YtagmkkiagjmimaaGreatDoor
