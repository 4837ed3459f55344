/- The sum of two fractions of words, if wo -/
import Derived.Test.YtagmkkiagjmimaaGreatDoorXF2
namespace Go.Proofs.YtagmkkiagjmimaaGreatDoor
set_option linter.unusedVariables false
open Go.Proofs.Tryz
open Go.RowKit
set_option maxHeartbeats 8000000
set_option maxRecDepth 100000
theorem znd (f g:Rat) (w:World) (hfp:f.num.natAbs < 18446744073709551616) (hfq:f.den < 18446744073709551616) (hgp:g.num.natAbs < 18446744073709551616) (hgq:g.den < 18446744073709551616) :
   Calls prog 174 #[.agg #[.bool (decide (f.num<0)),.int .u64 (f.num.natAbs:Int),.int .u64 ((f.den:Int)-1),.pointer none],.agg #[.bool (decide (g.num<0)),.int .u64 (g.num.natAbs:Int),.int .u64 ((g.den:Int)-1),.pointer none]] w fun e w'=>∃ (r:Bool) (x y:Int) (ok:Bool),e=.returned (.tuple #[.agg #[.bool r,.int .u64 x,.int .u64 y,.pointer none],.bool ok])∧(ok=true→au w' (.agg #[.bool r,.int .u64 x,.int .u64 y,.pointer none]) (f+g))∧But [] w w':=by(
 have hb0:=den_pos f
 have hd0:=den_pos g
 obtain⟨k,hk⟩:∃ k,k=Nat.gcd f.den g.den:=⟨_,rfl⟩
 have k0p:0<k:=by rw[hk];exact Nat.gcd_pos_of_pos_left _ hb0
 have kB:k < 18446744073709551616:=Nat.lt_of_le_of_lt (by rw[hk];exact Nat.gcd_le_left _ hb0) hfq
 have AL:=af (fun (r:Bool) (M m:Nat) (hm:m=Nat.gcd M k) (hN:f.num*(g.den/k:Nat)+g.num*(f.den/k:Nat)=sgn r M)=>zqd f g r M k m hk hm hN)
 have nf:=zfk f
 have ng:=zfk g
 rw[nf,ng] at AL
 have G1:=af (fun W=>j3 f.den g.den W hfq hgq)
 rw[← hk] at G1
 have U1:=af (fun W=>uj (decide (f.num<0)) f.num.natAbs f.den hfq hb0 W)
 have U2:=af (fun W=>uj (decide (g.num<0)) g.num.natAbs g.den hgq hd0 W)
 have q3B:=dx f.den k hfq
 have q4B:=dx g.den k hgq
 obtain⟨lox,hix,hlox,hhix,e1⟩:=bt f.num.natAbs (g.den/k) 0 hfp q4B (by omega)
 obtain⟨loy,hiy,hloy,hhiy,e2⟩:=bt g.num.natAbs (f.den/k) 0 hgp q3B (by omega)
 rw[Nat.add_zero] at e1 e2
 have M1:=af (fun W=>yo f.num.natAbs (g.den/k) hix lox hfp q4B hlox e1 W)
 have M2:=af (fun W=>yo g.num.natAbs (f.den/k) hiy loy hgp q3B hloy e2 W)
 have SM1:=af e1
 have SM2:=af e2
 have DP:=af (fun (m:Nat) (hm:m=k→True)=>trivial)
 have D3:(f.den:Int)/(k:Int)=((f.den/k:Nat):Int):=(Int.natCast_ediv _ _).symm
 have D4:(g.den:Int)/(k:Int)=((g.den/k:Nat):Int):=(Int.natCast_ediv _ _).symm
 have DM:=af (fun (m:Nat)=>(Int.natCast_ediv g.den m).symm)
 have FP:=af (den_pos (f+g))
 clear hk e1 e2 nf ng DP
 generalize g.den/k=q4 at *
 generalize f.den/k=q3 at *
 generalize decide (f.num<0)=s1 at *
 generalize decide (g.num<0)=s2 at *
 generalize f.num.natAbs=a at *
 generalize g.num.natAbs=c at *
 generalize hfd:f.den=b at *
 generalize hgd:g.den=d at *
 clear hfd hgd
 have T3:(b:Int).tdiv (k:Int)=(q3:Int):=by rw[Int.tdiv_eq_ediv_of_nonneg (by omega)];exact D3
 have T4:(d:Int).tdiv (k:Int)=(q4:Int):=by rw[Int.tdiv_eq_ediv_of_nonneg (by omega)];exact D4
 have W3:IntKind.u64.wrap (q3:Int)=(q3:Int):=by rw[IntKind.wrap_u64];omega
 have W4:IntKind.u64.wrap (q4:Int)=(q4:Int):=by rw[IntKind.wrap_u64];omega
 have zk:((k:Int)==0)=false:=beq_eq_false_iff_ne.2 (by omega)
 go_enter func174,ntmps174
 go_wp2
 obtain⟨W,hW⟩:∃ W,W=(((w.alloc (.cells #[.bool s1,.int .u64 (a:Int),.int .u64 ((b:Int)-1),.pointer none] 27)).alloc (.cells #[.bool s2,.int .u64 (c:Int),.int .u64 ((d:Int)-1),.pointer none] 27)).alloc (.cells #[.bool false,.int .u64 0,.int .u64 0,.pointer none] 27)):=⟨_,rfl⟩
 obtain⟨tA,tB,tC,fz,hB⟩:=zbe w W _ _ _ _ hW
 have x0:=tA 0
 have x1:=tA 1
 have x2:=tA 2
 have x3:=tA 3
 have y0:=tB 0
 have y1:=tB 1
 have y2:=tB 2
 have y3:=tB 3
 have r0:=tC 0
 have r1:=tC 1
 have r2:=tC 2
 have r3:=tC 3
 simp only[List.getElem?_toArray,List.getElem?_cons_zero,List.getElem?_cons_succ] at x0 x1 x2 x3 y0 y1 y2 y3 r0 r1 r2 r3
 clear tA tB tC
 rw[← hW]
 clear hW
 obtain⟨ga,hga⟩:∃ ga,ga=w.heap.size:=⟨_,rfl⟩
 obtain⟨gb,hgb⟩:∃ gb,gb=w.heap.size+1:=⟨_,rfl⟩
 obtain⟨gr,hgr⟩:∃ gr,gr=w.heap.size+2:=⟨_,rfl⟩
 rw[← hga] at x0 x1 x2 x3
 rw[← hgb] at y0 y1 y2 y3
 rw[← hgr] at r0 r1 r2 r3 fz
 rw[← hgr,← hgb,← hga]
 have HGR:Hid (w.heap.size≤gr):=by show _≤_;omega
 clear hga hgb hgr
 have HB:=af hB
 clear hB
 have hrl:gr<W.heap.size:=ai r0
 go_region_held (fun w'=>w'.cell? ⟨ga,0,none⟩=some (.bool s1)∧w'.cell? ⟨ga,1,none⟩=some (.int .u64 (a:Int))∧w'.cell? ⟨ga,2,none⟩=some (.int .u64 ((b:Int)-1))∧w'.cell? ⟨ga,3,none⟩=some (.pointer none)∧w'.cell? ⟨gb,0,none⟩=some (.bool s2)∧w'.cell? ⟨gb,1,none⟩=some (.int .u64 (c:Int))∧w'.cell? ⟨gb,2,none⟩=some (.int .u64 ((d:Int)-1))∧w'.cell? ⟨gb,3,none⟩=some (.pointer none)) (go_keep) (first
  | (go_at_call 140;have hchk:=B1;clear hchk;refine (ae U2 _).mono ?_;rintro e w2 ⟨rfl,hb2⟩;have B2:But [] W w2:=B1.trans' hb2;have m0:=B2.ag x0 (by simp);have m1:=B2.ag x1 (by simp);have m2:=B2.ag x2 (by simp);have m3:=B2.ag x3 (by simp);have n0:=B2.ag y0 (by simp);have n1:=B2.ag y1 (by simp);have n2:=B2.ag y2 (by simp);have n3:=B2.ag y3 (by simp))
  | (go_at_call 140;refine (ae U1 _).mono ?_;rintro e w1 ⟨rfl,hb1⟩;have B1:But [] W w1:=(by first | exact hb1 | exact (But.refl _ _).drew.trans' hb1);have k0:=B1.ag x0 (by simp);have k1':=B1.ag x1 (by simp);have k2':=B1.ag x2 (by simp);have k3:=B1.ag x3 (by simp);have l0:=B1.ag y0 (by simp);have l1:=B1.ag y1 (by simp);have l2:=B1.ag y2 (by simp);have l3:=B1.ag y3 (by simp)))
 have t0:=B2.ag r0 (by simp)
 have t1:=B2.ag r1 (by simp)
 have t2:=B2.ag r2 (by simp)
 have t3:=B2.ag r3 (by simp)
 have tfw2:∀ j,w2.frozen? ⟨gr,j,none⟩=false:=fun j=>(B2.frozen (p:=⟨gr,j,none⟩) hrl (by simp)).trans (fz j)
 have HBw2:Hid (But [] w w2):=(ae HB).trans' B2
 clear B1 B2 hb1 hb2 k0 k1' k2' k3 l0 l1 l2 l3 m2 m3 n2 n3 x0 x1 x2 x3 y0 y1 y2 y3 r0 r1 r2 r3 fz hrl HB U1 U2
 go_wp2_with fail
 refine (ae G1 _).mono ?_
 rintro e w3 ⟨rfl,nq0,hw3⟩
 obtain⟨V0,hV0⟩:∃ V0,V0=w3:=⟨_,rfl⟩
 have hcV0:∀ p,V0.cell? p=w2.cell? p:=fun p=>by rw[hV0,hw3];rfl
 have hfV0:∀ p,V0.frozen? p=w2.frozen? p:=fun p=>by rw[hV0,hw3];rfl
 have HBV0:Hid (But [] w V0):=by show But _ _ _;rw[hV0,hw3];exact (ae HBw2).drewN nq0
 rw[← hcV0] at m0 n0 m1 n1 t0 t1 t2 t3
 have tfV0:∀ j,V0.frozen? ⟨gr,j,none⟩=false:=fun j=>(hfV0 _).trans (tfw2 j)
 rw[← hV0]
 clear hV0 hw3 hcV0 hfV0 tfw2
 go_wp2
 go_quiet ((go_at_call 178;exact Calls.quiet_of_same (ae M1 _)))
 obtain⟨V1,hV1⟩:∃ V1,V1=V0.drewN nq:=⟨_,rfl⟩
 rw[← hV1]
 have hcV1:∀ p,V1.cell? p=V0.cell? p:=fun p=>by rw[hV1];rfl
 have hfV1:∀ p,V1.frozen? p=V0.frozen? p:=fun p=>by rw[hV1];rfl
 have HBV1:Hid (But [] w V1):=by show But _ _ _;rw[hV1];exact (ae HBV0).drewN nq
 rw[← hcV1] at m0 n0 m1 n1 t0 t1 t2 t3
 have tfV1:∀ j,V1.frozen? ⟨gr,j,none⟩=false:=fun j=>(hfV1 _).trans (tfV0 j)
 clear hV1 hcV1 hfV1 tfV0
 go_wp2
 go_quiet ((go_at_call 178;exact Calls.quiet_of_same (ae M2 _)))
 obtain⟨V2,hV2⟩:∃ V2,V2=V1.drewN nq:=⟨_,rfl⟩
 rw[← hV2]
 have hcV2:∀ p,V2.cell? p=V1.cell? p:=fun p=>by rw[hV2];rfl
 have hfV2:∀ p,V2.frozen? p=V1.frozen? p:=fun p=>by rw[hV2];rfl
 have HBV2:Hid (But [] w V2):=by show But _ _ _;rw[hV2];exact (ae HBV1).drewN nq
 rw[← hcV2] at m0 n0 m1 n1 t0 t1 t2 t3
 have tfV2:∀ j,V2.frozen? ⟨gr,j,none⟩=false:=fun j=>(hfV2 _).trans (tfV1 j)
 clear hV2 hcV2 hfV2 tfV1
 by_cases hss:s1=s2
 ·(
 have hsb:(s1==s2)=true:=by simp[hss]
 obtain⟨ov,be,hov,hbe,he⟩:=l7 lox loy 0 hlox hloy (by omega)
 rw[Nat.add_zero] at he
 have AD:=fun W=>zmf lox loy hlox hloy ov be he hov W
 have HE:=af he
 have HSS:=af hss
 clear he hss
 have GM:=af (fun W=>j3 k ov W kB hov)
 obtain⟨m,hm⟩:∃ m,m=Nat.gcd k ov:=⟨_,rfl⟩
 rw[← hm] at GM
 have m0p:0<m:=by rw[hm];exact Nat.gcd_pos_of_pos_left _ k0p
 have FN:=af (ae AL s1 ov m (by rw[hm,Nat.gcd_comm]))
 clear hm
 have q5B:=dx d m hgq
 have q6B:=dx ov m hov
 have T5:(d:Int).tdiv (m:Int)=((d/m:Nat):Int):=by rw[Int.tdiv_eq_ediv_of_nonneg (by omega)];exact (Int.natCast_ediv _ _).symm
 have T6:(ov:Int).tdiv (m:Int)=((ov/m:Nat):Int):=by rw[Int.tdiv_eq_ediv_of_nonneg (by omega)];exact (Int.natCast_ediv _ _).symm
 generalize d/m=q5 at *
 generalize ov/m=q6 at *
 have W5:IntKind.u64.wrap (q5:Int)=(q5:Int):=by rw[IntKind.wrap_u64];omega
 have W6:IntKind.u64.wrap (q6:Int)=(q6:Int):=by rw[IntKind.wrap_u64];omega
 have zm:((m:Int)==0)=false:=beq_eq_false_iff_ne.2 (by omega)
 obtain⟨lou,hiu,hlou,hhiu,e3⟩:=bt q3 q5 0 q3B q5B (by omega)
 rw[Nat.add_zero] at e3
 have M3:=af (fun W=>yo q3 q5 hiu lou q3B q5B hlou e3 W)
 obtain⟨z1,hz1⟩:∃ z1,z1=hix ||| hiy:=⟨_,rfl⟩
 have EO1:bits .or .u64 (hix:Int) (hiy:Int)=(z1:Int):=by rw[bits_or_u64_nat _ _ hhix hhiy,hz1]
 have z1B:z1 < 18446744073709551616:=by rw[hz1];exact Nat.or_lt_two_pow (n:=64) hhix hhiy
 obtain⟨z2,hz2⟩:∃ z2,z2=z1 ||| be:=⟨_,rfl⟩
 have EO2:bits .or .u64 (z1:Int) ((be:Int))=(z2:Int):=by rw[bits_or_u64_nat _ _ z1B (by omega),hz2]
 have z2B:z2 < 18446744073709551616:=by rw[hz2];exact Nat.or_lt_two_pow (n:=64) z1B (by omega)
 obtain⟨z,hz⟩:∃ z,z=z2 ||| hiu:=⟨_,rfl⟩
 have EO3:bits .or .u64 (z2:Int) (hiu:Int)=(z:Int):=by rw[bits_or_u64_nat _ _ z2B hhiu,hz]
 obtain⟨r,hr⟩:∃ r,r=(s1 && decide (q6≠0)):=⟨_,rfl⟩
 obtain⟨x,hx⟩:∃ x,IntKind.u64.wrap ((lou:Int)-1)=x:=⟨_,rfl⟩
 have FIN:Hid (∀ (W:World),((z:Int)==0)=true→au W (.agg #[.bool r,.int .u64 (q6:Int),.int .u64 x,.pointer none]) (f+g)):=by
  intro W hz0
  have hz9:z=0:=by have:=beq_iff_eq.1 hz0;omega
  rw[hz,or_zero,hz2,or_zero,hz1,or_zero] at hz9
  obtain⟨⟨⟨h1,h2⟩,h3⟩,h4⟩:=hz9
  have e1:=ae SM1
  have e2:=ae SM2
  rw[h1,Nat.mul_zero,Nat.add_zero] at e1
  rw[h2,Nat.mul_zero,Nat.add_zero] at e2
  rw[h4,Nat.mul_zero,Nat.add_zero] at e3
  have e1i:(a:Int)*q4=lox:=by rw[← e1];simp
  have e2i:(c:Int)*q3=loy:=by rw[← e2];simp
  obtain⟨hn,hd⟩:=ae FN (by
   have he:=ae HE
   rw[h3,Nat.mul_zero,Nat.add_zero] at he
   rw[← ae HSS]
   rw[← zaw,← zaw,e1,e2,← he]
   cases s1 <;> simp[sgn] <;> omega)
  rw[e3] at hd
  have hlp:0<lou:=by rw[← hd];exact ae FP
  have hx2:x=(lou:Int)-1:=by rw[← hx,IntKind.wrap_u64];omega
  left
  have habs:(f+g).num.natAbs=q6:=by rw[hn,yc]
  rw[habs,hd]
  refine⟨q6B,hlou,?_⟩
  rw[hr,hx2,hn,zfg]
 have OS:=af (fun W=>zcg s1 q6 lou r hr x hx W)
 clear hz1 hz2 hz hr hx e3 FN AL FP SM1 SM2
 go_wp2_with fail
 refine (ae GM _).mono ?_
 rintro e w5 ⟨rfl,nq5,hw5⟩
 obtain⟨V3,hV3⟩:∃ V3,V3=w5:=⟨_,rfl⟩
 have hcV3:∀ p,V3.cell? p=V2.cell? p:=fun p=>by rw[hV3,hw5];rfl
 have hfV3:∀ p,V3.frozen? p=V2.frozen? p:=fun p=>by rw[hV3,hw5];rfl
 have HBV3:Hid (But [] w V3):=by show But _ _ _;rw[hV3,hw5];exact (ae HBV2).drewN nq5
 rw[← hcV3] at t0 t1 t2 t3
 have tfV3:∀ j,V3.frozen? ⟨gr,j,none⟩=false:=fun j=>(hfV3 _).trans (tfV2 j)
 rw[← hV3]
 clear hV3 hw5 hcV3 hfV3 tfV2 m0 n0 m1 n1
 go_wp2
 go_quiet ((go_at_call 178;exact Calls.quiet_of_same (ae M3 _)))
 obtain⟨V4,hV4⟩:∃ V4,V4=V3.drewN nq:=⟨_,rfl⟩
 rw[← hV4]
 have hcV4:∀ p,V4.cell? p=V3.cell? p:=fun p=>by rw[hV4];rfl
 have hfV4:∀ p,V4.frozen? p=V3.frozen? p:=fun p=>by rw[hV4];rfl
 have HBV4:Hid (But [] w V4):=by show But _ _ _;rw[hV4];exact (ae HBV3).drewN nq
 rw[← hcV4] at t0 t1 t2 t3
 have tfV4:∀ j,V4.frozen? ⟨gr,j,none⟩=false:=fun j=>(hfV4 _).trans (tfV3 j)
 clear hV4 hcV4 hfV4 tfV3
 go_wp2_with fail
 refine (ae OS _).mono ?_
 rintro e w4 ⟨rfl,hb4⟩
 have u0:=hb4.ag t0 (by simp)
 have u1:=hb4.ag t1 (by simp)
 have u2:=hb4.ag t2 (by simp)
 have u3:=hb4.ag t3 (by simp)
 have hgl:gr<V4.heap.size:=ai t0
 have uf:∀ j,w4.frozen? ⟨gr,j,none⟩=false:=fun j=>(hb4.frozen (p:=⟨gr,j,none⟩) hgl (by simp)).trans (tfV4 j)
 have HB4:Hid (But [] w w4):=(ae HBV4).trans' hb4
 clear hb4 t0 t1 t2 t3 tfV4 hgl
 obtain⟨ok,hok⟩:∃ ok,((z:Int)==0)=ok:=⟨_,rfl⟩
 have FIN2:Hid (∀ W,ok=true→au W (.agg #[.bool r,.int .u64 (q6:Int),.int .u64 x,.pointer none]) (f+g)):=fun W h1=>ae FIN W (by rw[hok];exact h1)
 clear FIN
 go_wp2
 have hBf:=((((ae HB4).setCell (p:=⟨gr,0,none⟩) (.inr (ae HGR)) (.bool r)).setCell (p:=⟨gr,1,none⟩) (.inr (ae HGR)) (.int .u64 (q6:Int))).setCell (p:=⟨gr,2,none⟩) (.inr (ae HGR)) (.int .u64 x)).setCell (p:=⟨gr,3,none⟩) (.inr (ae HGR)) (.pointer none)
 exact bodyPost_ret (v:=.tuple #[.agg #[.bool r,.int .u64 (q6:Int),.int .u64 x,.pointer none],.bool ok]) (by simp[results,results174,go_sem,u0,u1,u2,u3]) rfl ⟨r,(q6:Int),x,ok,rfl,fun h1=>ae FIN2 _ h1,hBf⟩)
 ·(
 have hsb:(s1==s2)=false:=by simp[hss]
 have HSS:=af hss
 clear hss
 by_cases hle:loy≤lox
 ·(
 obtain⟨ov,hov1⟩:∃ ov,ov=lox-loy:=⟨_,rfl⟩
 have hov:ov < 18446744073709551616:=by omega
 have HE:Hid (lox=ov+loy):=by show _=_;omega
 have WS:IntKind.u64.wrap ((lox:Int)-(loy:Int))=(ov:Int):=by rw[IntKind.wrap_u64];omega
 have hcp:(loy:Int)≤(lox:Int):=by omega
 clear hov1 hle
 have GM:=af (fun W=>j3 k ov W kB hov)
 obtain⟨m,hm⟩:∃ m,m=Nat.gcd k ov:=⟨_,rfl⟩
 rw[← hm] at GM
 have m0p:0<m:=by rw[hm];exact Nat.gcd_pos_of_pos_left _ k0p
 have FN:=af (ae AL s1 ov m (by rw[hm,Nat.gcd_comm]))
 clear hm
 have q5B:=dx d m hgq
 have q6B:=dx ov m hov
 have T5:(d:Int).tdiv (m:Int)=((d/m:Nat):Int):=by rw[Int.tdiv_eq_ediv_of_nonneg (by omega)];exact (Int.natCast_ediv _ _).symm
 have T6:(ov:Int).tdiv (m:Int)=((ov/m:Nat):Int):=by rw[Int.tdiv_eq_ediv_of_nonneg (by omega)];exact (Int.natCast_ediv _ _).symm
 generalize d/m=q5 at *
 generalize ov/m=q6 at *
 have W5:IntKind.u64.wrap (q5:Int)=(q5:Int):=by rw[IntKind.wrap_u64];omega
 have W6:IntKind.u64.wrap (q6:Int)=(q6:Int):=by rw[IntKind.wrap_u64];omega
 have zm:((m:Int)==0)=false:=beq_eq_false_iff_ne.2 (by omega)
 obtain⟨lou,hiu,hlou,hhiu,e3⟩:=bt q3 q5 0 q3B q5B (by omega)
 rw[Nat.add_zero] at e3
 have M3:=af (fun W=>yo q3 q5 hiu lou q3B q5B hlou e3 W)
 obtain⟨z1,hz1⟩:∃ z1,z1=hix ||| hiy:=⟨_,rfl⟩
 have EO1:bits .or .u64 (hix:Int) (hiy:Int)=(z1:Int):=by rw[bits_or_u64_nat _ _ hhix hhiy,hz1]
 have z1B:z1 < 18446744073709551616:=by rw[hz1];exact Nat.or_lt_two_pow (n:=64) hhix hhiy
 obtain⟨z2,hz2⟩:∃ z2,z2=z1 ||| 0:=⟨_,rfl⟩
 have EO2:bits .or .u64 (z1:Int) ((0:Int))=(z2:Int):=by rw[show (0:Int)=((0:Nat):Int) from rfl,bits_or_u64_nat _ _ z1B (by omega),hz2]
 have z2B:z2 < 18446744073709551616:=by rw[hz2];exact Nat.or_lt_two_pow (n:=64) z1B (by omega)
 obtain⟨z,hz⟩:∃ z,z=z2 ||| hiu:=⟨_,rfl⟩
 have EO3:bits .or .u64 (z2:Int) (hiu:Int)=(z:Int):=by rw[bits_or_u64_nat _ _ z2B hhiu,hz]
 obtain⟨r,hr⟩:∃ r,r=(s1 && decide (q6≠0)):=⟨_,rfl⟩
 obtain⟨x,hx⟩:∃ x,IntKind.u64.wrap ((lou:Int)-1)=x:=⟨_,rfl⟩
 have FIN:Hid (∀ (W:World),((z:Int)==0)=true→au W (.agg #[.bool r,.int .u64 (q6:Int),.int .u64 x,.pointer none]) (f+g)):=by
  intro W hz0
  have hz9:z=0:=by have:=beq_iff_eq.1 hz0;omega
  rw[hz,or_zero,hz2,or_zero,hz1,or_zero] at hz9
  obtain⟨⟨⟨h1,h2⟩,h3⟩,h4⟩:=hz9
  have e1:=ae SM1
  have e2:=ae SM2
  rw[h1,Nat.mul_zero,Nat.add_zero] at e1
  rw[h2,Nat.mul_zero,Nat.add_zero] at e2
  rw[h4,Nat.mul_zero,Nat.add_zero] at e3
  have e1i:(a:Int)*q4=lox:=by rw[← e1];simp
  have e2i:(c:Int)*q3=loy:=by rw[← e2];simp
  obtain⟨hn,hd⟩:=ae FN (by
   have he:=ae HE
   have hss:=ae HSS
   rw[← zaw,← zaw,e1,e2]
   revert hss
   cases s1 <;> cases s2 <;> simp[sgn] <;> omega)
  rw[e3] at hd
  have hlp:0<lou:=by rw[← hd];exact ae FP
  have hx2:x=(lou:Int)-1:=by rw[← hx,IntKind.wrap_u64];omega
  left
  have habs:(f+g).num.natAbs=q6:=by rw[hn,yc]
  rw[habs,hd]
  refine⟨q6B,hlou,?_⟩
  rw[hr,hx2,hn,zfg]
 have OS:=af (fun W=>zcg s1 q6 lou r hr x hx W)
 clear hz1 hz2 hz hr hx e3 FN AL FP SM1 SM2
 go_wp2_with fail
 refine (ae GM _).mono ?_
 rintro e w5 ⟨rfl,nq5,hw5⟩
 obtain⟨V3,hV3⟩:∃ V3,V3=w5:=⟨_,rfl⟩
 have hcV3:∀ p,V3.cell? p=V2.cell? p:=fun p=>by rw[hV3,hw5];rfl
 have hfV3:∀ p,V3.frozen? p=V2.frozen? p:=fun p=>by rw[hV3,hw5];rfl
 have HBV3:Hid (But [] w V3):=by show But _ _ _;rw[hV3,hw5];exact (ae HBV2).drewN nq5
 rw[← hcV3] at t0 t1 t2 t3
 have tfV3:∀ j,V3.frozen? ⟨gr,j,none⟩=false:=fun j=>(hfV3 _).trans (tfV2 j)
 rw[← hV3]
 clear hV3 hw5 hcV3 hfV3 tfV2 m0 n0 m1 n1
 go_wp2
 go_quiet ((go_at_call 178;exact Calls.quiet_of_same (ae M3 _)))
 obtain⟨V4,hV4⟩:∃ V4,V4=V3.drewN nq:=⟨_,rfl⟩
 rw[← hV4]
 have hcV4:∀ p,V4.cell? p=V3.cell? p:=fun p=>by rw[hV4];rfl
 have hfV4:∀ p,V4.frozen? p=V3.frozen? p:=fun p=>by rw[hV4];rfl
 have HBV4:Hid (But [] w V4):=by show But _ _ _;rw[hV4];exact (ae HBV3).drewN nq
 rw[← hcV4] at t0 t1 t2 t3
 have tfV4:∀ j,V4.frozen? ⟨gr,j,none⟩=false:=fun j=>(hfV4 _).trans (tfV3 j)
 clear hV4 hcV4 hfV4 tfV3
 go_wp2_with fail
 refine (ae OS _).mono ?_
 rintro e w4 ⟨rfl,hb4⟩
 have u0:=hb4.ag t0 (by simp)
 have u1:=hb4.ag t1 (by simp)
 have u2:=hb4.ag t2 (by simp)
 have u3:=hb4.ag t3 (by simp)
 have hgl:gr<V4.heap.size:=ai t0
 have uf:∀ j,w4.frozen? ⟨gr,j,none⟩=false:=fun j=>(hb4.frozen (p:=⟨gr,j,none⟩) hgl (by simp)).trans (tfV4 j)
 have HB4:Hid (But [] w w4):=(ae HBV4).trans' hb4
 clear hb4 t0 t1 t2 t3 tfV4 hgl
 obtain⟨ok,hok⟩:∃ ok,((z:Int)==0)=ok:=⟨_,rfl⟩
 have FIN2:Hid (∀ W,ok=true→au W (.agg #[.bool r,.int .u64 (q6:Int),.int .u64 x,.pointer none]) (f+g)):=fun W h1=>ae FIN W (by rw[hok];exact h1)
 clear FIN
 go_wp2
 have hBf:=((((ae HB4).setCell (p:=⟨gr,0,none⟩) (.inr (ae HGR)) (.bool r)).setCell (p:=⟨gr,1,none⟩) (.inr (ae HGR)) (.int .u64 (q6:Int))).setCell (p:=⟨gr,2,none⟩) (.inr (ae HGR)) (.int .u64 x)).setCell (p:=⟨gr,3,none⟩) (.inr (ae HGR)) (.pointer none)
 exact bodyPost_ret (v:=.tuple #[.agg #[.bool r,.int .u64 (q6:Int),.int .u64 x,.pointer none],.bool ok]) (by simp[results,results174,go_sem,u0,u1,u2,u3]) rfl ⟨r,(q6:Int),x,ok,rfl,fun h1=>ae FIN2 _ h1,hBf⟩)
 ·(
 obtain⟨ov,hov1⟩:∃ ov,ov=loy-lox:=⟨_,rfl⟩
 have hov:ov < 18446744073709551616:=by omega
 have HE:Hid (loy=ov+lox):=by show _=_;omega
 have WS:IntKind.u64.wrap ((loy:Int)-(lox:Int))=(ov:Int):=by rw[IntKind.wrap_u64];omega
 have hcp:¬ ((loy:Int)≤(lox:Int)):=by omega
 clear hov1 hle
 have GM:=af (fun W=>j3 k ov W kB hov)
 obtain⟨m,hm⟩:∃ m,m=Nat.gcd k ov:=⟨_,rfl⟩
 rw[← hm] at GM
 have m0p:0<m:=by rw[hm];exact Nat.gcd_pos_of_pos_left _ k0p
 have FN:=af (ae AL s2 ov m (by rw[hm,Nat.gcd_comm]))
 clear hm
 have q5B:=dx d m hgq
 have q6B:=dx ov m hov
 have T5:(d:Int).tdiv (m:Int)=((d/m:Nat):Int):=by rw[Int.tdiv_eq_ediv_of_nonneg (by omega)];exact (Int.natCast_ediv _ _).symm
 have T6:(ov:Int).tdiv (m:Int)=((ov/m:Nat):Int):=by rw[Int.tdiv_eq_ediv_of_nonneg (by omega)];exact (Int.natCast_ediv _ _).symm
 generalize d/m=q5 at *
 generalize ov/m=q6 at *
 have W5:IntKind.u64.wrap (q5:Int)=(q5:Int):=by rw[IntKind.wrap_u64];omega
 have W6:IntKind.u64.wrap (q6:Int)=(q6:Int):=by rw[IntKind.wrap_u64];omega
 have zm:((m:Int)==0)=false:=beq_eq_false_iff_ne.2 (by omega)
 obtain⟨lou,hiu,hlou,hhiu,e3⟩:=bt q3 q5 0 q3B q5B (by omega)
 rw[Nat.add_zero] at e3
 have M3:=af (fun W=>yo q3 q5 hiu lou q3B q5B hlou e3 W)
 obtain⟨z1,hz1⟩:∃ z1,z1=hix ||| hiy:=⟨_,rfl⟩
 have EO1:bits .or .u64 (hix:Int) (hiy:Int)=(z1:Int):=by rw[bits_or_u64_nat _ _ hhix hhiy,hz1]
 have z1B:z1 < 18446744073709551616:=by rw[hz1];exact Nat.or_lt_two_pow (n:=64) hhix hhiy
 obtain⟨z2,hz2⟩:∃ z2,z2=z1 ||| 0:=⟨_,rfl⟩
 have EO2:bits .or .u64 (z1:Int) ((0:Int))=(z2:Int):=by rw[show (0:Int)=((0:Nat):Int) from rfl,bits_or_u64_nat _ _ z1B (by omega),hz2]
 have z2B:z2 < 18446744073709551616:=by rw[hz2];exact Nat.or_lt_two_pow (n:=64) z1B (by omega)
 obtain⟨z,hz⟩:∃ z,z=z2 ||| hiu:=⟨_,rfl⟩
 have EO3:bits .or .u64 (z2:Int) (hiu:Int)=(z:Int):=by rw[bits_or_u64_nat _ _ z2B hhiu,hz]
 obtain⟨r,hr⟩:∃ r,r=(s2 && decide (q6≠0)):=⟨_,rfl⟩
 obtain⟨x,hx⟩:∃ x,IntKind.u64.wrap ((lou:Int)-1)=x:=⟨_,rfl⟩
 have FIN:Hid (∀ (W:World),((z:Int)==0)=true→au W (.agg #[.bool r,.int .u64 (q6:Int),.int .u64 x,.pointer none]) (f+g)):=by
  intro W hz0
  have hz9:z=0:=by have:=beq_iff_eq.1 hz0;omega
  rw[hz,or_zero,hz2,or_zero,hz1,or_zero] at hz9
  obtain⟨⟨⟨h1,h2⟩,h3⟩,h4⟩:=hz9
  have e1:=ae SM1
  have e2:=ae SM2
  rw[h1,Nat.mul_zero,Nat.add_zero] at e1
  rw[h2,Nat.mul_zero,Nat.add_zero] at e2
  rw[h4,Nat.mul_zero,Nat.add_zero] at e3
  have e1i:(a:Int)*q4=lox:=by rw[← e1];simp
  have e2i:(c:Int)*q3=loy:=by rw[← e2];simp
  obtain⟨hn,hd⟩:=ae FN (by
   have he:=ae HE
   have hss:=ae HSS
   rw[← zaw,← zaw,e1,e2]
   revert hss
   cases s1 <;> cases s2 <;> simp[sgn] <;> omega)
  rw[e3] at hd
  have hlp:0<lou:=by rw[← hd];exact ae FP
  have hx2:x=(lou:Int)-1:=by rw[← hx,IntKind.wrap_u64];omega
  left
  have habs:(f+g).num.natAbs=q6:=by rw[hn,yc]
  rw[habs,hd]
  refine⟨q6B,hlou,?_⟩
  rw[hr,hx2,hn,zfg]
 have OS:=af (fun W=>zcg s2 q6 lou r hr x hx W)
 clear hz1 hz2 hz hr hx e3 FN AL FP SM1 SM2
 go_wp2_with fail
 refine (ae GM _).mono ?_
 rintro e w5 ⟨rfl,nq5,hw5⟩
 obtain⟨V3,hV3⟩:∃ V3,V3=w5:=⟨_,rfl⟩
 have hcV3:∀ p,V3.cell? p=V2.cell? p:=fun p=>by rw[hV3,hw5];rfl
 have hfV3:∀ p,V3.frozen? p=V2.frozen? p:=fun p=>by rw[hV3,hw5];rfl
 have HBV3:Hid (But [] w V3):=by show But _ _ _;rw[hV3,hw5];exact (ae HBV2).drewN nq5
 rw[← hcV3] at t0 t1 t2 t3
 have tfV3:∀ j,V3.frozen? ⟨gr,j,none⟩=false:=fun j=>(hfV3 _).trans (tfV2 j)
 rw[← hV3]
 clear hV3 hw5 hcV3 hfV3 tfV2 m0 n0 m1 n1
 go_wp2
 go_quiet ((go_at_call 178;exact Calls.quiet_of_same (ae M3 _)))
 obtain⟨V4,hV4⟩:∃ V4,V4=V3.drewN nq:=⟨_,rfl⟩
 rw[← hV4]
 have hcV4:∀ p,V4.cell? p=V3.cell? p:=fun p=>by rw[hV4];rfl
 have hfV4:∀ p,V4.frozen? p=V3.frozen? p:=fun p=>by rw[hV4];rfl
 have HBV4:Hid (But [] w V4):=by show But _ _ _;rw[hV4];exact (ae HBV3).drewN nq
 rw[← hcV4] at t0 t1 t2 t3
 have tfV4:∀ j,V4.frozen? ⟨gr,j,none⟩=false:=fun j=>(hfV4 _).trans (tfV3 j)
 clear hV4 hcV4 hfV4 tfV3
 go_wp2_with fail
 refine (ae OS _).mono ?_
 rintro e w4 ⟨rfl,hb4⟩
 have u0:=hb4.ag t0 (by simp)
 have u1:=hb4.ag t1 (by simp)
 have u2:=hb4.ag t2 (by simp)
 have u3:=hb4.ag t3 (by simp)
 have hgl:gr<V4.heap.size:=ai t0
 have uf:∀ j,w4.frozen? ⟨gr,j,none⟩=false:=fun j=>(hb4.frozen (p:=⟨gr,j,none⟩) hgl (by simp)).trans (tfV4 j)
 have HB4:Hid (But [] w w4):=(ae HBV4).trans' hb4
 clear hb4 t0 t1 t2 t3 tfV4 hgl
 obtain⟨ok,hok⟩:∃ ok,((z:Int)==0)=ok:=⟨_,rfl⟩
 have FIN2:Hid (∀ W,ok=true→au W (.agg #[.bool r,.int .u64 (q6:Int),.int .u64 x,.pointer none]) (f+g)):=fun W h1=>ae FIN W (by rw[hok];exact h1)
 clear FIN
 go_wp2
 have hBf:=((((ae HB4).setCell (p:=⟨gr,0,none⟩) (.inr (ae HGR)) (.bool r)).setCell (p:=⟨gr,1,none⟩) (.inr (ae HGR)) (.int .u64 (q6:Int))).setCell (p:=⟨gr,2,none⟩) (.inr (ae HGR)) (.int .u64 x)).setCell (p:=⟨gr,3,none⟩) (.inr (ae HGR)) (.pointer none)
 exact bodyPost_ret (v:=.tuple #[.agg #[.bool r,.int .u64 (q6:Int),.int .u64 x,.pointer none],.bool ok]) (by simp[results,results174,go_sem,u0,u1,u2,u3]) rfl ⟨r,(q6:Int),x,ok,rfl,fun h1=>ae FIN2 _ h1,hBf⟩)))
theorem xg (lenF lenG:Nat) (hab:lenF+lenG+1≤1000000) (vf vg:Value) (f g:Rat) (w:World) (hf:au w vf f) (hg:au w vg g) (lf:Len f lenF) (lg:Len g lenG) :
   Calls prog 113 #[vf,vg] w fun e w'=>∃ v,e=.returned v∧au w' v (f+g)∧But [] w w':=by(
 obtain⟨k,hk⟩:∃ k,k=Nat.gcd f.den g.den:=⟨_,rfl⟩
 have k0p:0<k:=by rw[hk];exact Nat.gcd_pos_of_pos_left _ (den_pos f)
 have kl:(wd 18446744073709551616 k).length≤lenG:=Nat.le_trans (aw (by rw[hk];exact Nat.gcd_le_right _ (den_pos g))) lg.2
 have NF:=af (fun W (h:au W vf f)=>iy vf f W h)
 have NG:=af (fun W (h:au W vg g)=>iy vg g W h)
 obtain⟨lf1,lf2⟩:=lf
 obtain⟨lg1,lg2⟩:=lg
 have q3l:=zch f.den k lenF lf2
 have q4l:=zch g.den k lenG lg2
 have m1l:=jf f.num.natAbs (g.den/k)
 have m2l:=jf g.num.natAbs (f.den/k)
 have LM:Hid (∀ M,M≤f.num.natAbs*(g.den/k)+g.num.natAbs*(f.den/k)→(wd 18446744073709551616 M).length≤1000000):=fun M hM=>by
  have h1:=am (B:=18446744073709551616) (by omega) (f.num.natAbs*(g.den/k)) (lenF+lenG) (by omega)
  have h2:=am (B:=18446744073709551616) (by omega) (g.num.natAbs*(f.den/k)) (lenF+lenG) (by omega)
  have h3:=zbh _ _ (lenF+lenG) h1 h2
  have h4:=aw hM
  omega
 have AL:Hid (∀ (r:Bool) (M m:Nat),m=Nat.gcd M k→sgn (decide (f.num<0)) (f.num.natAbs*(g.den/k))+sgn (decide (g.num<0)) (g.num.natAbs*(f.den/k))=sgn r M→(f+g).num=sgn r (M/m)∧(f+g).den=(f.den/k)*(g.den/m)):=fun r M m hm h1=>zqd f g r M k m hk hm (by rw[← h1,zaw,zaw,← zfk f,← zfk g])
 have G1:=af (fun (W:World) (v1 v2:Value) (a:Sl .u64 W v1 (wd 18446744073709551616 f.den)) (b:Sl .u64 W v2 (wd 18446744073709551616 g.den))=>zdu v1 v2 f.den g.den W a b (by omega) (by omega))
 rw[← hk] at G1
 have Q3:=af (fun (W:World) (v1 v2:Value) (a:Sl .u64 W v1 (wd 18446744073709551616 f.den)) (b:Sl .u64 W v2 (wd 18446744073709551616 k))=>lv v1 v2 f.den k W a b k0p (by omega) (by omega) (Short.of _ _ (by omega)))
 have Q4:=af (fun (W:World) (v1 v2:Value) (a:Sl .u64 W v1 (wd 18446744073709551616 g.den)) (b:Sl .u64 W v2 (wd 18446744073709551616 k))=>lv v1 v2 g.den k W a b k0p (by omega) (by omega) (Short.of _ _ (by omega)))
 have M1:=af (fun (W:World) (v1 v2:Value) (a:Sl .u64 W v1 (wd 18446744073709551616 f.num.natAbs)) (b:Sl .u64 W v2 (wd 18446744073709551616 (g.den/k)))=>xq v1 v2 _ _ W a b (by omega))
 have M2:=af (fun (W:World) (v1 v2:Value) (a:Sl .u64 W v1 (wd 18446744073709551616 g.num.natAbs)) (b:Sl .u64 W v2 (wd 18446744073709551616 (f.den/k)))=>xq v1 v2 _ _ W a b (by omega))
 have SS:=af (fun (W:World) (v1 v2:Value) (a:Sl .u64 W v1 (wd 18446744073709551616 (f.num.natAbs*(g.den/k)))) (b:Sl .u64 W v2 (wd 18446744073709551616 (g.num.natAbs*(f.den/k))))=>zmm (decide (f.num<0)) (decide (g.num<0)) v1 v2 _ _ W a b (by omega) (by omega))
 have MW:=af (fun (W:World) h1 h2 h3 h4=>znd f g W h1 h2 h3 h4)
 have KL:=af kl
 have K0:=af k0p
 have DL:=af lg2
 have QL:=af q3l
 have HFA:=af hf
 have HGA:=af hg
 obtain⟨x1,y1,p1,rfl,hw1⟩:=hf.agg
 obtain⟨x2,y2,p2,rfl,hw2⟩:=hg.agg
 have HW1:=af hw1
 have HW2:=af hw2
 clear hk hf hg hw1 hw2 kl k0p q3l q4l m1l m2l lf1 lf2 lg1 lg2
 generalize f.num.natAbs*(g.den/k)=P1 at *
 generalize g.num.natAbs*(f.den/k)=P2 at *
 generalize f.den/k=q3 at *
 generalize g.den/k=q4 at *
 generalize hsf:decide (f.num<0)=s1 at *
 generalize hsg:decide (g.num<0)=s2 at *
 clear hsf hsg
 obtain⟨W,hW⟩:∃ W,W=(((w.alloc (.cells #[.bool s1,.int .u64 x1,.int .u64 y1,.pointer p1] 27)).alloc (.cells #[.bool s2,.int .u64 x2,.int .u64 y2,.pointer p2] 27)).alloc (.cells #[.bool false,.int .u64 0,.int .u64 0,.pointer none] 27)):=⟨_,rfl⟩
 obtain⟨tA,tB,tC,fz,hB⟩:=zbe w W _ _ _ _ hW
 have a0:=tA 0
 have a1:=tA 1
 have a2:=tA 2
 have a3:=tA 3
 have b0:=tB 0
 have b1:=tB 1
 have b2:=tB 2
 have b3:=tB 3
 have r0:=tC 0
 have r1:=tC 1
 have r2:=tC 2
 have r3:=tC 3
 simp only[List.getElem?_toArray,List.getElem?_cons_zero,List.getElem?_cons_succ] at a0 a1 a2 a3 b0 b1 b2 b3 r0 r1 r2 r3
 have BL:Hid (Blank W (w.heap.size+2)):=⟨r0,r1,r2,r3,fun j hj=>by rw[tC j];simp;omega⟩
 clear tA tB tC
 have HW:=af hW
 have HB:=af hB
 clear hW hB
 by_cases hpp:p1=none∧p2=none
 case' pos =>(
 obtain⟨rfl,rfl⟩:=hpp
 obtain⟨h1,h2,ex1,ey1⟩:=ae HW1 rfl
 obtain⟨h3,h4,ex2,ey2⟩:=ae HW2 rfl
 have MW':=af (ae MW W h1 h2 h3 h4)
 rw[← ex1,← ey1,← ex2,← ey2] at MW'
 clear MW HW1 HW2 h1 h2 h3 h4 ex1 ex2 ey1 ey2
 go_enter func113,ntmps113
 go_wp2_with fail
 rw[← ae HW]
 obtain⟨ga,hga⟩:∃ ga,ga=w.heap.size:=⟨_,rfl⟩
 obtain⟨gb,hgb⟩:∃ gb,gb=w.heap.size+1:=⟨_,rfl⟩
 obtain⟨gr,hgr⟩:∃ gr,gr=w.heap.size+2:=⟨_,rfl⟩
 rw[← hga] at a0 a1 a2 a3
 rw[← hgb] at b0 b1 b2 b3
 rw[← hgr] at r0 r1 r2 r3 fz BL
 rw[show w.heap.size+1+1=w.heap.size+2 from rfl,← hgr,← hgb,← hga]
 have HGR:Hid (w.heap.size≤gr):=by show _≤_;omega
 clear hga hgb hgr HW
 refine (ae MW').mono ?_
 rintro e w0 ⟨r9,x9,y9,ok,rfl,hok,hb0⟩
 have grl:gr<W.heap.size:=ai r0
 have f0:∀ j,w0.frozen? ⟨gr,j,none⟩=false:=fun j=>(hb0.frozen (p:=⟨gr,j,none⟩) grl (by simp)).trans (fz j)
 have BL0:=af ((ae BL).but hb0)
 have a0':=hb0.ag a0 (by simp)
 have a1':=hb0.ag a1 (by simp)
 have a2':=hb0.ag a2 (by simp)
 have a3':=hb0.ag a3 (by simp)
 have b0':=hb0.ag b0 (by simp)
 have b1':=hb0.ag b1 (by simp)
 have b2':=hb0.ag b2 (by simp)
 have b3':=hb0.ag b3 (by simp)
 have r0':=hb0.ag r0 (by simp)
 have r1':=hb0.ag r1 (by simp)
 have r2':=hb0.ag r2 (by simp)
 have r3':=hb0.ag r3 (by simp)
 have HB0:Hid (But [] w w0):=(ae HB).trans' hb0
 have HOK:=af hok
 clear hok hb0 a0 a1 a2 a3 b0 b1 b2 b3 r0 r1 r2 r3 fz MW' HB BL
 have grl0:gr<w0.heap.size:=ai r0'
 cases ok
 rotate_left
 ·(
 have HF9:=af (ae HOK rfl)
 clear HOK
 go_wp2
 have hBf:=(((((ae HB0).setCell (p:=⟨gr,0,none⟩) (.inr (ae HGR)) (.bool r9)).setCell (p:=⟨gr,1,none⟩) (.inr (ae HGR)) (.int .u64 x9)).setCell (p:=⟨gr,2,none⟩) (.inr (ae HGR)) (.int .u64 y9)).setCell (p:=⟨gr,3,none⟩) (.inr (ae HGR)) (.pointer none)).alloc (.cells #[.bool r9,.int .u64 x9,.int .u64 y9,.pointer none] 27)
 have hBg:=(((((But.refl [gr] w0).setCell (p:=⟨gr,0,none⟩) (.inl (by simp)) (.bool r9)).setCell (p:=⟨gr,1,none⟩) (.inl (by simp)) (.int .u64 x9)).setCell (p:=⟨gr,2,none⟩) (.inl (by simp)) (.int .u64 y9)).setCell (p:=⟨gr,3,none⟩) (.inl (by simp)) (.pointer none)).alloc (.cells #[.bool r9,.int .u64 x9,.int .u64 y9,.pointer none] 27)
 exact bodyPost_ret (v:=.agg #[.bool r9,.int .u64 x9,.int .u64 y9,.pointer none]) (by simp[results,results113,go_sem,r0',r1',r2',r3',grl0]) rfl ⟨_,rfl,(ae BL0).qcc (ae HF9) hBg,hBf⟩)
 obtain⟨V,hV⟩:∃ V,V=w0.alloc (.cells #[.bool r9,.int .u64 x9,.int .u64 y9,.pointer none] 27):=⟨_,rfl⟩
 have hbV:But [] w0 V:=by rw[hV];exact (But.refl _ _).alloc _
 have HBV:Hid (But [] w V):=(ae HB0).trans' hbV
 have BL:=af ((ae BL0).but hbV)
 have a0:=hbV.ag a0' (by simp)
 have a1:=hbV.ag a1' (by simp)
 have a2:=hbV.ag a2' (by simp)
 have a3:=hbV.ag a3' (by simp)
 have c0:=hbV.ag b0' (by simp)
 have c1:=hbV.ag b1' (by simp)
 have c2:=hbV.ag b2' (by simp)
 have c3:=hbV.ag b3' (by simp)
 have z0:=hbV.ag r0' (by simp)
 have z1:=hbV.ag r1' (by simp)
 have z2:=hbV.ag r2' (by simp)
 have z3:=hbV.ag r3' (by simp)
 have zf:∀ j,V.frozen? ⟨gr,j,none⟩=false:=fun j=>(hbV.frozen (p:=⟨gr,j,none⟩) grl0 (by simp)).trans (f0 j)
 have HV:=af hV
 have gal:ga<w0.heap.size:=ai a0'
 have gbl:gb<w0.heap.size:=ai b0'
 clear hV hbV b0' b1' b2' b3' r0' r1' r2' r3' f0 BL0 HB0 HOK
 go_wp2_with fail
 rw[← ae HV]
 clear a0' a1' a2' a3' HV)
 case' neg =>(
 have hp12:p1≠none∨p2≠none:=by
  rcases Classical.em (p1=none) with h1 | h1
  ·right;intro h2;exact hpp ⟨h1,h2⟩
  ·left;exact h1
 clear hpp MW HW1 HW2
 obtain⟨pp,hpp⟩:∃ pp,pp=(p1,p2):=⟨_,rfl⟩
 clear hpp pp
 rcases p1 with _ | p1
 rcases p2 with _ | p2
 ·simp at hp12
 all_goals(
 clear hp12
 go_enter func113,ntmps113
 go_wp2_with fail
 rw[← ae HW]
 obtain⟨ga,hga⟩:∃ ga,ga=w.heap.size:=⟨_,rfl⟩
 obtain⟨gb,hgb⟩:∃ gb,gb=w.heap.size+1:=⟨_,rfl⟩
 obtain⟨gr,hgr⟩:∃ gr,gr=w.heap.size+2:=⟨_,rfl⟩
 rw[← hga] at a0 a1 a2 a3
 rw[← hgb] at b0 b1 b2 b3
 rw[← hgr] at r0 r1 r2 r3 fz BL
 rw[show w.heap.size+1+1=w.heap.size+2 from rfl,← hgr,← hgb,← hga]
 have HGR:Hid (w.heap.size≤gr):=by show _≤_;omega
 clear hga hgb hgr HW
 obtain⟨V,hV⟩:∃ V,V=W:=⟨_,rfl⟩
 rw[← hV] at a0 a1 a2 a3 b0 b1 b2 b3 r0 r1 r2 r3 fz BL
 rw[← hV]
 have HBV:Hid (But [] w V):=by rw[hV];exact ae HB
 clear hV HB
 have c0:=b0
 have c1:=b1
 have c2:=b2
 have c3:=b3
 have z0:=r0
 have z1:=r1
 have z2:=r2
 have z3:=r3
 have zf:=fz
 clear b0 b1 b2 b3 r0 r1 r2 r3 fz))
 all_goals(
 refine (ae NF _ ((ae HFA).but (ae HBV))).mono ?_
 rintro e w1 ⟨na,nb,rfl,hna,hnb,hb1⟩
 have d0:=hb1.ag c0 (by simp)
 have d1:=hb1.ag c1 (by simp)
 have d2:=hb1.ag c2 (by simp)
 have d3:=hb1.ag c3 (by simp)
 have HB1:Hid (But [] w w1):=(ae HBV).trans' hb1
 have HV1:=af hb1
 have SA1:=af hna
 have SB1:=af hnb
 clear hb1 hna hnb
 go_wp2_with fail
 refine (ae NG _ ((ae HGA).but (ae HB1))).mono ?_
 rintro e w2 ⟨nc,nd,rfl,hnc,hnd,hb2⟩
 have HV2:Hid (But [] V w2):=(ae HV1).trans' hb2
 have SA2:=af ((ae SA1).ah hb2)
 have SB2:=af ((ae SB1).ah hb2)
 have SC2:=af hnc
 have SD2:=af hnd
 clear hb2 hnc hnd SA1 SB1 d0 d1 d2 d3 NF NG HV1 HB1
 have g0:=(ae HV2).ag a0 (by simp)
 have g1:=(ae HV2).ag c0 (by simp)
 go_wp2_with fail
 refine (ae G1 _ _ _ (ae SB2) (ae SD2)).mono ?_
 rintro e w3 ⟨vk,rfl,hnew,hb3⟩
 have HV3:Hid (But [] V w3):=(ae HV2).trans' hb3
 have SA3:=af ((ae SA2).ah hb3)
 have SB3:=af ((ae SB2).ah hb3)
 have SC3:=af ((ae SC2).ah hb3)
 have SD3:=af ((ae SD2).ah hb3)
 have SK3:=af hnew
 clear g0 g1 hb3 hnew SA2 SB2 SC2 SD2 HV2
 have g0:=(ae HV3).ag a0 (by simp)
 have g1:=(ae HV3).ag c0 (by simp)
 go_wp2_with fail
 refine (ae Q3 _ _ _ (ae SB3) (ae SK3)).mono ?_
 rintro e w4 ⟨vq3,rfl,hnew,hb4⟩
 have HV4:Hid (But [] V w4):=(ae HV3).trans' hb4
 have SA4:=af ((ae SA3).ah hb4)
 have SB4:=af ((ae SB3).ah hb4)
 have SC4:=af ((ae SC3).ah hb4)
 have SD4:=af ((ae SD3).ah hb4)
 have SK4:=af ((ae SK3).ah hb4)
 have SQ4:=af hnew
 clear g0 g1 hb4 hnew SA3 SB3 SC3 SD3 SK3 HV3
 have g0:=(ae HV4).ag a0 (by simp)
 have g1:=(ae HV4).ag c0 (by simp)
 go_wp2_with fail
 go_region_held (fun w'=>w'.cell? ⟨ga,0,none⟩=some (.bool s1)∧w'.cell? ⟨gb,0,none⟩=some (.bool s2)) (go_keep) (first
  | (go_at_call 175;refine (ae SS _ _ _ (by first | exact ae SX7 | exact (ae SX7).ah (But.refl _ _).drew) (by first | exact ae SY7 | exact (ae SY7).ah (But.refl _ _).drew)).mono ?_;rintro e w8 ⟨r,vM,M,rfl,hnew,hN,hle,hc8⟩;have hb8:But [] w7 w8:=(by first | exact hc8 | exact (But.refl _ _).drew.trans' hc8);have HV8:Hid (But [] V w8):=(ae HV7).trans' hb8;have SA8:=af ((ae SA7).ah hb8);have SB8:=af ((ae SB7).ah hb8);have SC8:=af ((ae SC7).ah hb8);have SD8:=af ((ae SD7).ah hb8);have SK8:=af ((ae SK7).ah hb8);have SQ8:=af ((ae SQ7).ah hb8);have SR8:=af ((ae SR7).ah hb8);have SX8:=af ((ae SX7).ah hb8);have SY8:=af ((ae SY7).ah hb8);have SM8:=af hnew;clear hb8 hc8 hnew;have g08:=(ae HV8).ag a0 (by simp);have g18:=(ae HV8).ag c0 (by simp))
  | (go_at_call 171;have hchk:=SX6;clear hchk;refine (ae M2 _ _ _ (by first | exact ae SC6 | exact (ae SC6).ah (But.refl _ _).drew) (by first | exact ae SQ6 | exact (ae SQ6).ah (But.refl _ _).drew)).mono ?_;rintro e w7 ⟨vm2,rfl,hnew,hc7,-⟩;have hb7:But [] w6 w7:=(by first | exact hc7 | exact (But.refl _ _).drew.trans' hc7);have HV7:Hid (But [] V w7):=(ae HV6).trans' hb7;have SA7:=af ((ae SA6).ah hb7);have SB7:=af ((ae SB6).ah hb7);have SC7:=af ((ae SC6).ah hb7);have SD7:=af ((ae SD6).ah hb7);have SK7:=af ((ae SK6).ah hb7);have SQ7:=af ((ae SQ6).ah hb7);have SR7:=af ((ae SR6).ah hb7);have SX7:=af ((ae SX6).ah hb7);have SY7:=af hnew;clear hb7 hc7 hnew;have g07:=(ae HV7).ag a0 (by simp);have g17:=(ae HV7).ag c0 (by simp))
  | (go_at_call 171;refine (ae M1 _ _ _ (by first | exact ae SA5 | exact (ae SA5).ah (But.refl _ _).drew) (by first | exact ae SR5 | exact (ae SR5).ah (But.refl _ _).drew)).mono ?_;rintro e w6 ⟨vm1,rfl,hnew,hc6,-⟩;have hb6:But [] w5 w6:=(by first | exact hc6 | exact (But.refl _ _).drew.trans' hc6);have HV6:Hid (But [] V w6):=(ae HV5).trans' hb6;have SA6:=af ((ae SA5).ah hb6);have SB6:=af ((ae SB5).ah hb6);have SC6:=af ((ae SC5).ah hb6);have SD6:=af ((ae SD5).ah hb6);have SK6:=af ((ae SK5).ah hb6);have SQ6:=af ((ae SQ5).ah hb6);have SR6:=af ((ae SR5).ah hb6);have SX6:=af hnew;clear hb6 hc6 hnew;have g06:=(ae HV6).ag a0 (by simp);have g16:=(ae HV6).ag c0 (by simp))
  | (go_at_call 170;refine (ae Q4 _ _ _ (by first | exact ae SD4 | exact (ae SD4).ah (But.refl _ _).drew) (by first | exact ae SK4 | exact (ae SK4).ah (But.refl _ _).drew)).mono ?_;rintro e w5 ⟨vq4,rfl,hnew,hc5⟩;have hb5:But [] w4 w5:=(by first | exact hc5 | exact (But.refl _ _).drew.trans' hc5);have HV5:Hid (But [] V w5):=(ae HV4).trans' hb5;have SA5:=af ((ae SA4).ah hb5);have SB5:=af ((ae SB4).ah hb5);have SC5:=af ((ae SC4).ah hb5);have SD5:=af ((ae SD4).ah hb5);have SK5:=af ((ae SK4).ah hb5);have SQ5:=af ((ae SQ4).ah hb5);have SR5:=af hnew;clear hb5 hc5 hnew;have g05:=(ae HV5).ag a0 (by simp);have g15:=(ae HV5).ag c0 (by simp)))
 clear g0 g1 g05 g15 g06 g16 g07 g17 SA4 SB4 SC4 SD4 SK4 SQ4 SA5 SB5 SC5 SD5 SK5 SQ5 SR5 SA6 SB6 SC6 SD6 SK6 SQ6 SR6 SX6 SA7 SB7 SC7 SD7 SK7 SQ7 SR7 SX7 SY7 HV4 HV5 HV6 HV7
 have g0:=g08
 have g1:=g18
 clear g08 g18
 have lm:=ae LM M hle
 have kl:=ae KL
 have k0p:=ae K0
 have lg2:=ae DL
 have q3l:=ae QL
 obtain⟨m,hm⟩:∃ m,m=Nat.gcd M k:=⟨_,rfl⟩
 have m0p:0<m:=by rw[hm];exact Nat.gcd_pos_of_pos_right _ k0p
 have ml:(wd 18446744073709551616 m).length≤lenG:=Nat.le_trans (aw (by rw[hm];exact Nat.gcd_le_right _ k0p)) kl
 obtain⟨hn,hd⟩:=ae AL r M m hm hN
 have habs:(f+g).num.natAbs=M/m:=by rw[hn,yc]
 have q5l:=zch M m 1000000 lm
 have q6l:=zch g.den m lenG lg2
 have m3l:=jf q3 (g.den/m)
 have G2:=af (fun (W:World) (v1 v2:Value) (a:Sl .u64 W v1 (wd 18446744073709551616 M)) (b:Sl .u64 W v2 (wd 18446744073709551616 k))=>zdu v1 v2 M k W a b lm (by omega))
 rw[← hm] at G2
 have Q5:=af (fun (W:World) (v1 v2:Value) (a:Sl .u64 W v1 (wd 18446744073709551616 M)) (b:Sl .u64 W v2 (wd 18446744073709551616 m))=>lv v1 v2 M m W a b m0p (by omega) (by omega) (Short.of _ _ lm))
 have Q6:=af (fun (W:World) (v1 v2:Value) (a:Sl .u64 W v1 (wd 18446744073709551616 g.den)) (b:Sl .u64 W v2 (wd 18446744073709551616 m))=>lv v1 v2 g.den m W a b m0p (by omega) (by omega) (Short.of _ _ (by omega)))
 have M3:=af (fun (W:World) (v1 v2:Value) (a:Sl .u64 W v1 (wd 18446744073709551616 q3)) (b:Sl .u64 W v2 (wd 18446744073709551616 (g.den/m)))=>xq v1 v2 _ _ W a b (by omega))
 have OL:=af (fun (W:World) (v1 v2:Value) (a:Sl .u64 W v1 (wd 18446744073709551616 (M/m))) (b:Sl .u64 W v2 (wd 18446744073709551616 (q3*(g.den/m))))=>zfx r v1 v2 (f+g) W (by rw[habs];exact a) (by rw[hd];exact b) (by rw[habs];exact hn) (by rw[habs];omega) (by rw[hd];omega))
 clear hN hle lm kl k0p lg2 q3l hm m0p ml hn hd habs q5l q6l m3l AL LM KL K0 DL QL
 generalize q3*(g.den/m)=P3 at *
 generalize g.den/m=q6 at *
 generalize M/m=q5 at *
 go_wp2_with fail
 refine (ae G2 _ _ _ (ae SM8) (ae SK8)).mono ?_
 rintro e w9 ⟨vmo,rfl,hnew,hb9⟩
 have HV9:Hid (But [] V w9):=(ae HV8).trans' hb9
 have SA9:=af ((ae SA8).ah hb9)
 have SB9:=af ((ae SB8).ah hb9)
 have SC9:=af ((ae SC8).ah hb9)
 have SD9:=af ((ae SD8).ah hb9)
 have SK9:=af ((ae SK8).ah hb9)
 have SQ9:=af ((ae SQ8).ah hb9)
 have SR9:=af ((ae SR8).ah hb9)
 have SX9:=af ((ae SX8).ah hb9)
 have SY9:=af ((ae SY8).ah hb9)
 have SM9:=af ((ae SM8).ah hb9)
 have SN9:=af hnew
 clear g0 g1 hb9 hnew SA8 SB8 SC8 SD8 SK8 SQ8 SR8 SX8 SY8 SM8 HV8
 have g0:=(ae HV9).ag a0 (by simp)
 have g1:=(ae HV9).ag c0 (by simp)
 go_wp2_with fail
 refine (ae Q5 _ _ _ (ae SM9) (ae SN9)).mono ?_
 rintro e w10 ⟨vq5,rfl,hnew,hb10⟩
 have HV10:Hid (But [] V w10):=(ae HV9).trans' hb10
 have SA10:=af ((ae SA9).ah hb10)
 have SB10:=af ((ae SB9).ah hb10)
 have SC10:=af ((ae SC9).ah hb10)
 have SD10:=af ((ae SD9).ah hb10)
 have SK10:=af ((ae SK9).ah hb10)
 have SQ10:=af ((ae SQ9).ah hb10)
 have SR10:=af ((ae SR9).ah hb10)
 have SX10:=af ((ae SX9).ah hb10)
 have SY10:=af ((ae SY9).ah hb10)
 have SM10:=af ((ae SM9).ah hb10)
 have SN10:=af ((ae SN9).ah hb10)
 have SU10:=af hnew
 clear g0 g1 hb10 hnew SA9 SB9 SC9 SD9 SK9 SQ9 SR9 SX9 SY9 SM9 SN9 HV9
 have g0:=(ae HV10).ag a0 (by simp)
 have g1:=(ae HV10).ag c0 (by simp)
 go_wp2_with fail
 refine (ae Q6 _ _ _ (ae SD10) (ae SN10)).mono ?_
 rintro e w11 ⟨vq6,rfl,hnew,hb11⟩
 have HV11:Hid (But [] V w11):=(ae HV10).trans' hb11
 have SA11:=af ((ae SA10).ah hb11)
 have SB11:=af ((ae SB10).ah hb11)
 have SC11:=af ((ae SC10).ah hb11)
 have SD11:=af ((ae SD10).ah hb11)
 have SK11:=af ((ae SK10).ah hb11)
 have SQ11:=af ((ae SQ10).ah hb11)
 have SR11:=af ((ae SR10).ah hb11)
 have SX11:=af ((ae SX10).ah hb11)
 have SY11:=af ((ae SY10).ah hb11)
 have SM11:=af ((ae SM10).ah hb11)
 have SN11:=af ((ae SN10).ah hb11)
 have SU11:=af ((ae SU10).ah hb11)
 have SV11:=af hnew
 clear g0 g1 hb11 hnew SA10 SB10 SC10 SD10 SK10 SQ10 SR10 SX10 SY10 SM10 SN10 SU10 HV10
 have g0:=(ae HV11).ag a0 (by simp)
 have g1:=(ae HV11).ag c0 (by simp)
 go_wp2_with fail
 refine (ae M3 _ _ _ (ae SQ11) (ae SV11)).mono ?_
 rintro e w12 ⟨vm3,rfl,hnew,hb12,-⟩
 have HV12:Hid (But [] V w12):=(ae HV11).trans' hb12
 have SA12:=af ((ae SA11).ah hb12)
 have SB12:=af ((ae SB11).ah hb12)
 have SC12:=af ((ae SC11).ah hb12)
 have SD12:=af ((ae SD11).ah hb12)
 have SK12:=af ((ae SK11).ah hb12)
 have SQ12:=af ((ae SQ11).ah hb12)
 have SR12:=af ((ae SR11).ah hb12)
 have SX12:=af ((ae SX11).ah hb12)
 have SY12:=af ((ae SY11).ah hb12)
 have SM12:=af ((ae SM11).ah hb12)
 have SN12:=af ((ae SN11).ah hb12)
 have SU12:=af ((ae SU11).ah hb12)
 have SV12:=af ((ae SV11).ah hb12)
 have SW12:=af hnew
 clear g0 g1 hb12 hnew SA11 SB11 SC11 SD11 SK11 SQ11 SR11 SX11 SY11 SM11 SN11 SU11 SV11 HV11
 have g0:=(ae HV12).ag a0 (by simp)
 have g1:=(ae HV12).ag c0 (by simp)
 go_wp2_with fail
 refine (ae OL _ _ _ (ae SU12) (ae SW12)).mono ?_
 rintro e wz ⟨vz,rfl,hfz,hbz⟩
 have HVz:Hid (But [] V wz):=(ae HV12).trans' hbz
 have HBz:Hid (But [] w wz):=(ae HBV).trans' (ae HVz)
 have u0:=(ae HVz).ag z0 (by simp)
 have u1:=(ae HVz).ag z1 (by simp)
 have u2:=(ae HVz).ag z2 (by simp)
 have u3:=(ae HVz).ag z3 (by simp)
 have hgl:gr<V.heap.size:=ai z0
 have uf:∀ j,wz.frozen? ⟨gr,j,none⟩=false:=fun j=>((ae HVz).frozen (p:=⟨gr,j,none⟩) hgl (by simp)).trans (zf j)
 have Hz:=af hfz
 obtain⟨x8,y8,p8,rfl,-⟩:=hfz.agg
 clear hbz hfz z0 z1 z2 z3 zf hgl g0 g1
 generalize decide ((f+g).num<0)=r8 at *
 go_wp2
 have hBf:=((((ae HBz).setCell (p:=⟨gr,0,none⟩) (.inr (ae HGR)) (.bool r8)).setCell (p:=⟨gr,1,none⟩) (.inr (ae HGR)) (.int .u64 x8)).setCell (p:=⟨gr,2,none⟩) (.inr (ae HGR)) (.int .u64 y8)).setCell (p:=⟨gr,3,none⟩) (.inr (ae HGR)) (.pointer p8)
 have hBg:But [gr] wz ((((wz.setCell ⟨gr,0,none⟩ (.bool r8)).setCell ⟨gr,1,none⟩ (.int .u64 x8)).setCell ⟨gr,2,none⟩ (.int .u64 y8)).setCell ⟨gr,3,none⟩ (.pointer p8)):=(((((But.refl [gr] wz).setCell (.inl (by simp)) _).setCell (.inl (by simp)) _).setCell (.inl (by simp)) _).setCell (.inl (by simp)) _)
 exact bodyPost_ret (v:=.agg #[.bool r8,.int .u64 x8,.int .u64 y8,.pointer p8]) (by simp[results,results113,go_sem,u0,u1,u2,u3]) rfl ⟨_,rfl,((ae BL).but (ae HVz)).qcc (ae Hz) hBg,hBf⟩))
theorem ol (w:World) (g b j:Nat) (v0 v1 v2 v3 u:Value) (hne:b≠g) (hc:w.cell? ⟨b,j,none⟩=some u):((((w.setCell ⟨g,0,none⟩ v0).setCell ⟨g,1,none⟩ v1).setCell ⟨g,2,none⟩ v2).setCell ⟨g,3,none⟩ v3).cell? ⟨b,j,none⟩=some u:=by
 have hb:But [g] w ((((w.setCell ⟨g,0,none⟩ v0).setCell ⟨g,1,none⟩ v1).setCell ⟨g,2,none⟩ v2).setCell ⟨g,3,none⟩ v3):=(((((But.refl [g] w).setCell (.inl (by simp)) _).setCell (.inl (by simp)) _).setCell (.inl (by simp)) _).setCell (.inl (by simp)) _)
 exact hb.ag hc (by simpa using hne)
theorem zsu (lenF lenG:Nat) (hab:lenF+lenG+1≤1000000) (vf vg:Value) (f g:Rat) (w:World) (hf:au w vf f) (hg:au w vg g) (lf:Len f lenF) (lg:Len g lenG) :
   Calls prog 56 #[vf,vg] w fun e w'=>∃ v,e=.returned v∧au w' v (f-g)∧But [] w w':=by(
 have lg':Len (-g) lenG:=by
  unfold Len
  rw[Rat.neg_num,Rat.neg_den,Int.natAbs_neg]
  exact lg
 have NG:=af (fun W (h:au W vg g)=>zsv vg g W h)
 have AD:Hid (∀ (W:World) (v2:Value),au W vf f→au W v2 (-g)→Calls prog 113 #[vf,v2] W fun e w'=>∃ v,e=.returned v∧au w' v (f-g)∧But [] W w'):=fun W v2 h1 h2=>by
  rw[Rat.sub_eq_add_neg]
  exact xg lenF lenG hab vf v2 f (-g) W h1 h2 lf lg'
 have HFA:=af hf
 have HGA:=af hg
 obtain⟨x1,y1,p1,rfl,-⟩:=hf.agg
 obtain⟨x2,y2,p2,rfl,-⟩:=hg.agg
 clear hf hg lf lg lg'
 generalize hsf:decide (f.num<0)=s1 at *
 generalize hsg:decide (g.num<0)=s2 at *
 clear hsf hsg
 obtain⟨W,hW⟩:∃ W,W=(((w.alloc (.cells #[.bool s1,.int .u64 x1,.int .u64 y1,.pointer p1] 27)).alloc (.cells #[.bool s2,.int .u64 x2,.int .u64 y2,.pointer p2] 27)).alloc (.cells #[.bool false,.int .u64 0,.int .u64 0,.pointer none] 27)):=⟨_,rfl⟩
 obtain⟨tA,tB,tC,fz,hB⟩:=zbe w W _ _ _ _ hW
 have a0:=tA 0
 have a1:=tA 1
 have a2:=tA 2
 have a3:=tA 3
 have b0:=tB 0
 have b1:=tB 1
 have b2:=tB 2
 have b3:=tB 3
 have r0:=tC 0
 have r1:=tC 1
 have r2:=tC 2
 have r3:=tC 3
 simp only[List.getElem?_toArray,List.getElem?_cons_zero,List.getElem?_cons_succ] at a0 a1 a2 a3 b0 b1 b2 b3 r0 r1 r2 r3
 have BL:Hid (Blank W (w.heap.size+2)):=⟨r0,r1,r2,r3,fun j hj=>by rw[tC j];simp;omega⟩
 clear tA tB tC
 have HW:=af hW
 have HB:=af hB
 clear hW hB
 go_enter func56,ntmps56
 go_wp2_with fail
 rw[← ae HW]
 obtain⟨ga,hga⟩:∃ ga,ga=w.heap.size:=⟨_,rfl⟩
 obtain⟨gb,hgb⟩:∃ gb,gb=w.heap.size+1:=⟨_,rfl⟩
 obtain⟨gr,hgr⟩:∃ gr,gr=w.heap.size+2:=⟨_,rfl⟩
 rw[← hga] at a0 a1 a2 a3
 rw[← hgb] at b0 b1 b2 b3
 rw[← hgr] at r0 r1 r2 r3 fz BL
 rw[show w.heap.size+1+1=w.heap.size+2 from rfl,← hgr,← hgb,← hga]
 have HGR:Hid (w.heap.size≤gr):=by show _≤_;omega
 have nga:ga≠gr:=by omega
 have ngb:gb≠gr:=by omega
 clear hga hgb hgr HW
 have grl:gr<W.heap.size:=ai r0
 go_region_held (fun w'=>w'.cell? ⟨ga,0,none⟩=some (.bool s1)∧w'.cell? ⟨ga,1,none⟩=some (.int .u64 x1)∧w'.cell? ⟨ga,2,none⟩=some (.int .u64 y1)∧w'.cell? ⟨ga,3,none⟩=some (.pointer p1)∧w'.cell? ⟨gb,0,none⟩=some (.bool s2)∧w'.cell? ⟨gb,1,none⟩=some (.int .u64 x2)∧w'.cell? ⟨gb,2,none⟩=some (.int .u64 y2)∧w'.cell? ⟨gb,3,none⟩=some (.pointer p2)) (first | go_keep | exact⟨ol _ _ _ _ _ _ _ _ _ nga m0,ol _ _ _ _ _ _ _ _ _ nga m1,ol _ _ _ _ _ _ _ _ _ nga m2,ol _ _ _ _ _ _ _ _ _ nga m3,ol _ _ _ _ _ _ _ _ _ ngb n0,ol _ _ _ _ _ _ _ _ _ ngb n1,ol _ _ _ _ _ _ _ _ _ ngb n2,ol _ _ _ _ _ _ _ _ _ ngb n3⟩) (first
  | (go_at_call 126;refine (ae NG _ (by first | exact (ae HGA).but (ae HB) | exact (ae HGA).but ((ae HB).trans' (But.refl _ _).drew))).mono ?_;rintro e w1 ⟨v1,rfl,hn1,hc1⟩;have B1:But [] W w1:=(by first | exact hc1 | exact (But.refl _ _).drew.trans' hc1);have HN1:=af hn1;clear hn1 hc1;have k0:=B1.ag a0 (by simp);have k1:=B1.ag a1 (by simp);have k2:=B1.ag a2 (by simp);have k3:=B1.ag a3 (by simp);have l0:=B1.ag b0 (by simp);have l1:=B1.ag b1 (by simp);have l2:=B1.ag b2 (by simp);have l3:=B1.ag b3 (by simp))
  | (go_at_call 113;refine (ae AD _ _ (by first | exact (ae HFA).but ((ae HB).trans' B1) | exact (ae HFA).but (((ae HB).trans' B1).trans' (But.refl _ _).drew)) (by first | exact ae HN1 | exact (ae HN1).but (But.refl _ _).drew)).mono ?_;rintro e w2 ⟨v2,rfl,hn2,hc2⟩;have B2:But [] W w2:=(by first | exact B1.trans' hc2 | exact B1.trans' ((But.refl _ _).drew.trans' hc2));have HN2:=af hn2;obtain⟨x8,y8,p8,rfl,-⟩:=hn2.agg;clear hc2;clear hn2;generalize decide ((f-g).num<0)=r8 at *;have m0:=B2.ag a0 (by simp);have m1:=B2.ag a1 (by simp);have m2:=B2.ag a2 (by simp);have m3:=B2.ag a3 (by simp);have n0:=B2.ag b0 (by simp);have n1:=B2.ag b1 (by simp);have n2:=B2.ag b2 (by simp);have n3:=B2.ag b3 (by simp);have u0:=B2.ag r0 (by simp);have u1:=B2.ag r1 (by simp);have u2:=B2.ag r2 (by simp);have u3:=B2.ag r3 (by simp);have uf:∀ j,w2.frozen? ⟨gr,j,none⟩=false:=fun j=>(B2.frozen (p:=⟨gr,j,none⟩) grl (by simp)).trans (fz j)))
 go_wp2
 have hBf:=(((((ae HB).trans' B2).setCell (p:=⟨gr,0,none⟩) (.inr (ae HGR)) (.bool r8)).setCell (p:=⟨gr,1,none⟩) (.inr (ae HGR)) (.int .u64 x8)).setCell (p:=⟨gr,2,none⟩) (.inr (ae HGR)) (.int .u64 y8)).setCell (p:=⟨gr,3,none⟩) (.inr (ae HGR)) (.pointer p8)
 have hBg:But [gr] w2 ((((w2.setCell ⟨gr,0,none⟩ (.bool r8)).setCell ⟨gr,1,none⟩ (.int .u64 x8)).setCell ⟨gr,2,none⟩ (.int .u64 y8)).setCell ⟨gr,3,none⟩ (.pointer p8)):=(((((But.refl [gr] w2).setCell (.inl (by simp)) _).setCell (.inl (by simp)) _).setCell (.inl (by simp)) _).setCell (.inl (by simp)) _)
 exact bodyPost_ret (v:=.agg #[.bool r8,.int .u64 x8,.int .u64 y8,.pointer p8]) (by simp[results,results56,go_sem,u0,u1,u2,u3]) rfl ⟨_,rfl,((ae BL).but B2).qcc (ae HN2) hBg,hBf⟩)
theorem o5 (vf vg:Value) (f g:Rat) (w:World) (hf:au w vf f) (hg:au w vg g) (lf:Len f 499999) (lg:Len g 499999) :
  Calls prog 56 #[vf,vg] w fun e w'=>∃ v,e=.returned v∧au w' v (f-g)∧But [] w w':=zsu 499999 499999 (by omega) vf vg f g w hf hg lf lg
theorem zol (w W:World) (A B:Array Value) (t:TypeId) (hW:W=(w.alloc (.cells A t)).alloc (.cells B t)) :
   (∀ j,W.cell? ⟨w.heap.size,j,none⟩=A[j]?)∧(∀ j,W.cell? ⟨w.heap.size+1,j,none⟩=B[j]?)∧(∀ j,W.frozen? ⟨w.heap.size+1,j,none⟩=false)∧But [] w W:=by(
 subst hW
 refine⟨fun j=>?_,fun j=>?_,fun j=>?_,((But.refl _ _).alloc _).alloc _⟩
 ·have h:=((But.refl [] (w.alloc (.cells A t))).alloc (.cells B t)).cell (p:=⟨w.heap.size,j,none⟩) (by simp) (by simp)
  rw[h,World.cell?_alloc_new]
 ·simp
 ·simp)
end Go.Proofs.YtagmkkiagjmimaaGreatDoor
