/- Small fractions lie anywhere; two new pl -/
import Derived.Test.YtagmkkiagjmimaaGreatDoorRF7
namespace Go.Proofs.YtagmkkiagjmimaaGreatDoor
open Go.Proofs.Tryz
open Go.RowKit
set_option maxHeartbeats 16000000
set_option maxRecDepth 100000
theorem zqq (w W:World) (A B:Array Value) (t:TypeId) (hW:W=(w.alloc (.cells A t)).alloc (.cells B t)):∀ j,W.frozen? ⟨w.heap.size,j,none⟩=false:=by(
subst hW
intro j
have h:=((But.refl [] (w.alloc (.cells A t))).alloc (.cells B t)).frozen (p:=⟨w.heap.size,j,none⟩) (by simp) (by simp)
rw[h]
simp)
theorem zvy (vf vg:Value) (f g:Rat) (w:World) (hf:am w vf f) (hg:am w vg g) (lf:Len f 1000000) (lg:Len g 1000000) (h0:g.num≠0) :
  Calls prog 77 #[vf,vg] w fun e w'=>∃ v,e=.returned (.tuple #[v,.nilIface])∧am w' v (f/g)∧But [] w w':=by(
have lg':Len g⁻¹ 1000000:=by
 obtain⟨i1,i2,-⟩:=zgd g h0
 unfold Len
 rw[i1,i2]
 exact⟨lg.2,lg.1⟩
have SG:=af (fun W (h:am W vg g)=>ni vg g W h)
have hsn:(g.num.sign==0)=false:=beq_eq_false_iff_ne.2 (fun e=>h0 (Int.sign_eq_zero_iff_zero.1 e))
generalize g.num.sign=sg at SG hsn
have NG:=af (fun W (h:am W vg g)=>zns vg g W h h0)
have AD:Hid (∀ (W:World) (v2:Value),am W vf f→am W v2 g⁻¹→Calls prog 89 #[vf,v2] W fun e w'=>∃ v,e=.returned v∧am w' v (f/g)∧But [] W w'):=fun W v2 h1 h2=>by
 rw[Rat.div_def]
 exact j4 vf v2 f g⁻¹ W h1 h2 lf lg'
have HFA:=af hf
have HGA:=af hg
obtain⟨x1,y1,p1,rfl,-⟩:=hf.agg
obtain⟨x2,y2,p2,rfl,-⟩:=hg.agg
clear hf hg lf lg lg' h0
generalize hsf:decide (f.num<0)=s1 at *
generalize hsg:decide (g.num<0)=s2 at *
clear hsf hsg
obtain⟨W,hW⟩:∃ W,W=(((w.alloc (.cells #[.bool s1,.int .u64 x1,.int .u64 y1,.pointer p1] 27)).alloc (.cells #[.bool s2,.int .u64 x2,.int .u64 y2,.pointer p2] 27)).alloc (.cells #[.bool false,.int .u64 0,.int .u64 0,.pointer none] 27)):=⟨_,rfl⟩
obtain⟨tA,tB,tC,fz,hB⟩:=zbu w W _ _ _ _ hW
have a0:=tA 0
have a1:=tA 1
have a2:=tA 2
have a3:=tA 3
have b0:=tB 0
have b1:=tB 1
have b2:=tB 2
have b3:=tB 3
have r0:=tC 0
have r1:=tC 1
have r2:=tC 2
have r3:=tC 3
simp only[List.getElem?_toArray,List.getElem?_cons_zero,List.getElem?_cons_succ] at a0 a1 a2 a3 b0 b1 b2 b3 r0 r1 r2 r3
have BL:Hid (Blank W (w.heap.size+2)):=⟨r0,r1,r2,r3,fun j hj=>by rw[tC j];simp;omega⟩
clear tA tB tC
have HW:=af hW
have HB:=af hB
clear hW hB
go_enter func77,ntmps77
go_wp2_with fail
rw[← ae HW]
obtain⟨ga,hga⟩:∃ ga,ga=w.heap.size:=⟨_,rfl⟩
obtain⟨gb,hgb⟩:∃ gb,gb=w.heap.size+1:=⟨_,rfl⟩
obtain⟨gr,hgr⟩:∃ gr,gr=w.heap.size+2:=⟨_,rfl⟩
rw[← hga] at a0 a1 a2 a3
rw[← hgb] at b0 b1 b2 b3
rw[← hgr] at r0 r1 r2 r3 fz BL
rw[show w.heap.size+1+1=w.heap.size+2 from rfl,← hgr,← hgb,← hga]
have HGR:Hid (w.heap.size≤gr):=by show _≤_;omega
have nga:ga≠gr:=by omega
have ngb:gb≠gr:=by omega
clear hga hgb hgr HW
refine (ae SG _ ((ae HGA).but (ae HB))).mono ?_
rintro e W0 ⟨rfl,hc0⟩
have gl0:gr<W.heap.size:=ai r0
replace fz:∀ j,W0.frozen? ⟨gr,j,none⟩=false:=fun j=>(hc0.frozen (p:=⟨gr,j,none⟩) gl0 (by simp)).trans (fz j)
clear gl0
replace a0:=hc0.ag a0 (by simp)
replace a1:=hc0.ag a1 (by simp)
replace a2:=hc0.ag a2 (by simp)
replace a3:=hc0.ag a3 (by simp)
replace b0:=hc0.ag b0 (by simp)
replace b1:=hc0.ag b1 (by simp)
replace b2:=hc0.ag b2 (by simp)
replace b3:=hc0.ag b3 (by simp)
replace r0:=hc0.ag r0 (by simp)
replace r1:=hc0.ag r1 (by simp)
replace r2:=hc0.ag r2 (by simp)
replace r3:=hc0.ag r3 (by simp)
replace BL:Hid (Blank W0 gr):=(ae BL).but hc0
replace HB:Hid (But [] w W0):=(ae HB).trans' hc0
clear hc0
go_wp2_with fail
have grl:gr<W0.heap.size:=ai r0
go_region_held (fun w'=>w'.cell? ⟨ga,0,none⟩=some (.bool s1)∧w'.cell? ⟨ga,1,none⟩=some (.int .u64 x1)∧w'.cell? ⟨ga,2,none⟩=some (.int .u64 y1)∧w'.cell? ⟨ga,3,none⟩=some (.pointer p1)∧w'.cell? ⟨gb,0,none⟩=some (.bool s2)∧w'.cell? ⟨gb,1,none⟩=some (.int .u64 x2)∧w'.cell? ⟨gb,2,none⟩=some (.int .u64 y2)∧w'.cell? ⟨gb,3,none⟩=some (.pointer p2)) (first | go_keep | exact⟨qg _ _ _ _ _ _ _ _ _ nga m0,qg _ _ _ _ _ _ _ _ _ nga m1,qg _ _ _ _ _ _ _ _ _ nga m2,qg _ _ _ _ _ _ _ _ _ nga m3,qg _ _ _ _ _ _ _ _ _ ngb n0,qg _ _ _ _ _ _ _ _ _ ngb n1,qg _ _ _ _ _ _ _ _ _ ngb n2,qg _ _ _ _ _ _ _ _ _ ngb n3⟩) (first
 | (go_at_call 125;refine (ae NG _ (by first | exact (ae HGA).but (ae HB) | exact (ae HGA).but ((ae HB).trans' (But.refl _ _).drew))).mono ?_;rintro e w1 ⟨v1,rfl,hn1,hc1⟩;have B1:But [] W0 w1:=(by first | exact hc1 | exact (But.refl _ _).drew.trans' hc1);have HN1:=af hn1;clear hn1 hc1;have k0:=B1.ag a0 (by simp);have k1:=B1.ag a1 (by simp);have k2:=B1.ag a2 (by simp);have k3:=B1.ag a3 (by simp);have l0:=B1.ag b0 (by simp);have l1:=B1.ag b1 (by simp);have l2:=B1.ag b2 (by simp);have l3:=B1.ag b3 (by simp))
 | (go_at_call 89;refine (ae AD _ _ (by first | exact (ae HFA).but ((ae HB).trans' B1) | exact (ae HFA).but (((ae HB).trans' B1).trans' (But.refl _ _).drew)) (by first | exact ae HN1 | exact (ae HN1).but (But.refl _ _).drew)).mono ?_;rintro e w2 ⟨v2,rfl,hn2,hc2⟩;have B2:But [] W0 w2:=(by first | exact B1.trans' hc2 | exact B1.trans' ((But.refl _ _).drew.trans' hc2));have HN2:=af hn2;obtain⟨x8,y8,p8,rfl,-⟩:=hn2.agg;clear hc2;clear hn2;generalize decide ((f/g).num<0)=r8 at *;have m0:=B2.ag a0 (by simp);have m1:=B2.ag a1 (by simp);have m2:=B2.ag a2 (by simp);have m3:=B2.ag a3 (by simp);have n0:=B2.ag b0 (by simp);have n1:=B2.ag b1 (by simp);have n2:=B2.ag b2 (by simp);have n3:=B2.ag b3 (by simp);have u0:=B2.ag r0 (by simp);have u1:=B2.ag r1 (by simp);have u2:=B2.ag r2 (by simp);have u3:=B2.ag r3 (by simp);have uf:∀ j,w2.frozen? ⟨gr,j,none⟩=false:=fun j=>(B2.frozen (p:=⟨gr,j,none⟩) grl (by simp)).trans (fz j)))
go_wp2
have hBf:=(((((ae HB).trans' B2).setCell (p:=⟨gr,0,none⟩) (.inr (ae HGR)) (.bool r8)).setCell (p:=⟨gr,1,none⟩) (.inr (ae HGR)) (.int .u64 x8)).setCell (p:=⟨gr,2,none⟩) (.inr (ae HGR)) (.int .u64 y8)).setCell (p:=⟨gr,3,none⟩) (.inr (ae HGR)) (.pointer p8)
have hBg:But [gr] w2 ((((w2.setCell ⟨gr,0,none⟩ (.bool r8)).setCell ⟨gr,1,none⟩ (.int .u64 x8)).setCell ⟨gr,2,none⟩ (.int .u64 y8)).setCell ⟨gr,3,none⟩ (.pointer p8)):=(((((But.refl [gr] w2).setCell (.inl (by simp)) _).setCell (.inl (by simp)) _).setCell (.inl (by simp)) _).setCell (.inl (by simp)) _)
exact bodyPost_ret (v:=.tuple #[.agg #[.bool r8,.int .u64 x8,.int .u64 y8,.pointer p8],.nilIface]) (by simp[results,results77,go_sem,u0,u1,u2,u3]) rfl ⟨_,rfl,((ae BL).but B2).zlh (ae HN2) hBg,hBf⟩)
theorem zxy (v:Value) (X n:Nat) (w:World) (hv:Sl .u64 w v (wd 18446744073709551616 X)) (hX:X≤1) (hn:n<2147483648) :
  Calls prog 190 #[v,.int .i64 (n:Int)] w fun e w'=>∃ v',e=.returned v'∧Sl .u64 w' v' (wd 18446744073709551616 (X^n))∧But [] w w':=by(
obtain⟨L,hL⟩:∃ L,L=Lib.bitLen n:=⟨_,rfl⟩
have hb:=zpt n (by omega)
have BL:=af (fun W=>Tryz.bits_Len (n:Int) W (by omega) (by omega))
rw[Int.toNat_natCast,← hL] at BL
rw[← hL] at hb
obtain⟨hb1,hb2⟩:=hb
have hp1:∀ m,(wd 18446744073709551616 (X^m)).length≤1:=fun m=>aj (by omega) _ 1 (by have:=Nat.pow_le_pow_left hX m;rw[Nat.one_pow] at this;omega)
have hp2:(wd 18446744073709551616 X).length≤1:=aj (by omega) _ 1 (by omega)
have hlen:Hid (∀ i,(wd 18446744073709551616 (X^(n/2^i))).length<67108864∧(wd 18446744073709551616 X).length+(wd 18446744073709551616 (X^(n/2^i))).length<67108864):=fun i=>by
 have:=hp1 (n/2^i)
 omega
have hlen2:Hid (∀ i,(wd 18446744073709551616 (X^(n/2^(i+1))*X^(n/2^(i+1)))).length+(wd 18446744073709551616 X).length<67108864):=fun i=>by
 rw[← Nat.pow_add]
 have:=hp1 (n/2^(i+1)+n/2^(i+1))
 omega
have HV:=af hv
have hdiv:n/2^L=0:=Nat.div_eq_of_lt hb1
have hst:Hid ((1:Nat)=X^(n/2^L)):=by show _=_;rw[hdiv,Nat.pow_zero]
clear hv hdiv hb1 hL hp1 hp2
obtain⟨xa,xc,rfl,-,-⟩:=ae HV
generalize hnx:(wd 18446744073709551616 X).length=nx at *
have HNX:=af hnx
clear hnx
go_enter func190,ntmps190
go_wp2_with fail
refine (ji 1 (by omega) _).mono ?_
rintro e w1 ⟨v1,rfl,hv1,hb1,-⟩
have H1:=af hv1
have B1:=af hb1
clear hv1 hb1
go_wp2_with fail
refine (ae BL _).mono ?_
rintro e w2 ⟨rfl,hw⟩
obtain rfl:=hw.symm
clear hw
go_wp2
go_loopw [5,6] (fun o i wr=>∃ k:Nat,k≤L∧i=.int .i64 ((k:Int)-1)∧Hid (Sl .u64 wr o (wd 18446744073709551616 (X^(n/2^k)))∧But [] w wr)) (fun _ i _=>(intOf i+1).toNat)
case atStart=>exact⟨L,Nat.le_refl _,rfl,by rw[← ae hst];exact ae H1,ae B1⟩
case round =>(
obtain⟨k,hk,rfl,HI⟩:=hrel
rename World=>wr
by_cases hk0:k=0
·(
subst hk0
go_wp2
go_ret
have h:=(ae HI).1
rw[Nat.pow_zero,Nat.div_one] at h
exact⟨_,rfl,h,(ae HI).2⟩)
·(
obtain⟨i,rfl⟩:∃ i,k=i+1:=⟨k-1,by omega⟩
rw[show (((i+1:Nat):Int)-1)=(i:Int) from by omega]
have hq:n/2^i<9223372036854775808:=by have:=Nat.div_le_self n (2^i);omega
have E1:bits .and .i64 ((n:Int)/2^i) 1=((n/2^i%2:Nat):Int):=by
 have e:(n:Int)/2^i=((n/2^i:Nat):Int):=by simp
 rw[e,zvr _ hq]
obtain⟨a,c,ho⟩:∃ a c,u5=.slice a (wd 18446744073709551616 (X^(n/2^(i+1)))).length c:=by obtain⟨a,c,e,-,-⟩:=(ae HI).1;exact⟨a,c,e⟩
have MU:=af (jd u5 u5 _ _ wr (ae HI).1 (ae HI).1 (by have:=(ae hlen (i+1)).1;omega))
have L2:=af (ae hlen2 i)
subst ho
generalize hm:(wd 18446744073709551616 (X^(n/2^(i+1)))).length=m at *
clear hm
rcases Nat.mod_two_eq_zero_or_one (n/2^i) with hpar | hpar
·(
have e1:(((n/2^i%2:Nat):Int)==1)=false:=by rw[hpar];rfl
have EV:=af (pow_even X n i hpar)
generalize n/2^i%2=b at *
go_wp2_with fail
refine (ae MU).mono ?_
rintro e w3 ⟨v3,rfl,hv3,hb3,-⟩
rw[ae EV] at hv3
have H3:=af hv3
have B3:Hid (But [] w w3):=(ae HI).2.trans' hb3
clear hv3 hb3
go_wp2
refine⟨⟨i,by omega,rfl,ae H3,ae B3⟩,?_⟩
simp[intOf])
·(
have e1:(((n/2^i%2:Nat):Int)==1)=true:=by rw[hpar];rfl
have EV:=af (pow_odd X n i hpar)
generalize n/2^i%2=b at *
go_wp2_with fail
refine (ae MU).mono ?_
rintro e w3 ⟨v3,rfl,hv3,hb3,-⟩
have B3:Hid (But [] w w3):=(ae HI).2.trans' hb3
have MX:=af (jd v3 (.slice xa nx xc) _ X w3 hv3 ((ae HV).ah (ae B3)) (by rw[ae HNX];have:=ae L2;omega))
obtain⟨a3,c3,e3,-,-⟩:=hv3
subst e3
clear hb3
rw[ae EV] at MX
generalize (wd 18446744073709551616 (X^(n/2^(i+1))*X^(n/2^(i+1)))).length=m3 at *
go_wp2_with fail
refine (ae MX).mono ?_
rintro e w4 ⟨v4,rfl,hv4,hb4,-⟩
have H4:=af hv4
have B4:Hid (But [] w w4):=(ae B3).trans' hb4
clear hv4 hb4
go_wp2
refine⟨⟨i,by omega,rfl,ae H4,ae B4⟩,?_⟩
simp[intOf]))))
theorem znh (v:Value) (X n:Nat) (w:World) (hv:Sl .u64 w v (wd 18446744073709551616 X)) (hn:n<2147483648) (hl:(wd 18446744073709551616 X).length+(wd 18446744073709551616 (X^n)).length<67108864) :
  Calls prog 190 #[v,.int .i64 (n:Int)] w fun e w'=>∃ v',e=.returned v'∧Sl .u64 w' v' (wd 18446744073709551616 (X^n))∧But [] w w':=by(
rcases Nat.eq_zero_or_pos X with h | h
·exact zxy v X n w hv (by omega) hn
·exact zng v X n w hv h hn hl)
theorem zmb (X k:Nat) (hX:(wd 18446744073709551616 X).length≤2) (hk:k≤200):(wd 18446744073709551616 (X^k)).length≤400:=by(
have h1:=ak (B:=18446744073709551616) (by omega) X 2 hX
rcases Nat.eq_zero_or_pos k with rfl | hk0
·rw[Nat.pow_zero]
 exact Nat.le_trans (aj (B:=18446744073709551616) (by omega) 1 1 (by omega)) (by omega)
·refine Nat.le_trans (aj (B:=18446744073709551616) (by omega) _ (2*k) ?_) (by omega)
 rw[Nat.pow_mul]
 exact Nat.pow_lt_pow_left h1 (by omega))
theorem qfz (z:Int) (k:Nat):z^k=sgn (decide (z<0) && decide (k%2=1)) (z.natAbs^k):=by(
by_cases hz:z<0
·(
rw[decide_eq_true hz,Bool.true_and]
obtain⟨m,rfl⟩:∃ m:Nat,z=-(m:Int):=⟨z.natAbs,by omega⟩
rw[Int.natAbs_neg,Int.natAbs_natCast]
induction k with
| zero=>simp[sgn]
| succ k ih =>
 rw[Int.pow_succ,ih,Nat.pow_succ]
 by_cases hk:k%2=1
 ·rw[decide_eq_true hk,decide_eq_false (show ¬ (k+1)%2=1 by omega)]
  simp only[sgn,if_true,Bool.false_eq_true,if_false,Int.natCast_mul]
  grind
 ·rw[decide_eq_false hk,decide_eq_true (show (k+1)%2=1 by omega)]
  simp only[sgn,if_true,Bool.false_eq_true,if_false,Int.natCast_mul]
  grind)
·rw[decide_eq_false hz,Bool.false_and]
 obtain⟨m,rfl⟩:∃ m:Nat,z=(m:Int):=⟨z.natAbs,by omega⟩
 rw[Int.natAbs_natCast]
 simp[sgn])
theorem qbz (s:Bool) (k:Nat) (bl:Bool) (h:bl=(s && decide (k%2=1))):(s=false∧bl=false)∨(s=true∧k%2=0∧bl=false)∨(s=true∧k%2=1∧bl=true):=by(
cases s
·exact .inl ⟨rfl,by rw[h];rfl⟩
·by_cases hk:k%2=1
 ·exact .inr (.inr ⟨rfl,hk,by rw[h,decide_eq_true hk];rfl⟩)
 ·exact .inr (.inl ⟨rfl,by omega,by rw[h,decide_eq_false hk];rfl⟩))
theorem zky (v:Value) (f:Rat) (k:Nat) (w:World) (hf:am w v f) (hk:k≤200) (lf:Len f 10000) (l1:(wd 18446744073709551616 (f.num.natAbs^k)).length≤10000) (l2:(wd 18446744073709551616 (f.den^k)).length≤10000) :
  Calls prog 161 #[v,.int .i64 (k:Int)] w fun e w'=>∃ v',e=.returned (.tuple #[v',.nilIface])∧am w' v' (zcb f k)∧But [] w w':=by(
obtain⟨g,hg⟩:∃ g,g=zcb f k:=⟨_,rfl⟩
obtain⟨gn,gd⟩:=zgz f k
rw[← hg] at gn gd ⊢
have NU:Hid (∀ W,But [] w W→Calls prog 62 #[v] W fun e w'=>∃ v1 v2,e=.returned (.tuple #[v1,v2])∧Sl .u64 w' v1 (wd 18446744073709551616 f.num.natAbs)∧Sl .u64 w' v2 (wd 18446744073709551616 f.den)∧But [] W w'):=fun W hb=>yu v f W (hf.but hb)
have P1:Hid (∀ W u,Sl .u64 W u (wd 18446744073709551616 f.num.natAbs)→Calls prog 190 #[u,.int .i64 (k:Int)] W fun e w'=>∃ v',e=.returned v'∧Sl .u64 w' v' (wd 18446744073709551616 (f.num.natAbs^k))∧But [] W w'):=fun W u hu=>znh u _ k W hu (by omega) (by have:=lf.1;omega)
have P2:Hid (∀ W u,Sl .u64 W u (wd 18446744073709551616 f.den)→Calls prog 190 #[u,.int .i64 (k:Int)] W fun e w'=>∃ v',e=.returned v'∧Sl .u64 w' v' (wd 18446744073709551616 (f.den^k))∧But [] W w'):=fun W u hu=>znh u _ k W hu (by omega) (by have:=lf.2;omega)
obtain⟨bl,hbl⟩:∃ bl,bl=(decide (f.num<0) && decide (k%2=1)):=⟨_,rfl⟩
have ga:g.num.natAbs=f.num.natAbs^k:=by rw[gn,Int.natAbs_pow]
have OL:Hid (∀ W v1 v2,Sl .u64 W v1 (wd 18446744073709551616 (f.num.natAbs^k))→Sl .u64 W v2 (wd 18446744073709551616 (f.den^k))→Calls prog 169 #[.bool bl,v1,v2] W fun e w'=>∃ v,e=.returned v∧am w' v g∧But [] W w'):=fun W v1 v2 h1 h2=>oq bl v1 v2 g W (by rw[ga];exact h1) (by rw[gd];exact h2) (by rw[ga,gn,hbl];exact qfz f.num k) (by rw[ga];omega) (by rw[gd];omega)
obtain⟨x1,y1,p1,rfl,-⟩:=hf.agg
have pc:=qbz _ k bl hbl
clear hf lf l1 l2 gn gd ga hbl hg
generalize decide (f.num<0)=s1 at *
have c1:¬ (k:Int) < -200:=by omega
have c2:¬ (200:Int)<(k:Int):=by omega
obtain⟨W,hW⟩:∃ W,W=((w.alloc (.cells #[.bool s1,.int .u64 x1,.int .u64 y1,.pointer p1] 27)).alloc (.cells #[.bool false,.int .u64 0,.int .u64 0,.pointer none] 27)):=⟨_,rfl⟩
rcases pc with ⟨rfl,rfl⟩|⟨rfl,hp,rfl⟩|⟨rfl,hp,rfl⟩
case' inr.inl =>(
have m1:(k:Int)%2=0:=by omega
have m2:Int.tmod (k:Int) 2=0:=by rw[Int.tmod_eq_emod_of_nonneg (by omega)];exact m1
clear hp)
case' inr.inr =>(
have m1:(k:Int)%2=1:=by omega
have m2:Int.tmod (k:Int) 2=1:=by rw[Int.tmod_eq_emod_of_nonneg (by omega)];exact m1
clear hp)
all_goals(
obtain⟨tA,tC,fz,hB⟩:=mh w W _ _ _ hW
have fa:∀ j,W.frozen? ⟨w.heap.size,j,none⟩=false:=zqq w W _ _ _ hW
have a0:=tA 0
have a1:=tA 1
have a2:=tA 2
have a3:=tA 3
have r0:=tC 0
have r1:=tC 1
have r2:=tC 2
have r3:=tC 3
simp only[List.getElem?_toArray,List.getElem?_cons_zero,List.getElem?_cons_succ] at a0 a1 a2 a3 r0 r1 r2 r3
have BL:Hid (Blank W (w.heap.size+1)):=⟨r0,r1,r2,r3,fun j hj=>by rw[tC j];simp;omega⟩
clear tA tC
have HW:=af hW
have HB:=af hB
clear hW hB
go_enter func161,ntmps161
go_wp2_with fail
rw[← ae HW]
obtain⟨ga,hga⟩:∃ ga,ga=w.heap.size:=⟨_,rfl⟩
obtain⟨gr,hgr⟩:∃ gr,gr=w.heap.size+1:=⟨_,rfl⟩
rw[← hga] at a0 a1 a2 a3 fa
rw[← hgr] at r0 r1 r2 r3 fz BL
rw[← hgr,← hga]
have HGR:Hid (w.heap.size≤gr):=by show _≤_;omega
have HGA:Hid (w.heap.size≤ga):=by show _≤_;omega
have nga:ga≠gr:=by omega
clear hga hgr HW
refine (ae NU _ (ae HB)).mono ?_
rintro e w4 ⟨v1,v2,rfl,hs1,hs2,hb4⟩
have HS1:=af hs1
have HS2:=af hs2
have grl3:gr<W.heap.size:=ai r0
have uf:∀ j,w4.frozen? ⟨gr,j,none⟩=false:=fun j=>(hb4.frozen (p:=⟨gr,j,none⟩) grl3 (by simp)).trans (fz j)
have c0:=hb4.ag a0 (by simp)
have u0:=hb4.ag r0 (by simp)
have u1:=hb4.ag r1 (by simp)
have u2:=hb4.ag r2 (by simp)
have u3:=hb4.ag r3 (by simp)
have HB4:Hid (But [] w w4):=(ae HB).trans' hb4
have BL4:Hid (Blank w4 gr):=(ae BL).but hb4
have grl:gr<w4.heap.size:=ai u0
clear hs1 hs2 hb4 a0 r0 r1 r2 r3 fz fa grl3 BL HB NU
go_wp2_with fail
refine (ae P1 _ _ (ae HS1)).mono ?_
rintro e wz1 ⟨vp1,rfl,hsp1,hz1⟩
have HT1:=af hsp1
have HS2':=af ((ae HS2).ah hz1)
have c1:=hz1.ag c0 (by simp)
clear hsp1
go_wp2_with fail
refine (ae P2 _ _ (ae HS2')).mono ?_
rintro e wz2 ⟨vp2,rfl,hsp2,hz2⟩
have HT2:=af hsp2
have HT1':=af ((ae HT1).ah hz2)
have c2:=hz2.ag c1 (by simp)
have Bz2:=hz1.trans' hz2
clear hsp2 hz1 hz2 c1 c0
go_wp2_with fail
refine (ae OL _ _ _ (ae HT1') (ae HT2)).mono ?_
rintro e wz3 ⟨vr,rfl,hvr,hz3⟩
have Bz3:=Bz2.trans' hz3
have HVR:=af hvr
obtain⟨x8,y8,p8,rfl,-⟩:=hvr.agg
clear hvr hz3 Bz2
generalize decide (g.num<0)=r8 at *
have q0:=Bz3.ag u0 (by simp)
have q1:=Bz3.ag u1 (by simp)
have q2:=Bz3.ag u2 (by simp)
have q3:=Bz3.ag u3 (by simp)
have qf:∀ j,wz3.frozen? ⟨gr,j,none⟩=false:=fun j=>(Bz3.frozen (p:=⟨gr,j,none⟩) grl (by simp)).trans (uf j)
go_wp2
have hBh:But [gr] wz3 ((((wz3.setCell ⟨gr,0,none⟩ (.bool r8)).setCell ⟨gr,1,none⟩ (.int .u64 x8)).setCell ⟨gr,2,none⟩ (.int .u64 y8)).setCell ⟨gr,3,none⟩ (.pointer p8)):=(((((But.refl [gr] wz3).setCell (.inl (by simp)) _).setCell (.inl (by simp)) _).setCell (.inl (by simp)) _).setCell (.inl (by simp)) _)
have hBf:=(((((ae HB4).trans' Bz3).setCell (p:=⟨gr,0,none⟩) (.inr (ae HGR)) (.bool r8)).setCell (p:=⟨gr,1,none⟩) (.inr (ae HGR)) (.int .u64 x8)).setCell (p:=⟨gr,2,none⟩) (.inr (ae HGR)) (.int .u64 y8)).setCell (p:=⟨gr,3,none⟩) (.inr (ae HGR)) (.pointer p8)
exact bodyPost_ret (v:=.tuple #[.agg #[.bool r8,.int .u64 x8,.int .u64 y8,.pointer p8],.nilIface]) (by simp[results,results161,go_sem,q0,q1,q2,q3]) rfl ⟨_,rfl,((ae BL4).but Bz3).zlh (ae HVR) hBh,hBf⟩))
theorem zyk (v:Value) (f:Rat) (k:Nat) (w:World) (hf:am w v f) (hk:k≤200) (lf:Len f 2) :
  Calls prog 161 #[v,.int .i64 (k:Int)] w fun e w'=>∃ v',e=.returned (.tuple #[v',.nilIface])∧am w' v' (zcb f k)∧But [] w w' :=
 zky v f k w hf hk ⟨Nat.le_trans lf.1 (by omega),Nat.le_trans lf.2 (by omega)⟩ (Nat.le_trans (zmb _ k lf.1 hk) (by omega)) (Nat.le_trans (zmb _ k lf.2 hk) (by omega))
end Go.Proofs.YtagmkkiagjmimaaGreatDoor
