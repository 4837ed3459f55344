/- Small fractions lie anywhere; two new pl -/
import Derived.Shelf.Strings.Cut
import Derived.Test.YtagmkkiagjmimaaGreatDoorProg
import Derived.Test.YtagmkkiagjmimaaGreatDoorSQ3
import Derived.Test.YtagmkkiagjmimaaGreatDoorSQ5
import Derived.Test.YtagmkkiagjmimaaGreatDoorST3
namespace Go.Proofs.YtagmkkiagjmimaaGreatDoor
set_option linter.unusedVariables false
open Go.Proofs.Tryz
open Go.RowKit
set_option maxHeartbeats 16000000
set_option maxRecDepth 100000
theorem znz (w W:World) (A B:Array Value) (t:TypeId) (hW:W=(w.alloc (.cells A t)).alloc (.cells B t)):∀ j,W.frozen? ⟨w.heap.size,j,none⟩=false:=by(
 subst hW
 intro j
 have h:=((But.refl [] (w.alloc (.cells A t))).alloc (.cells B t)).frozen (p:=⟨w.heap.size,j,none⟩) (by simp) (by simp)
 rw[h]
 simp)
theorem ztv (v:Value) (X n:Nat) (w:World) (hv:Sl .u64 w v (wd 18446744073709551616 X)) (hX:X≤1) (hn:n<2147483648) :
   Calls prog 190 #[v,.int .i64 (n:Int)] w fun e w'=>∃ v',e=.returned v'∧Sl .u64 w' v' (wd 18446744073709551616 (X^n))∧But [] w w':=by(
 obtain⟨L,hL⟩:∃ L,L=Lib.bitLen n:=⟨_,rfl⟩
 have hb:=znb n (by omega)
 have BL:=af (fun W=>Tryz.bits_Len (n:Int) W (by omega) (by omega))
 rw[Int.toNat_natCast,← hL] at BL
 rw[← hL] at hb
 obtain⟨hb1,hb2⟩:=hb
 have hp1:∀ m,(wd 18446744073709551616 (X^m)).length≤1:=fun m=>aj (by omega) _ 1 (by have:=Nat.pow_le_pow_left hX m;rw[Nat.one_pow] at this;omega)
 have hp2:(wd 18446744073709551616 X).length≤1:=aj (by omega) _ 1 (by omega)
 have hlen:Hid (∀ i,(wd 18446744073709551616 (X^(n/2^i))).length<67108864∧(wd 18446744073709551616 X).length+(wd 18446744073709551616 (X^(n/2^i))).length<67108864):=fun i=>by
  have:=hp1 (n/2^i)
  omega
 have hlen2:Hid (∀ i,(wd 18446744073709551616 (X^(n/2^(i+1))*X^(n/2^(i+1)))).length+(wd 18446744073709551616 X).length<67108864):=fun i=>by
  rw[← Nat.pow_add]
  have:=hp1 (n/2^(i+1)+n/2^(i+1))
  omega
 have HV:=af hv
 have hdiv:n/2^L=0:=Nat.div_eq_of_lt hb1
 have hst:Hid ((1:Nat)=X^(n/2^L)):=by show _=_;rw[hdiv,Nat.pow_zero]
 clear hv hdiv hb1 hL hp1 hp2
 obtain⟨xa,xc,rfl,-,-⟩:=ae HV
 generalize hnx:(wd 18446744073709551616 X).length=nx at *
 have HNX:=af hnx
 clear hnx
 go_enter func190,ntmps190
 go_wp2_with fail
 refine (jc 1 (by omega) _).mono ?_
 rintro e w1 ⟨v1,rfl,hv1,hb1,-⟩
 have H1:=af hv1
 have B1:=af hb1
 clear hv1 hb1
 go_wp2_with fail
 refine (ae BL _).mono ?_
 rintro e w2 ⟨rfl,hw⟩
 obtain rfl:=hw.symm
 clear hw
 go_wp2
 go_loopw [5,6] (fun o i wr=>∃ k:Nat,k≤L∧i=.int .i64 ((k:Int)-1)∧Hid (Sl .u64 wr o (wd 18446744073709551616 (X^(n/2^k)))∧But [] w wr)) (fun _ i _=>(intOf i+1).toNat)
 case atStart=>exact⟨L,Nat.le_refl _,rfl,by rw[← ae hst];exact ae H1,ae B1⟩
 case round =>(
 obtain⟨k,hk,rfl,HI⟩:=hrel
 rename World=>wr
 by_cases hk0:k=0
 ·(
 subst hk0
 go_wp2
 go_ret
 have h:=(ae HI).1
 rw[Nat.pow_zero,Nat.div_one] at h
 exact⟨_,rfl,h,(ae HI).2⟩)
 ·(
 obtain⟨i,rfl⟩:∃ i,k=i+1:=⟨k-1,by omega⟩
 rw[show (((i+1:Nat):Int)-1)=(i:Int) from by omega]
 have hq:n/2^i<9223372036854775808:=by have:=Nat.div_le_self n (2^i);omega
 have E1:bits .and .i64 ((n:Int)/2^i) 1=((n/2^i%2:Nat):Int):=by
  have e:(n:Int)/2^i=((n/2^i:Nat):Int):=by simp
  rw[e,zrw _ hq]
 obtain⟨a,c,ho⟩:∃ a c,u5=.slice a (wd 18446744073709551616 (X^(n/2^(i+1)))).length c:=by obtain⟨a,c,e,-,-⟩:=(ae HI).1;exact⟨a,c,e⟩
 have MU:=af (qz u5 u5 _ _ wr (ae HI).1 (ae HI).1 (by have:=(ae hlen (i+1)).1;omega))
 have L2:=af (ae hlen2 i)
 subst ho
 generalize hm:(wd 18446744073709551616 (X^(n/2^(i+1)))).length=m at *
 clear hm
 rcases Nat.mod_two_eq_zero_or_one (n/2^i) with hpar | hpar
 ·(
 have e1:(((n/2^i%2:Nat):Int)==1)=false:=by rw[hpar];rfl
 have EV:=af (pow_even X n i hpar)
 generalize n/2^i%2=b at *
 go_wp2_with fail
 refine (ae MU).mono ?_
 rintro e w3 ⟨v3,rfl,hv3,hb3,-⟩
 rw[ae EV] at hv3
 have H3:=af hv3
 have B3:Hid (But [] w w3):=(ae HI).2.trans' hb3
 clear hv3 hb3
 go_wp2
 refine⟨⟨i,by omega,rfl,ae H3,ae B3⟩,?_⟩
 simp[intOf])
 ·(
 have e1:(((n/2^i%2:Nat):Int)==1)=true:=by rw[hpar];rfl
 have EV:=af (pow_odd X n i hpar)
 generalize n/2^i%2=b at *
 go_wp2_with fail
 refine (ae MU).mono ?_
 rintro e w3 ⟨v3,rfl,hv3,hb3,-⟩
 have B3:Hid (But [] w w3):=(ae HI).2.trans' hb3
 have MX:=af (qz v3 (.slice xa nx xc) _ X w3 hv3 ((ae HV).ah (ae B3)) (by rw[ae HNX];have:=ae L2;omega))
 obtain⟨a3,c3,e3,-,-⟩:=hv3
 subst e3
 clear hb3
 rw[ae EV] at MX
 generalize (wd 18446744073709551616 (X^(n/2^(i+1))*X^(n/2^(i+1)))).length=m3 at *
 go_wp2_with fail
 refine (ae MX).mono ?_
 rintro e w4 ⟨v4,rfl,hv4,hb4,-⟩
 have H4:=af hv4
 have B4:Hid (But [] w w4):=(ae B3).trans' hb4
 clear hv4 hb4
 go_wp2
 refine⟨⟨i,by omega,rfl,ae H4,ae B4⟩,?_⟩
 simp[intOf]))))
theorem zkq (v:Value) (X n:Nat) (w:World) (hv:Sl .u64 w v (wd 18446744073709551616 X)) (hn:n<2147483648) (hl:(wd 18446744073709551616 X).length+(wd 18446744073709551616 (X^n)).length<67108864) :
   Calls prog 190 #[v,.int .i64 (n:Int)] w fun e w'=>∃ v',e=.returned v'∧Sl .u64 w' v' (wd 18446744073709551616 (X^n))∧But [] w w':=by(
 rcases Nat.eq_zero_or_pos X with h | h
 ·exact ztv v X n w hv (by omega) hn
 ·exact zkp v X n w hv h hn hl)
theorem zjr (X k:Nat) (hX:(wd 18446744073709551616 X).length≤2) (hk:k≤200):(wd 18446744073709551616 (X^k)).length≤400:=by(
 have h1:=ak (B:=18446744073709551616) (by omega) X 2 hX
 rcases Nat.eq_zero_or_pos k with rfl | hk0
 ·rw[Nat.pow_zero]
  exact Nat.le_trans (aj (B:=18446744073709551616) (by omega) 1 1 (by omega)) (by omega)
 ·refine Nat.le_trans (aj (B:=18446744073709551616) (by omega) _ (2*k) ?_) (by omega)
  rw[Nat.pow_mul]
  exact Nat.pow_lt_pow_left h1 (by omega))
theorem qbk (z:Int) (k:Nat):z^k=sgn (decide (z<0) && decide (k%2=1)) (z.natAbs^k):=by(
 by_cases hz:z<0
 ·(
 rw[decide_eq_true hz,Bool.true_and]
 obtain⟨m,rfl⟩:∃ m:Nat,z=-(m:Int):=⟨z.natAbs,by omega⟩
 rw[Int.natAbs_neg,Int.natAbs_natCast]
 induction k with
 | zero=>simp[sgn]
 | succ k ih =>
  rw[Int.pow_succ,ih,Nat.pow_succ]
  by_cases hk:k%2=1
  ·rw[decide_eq_true hk,decide_eq_false (show ¬ (k+1)%2=1 by omega)]
   simp only[sgn,if_true,Bool.false_eq_true,if_false,Int.natCast_mul]
   grind
  ·rw[decide_eq_false hk,decide_eq_true (show (k+1)%2=1 by omega)]
   simp only[sgn,if_true,Bool.false_eq_true,if_false,Int.natCast_mul]
   grind)
 ·rw[decide_eq_false hz,Bool.false_and]
  obtain⟨m,rfl⟩:∃ m:Nat,z=(m:Int):=⟨z.natAbs,by omega⟩
  rw[Int.natAbs_natCast]
  simp[sgn])
theorem zya (s:Bool) (k:Nat) (bl:Bool) (h:bl=(s && decide (k%2=1))):(s=false∧bl=false)∨(s=true∧k%2=0∧bl=false)∨(s=true∧k%2=1∧bl=true):=by(
 cases s
 ·exact .inl ⟨rfl,by rw[h];rfl⟩
 ·by_cases hk:k%2=1
  ·exact .inr (.inr ⟨rfl,hk,by rw[h,decide_eq_true hk];rfl⟩)
  ·exact .inr (.inl ⟨rfl,by omega,by rw[h,decide_eq_false hk];rfl⟩))
theorem zsc (v:Value) (f:Rat) (k:Nat) (w:World) (hf:am w v f) (hk:k≤200) (lf:Len f 10000) (l1:(wd 18446744073709551616 (f.num.natAbs^k)).length≤10000) (l2:(wd 18446744073709551616 (f.den^k)).length≤10000) :
   Calls prog 161 #[v,.int .i64 (k:Int)] w fun e w'=>∃ v',e=.returned (.tuple #[v',.nilIface])∧am w' v' (zbz f k)∧But [] w w':=by(
 obtain⟨g,hg⟩:∃ g,g=zbz f k:=⟨_,rfl⟩
 obtain⟨gn,gd⟩:=zfh f k
 rw[← hg] at gn gd ⊢
 have NU:Hid (∀ W,But [] w W→Calls prog 62 #[v] W fun e w'=>∃ v1 v2,e=.returned (.tuple #[v1,v2])∧Sl .u64 w' v1 (wd 18446744073709551616 f.num.natAbs)∧Sl .u64 w' v2 (wd 18446744073709551616 f.den)∧But [] W w'):=fun W hb=>kz v f W (hf.but hb)
 have P1:Hid (∀ W u,Sl .u64 W u (wd 18446744073709551616 f.num.natAbs)→Calls prog 190 #[u,.int .i64 (k:Int)] W fun e w'=>∃ v',e=.returned v'∧Sl .u64 w' v' (wd 18446744073709551616 (f.num.natAbs^k))∧But [] W w'):=fun W u hu=>zkq u _ k W hu (by omega) (by have:=lf.1;omega)
 have P2:Hid (∀ W u,Sl .u64 W u (wd 18446744073709551616 f.den)→Calls prog 190 #[u,.int .i64 (k:Int)] W fun e w'=>∃ v',e=.returned v'∧Sl .u64 w' v' (wd 18446744073709551616 (f.den^k))∧But [] W w'):=fun W u hu=>zkq u _ k W hu (by omega) (by have:=lf.2;omega)
 obtain⟨bl,hbl⟩:∃ bl,bl=(decide (f.num<0) && decide (k%2=1)):=⟨_,rfl⟩
 have ga:g.num.natAbs=f.num.natAbs^k:=by rw[gn,Int.natAbs_pow]
 have OL:Hid (∀ W v1 v2,Sl .u64 W v1 (wd 18446744073709551616 (f.num.natAbs^k))→Sl .u64 W v2 (wd 18446744073709551616 (f.den^k))→Calls prog 169 #[.bool bl,v1,v2] W fun e w'=>∃ v,e=.returned v∧am w' v g∧But [] W w'):=fun W v1 v2 h1 h2=>ic bl v1 v2 g W (by rw[ga];exact h1) (by rw[gd];exact h2) (by rw[ga,gn,hbl];exact qbk f.num k) (by rw[ga];omega) (by rw[gd];omega)
 obtain⟨x1,y1,p1,rfl,-⟩:=hf.agg
 have pc:=zya _ k bl hbl
 clear hf lf l1 l2 gn gd ga hbl hg
 generalize decide (f.num<0)=s1 at *
 have c1:¬ (k:Int) < -200:=by omega
 have c2:¬ (200:Int)<(k:Int):=by omega
 obtain⟨W,hW⟩:∃ W,W=((w.alloc (.cells #[.bool s1,.int .u64 x1,.int .u64 y1,.pointer p1] 27)).alloc (.cells #[.bool false,.int .u64 0,.int .u64 0,.pointer none] 27)):=⟨_,rfl⟩
 rcases pc with ⟨rfl,rfl⟩|⟨rfl,hp,rfl⟩|⟨rfl,hp,rfl⟩
 case' inr.inl =>(
 have m1:(k:Int)%2=0:=by omega
 have m2:Int.tmod (k:Int) 2=0:=by rw[Int.tmod_eq_emod_of_nonneg (by omega)];exact m1
 clear hp)
 case' inr.inr =>(
 have m1:(k:Int)%2=1:=by omega
 have m2:Int.tmod (k:Int) 2=1:=by rw[Int.tmod_eq_emod_of_nonneg (by omega)];exact m1
 clear hp)
 all_goals(
 obtain⟨tA,tC,fz,hB⟩:=nu w W _ _ _ hW
 have fa:∀ j,W.frozen? ⟨w.heap.size,j,none⟩=false:=znz w W _ _ _ hW
 have a0:=tA 0
 have a1:=tA 1
 have a2:=tA 2
 have a3:=tA 3
 have r0:=tC 0
 have r1:=tC 1
 have r2:=tC 2
 have r3:=tC 3
 simp only[List.getElem?_toArray,List.getElem?_cons_zero,List.getElem?_cons_succ] at a0 a1 a2 a3 r0 r1 r2 r3
 have BL:Hid (Blank W (w.heap.size+1)):=⟨r0,r1,r2,r3,fun j hj=>by rw[tC j];simp;omega⟩
 clear tA tC
 have HW:=af hW
 have HB:=af hB
 clear hW hB
 go_enter func161,ntmps161
 go_wp2_with fail
 rw[← ae HW]
 obtain⟨ga,hga⟩:∃ ga,ga=w.heap.size:=⟨_,rfl⟩
 obtain⟨gr,hgr⟩:∃ gr,gr=w.heap.size+1:=⟨_,rfl⟩
 rw[← hga] at a0 a1 a2 a3 fa
 rw[← hgr] at r0 r1 r2 r3 fz BL
 rw[← hgr,← hga]
 have HGR:Hid (w.heap.size≤gr):=by show _≤_;omega
 have HGA:Hid (w.heap.size≤ga):=by show _≤_;omega
 have nga:ga≠gr:=by omega
 clear hga hgr HW
 refine (ae NU _ (ae HB)).mono ?_
 rintro e w4 ⟨v1,v2,rfl,hs1,hs2,hb4⟩
 have HS1:=af hs1
 have HS2:=af hs2
 have grl3:gr<W.heap.size:=ai r0
 have uf:∀ j,w4.frozen? ⟨gr,j,none⟩=false:=fun j=>(hb4.frozen (p:=⟨gr,j,none⟩) grl3 (by simp)).trans (fz j)
 have c0:=hb4.ag a0 (by simp)
 have u0:=hb4.ag r0 (by simp)
 have u1:=hb4.ag r1 (by simp)
 have u2:=hb4.ag r2 (by simp)
 have u3:=hb4.ag r3 (by simp)
 have HB4:Hid (But [] w w4):=(ae HB).trans' hb4
 have BL4:Hid (Blank w4 gr):=(ae BL).but hb4
 have grl:gr<w4.heap.size:=ai u0
 clear hs1 hs2 hb4 a0 r0 r1 r2 r3 fz fa grl3 BL HB NU
 go_wp2_with fail
 refine (ae P1 _ _ (ae HS1)).mono ?_
 rintro e wz1 ⟨vp1,rfl,hsp1,hz1⟩
 have HT1:=af hsp1
 have HS2':=af ((ae HS2).ah hz1)
 have c1:=hz1.ag c0 (by simp)
 clear hsp1
 go_wp2_with fail
 refine (ae P2 _ _ (ae HS2')).mono ?_
 rintro e wz2 ⟨vp2,rfl,hsp2,hz2⟩
 have HT2:=af hsp2
 have HT1':=af ((ae HT1).ah hz2)
 have c2:=hz2.ag c1 (by simp)
 have Bz2:=hz1.trans' hz2
 clear hsp2 hz1 hz2 c1 c0
 go_wp2_with fail
 refine (ae OL _ _ _ (ae HT1') (ae HT2)).mono ?_
 rintro e wz3 ⟨vr,rfl,hvr,hz3⟩
 have Bz3:=Bz2.trans' hz3
 have HVR:=af hvr
 obtain⟨x8,y8,p8,rfl,-⟩:=hvr.agg
 clear hvr hz3 Bz2
 generalize decide (g.num<0)=r8 at *
 have q0:=Bz3.ag u0 (by simp)
 have q1:=Bz3.ag u1 (by simp)
 have q2:=Bz3.ag u2 (by simp)
 have q3:=Bz3.ag u3 (by simp)
 have qf:∀ j,wz3.frozen? ⟨gr,j,none⟩=false:=fun j=>(Bz3.frozen (p:=⟨gr,j,none⟩) grl (by simp)).trans (uf j)
 go_wp2
 have hBh:But [gr] wz3 ((((wz3.setCell ⟨gr,0,none⟩ (.bool r8)).setCell ⟨gr,1,none⟩ (.int .u64 x8)).setCell ⟨gr,2,none⟩ (.int .u64 y8)).setCell ⟨gr,3,none⟩ (.pointer p8)):=(((((But.refl [gr] wz3).setCell (.inl (by simp)) _).setCell (.inl (by simp)) _).setCell (.inl (by simp)) _).setCell (.inl (by simp)) _)
 have hBf:=(((((ae HB4).trans' Bz3).setCell (p:=⟨gr,0,none⟩) (.inr (ae HGR)) (.bool r8)).setCell (p:=⟨gr,1,none⟩) (.inr (ae HGR)) (.int .u64 x8)).setCell (p:=⟨gr,2,none⟩) (.inr (ae HGR)) (.int .u64 y8)).setCell (p:=⟨gr,3,none⟩) (.inr (ae HGR)) (.pointer p8)
 exact bodyPost_ret (v:=.tuple #[.agg #[.bool r8,.int .u64 x8,.int .u64 y8,.pointer p8],.nilIface]) (by simp[results,results161,go_sem,q0,q1,q2,q3]) rfl ⟨_,rfl,((ae BL4).but Bz3).zky (ae HVR) hBh,hBf⟩))
theorem zuk (v:Value) (f:Rat) (k:Nat) (w:World) (hf:am w v f) (hk:k≤200) (lf:Len f 2) :
  Calls prog 161 #[v,.int .i64 (k:Int)] w fun e w'=>∃ v',e=.returned (.tuple #[v',.nilIface])∧am w' v' (zbz f k)∧But [] w w' :=
 zsc v f k w hf hk ⟨Nat.le_trans lf.1 (by omega),Nat.le_trans lf.2 (by omega)⟩ (Nat.le_trans (zjr _ k lf.1 hk) (by omega)) (Nat.le_trans (zjr _ k lf.2 hk) (by omega))
end Go.Proofs.YtagmkkiagjmimaaGreatDoor
namespace Go.Proofs
open Go.Proofs.Tryz
open Go.Shelf Go.RowKit
def Tryz.lays145_ren : Go.Shelf.Ren := ⟨fun | 145 => 203 | 217 => 268 | 219 => 256 | 220 => 233 | 224 => 270 | 225 => 269 | 266 => 273 | 267 => 271 | 314 => 274 | n => n, fun | 3 => 3 | 4 => 4 | 5 => 5 | 9 => 9 | 46 => 207 | 51 => 238 | 59 => 242 | 146 => 294 | n => n, fun | 1 => 4 | n => n⟩
theorem Tryz.lays145 : Go.Proofs.Lays.n145 Tryz.prog Tryz.lays145_ren := {
  mixed := by kernel_rfl
  f145 := Tryz.func203.trans (congrArg some (by kernel_rfl))
  f217 := Tryz.func268.trans (congrArg some (by kernel_rfl))
  f219 := Tryz.func256.trans (congrArg some (by kernel_rfl))
  f220 := Tryz.func233.trans (congrArg some (by kernel_rfl))
  f224 := Tryz.func270.trans (congrArg some (by kernel_rfl))
  f225 := Tryz.func269.trans (congrArg some (by kernel_rfl))
  f266 := Tryz.func273.trans (congrArg some (by kernel_rfl))
  f267 := Tryz.func271.trans (congrArg some (by kernel_rfl))
  f314 := Tryz.func274.trans (congrArg some (by kernel_rfl))
  t3 := Tryz.underlying3
  a3 := Tryz.isAgg3
  z3 := Tryz.sizeOf3
  v3 := Tryz.zeroValue3
  t4 := Tryz.underlying4
  a4 := Tryz.isAgg4
  z4 := Tryz.sizeOf4
  v4 := Tryz.zeroValue4
  t5 := Tryz.underlying5
  a5 := Tryz.isAgg5
  z5 := Tryz.sizeOf5
  v5 := Tryz.zeroValue5
  t9 := Tryz.underlying9
  a9 := Tryz.isAgg9
  z9 := Tryz.sizeOf9
  v9 := Tryz.zeroValue9
  t46 := Tryz.underlying207
  a46 := Tryz.isAgg207
  z46 := Tryz.sizeOf207
  v46 := Tryz.zeroValue207
  t51 := Tryz.underlying238
  a51 := Tryz.isAgg238
  z51 := Tryz.sizeOf238
  v51 := Tryz.zeroValue238
  t59 := Tryz.underlying242
  a59 := Tryz.isAgg242
  z59 := Tryz.sizeOf242
  v59 := Tryz.zeroValue242
  t146 := Tryz.underlying294
  a146 := Tryz.isAgg294
  z146 := Tryz.sizeOf294
  v146 := Tryz.zeroValue294
  g1 := by kernel_rfl }
theorem zgn (d:UInt8):∀ (pre post:List UInt8),d ∉ pre→Lib.index (pre++d::post) [d]=(pre.length:Int)
 | [],post,_=>by simp[Lib.index,List.isPrefixOf]
 | b::l,post,h=>by
  have hb:¬ d=b:=fun e=>h (by simp[e])
  have ih:=zgn d l post (fun e=>h (by simp[e]))
  rw[List.cons_append,Lib.index,ih]
  have h1:([d].isPrefixOf (b::(l++d::post)))=false:=by simp[List.isPrefixOf,hb]
  rw[h1]
  have h2:(((l.length:Nat):Int)==-1)=false:=by rw[beq_eq_false_iff_ne];omega
  simp[h2]
theorem index_none (d:UInt8):∀ (l:List UInt8),d ∉ l→Lib.index l [d]=-1
 | [],_=>by simp[Lib.index]
 | b::l,h=>by
  have hb:¬ d=b:=fun e=>h (by simp[e])
  have ih:=index_none d l (fun e=>h (by simp[e]))
  rw[Lib.index,ih]
  have h1:([d].isPrefixOf (b::l))=false:=by simp[List.isPrefixOf,hb]
  rw[h1]
  simp
theorem qjq (d:UInt8) (l:List UInt8) (h:d ∉ l):Lib.cut l [d]=(l,[],false):=by(
 unfold Lib.cut
 rw[index_none d l h]
 simp)
theorem zur (d:UInt8) (pre post:List UInt8) (h:d ∉ pre):Lib.cut (pre++d::post) [d]=(pre,post,true):=by(
 unfold Lib.cut
 rw[zgn d pre post h,if_pos (by omega),Int.toNat_natCast]
 simp)
theorem Tryz.strings_Cut (t:ByteArray) (d:UInt8) (pre post:List UInt8) (m:Int) (w:World) (ht:t.data.toList=pre++d::post) (hd:d ∉ pre) (hs:t.size<4294967281) (hm:w.cell? ⟨4,0,none⟩=some (.int .i64 m)) :
   Calls prog 203 #[.string t,.string ⟨#[d]⟩] w fun e w'=>e=.returned (.tuple #[.string ⟨pre.toArray⟩,.string ⟨post.toArray⟩,.bool true])∧∃ n,w'=w.drewN n:=by(
 have h:=Any.strings_Cut Tryz.lays145 t ⟨#[d]⟩ m w hs hm
 rw[ht,show (⟨#[d]⟩:ByteArray).data.toList=[d] from rfl,zur d pre post hd] at h
 exact h)
end Go.Proofs
namespace Go.Proofs.YtagmkkiagjmimaaGreatDoor
open Go.Proofs.Tryz
open Go.RowKit
set_option maxHeartbeats 16000000
set_option maxRecDepth 100000
theorem zze (f:Rat) (r:Int) (hr:r=zbg (f.num*((((fl f:Int):Rat)).den:Int)) (((fl f:Int):Rat).num*(f.den:Int))):(r==0)=decide (f.den=1):=by(
 obtain⟨e1,e2⟩:=bj (fl f)
 rw[e1,e2] at hr
 by_cases h:f.den=1
 ·have hw:=(zgp f h).1
  rw[hw,h] at hr
  rw[hr,decide_eq_true h]
  simp[zbg]
 ·(
 rw[decide_eq_false h,beq_eq_false_iff_ne]
 intro e
 rw[e] at hr
 unfold zbg at hr
 split at hr
 ·omega
 ·(
 split at hr
 ·(
 rename_i h1 h2
 have h3:=zwq h
 have h4:f.num=fl f*(f.den:Int):=by omega
 apply h3
 rw[h4,Int.natAbs_mul,Int.natAbs_natCast]
 exact Nat.mul_mod_left _ _)
 ·omega)))
theorem qez (f:Rat) (h:f.den≠1):∃ pre:List UInt8,(oz (decide (f.num<0)) f.num.natAbs f.den).data.toList=pre++47::Lib.decDigits f.den∧(47:UInt8) ∉ pre:=by(
 have hd:(47:UInt8) ∉ Lib.decDigits f.num.natAbs:=fun hm=>by
  have:=(zlc f.num.natAbs).1 _ hm
  revert this
  decide
 refine⟨(if decide (f.num<0)=true then [45] else [])++Lib.decDigits f.num.natAbs,?_,?_⟩
 ·(
 unfold oz
 rw[if_neg h]
 by_cases hs:f.num<0
 ·simp[hs]
 ·simp[hs])
 ·by_cases hs:f.num<0
  ·simp[hs];exact hd
  ·simp[hs];exact hd)
theorem qco (d:Nat):(((d:Int):Rat)).num=sgn false d*((((d:Int):Rat)).den:Int):=by(
 obtain⟨e1,e2⟩:=bj (d:Int)
 rw[e1,e2]
 simp[sgn])
theorem qfd (n:Nat):zbz ((10:Int):Rat) n=(((10^n:Nat):Int):Rat):=by(
 obtain⟨e1,e2⟩:=zfh ((10:Int):Rat) n
 obtain⟨i1,i2⟩:=bj (10:Int)
 obtain⟨j1,j2⟩:=bj ((10^n:Nat):Int)
 rw[i1] at e1
 rw[i2,Nat.one_pow] at e2
 apply Rat.ext
 ·rw[e1,j1];simp
 ·rw[e2,j2])
theorem zal (d m:Nat) (h:d≤m) {L:Nat} (hL:(wd 18446744073709551616 m).length≤L) (h1:1≤L):Len (((d:Nat):Int):Rat) L:=by(
 obtain⟨e1,e2⟩:=bj (d:Int)
 refine⟨?_,?_⟩
 ·rw[e1,Int.natAbs_natCast]
  exact Nat.le_trans (au h) hL
 ·rw[e2]
  exact Nat.le_trans (aj (by omega) _ 1 (by omega)) h1)
theorem zxi (ds:List UInt8) (j n:Nat):jk (ds.take (j+n))=jk (ds.take j)*10^((ds.drop j).take n).length+jk ((ds.drop j).take n):=by
 rw[List.take_add,zaa]
theorem znj (ds:List UInt8) (j:Nat):jk (ds.take j)≤jk ds:=by(
 have h:=zaa (ds.take j) (ds.drop j)
 rw[List.take_append_drop] at h
 rw[h]
 exact Nat.le_trans (Nat.le_mul_of_pos_right _ (Nat.pow_pos (by omega))) (Nat.le_add_right _ _))
theorem qcn (a b c d:Nat) (h:d=a*b+c):(((a:Nat):Int):Rat)*(((b:Nat):Int):Rat)+(((c:Nat):Int):Rat)=(((d:Nat):Int):Rat):=by
 subst h
 simp
theorem qgf {f:Rat} {n:Nat} (h:Len f n) (hn:0<n):Len ((fl f:Int):Rat) (n+1):=by(
 obtain⟨h1,h2⟩:=bj (fl f)
 have h3:=h.lt
 have hb:(fl f).natAbs≤f.num.natAbs+1:=by
  by_cases hd:f.den=1
  ·rw[(zgp f hd).1];omega
  ·rw[zum f hd,jd]
   have:=Nat.div_le_self f.num.natAbs f.den
   split <;> omega
 refine zks (m:=n+1) (n:=1) ?_ (by rw[h2,Nat.pow_one];omega) (n+1) (Nat.le_refl _) (by omega)
 rw[h1,Nat.pow_succ]
 have h4:0 < 18446744073709551616^n:=Nat.pow_pos (by omega)
 omega)
def qin (v:Value):Nat:=match v with
 | .string t=>t.size
 | _=>0
theorem zyw (v:Value) (f:Rat) (w:World) (m:Int) (hf:am w v f) (lf:Len f 400000) (htab:Lib.TabIs prog w "internal/strconv.uint64pow10" .u64 Lib.pow10Tab) (hm:w.cell? ⟨4,0,none⟩=some (.int .i64 m)) :
   Calls prog 165 #[v] w fun e w'=>∃ v',e=.returned v'∧am w' v' (((f.den:Nat):Int):Rat)∧But [] w w':=by(
 obtain⟨x1,y1,p1,rfl,-⟩:=id hf.agg
 generalize hsf:decide (f.num<0)=s1 at *
 obtain⟨W,hW⟩:∃ W,W=(w.alloc (.cells #[.bool s1,.int .u64 x1,.int .u64 y1,.pointer p1] 27)).alloc (.cells #[.bool false,.int .u64 0,.int .u64 0,.pointer none] 27):=⟨_,rfl⟩
 obtain⟨tA,tC,fz,hB⟩:=nu w W _ _ _ hW
 have a0:=tA 0
 have a1:=tA 1
 have a2:=tA 2
 have a3:=tA 3
 have r0:=tC 0
 have r1:=tC 1
 have r2:=tC 2
 have r3:=tC 3
 simp only[List.getElem?_toArray,List.getElem?_cons_zero,List.getElem?_cons_succ] at a0 a1 a2 a3 r0 r1 r2 r3
 obtain⟨r,hr⟩:∃ r,r=zbg (f.num*((((fl f:Int):Rat)).den:Int)) (((fl f:Int):Rat).num*(f.den:Int)):=⟨_,rfl⟩
 have HR0:=af (zze f r hr)
 have lfl:Len ((fl f:Int):Rat) 33554431:=(qgf lf (by omega)).mono (by omega)
 have FL:=af (fun W' (hb:But [] w W')=>zzf _ f W' (hf.but hb) (lf.mono (by omega)))
 have CM:=af (fun W' (hb:But [] w W') v' (hv':am W' v' ((fl f:Int):Rat))=>zis _ v' f _ W' (hf.but hb) hv' (lf.mono (by omega)) lfl r hr)
 have HF:=af hf
 have HTAB:=af htab
 have HM:=af hm
 have LF:=af lf
 have HB:=af hB
 have HS:=af hsf
 have C1:Hid (P4 W w.heap.size s1 x1 y1 p1):=⟨a0,a1,a2,a3⟩
 have C2:Hid (az W (w.heap.size+1) 0):=⟨⟨false,0,0,none,⟨r0,r1,r2,r3⟩,zaj _⟩,fz⟩
 clear lfl hf htab hm lf hB a0 a1 a2 a3 r0 r1 r2 r3 tA tC hr hsf fz
 go_enter func165,ntmps165
 go_wp2
 rw[← hW]
 clear hW
 have ho2:w.heap.size≤w.heap.size+1:=by omega
 have O2:=af ho2
 have l12:w.heap.size≠w.heap.size+1:=by omega
 generalize hg2:w.heap.size+1=g2 at *
 generalize hg1:w.heap.size=g1 at *
 refine zmh 1 _ _ W s1 x1 y1 p1 r ((fl f:Int):Rat) (by simp) g1 (by simp[Act.eval]) (ae C1) (fun w' hb=>ae FL w' ((ae HB).trans' hb)) (fun w' hb v' hv'=>ae CM w' ((ae HB).trans' hb) v' hv') ?_
 intro w1 v2 hb1
 simp only[bi,List.foldl_cons,List.foldl_nil,Act.put,List.setIfInBounds_toArray,List.set_cons_zero,List.set_cons_succ]
 rw[ae HR0]
 have B1:=af ((ae HB).trans' hb1)
 have K1:=af ((ae C1).but hb1 (by simp))
 have K2:=af ((ae C2).but hb1)
 clear hb1 C1 C2 HB FL CM HR0
 by_cases hd:f.den=1
 ·(
 rw[decide_eq_true hd]
 obtain⟨ws,wx,FW,CW⟩:=zat 1 (by omega) (by omega)
 have CWH:=af CW
 have FWH:=af FW
 clear CW FW
 obtain⟨⟨s2,x2,y2,p2,⟨c0,c1,c2,c3⟩,-⟩,z2⟩:=ae K2
 go_wp2_with fail
 refine (ae CWH _).mono ?_
 rintro e w2 ⟨rfl,hb2⟩
 have B2:=af hb2
 have l2:g2<w1.heap.size:=ai c0
 have z2':∀ j,w2.frozen? ⟨g2,j,none⟩=false:=fun j=>(hb2.frozen (p:=⟨g2,j,none⟩) l2 (by simp)).trans (z2 j)
 replace c0:=hb2.ag c0 (by simp)
 replace c1:=hb2.ag c1 (by simp)
 replace c2:=hb2.ag c2 (by simp)
 replace c3:=hb2.ag c3 (by simp)
 clear hb2 CWH z2
 have P2:Hid (P4 w2 g2 s2 x2 y2 p2):=⟨c0,c1,c2,c3⟩
 go_wp2
 have hP:=aw w2 g2 ws wx 0 none
 obtain⟨m0,m1,m2,m3⟩:=zeu w2 g2 ws wx 0 none (ae P2)
 have hF:But [] w (gm w2 g2 ws wx 0 none):=((ae B1).trans' (ae B2)).trans hP (fun x hx=>by simp at hx;subst hx;exact .inr (by omega))
 change bodyPost _ _ _ _ _ (gm w2 g2 ws wx 0 none)
 generalize gm w2 g2 ws wx 0 none=F at *
 exact bodyPost_ret (v:=.agg #[.bool ws,.int .u64 wx,.int .u64 0,.pointer none]) (by simp[results,results165,go_sem,m0,m1,m2,m3]) rfl ⟨_,rfl,by rw[hd];exact ae FWH F,hF⟩)
 ·(
 rw[decide_eq_false hd]
 obtain⟨t,ht⟩:∃ t,t=oz (decide (f.num<0)) f.num.natAbs f.den:=⟨_,rfl⟩
 obtain⟨pre,hpre,hno⟩:=qez f hd
 rw[← ht] at hpre
 have hts:t.size<4294967281:=by
  have e:t.size=t.data.toList.length:=by simp
  have d1:=zex f.den (Nat.le_trans (ae LF).2 (by omega))
  have d2:=zex f.num.natAbs (Nat.le_trans (ae LF).1 (by omega))
  rw[e,ht]
  unfold oz
  by_cases hs:f.num<0
  ·simp[hs,hd];omega
  ·simp[hs,hd];omega
 have TX:=af (fun W' (hb:But [] w W')=>zdi _ f W' ((ae HF).but hb) ((ae LF).mono (by omega)) (TabIs.but (ae HTAB) hb) t ht)
 have CU:=af (fun W' (hb:But [] w W')=>Tryz.strings_Cut t 47 pre (Lib.decDigits f.den) m W' hpre hno hts (hb.ag (ae HM) (by simp)))
 obtain⟨hdg,hval,hpos⟩:=zlc f.den
 generalize hds:Lib.decDigits f.den=ds at *
 have HDG:=af hdg
 have HVAL:=af hval
 have HPOS:=af hpos
 obtain⟨c0,c1,c2,c3⟩:=ae K1
 clear hpre hno hts ht hds hdg hval hpos HTAB HM
 go_wp2_with fail
 refine (ae TX _ (ae B1)).mono ?_
 rintro e w2 ⟨rfl,hb2⟩
 have B2:=af ((ae B1).trans' hb2)
 have K2':=af ((ae K2).but hb2)
 clear K2 K1 c0 c1 c2 c3 hb2 B1 TX
 go_wp2_with fail
 refine (ae CU _ (ae B2)).mono ?_
 rintro e w3 ⟨rfl,nd,rfl⟩
 have B3:Hid (But [] w (w2.drewN nd)):=(ae B2).drewN nd
 have K3:=af ((ae K2').but ((But.refl [] w2).drewN nd))
 generalize w2.drewN nd=w3 at *
 clear B2 K2' CU
 go_wp2
 have V6:=af (az.new w3 false 0 0 none 0 27 (zaj _))
 have bV:But [] w3 (w3.alloc (.cells #[.bool false,.int .u64 0,.int .u64 0,.pointer none] 27)):=(But.refl _ _).alloc _
 have KV:=af ((ae K3).but bV)
 have BV:=af ((ae B3).trans' bV)
 have o6:g2<w3.heap.size:=(ae K3).lt
 have q6:w.heap.size≤w3.heap.size:=(ae B3).size
 clear bV K3 B3
 generalize hg6:w3.heap.size=g6 at *
 generalize w3.alloc (.cells #[.bool false,.int .u64 0,.int .u64 0,.pointer none] 27)=V at *
 clear hg6
 go_loopw [4] (fun dv wr=>∃ (j:Nat) (td:ByteArray),dv=.string td∧j≤ds.length∧Hid (td.data.toList=ds.drop j)∧Hid (az wr g6 (((jk (ds.take j):Nat):Int):Rat)∧az wr g2 0∧But [] w wr)) (fun dv _=>qin dv)
 case atStart=>exact⟨0,_,rfl,Nat.zero_le _,by show _=_;simp,ae V6,ae KV,ae BV⟩
 case round =>(
 obtain⟨j,td,rfl,hj,HTD,HI⟩:=hrel
 rename World=>wr
 clear V6 KV BV
 obtain⟨k,hk⟩:∃ k,k=ds.length-j:=⟨_,rfl⟩
 have hsz:td.size=k:=by rw[zar (ae HTD),List.length_drop,hk]
 by_cases hlt:j<ds.length
 ·(
 have h0:0<k:=by omega
 obtain⟨n,hn⟩:∃ n,n=Nat.min k 60:=⟨_,rfl⟩
 have hn60:n≤60:=by rw[hn];exact Nat.min_le_right _ _
 have hnk:n≤k:=by rw[hn];exact Nat.min_le_left _ _
 have hn1:0<n:=by rw[hn];exact Nat.lt_min.2 ⟨h0,by omega⟩
 have hmin:min (k:Int) 60=(n:Int):=by
  have e:n=min k 60:=hn
  omega
 have HK:=af hk
 have hnj:j+n≤ds.length:=by omega
 have e1:(td.extract 0 n).data.toList=(ds.drop j).take n:=by
  rw[← ae HTD]
  simp[ByteArray.data_extract,List.extract_eq_take_drop]
 have e2:(td.extract n k).data.toList=ds.drop (j+n):=by
  rw[← List.drop_drop,← ae HTD]
  simp only[ByteArray.data_extract,List.extract_eq_take_drop,Array.toList_extract]
  exact List.take_of_length_le (by rw[List.length_drop];have:=zar (t:=td) rfl;omega)
 have E2:=af e2
 have lp:((ds.drop j).take n).length=n:=by rw[List.length_take,List.length_drop];omega
 have LPc:=af lp
 have dp:tu ((ds.drop j).take n):=fun x hx=>ae HDG x (List.mem_of_mem_drop (List.mem_of_mem_take hx))
 have PA:=af (fun W=>zrf (td.extract 0 n) false ((ds.drop j).take n) W (by rw[e1];rfl) dp (by omega) (by omega) _ (qco (jk ((ds.drop j).take n))))
 obtain⟨ws,wx,FW,CW⟩:=zat 10 (by omega) (by omega)
 have CWH:=af CW
 have PW:=af (fun W=>zuk _ _ n W (FW W) (by omega) ((zgk 10 (by decide)).mono (by omega)))
 have H6:=af (ae HI).1
 have H2:=af (ae HI).2.1
 have HBW:=af (ae HI).2.2
 clear hn hk e1 e2 lp dp CW HI
 go_wp2_with fail
 refine (ae PA _).mono ?_
 rintro e w4 ⟨v4,rfl,hv4,hb4⟩
 obtain⟨x4,y4,p4,rfl,-⟩:=id hv4.agg
 generalize hs4:decide ((((jk ((ds.drop j).take n):Nat):Int):Rat).num<0)=s4 at *
 clear hs4
 have B4:=af hb4
 have HV4:=af hv4
 have A4:=af (az.new w4 s4 x4 y4 p4 _ 27 hv4)
 have bA4:Hid (But [] w4 (w4.alloc (.cells #[.bool s4,.int .u64 x4,.int .u64 y4,.pointer p4] 27))):=(But.refl _ _).alloc _
 clear hv4 hb4 PA
 go_wp2_with fail
 refine (ae CWH _).mono ?_
 rintro e w5 ⟨rfl,hb5⟩
 have B5:=af hb5
 clear hb5 CWH
 go_wp2_with fail
 refine (ae PW _).mono ?_
 rintro e w6 ⟨v6,rfl,hv6,hb6⟩
 obtain⟨x6,y6,p6,rfl,-⟩:=id hv6.agg
 generalize hs6:decide ((zbz ((10:Int):Rat) n).num<0)=s6 at *
 clear hs6
 rw[qfd] at hv6
 have B6:=af hb6
 have A6:=af (az.new w6 s6 x6 y6 p6 _ 27 hv6)
 have bA6:Hid (But [] w6 (w6.alloc (.cells #[.bool s6,.int .u64 x6,.int .u64 y6,.pointer p6] 27))):=(But.refl _ _).alloc _
 clear hv6 hb6 PW
 go_wp2
 obtain⟨U,hU⟩:∃ U,U=w6.alloc (.cells #[.bool s6,.int .u64 x6,.int .u64 y6,.pointer p6] 27):=⟨_,rfl⟩
 rw[← hU] at A6 bA6
 rw[← hU]
 have b46:But [] (w4.alloc (.cells #[.bool s4,.int .u64 x4,.int .u64 y4,.pointer p4] 27)) U:=((ae B5).trans' (ae B6)).trans' (ae bA6)
 have bU:But [] wr U:=((ae B4).trans' (ae bA4)).trans' b46
 have BU:=af bU
 have D8:=af ((ae A4).but b46)
 have D6:=af ((ae H6).but bU)
 have D2:=af ((ae H2).but bU)
 have DB:=af ((ae HBW).trans' bU)
 have l8:g6<w4.heap.size:=Nat.lt_of_lt_of_le (ae H6).lt (ae B4).size
 generalize hg8:w4.heap.size=g8 at *
 generalize hg10:w6.heap.size=g10 at *
 clear hU B4 bA4 A4 B5 B6 bA6 b46 bU H6 H2 HBW hg8 hg10 HV4
 obtain⟨⟨t6,a6,b6,q6',c6,hf6⟩,z6⟩:=ae D6
 obtain⟨⟨t8,a8,b8,q8,c8,hf8⟩,-⟩:=ae D8
 obtain⟨⟨t10,a10,b10,q10,c10,hf10⟩,-⟩:=ae A6
 have ltk:=znj ds j
 have ltn:=znj ds (j+n)
 have stp:=zxi ds j n
 rw[ae LPc] at stp
 have lden:(wd 18446744073709551616 (jk ds)).length≤400000:=by rw[ae HVAL];exact (ae LF).2
 have ten4:Len (((10^n:Nat):Int):Rat) 1000000:=zal (10^n) (10^60) (Nat.pow_le_pow_right (by omega) hn60) (Nat.le_trans (aj (by omega) _ 4 (by decide)) (by omega)) (by omega)
 have lmul:Len ((((jk (ds.take j):Nat):Int):Rat)*(((10^n:Nat):Int):Rat)) 400000:=by
  have e:(((jk (ds.take j):Nat):Int):Rat)*(((10^n:Nat):Int):Rat)=(((jk (ds.take j)*10^n:Nat):Int):Rat):=by simp
  rw[e]
  exact zal _ (jk ds) (by omega) lden (by omega)
 refine zmg 9 _ _ U t6 a6 b6 q6' t10 a10 b10 q10 t8 a8 b8 q8 _ _ _ g6 g8 g10 (by simp) (by simp[Act.eval]) c6 z6 (by simp[Act.eval]) (by simp[Act.eval]) c6 c10 c8 (fun w' hb=>dx _ _ _ _ w' (hf6.but hb) (hf10.but hb) (zal _ (jk ds) ltk (Nat.le_trans lden (by omega)) (by omega)) ten4) (fun w' hb v' hv'=>zbt 400000 400000 (by omega) _ _ _ _ w' hv' (hf8.but hb) lmul (zal _ (jk ds) (by omega) lden (by omega))) ?_
 intro w7 v2' s7 x7 y7 p7 hb7 hf7
 simp only[bi,List.foldl_cons,List.foldl_nil,Act.put,List.setIfInBounds_toArray,List.set_cons_zero,List.set_cons_succ]
 rw[qcn _ _ _ _ stp] at hf7
 have hP:=aw w7 g6 s7 x7 y7 p7
 have J6:=af (((ae D6).but hb7).put hf7)
 have J2:=af (((ae D2).but hb7).beside hP (by simp;omega) (fun g hg=>by simp at hg;subst hg;exact ((ae D6).but hb7).bool))
 have JB:=af (((ae DB).trans' hb7).trans hP (fun x hx=>by simp at hx;subst hx;exact .inr q6))
 generalize gm w7 g6 s7 x7 y7 p7=V7 at *
 clear hP hf7 hb7 D6 D2 DB D8 A6 c6 c8 c10 hf6 hf8 hf10 z6 ltk ltn stp lden ten4 lmul BU
 go_wp2
 refine⟨⟨j+n,_,rfl,hnj,E2,ae J6,ae J2,ae JB⟩,?_⟩
 show (td.extract n k).size<td.size
 have hx:=zar (ae E2)
 rw[List.length_drop] at hx
 have:=ae HK
 omega)
 ·(
 obtain rfl:j=ds.length:=by omega
 have k0:k=0:=by omega
 obtain⟨⟨⟨t6,a6,b6,q6',⟨d0,d1,d2,d3⟩,hf6⟩,z6⟩,⟨⟨t2,a2,b2,q2,⟨c0,c1,c2,c3⟩,-⟩,z2⟩,hbw⟩:=ae HI
 rw[List.take_length,ae HVAL] at hf6
 have HF6:=af hf6
 have HBW:=af hbw
 have P2:Hid (P4 wr g2 t2 a2 b2 q2):=⟨c0,c1,c2,c3⟩
 clear HI hf6 hbw hk
 go_wp2
 have hP:=aw wr g2 t6 a6 b6 q6'
 obtain⟨m0,m1,m2,m3⟩:=zeu wr g2 t6 a6 b6 q6' (ae P2)
 have hF:But [] w (gm wr g2 t6 a6 b6 q6'):=(ae HBW).trans hP (fun x hx=>by simp at hx;subst hx;exact .inr (by omega))
 have hff:=(ae HF6).over (ae P2).1 hP
 change bodyPost _ _ _ _ _ (gm wr g2 t6 a6 b6 q6')
 generalize gm wr g2 t6 a6 b6 q6'=F at *
 exact bodyPost_ret (v:=.agg #[.bool t6,.int .u64 a6,.int .u64 b6,.pointer q6']) (by simp[results,results165,go_sem,m0,m1,m2,m3]) rfl ⟨_,rfl,hff,hF⟩))))
def ku (U:Nat) (f:Rat):Nat:=U*(f*(((U:Nat):Int):Rat)).den
def yg (U:Nat) (fs:List Rat):Nat:=fs.foldl ku U
theorem zei (U:Nat) (xs ys:List Rat):yg U (xs++ys)=yg (yg U xs) ys:=List.foldl_append
theorem zzp (U:Nat) (fs:List Rat) (k:Nat) (hk:k<fs.length):yg U (fs.take (k+1))=ku (yg U (fs.take k)) (fs[k]?.getD 0):=by
 rw[List.take_add_one,List.getElem?_eq_getElem hk,zei]
 rfl
theorem zxe (f:Rat) (U:Nat):(f*(((U:Nat):Int):Rat)).den ∣ f.den:=by(
 have hc:=sj f (((U:Nat):Int):Rat)
 obtain⟨e1,e2⟩:=bj (U:Int)
 rw[e1,e2,Nat.mul_one] at hc
 have hr:Nat.Coprime (f*(((U:Nat):Int):Rat)).num.natAbs (f*(((U:Nat):Int):Rat)).den:=(f*(((U:Nat):Int):Rat)).reduced
 have h2:(f*(((U:Nat):Int):Rat)).num.natAbs*f.den=(f.num*(U:Int)).natAbs*(f*(((U:Nat):Int):Rat)).den:=by
  have:=congrArg Int.natAbs hc
  rw[Int.natAbs_mul,Int.natAbs_mul,Int.natAbs_natCast,Int.natAbs_natCast] at this
  exact this
 exact Nat.Coprime.dvd_of_dvd_mul_left hr.symm ⟨(f.num*(U:Int)).natAbs,by rw[h2,Nat.mul_comm]⟩)
theorem zgu (c:Nat):∀ (fs:List Rat) (U:Nat),(∀ f ∈ fs,Len f c)→(wd 18446744073709551616 (yg U fs)).length≤(wd 18446744073709551616 U).length+fs.length*c
 | [],U,_=>by simp[yg]
 | f::fs,U,h=>by
  have ih:=zgu c fs (ku U f) (fun g hg=>h g (by simp[hg]))
  have hd:=Nat.le_of_dvd (den_pos f) (zxe f U)
  have h1:(wd 18446744073709551616 (ku U f)).length≤(wd 18446744073709551616 U).length+c:=by
   unfold ku
   exact Nat.le_trans (qi _ _) (Nat.add_le_add_left (Nat.le_trans (au hd) (h f (by simp)).2) _)
  show (wd 18446744073709551616 (yg (ku U f) fs)).length≤_
  rw[List.length_cons,Nat.succ_mul]
  omega
theorem zus (v:Value) (ls:List (List Rat)) (w:World) (m:Int) (c:Nat) (hv:zha w v ls) (hn:ls.length≤100000) (hl:∀ l ∈ ls,l.length≤100000) (lf:∀ l ∈ ls,∀ f ∈ l,Len f c) (hc:ls.flatten.length*c+1≤200000) (hc1:c≤100000) (htab:Lib.TabIs prog w "internal/strconv.uint64pow10" .u64 Lib.pow10Tab) (hm:w.cell? ⟨4,0,none⟩=some (.int .i64 m)) :
   Calls prog 86 #[v] w fun e w'=>∃ v',e=.returned v'∧am w' v' (((yg 1 ls.flatten:Nat):Int):Rat)∧But [] w w':=by(
 obtain⟨q,cap,rfl,hcap,-⟩:=id hv
 obtain⟨n,hN⟩:∃ n,n=ls.length:=⟨_,rfl⟩
 rw[← hN] at hn hcap ⊢
 rw[← hN] at hv
 have HV:=af hv
 have HN:=af hN
 have HTAB:=af htab
 have HM:=af hm
 obtain⟨ws,wx,FW,CW⟩:=zat 1 (by omega) (by omega)
 have CWH:=af CW
 have FWH:=af FW
 clear hv hN htab hm CW FW
 have bA:But [] w (w.alloc (.cells #[.bool false,.int .u64 0,.int .u64 0,.pointer none] 27)):=(But.refl _ _).alloc _
 have xA:=az.new w false 0 0 none 0 27 (zaj _)
 have BA:=af bA
 have XA:=af xA
 clear bA xA
 go_enter func86,ntmps86
 go_wp2_with fail
 refine (ae CWH _).mono ?_
 rintro e w1 ⟨rfl,hb1⟩
 have B1:=af ((ae BA).trans' hb1)
 have X2:=af ((ae XA).but hb1)
 clear hb1 BA XA CWH
 go_wp2
 have x3:=az.new w1 ws wx 0 none _ 27 (ae FWH w1)
 have bV:But [] w1 (w1.alloc (.cells #[.bool ws,.int .u64 wx,.int .u64 0,.pointer none] 27)):=(But.refl _ _).alloc _
 have X3:=af x3
 have Y2:=af ((ae X2).but bV)
 have BV:=af ((ae B1).trans' bV)
 have o3:w.heap.size<w1.heap.size:=(ae X2).lt
 clear x3 bV X2 B1
 generalize hg3:w1.heap.size=g3 at *
 generalize hg2:w.heap.size=g2 at *
 generalize w1.alloc (.cells #[.bool ws,.int .u64 wx,.int .u64 0,.pointer none] 27)=V at *
 clear hg3
 go_loopw [11] (fun iv wr=>∃ i:Nat,i≤n∧iv=.int .i64 (i:Int)∧Hid (az wr g3 (((yg 1 (ls.take i).flatten:Nat):Int):Rat)∧az wr g2 0∧But [] w wr)) (fun iv _=>n-(intOf iv).toNat)
 case atStart=>exact⟨0,Nat.zero_le _,rfl,ae X3,ae Y2,ae BV⟩
 case round =>(
 obtain⟨i,hi,rfl,HI⟩:=hrel
 rename World=>wr
 clear X3 Y2 BV
 by_cases hlt:i<n
 ·(
 have hil:i<ls.length:=by have:=ae HN;omega
 obtain⟨b,off,u,rfl,hcu,hfu⟩:=(ae HV).get i hil
 replace hcu:=(ae HI).2.2.ag hcu (by simp)
 obtain⟨l,hL⟩:∃ l,l=ls[i]?.getD []:=⟨_,rfl⟩
 rw[← hL] at hfu
 have hmem:l ∈ ls:=by rw[hL,List.getElem?_eq_getElem hil];exact List.getElem_mem hil
 have hll:=hl l hmem
 have LFL:=af (lf l hmem)
 have htk:(ls.take (i+1)).flatten=(ls.take i).flatten++l:=by
  have e:ls[i]? = some l:=by rw[hL,List.getElem?_eq_getElem hil];rfl
  rw[List.take_add_one,e]
  simp
 have hln:((ls.take i).flatten.length+l.length)*c+1≤200000:=by
  have h1:((ls.take i).flatten++l).length≤ls.flatten.length:=by
   rw[← htk]
   have e:ls.flatten=(ls.take (i+1)).flatten++(ls.drop (i+1)).flatten:=by rw[← List.flatten_append,List.take_append_drop]
   rw[e,List.length_append]
   omega
  rw[List.length_append] at h1
  exact Nat.le_trans (Nat.add_le_add_right (Nat.mul_le_mul_right c h1) 1) hc
 have LFT:Hid (∀ f ∈ (ls.take i).flatten,Len f c):=fun f hf=>by
  obtain⟨l',h1,h2⟩:=List.mem_flatten.1 hf
  exact lf l' (List.mem_of_mem_take h1) f h2
 obtain⟨qu,cu,rfl,hcu2,-⟩:=id hfu
 obtain⟨k,hk⟩:∃ k,k=l.length:=⟨_,rfl⟩
 rw[← hk] at hfu hcu hcu2 hll hln
 have HFU:=af hfu
 have HTK:=af htk
 have HLN:=af hln
 have HK:=af hk
 clear hfu hL hk htk hln hmem
 go_wp2
 clear hcu
 go_loopw [17] (fun jv wx=>∃ j:Nat,j≤k∧jv=.int .i64 (j:Int)∧Hid (az wx g3 (((yg (yg 1 (ls.take i).flatten) (l.take j):Nat):Int):Rat)∧az wx g2 0∧But [] w wx)) (fun jv _=>k-(intOf jv).toNat)
 case atStart=>exact⟨0,Nat.zero_le _,rfl,(ae HI).1,(ae HI).2.1,(ae HI).2.2⟩
 case round =>(
 obtain⟨j,hj,rfl,HJ⟩:=hrel
 rename World=>wx
 clear HI
 by_cases hjt:j<k
 ·(
 have hjl:j<l.length:=by have:=ae HK;omega
 have hfx:=(ae HFU).but (ae HJ).2.2
 rcases hfx.open with ⟨er,-⟩|⟨-,rb,roff,rcap2,er,-,-⟩
 ·rw[er] at hjl
  simp at hjl
 simp only[Value.slice.injEq] at er
 obtain⟨rfl,-,rfl⟩:=er
 obtain⟨sr,xr,yr,pr,⟨r0,r1,r2,r3⟩,hfr⟩:=hfx.get j hjt
 have HFR:=af hfr
 clear hfx hfr
 go_wp2
 have bA:But [] wx (wx.alloc (.cells #[.bool sr,.int .u64 xr,.int .u64 yr,.pointer pr] 27)):=(But.refl _ _).alloc _
 have x7:=az.new wx sr xr yr pr _ 27 (ae HFR)
 have D3:=af ((ae HJ).1.but bA)
 have D2:=af ((ae HJ).2.1.but bA)
 have DB:=af ((ae HJ).2.2.trans' bA)
 have X7:=af x7
 clear bA x7 HFR r0 r1 r2 r3 HJ
 generalize wx.heap.size=g7 at *
 generalize wx.alloc (.cells #[.bool sr,.int .u64 xr,.int .u64 yr,.pointer pr] 27)=U at *
 obtain⟨⟨t3,a3,b3,q3,c3,hf3⟩,z3⟩:=ae D3
 obtain⟨⟨t7,a7,b7,q7,c7,hf7⟩,-⟩:=ae X7
 obtain⟨A,hA⟩:∃ A,A=yg (yg 1 (ls.take i).flatten) (l.take j):=⟨_,rfl⟩
 have hstep:=zzp (yg 1 (ls.take i).flatten) l j hjl
 rw[← hA] at hf3 hstep
 obtain⟨f,hff⟩:∃ f,f=l[j]?.getD 0:=⟨_,rfl⟩
 rw[← hff] at hf7 hstep
 have lff:Len f c:=by rw[hff,List.getElem?_eq_getElem hjl];exact ae LFL _ (List.getElem_mem hjl)
 have lA:(wd 18446744073709551616 A).length≤200000:=by
  rw[hA,← zei]
  refine Nat.le_trans (zgu c _ 1 (fun g hg=>?_)) ?_
  ·rcases List.mem_append.1 hg with h1 | h1
   ·exact ae LFT g h1
   ·exact ae LFL g (List.mem_of_mem_take h1)
  ·have h1:(wd 18446744073709551616 1).length≤1:=aj (by omega) _ 1 (by omega)
   have h2:((ls.take i).flatten++l.take j).length*c≤((ls.take i).flatten.length+k)*c:=Nat.mul_le_mul_right c (by rw[List.length_append,List.length_take];omega)
   have:=ae HLN
   omega
 have lu:Len (((A:Nat):Int):Rat) 200000:=zal A A (Nat.le_refl _) lA (by omega)
 have lfu:Len (f*(((A:Nat):Int):Rat)) 400000:=zdf (lff.mono hc1) lu 400000 (by omega)
 have lz:Len ((((f*(((A:Nat):Int):Rat)).den:Nat):Int):Rat) 1000000:=zal _ _ (Nat.le_refl _) (Nat.le_trans lfu.2 (by omega)) (by omega)
 refine zmo 8 _ _ U t3 a3 b3 q3 t7 a7 b7 q7 _ _ ((((f*(((A:Nat):Int):Rat)).den:Nat):Int):Rat) g3 g7 (by simp) (by simp[Act.eval]) c3 z3 (by simp[Act.eval]) c3 c7 (fun w' hb=>dx _ _ _ _ w' (hf7.but hb) (hf3.but hb) (lff.mono (by omega)) (lu.mono (by omega))) (fun w' hb v' hv'=>zyw v' _ w' m hv' lfu (TabIs.but (ae HTAB) ((ae DB).trans' hb)) (((ae DB).trans' hb).ag (ae HM) (by simp))) (fun w' hb v' hv'=>dx _ _ _ _ w' (hf3.but hb) hv' (lu.mono (by omega)) lz) ?_
 intro w7 v3' v4' s7 x7 y7 p7 hb7 hfz
 simp only[bi,List.foldl_cons,List.foldl_nil,Act.put,List.setIfInBounds_toArray,List.set_cons_zero,List.set_cons_succ]
 have ez:(((A:Nat):Int):Rat)*((((f*(((A:Nat):Int):Rat)).den:Nat):Int):Rat)=(((ku A f:Nat):Int):Rat):=by unfold ku;simp
 rw[ez,← hstep] at hfz
 have hP:=aw w7 g3 s7 x7 y7 p7
 have J3:=af (((ae D3).but hb7).put hfz)
 have J2:=af (((ae D2).but hb7).beside hP (by simp;omega) (fun g hg=>by simp at hg;subst hg;exact ((ae D3).but hb7).bool))
 have JB:=af (((ae DB).trans' hb7).trans hP (fun x hx=>by simp at hx;subst hx;exact .inr (by omega)))
 generalize gm w7 g3 s7 x7 y7 p7=V7 at *
 clear hP hfz hb7 D3 D2 DB X7 c3 c7 hf3 hf7 z3 ez lz lfu lu lA lff hstep
 go_wp2
 exact⟨⟨j+1,by omega,by go_num,ae J3,ae J2,ae JB⟩,by simp[intOf];omega⟩)
 ·(
 obtain rfl:j=k:=by omega
 go_wp2
 refine⟨⟨i+1,by omega,by go_num,?_,(ae HJ).2.1,(ae HJ).2.2⟩,by simp[intOf];omega⟩
 have hx:=(ae HJ).1
 rw[ae HK,List.take_length,← zei,← ae HTK] at hx
 exact hx)))
 ·(
 obtain rfl:i=n:=by omega
 obtain⟨⟨⟨t6,a6,b6,q6',⟨d0,d1,d2,d3⟩,hf6⟩,z6⟩,⟨⟨t2,a2,b2,q2,⟨c0,c1,c2,c3⟩,-⟩,z2⟩,hbw⟩:=ae HI
 rw[ae HN,List.take_length] at hf6
 have HF6:=af hf6
 have HBW:=af hbw
 have P2:Hid (P4 wr g2 t2 a2 b2 q2):=⟨c0,c1,c2,c3⟩
 clear HI hf6 hbw
 go_wp2
 have hP:=aw wr g2 t6 a6 b6 q6'
 obtain⟨m0,m1,m2,m3⟩:=zeu wr g2 t6 a6 b6 q6' (ae P2)
 have hF:But [] w (gm wr g2 t6 a6 b6 q6'):=(ae HBW).trans hP (fun x hx=>by simp at hx;subst hx;exact .inr (by omega))
 have hff:=(ae HF6).over (ae P2).1 hP
 change bodyPost _ _ _ _ _ (gm wr g2 t6 a6 b6 q6')
 generalize gm wr g2 t6 a6 b6 q6'=F at *
 exact bodyPost_ret (v:=.agg #[.bool t6,.int .u64 a6,.int .u64 b6,.pointer q6']) (by simp[results,results86,go_sem,m0,m1,m2,m3]) rfl ⟨_,rfl,hff,hF⟩)))
end Go.Proofs.YtagmkkiagjmimaaGreatDoor
