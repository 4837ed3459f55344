/- Two words are divided by one, as the lib -/
import Derived.Lib.ItoaNum
import Derived.Test.YtagmkkiagjmimaaGreatDoorXN3
namespace Go.Proofs.YtagmkkiagjmimaaGreatDoor
set_option linter.unusedVariables false
open Go.Proofs.Tryz
open Go.RowKit
set_option maxHeartbeats 8000000
set_option maxRecDepth 100000
def lz (y:Nat):Nat:=64-Lib.bitLen y
theorem zak (y:Nat) (h0:0<y) (hy:y < 18446744073709551616):lz y≤63∧y*2^lz y < 18446744073709551616∧9223372036854775808≤y*2^lz y∧(64-(Lib.bitLen y:Int))=(lz y:Int):=by(
 obtain⟨b1,b2,b3⟩:=Lib.bitLenAux_bounds 64 y hy (by omega)
 have b4:Lib.bitLenAux 64 y≤64:=by
  rcases Nat.lt_or_ge 64 (Lib.bitLenAux 64 y) with h | h
  ·have:2^64≤2^(Lib.bitLenAux 64 y-1):=Nat.pow_le_pow_right (by omega) (by omega)
   omega
  ·exact h
 unfold lz Lib.bitLen
 generalize Lib.bitLenAux 64 y=n at *
 refine⟨by omega,?_,?_,by omega⟩
 ·have h1:y*2^(64-n)<2^n*2^(64-n):=Nat.mul_lt_mul_of_pos_right b3 (Nat.pow_pos (by omega))
  rw[← Nat.pow_add,show n+(64-n)=64 from by omega] at h1
  exact h1
 ·have h1:2^(n-1)*2^(64-n)≤y*2^(64-n):=Nat.mul_le_mul_right _ b2
  rw[← Nat.pow_add,show n-1+(64-n)=63 from by omega] at h1
  exact h1)
theorem zev (y:Nat) (h0:0<y) (hy:y < 18446744073709551616) (w:World) :
   Calls prog 223 #[.int .u64 (y:Int)] w fun e w'=>e=.returned (.int .i64 (lz y:Int))∧w'=w:=by(
 have h:=Tryz.bits_LeadingZeros64 (y:Int) w (by omega) (by omega)
 rw[Int.toNat_natCast,(zak y h0 hy).2.2.2] at h
 exact h)
theorem zwv (u u1 q Y r:Nat) (hr:r < 18446744073709551616) (e:u*4294967296+u1=q*Y+r):IntKind.u64.wrap (IntKind.u64.wrap (IntKind.u64.wrap ((u:Int)*4294967296)+(u1:Int))-IntKind.u64.wrap ((q:Int)*(Y:Int)))=(r:Int):=by(
 have e':(u:Int)*4294967296+(u1:Int)=(q:Int)*(Y:Int)+(r:Int):=by
  have:=congrArg (fun n:Nat=>(n:Int)) e
  simpa using this
 simp only[IntKind.wrap_u64]
 generalize (q:Int)*(Y:Int)=z at *
 omega)
theorem zvn (hi lo y:Nat) (hy:y < 18446744073709551616) (hlo:lo < 18446744073709551616) (hh:hi<y) (h0:0<hi) (w:World) (Q R:Nat) (hQ:Hid ((hi * 18446744073709551616+lo)/y=Q)) (hR:Hid ((hi * 18446744073709551616+lo)%y=R)) :
   Calls prog 241 #[.int .u64 (hi:Int),.int .u64 (lo:Int),.int .u64 (y:Int)] w fun e w'=>e=.returned (.tuple #[.int .u64 (Q:Int),.int .u64 (R:Int)])∧w'=w:=by(
 have n1':((y:Int)==0)=false:=beq_eq_false_iff_ne.2 (by omega)
 have n2':((hi:Int)==0)=false:=beq_eq_false_iff_ne.2 (by omega)
 have n3':decide ((y:Int)≤(hi:Int))=false:=by simp;omega
 have LZ:=af (zev y (by omega) hy w)
 obtain⟨hs,hY,hY2,-⟩:=zak y (by omega) hy
 generalize lz y=s at *
 have hP:0<2^s:=Nat.pow_pos (by omega)
 obtain⟨hor,hlb⟩:=zqu hi lo s hs hlo
 have hsum:=qhc hi lo s hs
 have hhi:hi*2^s < 18446744073709551616:=Nat.lt_of_le_of_lt (Nat.mul_le_mul_right _ (Nat.le_of_lt hh)) hY
 have hub:hi*2^s+lo/2^(64-s)<y*2^s:=by
  have:(hi+1)*2^s≤y*2^s:=Nat.mul_le_mul_right _ hh
  rw[Nat.add_mul] at this
  omega
 obtain⟨Y,hYe⟩:∃ Y,Y=y*2^s:=⟨_,rfl⟩
 obtain⟨u,hue⟩:∃ u,u=hi*2^s+lo/2^(64-s):=⟨_,rfl⟩
 obtain⟨L,hLe⟩:∃ L,L=lo*2^s % 18446744073709551616:=⟨_,rfl⟩
 obtain⟨n1,hn1⟩:∃ n1,n1=Y/4294967296:=⟨_,rfl⟩
 obtain⟨n0,hn0⟩:∃ n0,n0=Y%4294967296:=⟨_,rfl⟩
 obtain⟨u1,hu1⟩:∃ u1,u1=L/4294967296:=⟨_,rfl⟩
 obtain⟨u0,hu0⟩:∃ u0,u0=L%4294967296:=⟨_,rfl⟩
 have hL:L < 18446744073709551616:=by rw[hLe];omega
 have E1:IntKind.u64.wrap ((y:Int)*2^s)=(Y:Int):=by
  have e:(y:Int)*2^s=((Y:Nat):Int):=by rw[hYe];simp
  rw[e,IntKind.wrap_u64];omega
 have E2:(Y:Int)/4294967296=(n1:Int):=by rw[hn1];omega
 have E3:bits .and .u64 (Y:Int) 4294967295=(n0:Int):=by rw[Mul64.maskN Y (by omega),hn0]
 have E4:bits .or .u64 (IntKind.u64.wrap ((hi:Int)*2^s)) ((lo:Int)/2^(64-s))=(u:Int):=by
  have e1:IntKind.u64.wrap ((hi:Int)*2^s)=((hi*2^s:Nat):Int):=by
   have e:(hi:Int)*2^s=((hi*2^s:Nat):Int):=by simp
   rw[e,IntKind.wrap_u64];omega
  have e2:(lo:Int)/2^(64-s)=((lo/2^(64-s):Nat):Int):=by simp
  rw[e1,e2,bits_or_u64_nat _ _ hhi (by omega),hor,hue]
 have E5:IntKind.u64.wrap ((lo:Int)*2^s)=(L:Int):=by
  have e:(lo:Int)*2^s=((lo*2^s:Nat):Int):=by simp
  rw[e,IntKind.wrap_u64,hLe];omega
 have E6:(L:Int)/4294967296=(u1:Int):=by rw[hu1];omega
 have E7:bits .and .u64 (L:Int) 4294967295=(u0:Int):=by rw[Mul64.maskN L hL,hu0]
 have hn1p:2147483648≤n1:=by omega
 have hn1l:n1<4294967296:=by omega
 have hn0l:n0<4294967296:=by omega
 have hu1l:u1<4294967296:=by omega
 have hu0l:u0<4294967296:=by omega
 have hYn:Y=n1*4294967296+n0:=by omega
 have hLu:L=u1*4294967296+u0:=by omega
 have huY:u<Y:=by omega
 have hn1z:((n1:Int)==0)=false:=beq_eq_false_iff_ne.2 (by omega)
 have hYl:Y < 18446744073709551616:=by omega
 obtain⟨q,hq⟩:∃ q,q=u/n1:=⟨_,rfl⟩
 obtain⟨r,hr⟩:∃ r,r=u%n1:=⟨_,rfl⟩
 have hqr:u=q*n1+r:=by rw[hq,hr,Nat.mul_comm];exact (Nat.div_add_mod u n1).symm
 have hrl:r<n1:=by rw[hr];exact Nat.mod_lt _ (by omega)
 have hql:q≤u:=by rw[hq];exact Nat.div_le_self _ _
 have E8:(u:Int).tdiv (n1:Int)=(q:Int):=by rw[Int.tdiv_eq_ediv_of_nonneg (by omega),hq,Int.natCast_ediv]
 have E8':IntKind.u64.wrap (q:Int)=(q:Int):=by rw[IntKind.wrap_u64];omega
 have hqn:q*n1≤u:=by omega
 have E9:IntKind.u64.wrap ((u:Int)-IntKind.u64.wrap ((q:Int)*(n1:Int)))=(r:Int):=by
  have e:(q:Int)*(n1:Int)=((q*n1:Nat):Int):=by simp
  rw[e]
  simp only[IntKind.wrap_u64]
  omega
 have hI:=zwx u Y n1 n0 u1 q r hYn hqr hrl hu1l
 obtain⟨q1,hq1⟩:∃ q1,q1=(u*4294967296+u1)/Y:=⟨_,rfl⟩
 obtain⟨r1,hr1⟩:∃ r1,r1=(u*4294967296+u1)%Y:=⟨_,rfl⟩
 have hq1l:q1<4294967296:=by rw[hq1];exact zww u Y u1 huY hu1l
 have hr1l:r1<Y:=by rw[hr1];exact Nat.mod_lt _ (by omega)
 have he1:u*4294967296+u1=q1*Y+r1:=by rw[hq1,hr1,Nat.mul_comm _ Y];exact (Nat.div_add_mod _ Y).symm
 have E10:=zwv u u1 q1 Y r1 (by omega) he1
 obtain⟨p,hp⟩:∃ p,p=r1/n1:=⟨_,rfl⟩
 obtain⟨t,ht⟩:∃ t,t=r1%n1:=⟨_,rfl⟩
 have hpt:r1=p*n1+t:=by rw[hp,ht,Nat.mul_comm];exact (Nat.div_add_mod r1 n1).symm
 have htl:t<n1:=by rw[ht];exact Nat.mod_lt _ (by omega)
 have hpl:p≤r1:=by rw[hp];exact Nat.div_le_self _ _
 have E11:(r1:Int).tdiv (n1:Int)=(p:Int):=by rw[Int.tdiv_eq_ediv_of_nonneg (by omega),hp,Int.natCast_ediv]
 have E11':IntKind.u64.wrap (p:Int)=(p:Int):=by rw[IntKind.wrap_u64];omega
 have E12:IntKind.u64.wrap ((r1:Int)-IntKind.u64.wrap ((p:Int)*(n1:Int)))=(t:Int):=by
  have e:(p:Int)*(n1:Int)=((p*n1:Nat):Int):=by simp
  rw[e]
  simp only[IntKind.wrap_u64]
  omega
 have hI2:=zwx r1 Y n1 n0 u0 p t hYn hpt htl hu0l
 obtain⟨q0,hq0⟩:∃ q0,q0=(r1*4294967296+u0)/Y:=⟨_,rfl⟩
 obtain⟨r0,hr0⟩:∃ r0,r0=(r1*4294967296+u0)%Y:=⟨_,rfl⟩
 have hq0l:q0<4294967296:=by rw[hq0];exact zww r1 Y u0 hr1l hu0l
 have hr0l:r0<Y:=by rw[hr0];exact Nat.mod_lt _ (by omega)
 have he0:r1*4294967296+u0=q0*Y+r0:=by rw[hq0,hr0,Nat.mul_comm _ Y];exact (Nat.div_add_mod _ Y).symm
 have E13:=zwv r1 u0 q0 Y r0 (by omega) he0
 have hfin:=qhn (hi * 18446744073709551616+lo) y (2^s) Y u L u1 u0 q1 r1 q0 r0 hP hYe (by rw[hsum,hue,hLe]) hLu he1 he0 hr0l
 rw[ae hQ,ae hR] at hfin
 have E14:(r0:Int)/2^s=(R:Int):=by rw[← hfin.2];simp
 have FIN1:=af hfin.1
 have I1:Hid (∀ q r:Int,0≤q→0≤r→(u:Int)=q*(n1:Int)+r→4294967296≤q∨4294967296*r+(u1:Int)<q*(n0:Int)→(q1:Int)<q):=fun q r h1 h2 e hc=>by
  obtain⟨q,rfl⟩:=Int.eq_ofNat_of_zero_le h1
  obtain⟨r,rfl⟩:=Int.eq_ofNat_of_zero_le h2
  have:=qcf u Y n1 n0 u1 q r hYn (by rw[← Int.natCast_mul] at e;omega) huY hu1l (by
   rcases hc with hc | hc
   ·left;omega
   ·right;rw[← Int.natCast_mul] at hc;omega)
  rw[hq1];omega
 have I2:Hid (∀ q r:Int,0≤q→0≤r→(u:Int)=q*(n1:Int)+r→(q1:Int)≤q→q*(n0:Int)≤4294967296*r+(u1:Int)→q=(q1:Int)):=fun q r h1 h2 e h3 hc=>by
  obtain⟨q,rfl⟩:=Int.eq_ofNat_of_zero_le h1
  obtain⟨r,rfl⟩:=Int.eq_ofNat_of_zero_le h2
  have:=qce u Y n1 n0 u1 q r hYn (by rw[← Int.natCast_mul] at e;omega) huY (by rw[← hq1];omega) (by rw[← Int.natCast_mul] at hc;omega)
  rw[hq1];omega
 have I3:Hid (∀ q r:Int,0≤q→0≤r→(u:Int)=q*(n1:Int)+r→4294967296≤r→q*(n0:Int)≤4294967296*r+(u1:Int)):=fun q r h1 h2 e h3=>by
  obtain⟨q,rfl⟩:=Int.eq_ofNat_of_zero_le h1
  obtain⟨r,rfl⟩:=Int.eq_ofNat_of_zero_le h2
  have:=(qcg u Y n1 n0 u1 q r hYn hn0l (by rw[← Int.natCast_mul] at e;omega) huY (by omega)).2
  rw[← Int.natCast_mul];omega
 have J1:Hid (∀ q r:Int,0≤q→0≤r→(r1:Int)=q*(n1:Int)+r→4294967296≤q∨4294967296*r+(u0:Int)<q*(n0:Int)→(q0:Int)<q):=fun q r h1 h2 e hc=>by
  obtain⟨q,rfl⟩:=Int.eq_ofNat_of_zero_le h1
  obtain⟨r,rfl⟩:=Int.eq_ofNat_of_zero_le h2
  have:=qcf r1 Y n1 n0 u0 q r hYn (by rw[← Int.natCast_mul] at e;omega) hr1l hu0l (by
   rcases hc with hc | hc
   ·left;omega
   ·right;rw[← Int.natCast_mul] at hc;omega)
  rw[hq0];omega
 have J2:Hid (∀ q r:Int,0≤q→0≤r→(r1:Int)=q*(n1:Int)+r→(q0:Int)≤q→q*(n0:Int)≤4294967296*r+(u0:Int)→q=(q0:Int)):=fun q r h1 h2 e h3 hc=>by
  obtain⟨q,rfl⟩:=Int.eq_ofNat_of_zero_le h1
  obtain⟨r,rfl⟩:=Int.eq_ofNat_of_zero_le h2
  have:=qce r1 Y n1 n0 u0 q r hYn (by rw[← Int.natCast_mul] at e;omega) hr1l (by rw[← hq0];omega) (by rw[← Int.natCast_mul] at hc;omega)
  rw[hq0];omega
 have J3:Hid (∀ q r:Int,0≤q→0≤r→(r1:Int)=q*(n1:Int)+r→4294967296≤r→q*(n0:Int)≤4294967296*r+(u0:Int)):=fun q r h1 h2 e h3=>by
  obtain⟨q,rfl⟩:=Int.eq_ofNat_of_zero_le h1
  obtain⟨r,rfl⟩:=Int.eq_ofNat_of_zero_le h2
  have:=(qcg r1 Y n1 n0 u0 q r hYn hn0l (by rw[← Int.natCast_mul] at e;omega) hr1l (by omega)).2
  rw[← Int.natCast_mul];omega
 have A0:Hid ((u:Int)=(q:Int)*(n1:Int)+(r:Int)∧(q1:Int)≤(q:Int)):=⟨by exact_mod_cast hqr,by rw[hq1];exact_mod_cast hI⟩
 have C0:Hid ((r1:Int)=(p:Int)*(n1:Int)+(t:Int)∧(q0:Int)≤(p:Int)):=⟨by exact_mod_cast hpt,by rw[hq0];exact_mod_cast hI2⟩
 have hqB:(q:Int)≤18446744073709551615:=by omega
 have hpB:(p:Int)≤18446744073709551615:=by omega
 have hr32:(r:Int)≤4294967295:=by omega
 have ht32:(t:Int)≤4294967295:=by omega
 have hq0':(0:Int)≤(q:Int):=by omega
 have hp0':(0:Int)≤(p:Int):=by omega
 have hr0':(0:Int)≤(r:Int):=by omega
 have ht0':(0:Int)≤(t:Int):=by omega
 obtain⟨a1,ha1⟩:∃ a1:Int,a1=(n1:Int):=⟨_,rfl⟩
 obtain⟨a0,ha0⟩:∃ a0:Int,a0=(n0:Int):=⟨_,rfl⟩
 obtain⟨b1,hb1⟩:∃ b1:Int,b1=(u1:Int):=⟨_,rfl⟩
 obtain⟨b0,hb0⟩:∃ b0:Int,b0=(u0:Int):=⟨_,rfl⟩
 obtain⟨z,hz⟩:∃ z:Int,z=(q:Int):=⟨_,rfl⟩
 obtain⟨zr,hzr⟩:∃ zr:Int,zr=(r:Int):=⟨_,rfl⟩
 obtain⟨y1,hy1⟩:∃ y1:Int,y1=(p:Int):=⟨_,rfl⟩
 obtain⟨yr,hyr⟩:∃ yr:Int,yr=(t:Int):=⟨_,rfl⟩
 obtain⟨g1,hg1⟩:∃ g1:Int,g1=(q1:Int):=⟨_,rfl⟩
 obtain⟨g0,hg0⟩:∃ g0:Int,g0=(q0:Int):=⟨_,rfl⟩
 obtain⟨s1,hs1⟩:∃ s1:Int,s1=(r1:Int):=⟨_,rfl⟩
 obtain⟨s0,hs0⟩:∃ s0:Int,s0=(r0:Int):=⟨_,rfl⟩
 obtain⟨uz,huz⟩:∃ uz:Int,uz=(u:Int):=⟨_,rfl⟩
 obtain⟨Yz,hYz⟩:∃ Yz:Int,Yz=(Y:Int):=⟨_,rfl⟩
 obtain⟨Lz,hLz⟩:∃ Lz:Int,Lz=(L:Int):=⟨_,rfl⟩
 have FIN2:Hid (g1*4294967296+g0=(Q:Int)):=by show _=_;rw[hg1,hg0,← ae FIN1];simp
 have d1:2147483648≤a1∧a1≤4294967295:=by omega
 have d2:0≤a0∧a0≤4294967295:=by omega
 have d3:0≤b1∧b1≤4294967295:=by omega
 have d4:0≤b0∧b0≤4294967295:=by omega
 have d5:0≤g1∧g1≤4294967295:=by omega
 have d6:0≤g0∧g0≤4294967295:=by omega
 have d7:0≤s1∧s1≤18446744073709551615:=by omega
 have d8:0≤s0∧s0≤18446744073709551615:=by omega
 have d9:0≤uz∧uz≤18446744073709551615:=by omega
 have d10:0≤Yz∧Yz≤18446744073709551615:=by omega
 rw[← hYz] at E1 E2 E3 E10 E13
 rw[← ha1] at E2 E8 E9 E11 E12 A0 C0 I1 I2 I3 J1 J2 J3 hn1z
 rw[← ha0] at E3 I1 I2 I3 J1 J2 J3
 rw[← huz] at E4 E8 E9 E10 A0 I1 I2 I3
 rw[← hLz] at E5 E6 E7
 rw[← hb1] at E6 E10 I1 I2 I3
 rw[← hb0] at E7 E13 J1 J2 J3
 rw[← hz] at E8 E8' E9 A0 hqB hq0'
 rw[← hzr] at E9 A0 hr32 hr0'
 rw[← hy1] at E11 E11' E12 C0 hpB hp0'
 rw[← hyr] at E12 C0 ht32 ht0'
 rw[← hg1] at E10 A0 I1 I2
 rw[← hg0] at E13 C0 J1 J2
 rw[← hs1] at E10 E11 E12 E13 C0 J1 J2 J3
 rw[← hs0] at E13 E14
 obtain⟨d1,d1'⟩:=d1
 obtain⟨d2,d2'⟩:=d2
 obtain⟨d3,d3'⟩:=d3
 obtain⟨d4,d4'⟩:=d4
 obtain⟨d5,d5'⟩:=d5
 obtain⟨d6,d6'⟩:=d6
 obtain⟨d7,d7'⟩:=d7
 obtain⟨d8,d8'⟩:=d8
 obtain⟨d9,d9'⟩:=d9
 obtain⟨d10,d10'⟩:=d10
 clear hI hI2 hfin he0 he1 hq0 hr0 hq1 hr1 hp ht hpt hq hr hqr hqn hYn hLu hn1 hn0 hu1 hu0 hYe hue hLe hsum hor hub hlb hhi hP hL FIN1 ha1 ha0 hb1 hb0 hz hzr hy1 hyr hg1 hg0 hs1 hs0 huz hYz hLz
 clear hr0l hq0l hr1l hq1l hpl htl hql hrl hYl huY hu0l hu1l hn0l hn1l hn1p hY hY2
 clear r0 q0 r1 q1 p t q r u0 u1 n0 n1 L u Y
 go_enter func241,ntmps241
 go_wp2_with fail
 refine (ae LZ).mono ?_
 rintro e w1 ⟨rfl,hw⟩
 obtain rfl:=hw.symm
 clear hw
 go_wp2_with fail
 go_loop [15,16] (fun a b=>∃ q r:Int,a=.int .u64 q∧b=.int .u64 r∧0≤q∧q≤18446744073709551615∧0≤r∧r≤4294967295∧Hid (uz=q*a1+r∧g1≤q)) (fun a _=>(intOf a).toNat)
 case atStart=>exact⟨z,zr,rfl,rfl,hq0',hqB,hr0',hr32,A0⟩
 case round =>(
 clear A0 E8 E8' E9 hqB hr32 hr0' hq0'
 obtain⟨q,r,rfl,rfl,hqp,hqB,hrp,hr32,HI⟩:=hrel
 by_cases hb:q≤4294967295
 ·(
 have hm:q*a0≤4294967295*4294967295:=Int.mul_le_mul (by omega) (by omega) (by omega) (by omega)
 have hm0:0≤q*a0:=Int.mul_nonneg (by omega) (by omega)
 by_cases hc:4294967296*r+b1<q*a0
 ·(
 have hdec:=ae I1 q r hqp hrp (ae HI).1 (.inr hc)
 have HU:Hid (uz=(q-1)*a1+(r+a1)∧g1≤q-1):=⟨by have:=(ae HI).1;rw[Int.sub_mul];omega,by omega⟩
 have hq1:1≤q:=by omega
 by_cases hbr:r+a1≤4294967295
 ·go_wp2
  go_round
  case rel=>exact⟨q-1,r+a1,rfl,rfl,by omega,by omega,by omega,hbr,ae HU⟩
  case measure=>simp[intOf];omega
 ·(
 have e:=ae I2 (q-1) (r+a1) (by omega) (by omega) (ae HU).1 (ae HU).2 (ae I3 (q-1) (r+a1) (by omega) (by omega) (ae HU).1 (by omega))
 have e':q=g1+1:=by omega
 clear HI HU hqB hdec e
 subst e'
 go_wp2_with fail
 go_loop [18,16] (fun a b=>∃ q r:Int,a=.int .u64 q∧b=.int .u64 r∧0≤q∧q≤18446744073709551615∧0≤r∧r≤4294967295∧Hid (s1=q*a1+r∧g0≤q)) (fun a _=>(intOf a).toNat)
 case atStart=>exact⟨y1,yr,rfl,rfl,hp0',hpB,ht0',ht32,C0⟩
 case round =>(
 clear C0 E11 E11' E12 hpB ht32 ht0' hp0'
 obtain⟨q,r,rfl,rfl,hqp,hqB,hrp,hr32,HI⟩:=hrel
 by_cases hb:q≤4294967295
 ·(
 have hm:q*a0≤4294967295*4294967295:=Int.mul_le_mul (by omega) (by omega) (by omega) (by omega)
 have hm0:0≤q*a0:=Int.mul_nonneg (by omega) (by omega)
 by_cases hc:4294967296*r+b0<q*a0
 ·(
 have hdec:=ae J1 q r hqp hrp (ae HI).1 (.inr hc)
 have HU:Hid (s1=(q-1)*a1+(r+a1)∧g0≤q-1):=⟨by have:=(ae HI).1;rw[Int.sub_mul];omega,by omega⟩
 have hq1:1≤q:=by omega
 by_cases hbr:r+a1≤4294967295
 ·go_wp2
  go_round
  case rel=>exact⟨q-1,r+a1,rfl,rfl,by omega,by omega,by omega,hbr,ae HU⟩
  case measure=>simp[intOf];omega
 ·(
 have e:=ae J2 (q-1) (r+a1) (by omega) (by omega) (ae HU).1 (ae HU).2 (ae J3 (q-1) (r+a1) (by omega) (by omega) (ae HU).1 (by omega))
 have e':q=g0+1:=by omega
 clear HI HU hqB hdec e
 subst e'
 go_wp2
 go_ret2
 refine⟨?_,rfl⟩
 rw[← ae FIN2]
 rfl))
 ·(
 have e:=ae J2 q r hqp hrp (ae HI).1 (ae HI).2 (by omega)
 clear HI hqB
 subst e
 go_wp2
 go_ret2
 refine⟨?_,rfl⟩
 rw[← ae FIN2]
 rfl))
 ·(
 have hdec:=ae J1 q r hqp hrp (ae HI).1 (.inl (by omega))
 have HU:Hid (s1=(q-1)*a1+(r+a1)∧g0≤q-1):=⟨by have:=(ae HI).1;rw[Int.sub_mul];omega,by omega⟩
 have hq1:1≤q:=by omega
 by_cases hbr:r+a1≤4294967295
 ·go_wp2
  go_round
  case rel=>exact⟨q-1,r+a1,rfl,rfl,by omega,by omega,by omega,hbr,ae HU⟩
  case measure=>simp[intOf];omega
 ·(
 have e:=ae J2 (q-1) (r+a1) (by omega) (by omega) (ae HU).1 (ae HU).2 (ae J3 (q-1) (r+a1) (by omega) (by omega) (ae HU).1 (by omega))
 have e':q=g0+1:=by omega
 clear HI HU hqB hdec e
 subst e'
 go_wp2
 go_ret2
 refine⟨?_,rfl⟩
 rw[← ae FIN2]
 rfl)))))
 ·(
 have e:=ae I2 q r hqp hrp (ae HI).1 (ae HI).2 (by omega)
 clear HI hqB
 subst e
 go_wp2_with fail
 go_loop [18,16] (fun a b=>∃ q r:Int,a=.int .u64 q∧b=.int .u64 r∧0≤q∧q≤18446744073709551615∧0≤r∧r≤4294967295∧Hid (s1=q*a1+r∧g0≤q)) (fun a _=>(intOf a).toNat)
 case atStart=>exact⟨y1,yr,rfl,rfl,hp0',hpB,ht0',ht32,C0⟩
 case round =>(
 clear C0 E11 E11' E12 hpB ht32 ht0' hp0'
 obtain⟨q,r,rfl,rfl,hqp,hqB,hrp,hr32,HI⟩:=hrel
 by_cases hb:q≤4294967295
 ·(
 have hm:q*a0≤4294967295*4294967295:=Int.mul_le_mul (by omega) (by omega) (by omega) (by omega)
 have hm0:0≤q*a0:=Int.mul_nonneg (by omega) (by omega)
 by_cases hc:4294967296*r+b0<q*a0
 ·(
 have hdec:=ae J1 q r hqp hrp (ae HI).1 (.inr hc)
 have HU:Hid (s1=(q-1)*a1+(r+a1)∧g0≤q-1):=⟨by have:=(ae HI).1;rw[Int.sub_mul];omega,by omega⟩
 have hq1:1≤q:=by omega
 by_cases hbr:r+a1≤4294967295
 ·go_wp2
  go_round
  case rel=>exact⟨q-1,r+a1,rfl,rfl,by omega,by omega,by omega,hbr,ae HU⟩
  case measure=>simp[intOf];omega
 ·(
 have e:=ae J2 (q-1) (r+a1) (by omega) (by omega) (ae HU).1 (ae HU).2 (ae J3 (q-1) (r+a1) (by omega) (by omega) (ae HU).1 (by omega))
 have e':q=g0+1:=by omega
 clear HI HU hqB hdec e
 subst e'
 go_wp2
 go_ret2
 refine⟨?_,rfl⟩
 rw[← ae FIN2]
 rfl))
 ·(
 have e:=ae J2 q r hqp hrp (ae HI).1 (ae HI).2 (by omega)
 clear HI hqB
 subst e
 go_wp2
 go_ret2
 refine⟨?_,rfl⟩
 rw[← ae FIN2]
 rfl))
 ·(
 have hdec:=ae J1 q r hqp hrp (ae HI).1 (.inl (by omega))
 have HU:Hid (s1=(q-1)*a1+(r+a1)∧g0≤q-1):=⟨by have:=(ae HI).1;rw[Int.sub_mul];omega,by omega⟩
 have hq1:1≤q:=by omega
 by_cases hbr:r+a1≤4294967295
 ·go_wp2
  go_round
  case rel=>exact⟨q-1,r+a1,rfl,rfl,by omega,by omega,by omega,hbr,ae HU⟩
  case measure=>simp[intOf];omega
 ·(
 have e:=ae J2 (q-1) (r+a1) (by omega) (by omega) (ae HU).1 (ae HU).2 (ae J3 (q-1) (r+a1) (by omega) (by omega) (ae HU).1 (by omega))
 have e':q=g0+1:=by omega
 clear HI HU hqB hdec e
 subst e'
 go_wp2
 go_ret2
 refine⟨?_,rfl⟩
 rw[← ae FIN2]
 rfl)))))
 ·(
 have hdec:=ae I1 q r hqp hrp (ae HI).1 (.inl (by omega))
 have HU:Hid (uz=(q-1)*a1+(r+a1)∧g1≤q-1):=⟨by have:=(ae HI).1;rw[Int.sub_mul];omega,by omega⟩
 have hq1:1≤q:=by omega
 by_cases hbr:r+a1≤4294967295
 ·go_wp2
  go_round
  case rel=>exact⟨q-1,r+a1,rfl,rfl,by omega,by omega,by omega,hbr,ae HU⟩
  case measure=>simp[intOf];omega
 ·(
 have e:=ae I2 (q-1) (r+a1) (by omega) (by omega) (ae HU).1 (ae HU).2 (ae I3 (q-1) (r+a1) (by omega) (by omega) (ae HU).1 (by omega))
 have e':q=g1+1:=by omega
 clear HI HU hqB hdec e
 subst e'
 go_wp2_with fail
 go_loop [18,16] (fun a b=>∃ q r:Int,a=.int .u64 q∧b=.int .u64 r∧0≤q∧q≤18446744073709551615∧0≤r∧r≤4294967295∧Hid (s1=q*a1+r∧g0≤q)) (fun a _=>(intOf a).toNat)
 case atStart=>exact⟨y1,yr,rfl,rfl,hp0',hpB,ht0',ht32,C0⟩
 case round =>(
 clear C0 E11 E11' E12 hpB ht32 ht0' hp0'
 obtain⟨q,r,rfl,rfl,hqp,hqB,hrp,hr32,HI⟩:=hrel
 by_cases hb:q≤4294967295
 ·(
 have hm:q*a0≤4294967295*4294967295:=Int.mul_le_mul (by omega) (by omega) (by omega) (by omega)
 have hm0:0≤q*a0:=Int.mul_nonneg (by omega) (by omega)
 by_cases hc:4294967296*r+b0<q*a0
 ·(
 have hdec:=ae J1 q r hqp hrp (ae HI).1 (.inr hc)
 have HU:Hid (s1=(q-1)*a1+(r+a1)∧g0≤q-1):=⟨by have:=(ae HI).1;rw[Int.sub_mul];omega,by omega⟩
 have hq1:1≤q:=by omega
 by_cases hbr:r+a1≤4294967295
 ·go_wp2
  go_round
  case rel=>exact⟨q-1,r+a1,rfl,rfl,by omega,by omega,by omega,hbr,ae HU⟩
  case measure=>simp[intOf];omega
 ·(
 have e:=ae J2 (q-1) (r+a1) (by omega) (by omega) (ae HU).1 (ae HU).2 (ae J3 (q-1) (r+a1) (by omega) (by omega) (ae HU).1 (by omega))
 have e':q=g0+1:=by omega
 clear HI HU hqB hdec e
 subst e'
 go_wp2
 go_ret2
 refine⟨?_,rfl⟩
 rw[← ae FIN2]
 rfl))
 ·(
 have e:=ae J2 q r hqp hrp (ae HI).1 (ae HI).2 (by omega)
 clear HI hqB
 subst e
 go_wp2
 go_ret2
 refine⟨?_,rfl⟩
 rw[← ae FIN2]
 rfl))
 ·(
 have hdec:=ae J1 q r hqp hrp (ae HI).1 (.inl (by omega))
 have HU:Hid (s1=(q-1)*a1+(r+a1)∧g0≤q-1):=⟨by have:=(ae HI).1;rw[Int.sub_mul];omega,by omega⟩
 have hq1:1≤q:=by omega
 by_cases hbr:r+a1≤4294967295
 ·go_wp2
  go_round
  case rel=>exact⟨q-1,r+a1,rfl,rfl,by omega,by omega,by omega,hbr,ae HU⟩
  case measure=>simp[intOf];omega
 ·(
 have e:=ae J2 (q-1) (r+a1) (by omega) (by omega) (ae HU).1 (ae HU).2 (ae J3 (q-1) (r+a1) (by omega) (by omega) (ae HU).1 (by omega))
 have e':q=g0+1:=by omega
 clear HI HU hqB hdec e
 subst e'
 go_wp2
 go_ret2
 refine⟨?_,rfl⟩
 rw[← ae FIN2]
 rfl)))))))
theorem zis (hi lo y:Nat) (hy:y < 18446744073709551616) (hlo:lo < 18446744073709551616) (hh:hi<y) (w:World) (Q R:Nat) (hQ:Hid ((hi * 18446744073709551616+lo)/y=Q)) (hR:Hid ((hi * 18446744073709551616+lo)%y=R)) :
   Calls prog 241 #[.int .u64 (hi:Int),.int .u64 (lo:Int),.int .u64 (y:Int)] w fun e w'=>e=.returned (.tuple #[.int .u64 (Q:Int),.int .u64 (R:Int)])∧∃ n,w'=w.drewN n:=by(
 rcases Nat.eq_zero_or_pos hi with h0 | h0
 ·(
 subst h0
 have n1':((y:Int)==0)=false:=beq_eq_false_iff_ne.2 (by omega)
 have n3':decide ((y:Int)≤0)=false:=by simp;omega
 have e1:(lo:Int)/(y:Int)=(Q:Int):=by rw[← ae hQ,Nat.zero_mul,Nat.zero_add,Int.natCast_ediv]
 have e2:(lo:Int)%(y:Int)=(R:Int):=by rw[← ae hR,Nat.zero_mul,Nat.zero_add,Int.natCast_emod]
 have e1':(lo:Int).tdiv (y:Int)=(Q:Int):=by rw[Int.tdiv_eq_ediv_of_nonneg (by omega)];exact e1
 have e2':(lo:Int).tmod (y:Int)=(R:Int):=by rw[Int.tmod_eq_emod_of_nonneg (by omega)];exact e2
 have hQl:Q≤lo:=by rw[← ae hQ,Nat.zero_mul,Nat.zero_add];exact Nat.div_le_self _ _
 have hRl:R<y:=by rw[← ae hR];exact Nat.mod_lt _ (by omega)
 have e3:IntKind.u64.wrap (Q:Int)=(Q:Int):=by rw[IntKind.wrap_u64];omega
 have e4:IntKind.u64.wrap (R:Int)=(R:Int):=by rw[IntKind.wrap_u64];omega
 go_enter func241,ntmps241
 go_wp2
 go_quiet (fail)
 go_wp2
 go_ret2
 exact⟨rfl,nq,rfl⟩)
 ·exact (zvn hi lo y hy hlo hh h0 w Q R hQ hR).mono fun _ _ ⟨h1,h2⟩=>⟨h1,0,h2⟩)
theorem zle {X Y q r:Nat} (h:X=q*Y+r) (hr:r<Y):X/Y=q∧X%Y=r:=by(
 subst h
 have hY:0<Y:=by omega
 constructor
 ·rw[Nat.mul_comm,Nat.mul_add_div hY,Nat.div_eq_of_lt hr,Nat.add_zero]
 ·rw[Nat.mul_comm,Nat.mul_add_mod,Nat.mod_eq_of_lt hr])
structure zby (X Y T q m:Nat):Prop where
 eq:X+T=q*Y+m
 lt:m<T+Y
theorem zby.start (X Y P:Nat) (hP:0<P) (hY:0<Y/P):zby X Y (X/P/(Y/P)*(Y%P)) (X/P/(Y/P)) (X/P%(Y/P)*P+X%P):=by(
 obtain⟨YH,hYH⟩:∃ YH,YH=Y/P:=⟨_,rfl⟩
 obtain⟨YL,hYL⟩:∃ YL,YL=Y%P:=⟨_,rfl⟩
 obtain⟨XH,hXH⟩:∃ XH,XH=X/P:=⟨_,rfl⟩
 obtain⟨XL,hXL⟩:∃ XL,XL=X%P:=⟨_,rfl⟩
 have e1:Y=P*YH+YL:=by rw[hYH,hYL];exact (Nat.div_add_mod Y P).symm
 have e2:X=P*XH+XL:=by rw[hXH,hXL];exact (Nat.div_add_mod X P).symm
 have l1:XL<P:=by rw[hXL];exact Nat.mod_lt _ hP
 rw[← hYH,← hYL,← hXH,← hXL]
 rw[← hYH] at hY
 have e3:=Nat.div_add_mod XH YH
 have l2:=Nat.mod_lt XH hY
 generalize XH/YH=q at *
 generalize XH%YH=r at *
 constructor
 ·rw[e2,e1,← e3];grind
 ·(
 have h1:(r+1)*P≤YH*P:=Nat.mul_le_mul_right _ l2
 rw[e1]
 have h2:(r+1)*P=r*P+P:=Nat.succ_mul _ _
 have h3:YH*P=P*YH:=Nat.mul_comm _ _
 omega))
theorem zby.pos {X Y T q m:Nat} (h:zby X Y T q m) (hm:m<T):0<q:=by(
 rcases Nat.eq_zero_or_pos q with h0 | h0
 ·have:=h.eq
  rw[h0,Nat.zero_mul] at this
  omega
 ·exact h0)
theorem zby.next {X Y T q m:Nat} (h:zby X Y T q m) (hm:m<T):zby X Y T (q-1) (m+Y):=by(
 have hq:=h.pos hm
 obtain⟨p,rfl⟩:∃ p,q=p+1:=⟨q-1,by omega⟩
 have he:=h.eq
 rw[Nat.succ_mul] at he
 exact⟨by rw[Nat.add_sub_cancel];omega,by omega⟩)
theorem zby.fin {X Y T q m:Nat} (h:zby X Y T q m) (hm:T≤m):X/Y=q∧X%Y=m-T:=by(
 have he:=h.eq
 have hl:=h.lt
 exact zle (by omega) (by omega))
theorem halves (X Y P h r l s:Nat) (h1:X/P=h*Y+r) (h2:r*P+X%P=l*Y+s) (hs:s<Y):X/Y=h*P+l∧X%Y=s:=by(
 refine zle ?_ hs
 have e:=Nat.div_add_mod X P
 rw[h1] at e
 grind)
end Go.Proofs.YtagmkkiagjmimaaGreatDoor
