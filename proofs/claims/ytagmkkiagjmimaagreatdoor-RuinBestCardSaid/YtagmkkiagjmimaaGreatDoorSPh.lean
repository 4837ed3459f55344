/- The leading bits of numbers and of their -/
import Derived.Test.YtagmkkiagjmimaaGreatDoorSF7
namespace Go.Proofs.YtagmkkiagjmimaaGreatDoor
set_option linter.unusedVariables false
open Go.Proofs.Tryz
open Go.RowKit
set_option maxHeartbeats 8000000
set_option maxRecDepth 100000
structure zlm (X x N:Nat):Prop where
 lo:9223372036854775808≤x
 hi:x < 18446744073709551616
 ge:x*2^N≤X*9223372036854775808
 lt:X*9223372036854775808<(x+1)*2^N
theorem qbl (k:Nat) (h:k≤63):2^k*2^(63-k)=9223372036854775808:=by
 rw[← Nat.pow_add,show k+(63-k)=63 from by omega]
theorem qcw (t k:Nat) (hk:k≤63) (h1:9223372036854775808≤t*2^k) (h2:t*2^k < 18446744073709551616):zlm t (t*2^k) (63-k):=by(
 have hp:0<2^(63-k):=Nat.pow_pos (by omega)
 refine⟨h1,h2,?_,?_⟩
 ·rw[Nat.mul_assoc,qbl k hk];omega
 ·rw[Nat.add_mul,Nat.mul_assoc,qbl k hk];omega)
theorem zzb (X R P m s t k:Nat) (hP:P=18446744073709551616^m) (hX:X=R+P*(s + 18446744073709551616*t)) (hR:R<P) (hs:s < 18446744073709551616) (hk:k≤63) (h1:9223372036854775808≤t*2^k) (h2:t*2^k < 18446744073709551616) :
   zlm X (t*2^k+s/2^(64-k)) (64*(m+1)+63-k)∧s/2^(64-k)<2^k:=by(
 have hB:18446744073709551616=2^(64-k)*2^k:=by rw[← Nat.pow_add,show 64-k+k=64 from by omega]
 have hK:0<2^k:=Nat.pow_pos (by omega)
 have hQ:0<2^(64-k):=Nat.pow_pos (by omega)
 have hu:s/2^(64-k)<2^k:=by rw[Nat.div_lt_iff_lt_mul hQ,Nat.mul_comm,← hB];exact hs
 have hd:=Nat.div_add_mod s (2^(64-k))
 have hr:=Nat.mod_lt s hQ
 have e63:=qbl k hk
 have hN:2^(64*(m+1)+63-k)=P * 18446744073709551616*2^(63-k):=by
  rw[hP,show 64*(m+1)+63-k=64*m+64+(63-k) from by omega,Nat.pow_add,Nat.pow_add,Nat.pow_mul]
 have hz:0<2^(63-k):=Nat.pow_pos (by omega)
 generalize hu1:s/2^(64-k)=u at *
 generalize s%2^(64-k)=r at *
 generalize 64*(m+1)+63-k=N at *
 generalize 2^(63-k)=z at *
 generalize 2^(64-k)=Q at *
 generalize 2^k=K at *
 have htQ:t<Q:=by rw[hB] at h2;exact Nat.lt_of_mul_lt_mul_right h2
 have hx:t*K+u < 18446744073709551616:=by
  have:(t+1)*K≤Q*K:=Nat.mul_le_mul_right _ htQ
  rw[← hB,Nat.add_mul] at this;omega
 have eX:X*K=R*K+P*((t*K+u) * 18446744073709551616+r*K):=by rw[hX,← hd,hB];grind
 have hrK:r*K+K≤18446744073709551616:=by
  have:(r+1)*K≤Q*K:=Nat.mul_le_mul_right _ hr
  rw[← hB,Nat.add_mul] at this;omega
 have hRK:R*K<P*K:=Nat.mul_lt_mul_of_pos_right hR hK
 have g1:(t*K+u)*(P * 18446744073709551616)≤X*K:=by
  rw[eX]
  have:P*((t*K+u) * 18446744073709551616)≤P*((t*K+u) * 18446744073709551616+r*K):=Nat.mul_le_mul_left _ (by omega)
  have e:(t*K+u)*(P * 18446744073709551616)=P*((t*K+u) * 18446744073709551616):=by grind
  omega
 have g2:X*K<(t*K+u+1)*(P * 18446744073709551616):=by
  rw[eX]
  have h3:P*((t*K+u) * 18446744073709551616+r*K+K)≤P*((t*K+u) * 18446744073709551616 + 18446744073709551616):=Nat.mul_le_mul_left _ (by omega)
  have e:(t*K+u+1)*(P * 18446744073709551616)=P*((t*K+u) * 18446744073709551616 + 18446744073709551616):=by grind
  have e2:P*((t*K+u) * 18446744073709551616+r*K+K)=P*((t*K+u) * 18446744073709551616+r*K)+P*K:=by grind
  omega
 refine⟨⟨by omega,hx,?_,?_⟩,hu⟩
 ·rw[hN,← e63,← Nat.mul_assoc X,← Nat.mul_assoc (t*K+u)];exact Nat.mul_le_mul_right _ g1
 ·rw[hN,← e63,← Nat.mul_assoc X,← Nat.mul_assoc (t*K+u+1)];exact Nat.mul_lt_mul_of_pos_right g2 hz)
structure zll (Z p K:Nat):Prop where
 lo:9223372036854775808≤p
 hi:p < 18446744073709551616
 ge:p*2^K≤Z*85070591730234615865843651857942052864
 lt:Z*85070591730234615865843651857942052864<(p+8)*2^K
theorem zza (A C x y n m z:Nat) (h1:x*n≤A*z) (h2:A*z<(x+1)*n) (g1:y*m≤C*z) (g2:C*z<(y+1)*m):x*y*(n*m)≤A*C*(z*z)∧A*C*(z*z)<(x+1)*(y+1)*(n*m):=by(
 have h1:=Nat.mul_le_mul h1 g1
 have h2:=Nat.mul_lt_mul'' h2 g2
 constructor
 ·have e1:x*n*(y*m)=x*y*(n*m):=by grind
  have e2:A*z*(C*z)=A*C*(z*z):=by grind
  rw[← e1,← e2];exact h1
 ·have e1:(x+1)*n*((y+1)*m)=(x+1)*(y+1)*(n*m):=by grind
  have e2:A*z*(C*z)=A*C*(z*z):=by grind
  rw[← e1,← e2];exact h2)
theorem zrq {A C x y N M:Nat} (h:zlm A x N) (g:zlm C y M):x*y*2^(N+M)≤A*C*85070591730234615865843651857942052864∧A*C*85070591730234615865843651857942052864<(x+1)*(y+1)*2^(N+M):=by(
 have e:=zza A C x y _ _ _ h.ge h.lt g.ge g.lt
 rw[← Nat.pow_add] at e
 exact e)
theorem znd {A C x y N M:Nat} (h:zlm A x N) (g:zlm C y M):85070591730234615865843651857942052864≤x*y∧(x+1)*(y+1)≤x*y + 18446744073709551616 + 18446744073709551616:=by(
 have h1:=h.hi
 have h2:=g.hi
 have h3:=Nat.mul_le_mul h.lo g.lo
 have e:(x+1)*(y+1)=x*y+x+y+1:=by grind
 refine⟨h3,?_⟩
 rw[e]
 generalize x*y=u
 omega)
theorem zui (u v:Nat) (hv:v≤u + 18446744073709551616 + 18446744073709551616):u / 18446744073709551616 * 18446744073709551616≤u∧v≤(u / 18446744073709551616+8) * 18446744073709551616:=⟨by omega,by omega⟩
theorem zyx (u v:Nat) (hv:v≤u + 18446744073709551616 + 18446744073709551616):u/9223372036854775808*9223372036854775808≤u∧v≤(u/9223372036854775808+8)*9223372036854775808:=⟨by omega,by omega⟩
theorem qiw (u:Nat):u / 18446744073709551616*2+u % 18446744073709551616/9223372036854775808=u/9223372036854775808:=by omega
theorem ztz (u:Nat) (h1:85070591730234615865843651857942052864≤u) (h2:u / 18446744073709551616<9223372036854775808):9223372036854775808≤u/9223372036854775808∧u/9223372036854775808 < 18446744073709551616:=by(
 constructor
 ·rw[Nat.le_div_iff_mul_le (by omega)];exact h1
 ·omega)
theorem zuf {A C x y N M:Nat} (h:zlm A x N) (g:zlm C y M) (hh:9223372036854775808≤x*y / 18446744073709551616):zll (A*C) (x*y / 18446744073709551616) (N+M+64):=by(
 obtain⟨a1,a2⟩:=zrq h g
 obtain⟨b1,b3⟩:=znd h g
 have b4:x*y / 18446744073709551616 < 18446744073709551616:=by rw[Nat.div_lt_iff_lt_mul (by omega)];exact Nat.mul_lt_mul'' h.hi g.hi
 obtain⟨c1,c2⟩:=zui _ _ b3
 have e64:2^(N+M+64)=18446744073709551616*2^(N+M):=by rw[Nat.pow_add,Nat.mul_comm]
 refine⟨hh,b4,?_,?_⟩
 ·rw[e64,← Nat.mul_assoc];exact Nat.le_trans (Nat.mul_le_mul_right _ c1) a1
 ·rw[e64,← Nat.mul_assoc];exact Nat.lt_of_lt_of_le a2 (Nat.mul_le_mul_right _ c2))
theorem zzc {A C x y N M:Nat} (h:zlm A x N) (g:zlm C y M) (hh:x*y / 18446744073709551616<9223372036854775808):zll (A*C) (x*y / 18446744073709551616*2+x*y % 18446744073709551616/9223372036854775808) (N+M+63):=by(
 obtain⟨a1,a2⟩:=zrq h g
 obtain⟨b1,b3⟩:=znd h g
 obtain⟨c1,c2⟩:=zyx _ _ b3
 obtain⟨d1,d2⟩:=ztz _ b1 hh
 have e64:2^(N+M+63)=9223372036854775808*2^(N+M):=by rw[Nat.pow_add,Nat.mul_comm]
 rw[qiw]
 refine⟨d1,d2,?_,?_⟩
 ·rw[e64,← Nat.mul_assoc];exact Nat.le_trans (Nat.mul_le_mul_right _ c1) a1
 ·rw[e64,← Nat.mul_assoc];exact Nat.lt_of_lt_of_le a2 (Nat.mul_le_mul_right _ c2))
theorem zne {Z Z' p q K M:Nat} (h:zll Z p K) (g:zll Z' q M) (hk:M+1<K):Z' < Z:=by(
 refine Nat.lt_of_mul_lt_mul_right (a:=85070591730234615865843651857942052864) (Nat.lt_of_lt_of_le g.lt (Nat.le_trans ?_ h.ge))
 have h1:2^(M+2)≤2^K:=Nat.pow_le_pow_right (by omega) (by omega)
 rw[Nat.pow_add] at h1
 have h2:p*(2^M*2^2)≤p*2^K:=Nat.mul_le_mul_left _ h1
 have h3:=h.lo
 have h4:=g.hi
 refine Nat.le_trans ?_ h2
 rw[Nat.mul_comm (2^M),← Nat.mul_assoc]
 exact Nat.mul_le_mul_right _ (by omega))
theorem zkt {Z Z' p q K:Nat} (h:zll Z p K) (g:zll Z' q K) (hk:q+8≤p):Z' < Z:=by
 refine Nat.lt_of_mul_lt_mul_right (a:=85070591730234615865843651857942052864) (Nat.lt_of_lt_of_le g.lt (Nat.le_trans ?_ h.ge))
 exact Nat.mul_le_mul_right _ hk
def kg (X:Nat):Nat:=zw X*2^lz (zw X)+(if (wd 18446744073709551616 X).length≤1 then 0 else (wd 18446744073709551616 X)[(wd 18446744073709551616 X).length-2]?.getD 0/2^(64-lz (zw X)))
def zbr (X:Nat):Nat:=64*((wd 18446744073709551616 X).length-1)+63-lz (zw X)
theorem zjk (X:Nat) (h:0<X):zlm X (kg X) (zbr X):=by(
 obtain⟨t1,t2,-,-⟩:=zeo X h
 obtain⟨l1,l2,l3,-⟩:=u6 (zw X) t1 t2
 have hl:0<(wd 18446744073709551616 X).length:=by rw[Nat.pos_iff_ne_zero];intro e;rw[ze (by omega)] at e;omega
 unfold kg zbr
 by_cases h1:(wd 18446744073709551616 X).length≤1
 ·(
 have hX:X < 18446744073709551616:=by
  have:=ak (B:=18446744073709551616) (by omega) X 1 h1
  rw[Nat.pow_one] at this;exact this
 have e:zw X=X:=by unfold zw;rw[zcu X h hX];rfl
 rw[if_pos h1,Nat.add_zero,show (wd 18446744073709551616 X).length-1=0 from by omega,Nat.mul_zero,Nat.zero_add]
 rw[e] at l1 l2 l3 ⊢
 exact qcw X _ l1 l3 l2)
 ·(
 rw[if_neg h1]
 obtain⟨m,hm⟩:∃ m,(wd 18446744073709551616 X).length=m+2:=⟨(wd 18446744073709551616 X).length-2,by omega⟩
 have e2:=ru (wd 18446744073709551616 X) m (by omega) (zo (by omega) X)
 have e3:=bt (zo (B:=18446744073709551616) (by omega) X) (by omega:0 < 18446744073709551616) m
 have e4:=ul 18446744073709551616 (wd 18446744073709551616 X) m (by omega)
 have e5:=j6 18446744073709551616 (wd 18446744073709551616 X) (m+1) (by omega)
 rw[List.drop_eq_nil_of_le (by omega:(wd 18446744073709551616 X).length≤m+1+1)] at e5
 rw[qg (by omega),e5] at e4
 rw[show (wd 18446744073709551616 X)[m+1]?.getD 0=zw X from by unfold zw;rw[hm];rfl] at e4
 rw[show (wd 18446744073709551616 X).length-2=m from by omega,show (wd 18446744073709551616 X).length-1=m+1 from by omega]
 simp only[vl,Nat.mul_zero,Nat.add_zero] at e4
 exact (zzb X _ _ m _ (zw X) (lz (zw X)) rfl e4 e2 e3 l1 l3 l2).1))
theorem ziq (v:Value) (X:Nat) (hX:0<X) (w:World) (hv:Sl .u64 w v (wd 18446744073709551616 X)) (hl:(wd 18446744073709551616 X).length<134217728) (x:Nat) (N:Int) (hx:Hid (x=kg X)) (hN:Hid (N=(zbr X:Int)-63)) :
   Calls prog 246 #[v] w fun e w'=>e=.returned (.tuple #[.int .u64 (x:Int),.int .i64 N])∧w'=w:=by(
 obtain⟨t1,t2,-,-⟩:=zeo X hX
 obtain⟨hs,l2,l3,-⟩:=u6 (zw X) t1 t2
 have LZ:=af (fun W=>zeg (zw X) t1 t2 W)
 rcases hv.open with ⟨e,-⟩|⟨hp,b,o,c,rfl,hc,-,hcell⟩
 ·rw[ve (by omega)] at e;omega
 have hct:=hcell ((wd 18446744073709551616 X).length-1) (by omega)
 rw[show (wd 18446744073709551616 X)[(wd 18446744073709551616 X).length-1]?.getD 0=zw X from rfl] at hct
 have E0:IntKind.u64.wrap (((zw X:Nat):Int)*2^lz (zw X))=((zw X*2^lz (zw X):Nat):Int):=by
  have e:((zw X:Nat):Int)*2^lz (zw X)=((zw X*2^lz (zw X):Nat):Int):=by simp
  rw[e,IntKind.wrap_u64];omega
 unfold kg at hx
 unfold zbr at hN
 by_cases h1:(wd 18446744073709551616 X).length≤1
 ·(
 have hl1:(wd 18446744073709551616 X).length=1:=by omega
 rw[if_pos h1,Nat.add_zero] at hx
 rw[hl1] at hct hN ⊢
 rw[Nat.sub_self,Nat.add_zero] at hct
 have hNN:Hid (N=-((lz (zw X):Nat):Int)):=by
  show _=_;rw[ae hN];omega
 clear hcell hN hv
 generalize zw X*2^lz (zw X)=y at *
 generalize lz (zw X)=s at *
 generalize zw X=t at *
 have HX:x=y:=ae hx
 subst HX
 have HN:N=-(s:Int):=ae hNN
 subst HN
 go_enter func246,ntmps246
 go_wp2_with fail
 refine (ae LZ _).mono ?_
 rintro e w1 ⟨rfl,hw⟩
 obtain rfl:=hw.symm
 clear hw
 go_wp2
 go_ret2
 exact⟨rfl,rfl⟩)
 ·(
 rw[if_neg h1] at hx
 have hc2:=hcell ((wd 18446744073709551616 X).length-2) (by omega)
 have e3:=bt (zo (B:=18446744073709551616) (by omega) X) (by omega:0 < 18446744073709551616) ((wd 18446744073709551616 X).length-2)
 generalize (wd 18446744073709551616 X)[(wd 18446744073709551616 X).length-2]?.getD 0=y at *
 have hu:y/2^(64-lz (zw X))<2^lz (zw X):=by
  have hB:18446744073709551616=2^(64-lz (zw X))*2^lz (zw X):=by rw[← Nat.pow_add,show 64-lz (zw X)+lz (zw X)=64 from by omega]
  rw[Nat.div_lt_iff_lt_mul (Nat.pow_pos (by omega)),Nat.mul_comm,← hB];exact e3
 have hub:y/2^(64-lz (zw X)) < 18446744073709551616:=Nat.lt_of_le_of_lt (Nat.div_le_self _ _) e3
 have hor:zw X*2^lz (zw X) ||| y/2^(64-lz (zw X))=zw X*2^lz (zw X)+y/2^(64-lz (zw X)):=by
  rw[Nat.mul_comm,Nat.two_pow_add_eq_or_of_lt hu]
 have E1:bits .or .u64 ((zw X*2^lz (zw X):Nat):Int) ((y/2^(64-lz (zw X)):Nat):Int)=((zw X*2^lz (zw X)+y/2^(64-lz (zw X)):Nat):Int):=by
  rw[bits_or_u64_nat _ _ l2 hub,hor]
 have E2:((y:Nat):Int)/2^(64-lz (zw X))=((y/2^(64-lz (zw X)):Nat):Int):=by simp
 have E3:(64-((lz (zw X):Nat):Int)).toNat=64-lz (zw X):=by omega
 clear hcell hv hor hu
 generalize zw X*2^lz (zw X)+y/2^(64-lz (zw X))=z at *
 generalize y/2^(64-lz (zw X))=q at *
 generalize zw X*2^lz (zw X)=p at *
 generalize lz (zw X)=s at *
 generalize zw X=t at *
 generalize (wd 18446744073709551616 X).length=n at *
 have HX:x=z:=ae hx
 subst HX
 have HN:N=((n:Int)-1)*64-s:=by rw[ae hN];omega
 subst HN
 obtain⟨m,rfl⟩:∃ m,n=m+2:=⟨n-2,by omega⟩
 rw[show m+2-1=m+1 from rfl] at hct
 rw[show m+2-2=m from rfl] at hc2
 have hm0:(0:Int)≤(m:Int):=by omega
 clear hx hN
 go_enter func246,ntmps246
 go_wp2_with fail
 refine (ae LZ _).mono ?_
 rintro e w1 ⟨rfl,hw⟩
 obtain rfl:=hw.symm
 clear hw
 go_wp2
 go_ret2
 refine⟨?_,rfl⟩
 go_num))
def zbo (A C:Nat):Nat:=if kg A*kg C / 18446744073709551616<9223372036854775808 then kg A*kg C / 18446744073709551616*2+kg A*kg C % 18446744073709551616/9223372036854775808 else kg A*kg C / 18446744073709551616
def zai (A C:Nat):Nat:=if kg A*kg C / 18446744073709551616<9223372036854775808 then zbr A+zbr C+63 else zbr A+zbr C+64
theorem zvz (A C:Nat) (hA:0<A) (hC:0<C):zll (A*C) (zbo A C) (zai A C):=by(
 have h:=zjk A hA
 have g:=zjk C hC
 unfold zbo zai
 split
 ·exact zzc h g (by assumption)
 ·exact zuf h g (by omega))
theorem zgl (X:Nat) (n:Nat) (h:(wd 18446744073709551616 X).length<n):zbr X≤64*n:=by unfold zbr;omega
theorem zra (A C n:Nat) (hA:(wd 18446744073709551616 A).length<n) (hC:(wd 18446744073709551616 C).length<n):zai A C≤128*n+64:=by(
 have h1:=zgl A n hA
 have h2:=zgl C n hC
 unfold zai
 split <;> omega)
theorem zaz (va vc:Value) (A C:Nat) (hA:0<A) (hC:0<C) (w:World) (ha:Sl .u64 w va (wd 18446744073709551616 A)) (hc:Sl .u64 w vc (wd 18446744073709551616 C)) (hla:(wd 18446744073709551616 A).length<134217728) (hlc:(wd 18446744073709551616 C).length<134217728) (p:Nat) (K:Int) (hp:Hid (p=zbo A C)) (hK:Hid (K=(zai A C:Int)-126)) :
   Calls prog 215 #[va,vc] w fun e w'=>e=.returned (.tuple #[.int .u64 (p:Int),.int .i64 K])∧w'=w:=by(
 have LA:=af (ziq va A hA w ha hla (kg A) ((zbr A:Int)-63) rfl rfl)
 have LC:=af (ziq vc C hC w hc hlc (kg C) ((zbr C:Int)-63) rfl rfl)
 have ba:=(zjk A hA).hi
 have bc:=(zjk C hC).hi
 have na:=zgl A _ hla
 have nc:=zgl C _ hlc
 have MU:=af (fun W=>Tryz.bits_Mul64 (kg A) (kg C) ba bc W)
 have hzB:kg A*kg C / 18446744073709551616 < 18446744073709551616:=by rw[Nat.div_lt_iff_lt_mul (by omega)];exact Nat.mul_lt_mul'' ba bc
 have hzL:kg A*kg C % 18446744073709551616 < 18446744073709551616:=Nat.mod_lt _ (by omega)
 unfold zbo at hp
 unfold zai at hK
 obtain⟨aa,ca,rfl,-,-⟩:=ha
 obtain⟨ac,cc,rfl,-,-⟩:=hc
 generalize (wd 18446744073709551616 A).length=la at *
 generalize (wd 18446744073709551616 C).length=lc at *
 generalize kg A*kg C / 18446744073709551616=hi at *
 generalize kg A*kg C % 18446744073709551616=lo at *
 generalize kg A=x at *
 generalize kg C=y at *
 generalize zbr A=n at *
 generalize zbr C=m at *
 by_cases hh:hi<9223372036854775808
 ·(
 rw[if_pos hh] at hp hK
 have d1:((hi:Int)/9223372036854775808==0)=true:=beq_iff_eq.2 (by omega)
 have hor:bits .or .u64 ((hi*2:Nat):Int) ((lo/9223372036854775808:Nat):Int)=((hi*2+lo/9223372036854775808:Nat):Int):=by
  rw[bits_or_u64_nat _ _ (by omega) (by omega)]
  have:=Nat.two_pow_add_eq_or_of_lt (i:=1) (b:=lo/9223372036854775808) (by omega) hi
  rw[Nat.pow_one,Nat.mul_comm] at this
  rw[this]
 have e1:IntKind.u64.wrap ((hi:Int)*2)=((hi*2:Nat):Int):=by rw[IntKind.wrap_u64];omega
 have e2:(lo:Int)/9223372036854775808=((lo/9223372036854775808:Nat):Int):=by simp
 generalize hi*2+lo/9223372036854775808=z at *
 generalize lo/9223372036854775808=z2 at *
 generalize hi*2=z1 at *
 have HP:p=z:=ae hp
 subst HP
 have HK:K=(n:Int)+m-63:=by rw[ae hK];omega
 subst HK
 clear hp hK
 go_enter func215,ntmps215
 go_wp2_with fail
 refine (ae LA).mono ?_
 rintro e w1 ⟨rfl,hw⟩
 obtain rfl:=hw.symm
 clear hw
 go_wp2_with fail
 refine (ae LC).mono ?_
 rintro e w1 ⟨rfl,hw⟩
 obtain rfl:=hw.symm
 clear hw
 go_wp2_with fail
 refine (ae MU _).mono ?_
 rintro e w1 ⟨rfl,hw⟩
 obtain rfl:=hw.symm
 clear hw
 go_wp2
 go_ret2
 refine⟨?_,rfl⟩
 go_num)
 ·(
 rw[if_neg hh] at hp hK
 have d1:((hi:Int)/9223372036854775808==0)=false:=beq_eq_false_iff_ne.2 (by omega)
 have HP:p=hi:=ae hp
 subst HP
 have HK:K=(n:Int)+m-62:=by rw[ae hK];omega
 subst HK
 clear hp hK
 go_enter func215,ntmps215
 go_wp2_with fail
 refine (ae LA).mono ?_
 rintro e w1 ⟨rfl,hw⟩
 obtain rfl:=hw.symm
 clear hw
 go_wp2_with fail
 refine (ae LC).mono ?_
 rintro e w1 ⟨rfl,hw⟩
 obtain rfl:=hw.symm
 clear hw
 go_wp2_with fail
 refine (ae MU _).mono ?_
 rintro e w1 ⟨rfl,hw⟩
 obtain rfl:=hw.symm
 clear hw
 go_wp2
 go_ret2
 refine⟨?_,rfl⟩
 go_num))
theorem zcr {x y:Nat} (h:y<x):zq x y=1:=by unfold zq;rw[if_neg (by omega),if_neg (by omega)]
theorem zjb (va vb vc vd:Value) (A B C D:Nat) (w:World) (ha:Sl .u64 w va (wd 18446744073709551616 A)) (hb:Sl .u64 w vb (wd 18446744073709551616 B)) (hc:Sl .u64 w vc (wd 18446744073709551616 C)) (hd:Sl .u64 w vd (wd 18446744073709551616 D)) (hla:(wd 18446744073709551616 A).length<33554432) (hlb:(wd 18446744073709551616 B).length<33554432) (hlc:(wd 18446744073709551616 C).length<33554432) (hld:(wd 18446744073709551616 D).length<33554432) (r:Int) (hr:Hid (r=zq (A*B) (C*D))) :
   Calls prog 181 #[va,vb,vc,vd] w fun e w'=>e=.returned (.int .i64 r)∧But [] w w':=by(
 have wm:∀ X Y:Nat,(wd 18446744073709551616 X).length<33554432→(wd 18446744073709551616 Y).length<33554432→(wd 18446744073709551616 (X*Y)).length<67108864:=fun X Y h1 h2=>by
  have:=qi X Y;omega
 have M1:Hid (∀ W,But [] w W→Calls prog 171 #[va,vb] W fun e w'=>∃ v',e=.returned v'∧Sl .u64 w' v' (wd 18446744073709551616 (A*B))∧But [] W w'∧zst W.heap.size v' va vb A B):=fun W hB=>qz va vb A B W (ha.ah hB) (hb.ah hB) (by omega)
 have M2:Hid (∀ W,But [] w W→Calls prog 171 #[vc,vd] W fun e w'=>∃ v',e=.returned v'∧Sl .u64 w' v' (wd 18446744073709551616 (C*D))∧But [] W w'∧zst W.heap.size v' vc vd C D):=fun W hB=>qz vc vd C D W (hc.ah hB) (hd.ah hB) (by omega)
 have CM:Hid (∀ W v1 v2,Sl .u64 W v1 (wd 18446744073709551616 (A*B))→Sl .u64 W v2 (wd 18446744073709551616 (C*D))→Calls prog 191 #[v1,v2] W fun e w'=>e=.returned (.int .i64 r)∧∃ q,w'=W.drewN q):=fun W v1 v2 h1 h2=>by
  rw[ae hr]
  have l1:=wm A B hla hlb
  have l2:=wm C D hlc hld
  exact xu v1 v2 _ _ W h1 h2 (by omega) (by omega)
 have zl:∀ X:Nat,((wd 18446744073709551616 X).length=0↔X=0):=fun X=>ze (by omega) X
 have LP1:Hid (∀ p K,0<A→0<B→Hid (p=zbo A B)→Hid (K=(zai A B:Int)-126)→Calls prog 215 #[va,vb] w fun e w'=>e=.returned (.tuple #[.int .u64 (p:Int),.int .i64 K])∧w'=w):=fun p K h1 h2 h3 h4=>zaz va vb A B h1 h2 w ha hb (by omega) (by omega) p K h3 h4
 have LP2:Hid (∀ p K,0<C→0<D→Hid (p=zbo C D)→Hid (K=(zai C D:Int)-126)→Calls prog 215 #[vc,vd] w fun e w'=>e=.returned (.tuple #[.int .u64 (p:Int),.int .i64 K])∧w'=w):=fun p K h1 h2 h3 h4=>zaz vc vd C D h1 h2 w hc hd (by omega) (by omega) p K h3 h4
 have ZA:=zl A
 have ZB:=zl B
 have ZC:=zl C
 have ZD:=zl D
 have kl1:=zra A B _ hla hlb
 have kl2:=zra C D _ hlc hld
 obtain⟨aa,ca,rfl,-,-⟩:=ha
 obtain⟨ab,cb,rfl,-,-⟩:=hb
 obtain⟨ac,cc,rfl,-,-⟩:=hc
 obtain⟨ad,cd,rfl,-,-⟩:=hd
 clear zl wm
 generalize (wd 18446744073709551616 A).length=la at *
 generalize (wd 18446744073709551616 B).length=lb at *
 generalize (wd 18446744073709551616 C).length=lc at *
 generalize (wd 18446744073709551616 D).length=ld at *
 by_cases h0:la=0∨lb=0∨lc=0∨ld=0
 ·(
 clear LP1 LP2 kl1 kl2 ZA ZB ZC ZD hr
 by_cases z1:la=0
 ·(
 have q1:((la:Int)==0)=true:=beq_iff_eq.2 (by omega)
 clear h0 z1
 go_enter func181,ntmps181
 go_wp2_with fail
 refine (ae M1 _ (But.refl _ _)).mono ?_
 rintro e w1 ⟨v1,rfl,hv1,hb1,-⟩
 have H1:=af hv1
 have B1:=af hb1
 clear hv1 hb1
 go_wp2_with fail
 refine (ae M2 _ (ae B1)).mono ?_
 rintro e w2 ⟨v2,rfl,hv2,hb2,-⟩
 have H2:=af hv2
 have H1':=af ((ae H1).ah hb2)
 have B2:Hid (But [] w w2):=(ae B1).trans' hb2
 clear hv2 hb2 H1
 go_wp2_with fail
 refine (ae CM _ _ _ (ae H1') (ae H2)).mono ?_
 rintro e w3 ⟨rfl,q,rfl⟩
 go_wp2
 go_ret
 exact⟨rfl,(ae B2).drewN q⟩)
 ·(
 have q1:((la:Int)==0)=false:=beq_eq_false_iff_ne.2 (by omega)
 by_cases z2:lb=0
 ·(
 have q2:((lb:Int)==0)=true:=beq_iff_eq.2 (by omega)
 clear h0 z2
 go_enter func181,ntmps181
 go_wp2_with fail
 refine (ae M1 _ (But.refl _ _)).mono ?_
 rintro e w1 ⟨v1,rfl,hv1,hb1,-⟩
 have H1:=af hv1
 have B1:=af hb1
 clear hv1 hb1
 go_wp2_with fail
 refine (ae M2 _ (ae B1)).mono ?_
 rintro e w2 ⟨v2,rfl,hv2,hb2,-⟩
 have H2:=af hv2
 have H1':=af ((ae H1).ah hb2)
 have B2:Hid (But [] w w2):=(ae B1).trans' hb2
 clear hv2 hb2 H1
 go_wp2_with fail
 refine (ae CM _ _ _ (ae H1') (ae H2)).mono ?_
 rintro e w3 ⟨rfl,q,rfl⟩
 go_wp2
 go_ret
 exact⟨rfl,(ae B2).drewN q⟩)
 ·(
 have q2:((lb:Int)==0)=false:=beq_eq_false_iff_ne.2 (by omega)
 by_cases z3:lc=0
 ·(
 have q3:((lc:Int)==0)=true:=beq_iff_eq.2 (by omega)
 clear h0 z3
 go_enter func181,ntmps181
 go_wp2_with fail
 refine (ae M1 _ (But.refl _ _)).mono ?_
 rintro e w1 ⟨v1,rfl,hv1,hb1,-⟩
 have H1:=af hv1
 have B1:=af hb1
 clear hv1 hb1
 go_wp2_with fail
 refine (ae M2 _ (ae B1)).mono ?_
 rintro e w2 ⟨v2,rfl,hv2,hb2,-⟩
 have H2:=af hv2
 have H1':=af ((ae H1).ah hb2)
 have B2:Hid (But [] w w2):=(ae B1).trans' hb2
 clear hv2 hb2 H1
 go_wp2_with fail
 refine (ae CM _ _ _ (ae H1') (ae H2)).mono ?_
 rintro e w3 ⟨rfl,q,rfl⟩
 go_wp2
 go_ret
 exact⟨rfl,(ae B2).drewN q⟩)
 ·(
 have q3:((lc:Int)==0)=false:=beq_eq_false_iff_ne.2 (by omega)
 have q4:((ld:Int)==0)=true:=beq_iff_eq.2 (by omega)
 clear h0
 go_enter func181,ntmps181
 go_wp2_with fail
 refine (ae M1 _ (But.refl _ _)).mono ?_
 rintro e w1 ⟨v1,rfl,hv1,hb1,-⟩
 have H1:=af hv1
 have B1:=af hb1
 clear hv1 hb1
 go_wp2_with fail
 refine (ae M2 _ (ae B1)).mono ?_
 rintro e w2 ⟨v2,rfl,hv2,hb2,-⟩
 have H2:=af hv2
 have H1':=af ((ae H1).ah hb2)
 have B2:Hid (But [] w w2):=(ae B1).trans' hb2
 clear hv2 hb2 H1
 go_wp2_with fail
 refine (ae CM _ _ _ (ae H1') (ae H2)).mono ?_
 rintro e w3 ⟨rfl,q,rfl⟩
 go_wp2
 go_ret
 exact⟨rfl,(ae B2).drewN q⟩))))
 ·(
 have hA:0<A:=by omega
 have hB:0<B:=by omega
 have hC:0<C:=by omega
 have hD:0<D:=by omega
 have P1:=zvz A B hA hB
 have P2:=zvz C D hC hD
 have x1:=P1.hi
 have x2:=P2.hi
 have FAR1:=af (fun h=>zne P1 P2 h)
 have FAR2:=af (fun h=>zne P2 P1 h)
 have NEAR1:Hid (zai A B=zai C D→zbo C D+8≤zbo A B→C*D<A*B):=fun e h=>zkt P1 (e ▸ P2) h
 have NEAR2:Hid (zai A B=zai C D→zbo A B+8≤zbo C D→A*B<C*D):=fun e h=>zkt P2 (e ▸ P1) h
 have L1:=af (ae LP1 (zbo A B) ((zai A B:Int)-126) hA hB rfl rfl)
 have L2:=af (ae LP2 (zbo C D) ((zai C D:Int)-126) hC hD rfl rfl)
 have nz1:((la:Int)==0)=false:=beq_eq_false_iff_ne.2 (by omega)
 have nz2:((lb:Int)==0)=false:=beq_eq_false_iff_ne.2 (by omega)
 have nz3:((lc:Int)==0)=false:=beq_eq_false_iff_ne.2 (by omega)
 have nz4:((ld:Int)==0)=false:=beq_eq_false_iff_ne.2 (by omega)
 clear LP1 LP2 P1 P2 ZA ZB ZC ZD
 generalize zbo A B=x at *
 generalize zbo C D=y at *
 generalize zai A B=n at *
 generalize zai C D=m at *
 obtain⟨N,hN⟩:∃ N,N=(n:Int)-126:=⟨_,rfl⟩
 obtain⟨M,hM⟩:∃ M,M=(m:Int)-126:=⟨_,rfl⟩
 rw[← hN] at L1
 rw[← hM] at L2
 have F1:Hid (M+1<N→C*D<A*B):=fun h=>ae FAR1 (by omega)
 have F2:Hid (N+1<M→A*B<C*D):=fun h=>ae FAR2 (by omega)
 have G1:Hid (N=M→y+8≤x→C*D<A*B):=fun h h2=>ae NEAR1 (by omega) h2
 have G2:Hid (N=M→x+8≤y→A*B<C*D):=fun h h2=>ae NEAR2 (by omega) h2
 have n1:-126≤N:=by omega
 have n2:N≤4294967424:=by omega
 have m1:-126≤M:=by omega
 have m2:M≤4294967424:=by omega
 clear FAR1 FAR2 NEAR1 NEAR2 hN hM kl1 kl2 h0
 by_cases c1:M+1<N
 ·(
 have ER:Hid (r=1):=by show _=_;rw[ae hr,zcr (ae F1 c1)]
 clear hr F1 F2 G1 G2
 have d1:decide (M+1<N)=true:=decide_eq_true c1
 go_enter func181,ntmps181
 go_wp2_with fail
 refine (ae L1).mono ?_
 rintro e w1 ⟨rfl,hw⟩
 obtain rfl:=hw.symm
 clear hw
 go_wp2_with fail
 refine (ae L2).mono ?_
 rintro e w1 ⟨rfl,hw⟩
 obtain rfl:=hw.symm
 clear hw
 go_wp2
 go_ret
 exact⟨by rw[ae ER];rfl,But.refl _ _⟩)
 ·(
 have d1:decide (M+1<N)=false:=decide_eq_false c1
 by_cases c2:N=M
 ·(
 have d2:(N==M)=true:=beq_iff_eq.2 c2
 have c3:¬ (N+1<M):=by omega
 have d3:decide (N+1<M)=false:=decide_eq_false c3
 rcases Nat.lt_trichotomy x y with hxy | hxy | hxy
 ·(
 have d4:decide ((y:Int)<(x:Int))=false:=decide_eq_false (by omega)
 have d5:decide ((x:Int)<(y:Int))=true:=decide_eq_true (by omega)
 have d7:IntKind.u64.wrap ((y:Int)-(x:Int))=(y:Int)-(x:Int):=by rw[IntKind.wrap_u64];omega
 by_cases c4:x+8≤y
 ·(
 have ER:Hid (r=-1):=by show _=_;rw[ae hr,o8 (ae G2 c2 c4)]
 clear hr F1 F2 G1 G2
 have d6:decide (8≤(y:Int)-(x:Int))=true:=decide_eq_true (by omega)
 go_enter func181,ntmps181
 go_wp2_with fail
 refine (ae L1).mono ?_
 rintro e w1 ⟨rfl,hw⟩
 obtain rfl:=hw.symm
 clear hw
 go_wp2_with fail
 refine (ae L2).mono ?_
 rintro e w1 ⟨rfl,hw⟩
 obtain rfl:=hw.symm
 clear hw
 go_wp2
 go_ret
 exact⟨by rw[ae ER];rfl,But.refl _ _⟩)
 ·(
 have d6:decide (8≤(y:Int)-(x:Int))=false:=decide_eq_false (by omega)
 clear hr F1 F2 G1 G2
 go_enter func181,ntmps181
 go_wp2_with fail
 refine (ae L1).mono ?_
 rintro e w1 ⟨rfl,hw⟩
 obtain rfl:=hw.symm
 clear hw
 go_wp2_with fail
 refine (ae L2).mono ?_
 rintro e w1 ⟨rfl,hw⟩
 obtain rfl:=hw.symm
 clear hw
 go_wp2_with fail
 refine (ae M1 _ (But.refl _ _)).mono ?_
 rintro e w1 ⟨v1,rfl,hv1,hb1,-⟩
 have H1:=af hv1
 have B1:=af hb1
 clear hv1 hb1
 go_wp2_with fail
 refine (ae M2 _ (ae B1)).mono ?_
 rintro e w2 ⟨v2,rfl,hv2,hb2,-⟩
 have H2:=af hv2
 have H1':=af ((ae H1).ah hb2)
 have B2:Hid (But [] w w2):=(ae B1).trans' hb2
 clear hv2 hb2 H1
 go_wp2_with fail
 refine (ae CM _ _ _ (ae H1') (ae H2)).mono ?_
 rintro e w3 ⟨rfl,q,rfl⟩
 go_wp2
 go_ret
 exact⟨rfl,(ae B2).drewN q⟩))
 ·(
 have d4:decide ((y:Int)<(x:Int))=false:=decide_eq_false (by omega)
 have d5:decide ((x:Int)<(y:Int))=false:=decide_eq_false (by omega)
 clear hr F1 F2 G1 G2
 go_enter func181,ntmps181
 go_wp2_with fail
 refine (ae L1).mono ?_
 rintro e w1 ⟨rfl,hw⟩
 obtain rfl:=hw.symm
 clear hw
 go_wp2_with fail
 refine (ae L2).mono ?_
 rintro e w1 ⟨rfl,hw⟩
 obtain rfl:=hw.symm
 clear hw
 go_wp2_with fail
 refine (ae M1 _ (But.refl _ _)).mono ?_
 rintro e w1 ⟨v1,rfl,hv1,hb1,-⟩
 have H1:=af hv1
 have B1:=af hb1
 clear hv1 hb1
 go_wp2_with fail
 refine (ae M2 _ (ae B1)).mono ?_
 rintro e w2 ⟨v2,rfl,hv2,hb2,-⟩
 have H2:=af hv2
 have H1':=af ((ae H1).ah hb2)
 have B2:Hid (But [] w w2):=(ae B1).trans' hb2
 clear hv2 hb2 H1
 go_wp2_with fail
 refine (ae CM _ _ _ (ae H1') (ae H2)).mono ?_
 rintro e w3 ⟨rfl,q,rfl⟩
 go_wp2
 go_ret
 exact⟨rfl,(ae B2).drewN q⟩)
 ·(
 have d4:decide ((y:Int)<(x:Int))=true:=decide_eq_true (by omega)
 have d5:decide ((x:Int)<(y:Int))=false:=decide_eq_false (by omega)
 have d7:IntKind.u64.wrap ((x:Int)-(y:Int))=(x:Int)-(y:Int):=by rw[IntKind.wrap_u64];omega
 by_cases c4:y+8≤x
 ·(
 have ER:Hid (r=1):=by show _=_;rw[ae hr,zcr (ae G1 c2 c4)]
 clear hr F1 F2 G1 G2
 have d6:decide (8≤(x:Int)-(y:Int))=true:=decide_eq_true (by omega)
 go_enter func181,ntmps181
 go_wp2_with fail
 refine (ae L1).mono ?_
 rintro e w1 ⟨rfl,hw⟩
 obtain rfl:=hw.symm
 clear hw
 go_wp2_with fail
 refine (ae L2).mono ?_
 rintro e w1 ⟨rfl,hw⟩
 obtain rfl:=hw.symm
 clear hw
 go_wp2
 go_ret
 exact⟨by rw[ae ER];rfl,But.refl _ _⟩)
 ·(
 have d6:decide (8≤(x:Int)-(y:Int))=false:=decide_eq_false (by omega)
 clear hr F1 F2 G1 G2
 go_enter func181,ntmps181
 go_wp2_with fail
 refine (ae L1).mono ?_
 rintro e w1 ⟨rfl,hw⟩
 obtain rfl:=hw.symm
 clear hw
 go_wp2_with fail
 refine (ae L2).mono ?_
 rintro e w1 ⟨rfl,hw⟩
 obtain rfl:=hw.symm
 clear hw
 go_wp2_with fail
 refine (ae M1 _ (But.refl _ _)).mono ?_
 rintro e w1 ⟨v1,rfl,hv1,hb1,-⟩
 have H1:=af hv1
 have B1:=af hb1
 clear hv1 hb1
 go_wp2_with fail
 refine (ae M2 _ (ae B1)).mono ?_
 rintro e w2 ⟨v2,rfl,hv2,hb2,-⟩
 have H2:=af hv2
 have H1':=af ((ae H1).ah hb2)
 have B2:Hid (But [] w w2):=(ae B1).trans' hb2
 clear hv2 hb2 H1
 go_wp2_with fail
 refine (ae CM _ _ _ (ae H1') (ae H2)).mono ?_
 rintro e w3 ⟨rfl,q,rfl⟩
 go_wp2
 go_ret
 exact⟨rfl,(ae B2).drewN q⟩)))
 ·(
 have d2:(N==M)=false:=beq_eq_false_iff_ne.2 c2
 by_cases c3:N+1<M
 ·(
 have ER:Hid (r=-1):=by show _=_;rw[ae hr,o8 (ae F2 c3)]
 clear hr F1 F2 G1 G2
 have d3:decide (N+1<M)=true:=decide_eq_true c3
 go_enter func181,ntmps181
 go_wp2_with fail
 refine (ae L1).mono ?_
 rintro e w1 ⟨rfl,hw⟩
 obtain rfl:=hw.symm
 clear hw
 go_wp2_with fail
 refine (ae L2).mono ?_
 rintro e w1 ⟨rfl,hw⟩
 obtain rfl:=hw.symm
 clear hw
 go_wp2
 go_ret
 exact⟨by rw[ae ER];rfl,But.refl _ _⟩)
 ·(
 have d3:decide (N+1<M)=false:=decide_eq_false c3
 clear hr F1 F2 G1 G2
 go_enter func181,ntmps181
 go_wp2_with fail
 refine (ae L1).mono ?_
 rintro e w1 ⟨rfl,hw⟩
 obtain rfl:=hw.symm
 clear hw
 go_wp2_with fail
 refine (ae L2).mono ?_
 rintro e w1 ⟨rfl,hw⟩
 obtain rfl:=hw.symm
 clear hw
 go_wp2_with fail
 refine (ae M1 _ (But.refl _ _)).mono ?_
 rintro e w1 ⟨v1,rfl,hv1,hb1,-⟩
 have H1:=af hv1
 have B1:=af hb1
 clear hv1 hb1
 go_wp2_with fail
 refine (ae M2 _ (ae B1)).mono ?_
 rintro e w2 ⟨v2,rfl,hv2,hb2,-⟩
 have H2:=af hv2
 have H1':=af ((ae H1).ah hb2)
 have B2:Hid (But [] w w2):=(ae B1).trans' hb2
 clear hv2 hb2 H1
 go_wp2_with fail
 refine (ae CM _ _ _ (ae H1') (ae H2)).mono ?_
 rintro e w3 ⟨rfl,q,rfl⟩
 go_wp2
 go_ret
 exact⟨rfl,(ae B2).drewN q⟩)))))
theorem zzt (b:Nat) (x y:Int) (w:World) (hx:w.cell? ⟨b,0,none⟩=some (.int .i64 x)) (hy:w.cell? ⟨b,1,none⟩=some (.int .i64 y)) (r:Int) (hr:Hid (r=if x≠0 then x else y)) :
   Calls prog 179 #[.slice (some ⟨b,0,none⟩) 2 2] w fun e w'=>e=.returned (.int .i64 r)∧But [] w w':=by(
 by_cases h0:x=0
 ·(
 subst h0
 by_cases h1:y=0
 ·(
 subst h1
 have er:Hid (r=0):=by show _=_;rw[ae hr];simp
 clear hr
 go_enter func179,ntmps179
 go_wp2
 refine wp_loop_rounds 3 ?_
 rw[rounds_succ]
 go_wp2
 rw[rounds_succ]
 go_wp2
 rw[rounds_succ]
 go_wp2
 go_ret
 exact⟨by rw[ae er];rfl,But.refl _ _⟩)
 ·(
 have er:Hid (r=y):=by show _=_;rw[ae hr];simp
 have n1:(y != 0)=true:=by simp[h1]
 clear hr
 go_enter func179,ntmps179
 go_wp2
 refine wp_loop_rounds 2 ?_
 rw[rounds_succ]
 go_wp2
 rw[rounds_succ]
 go_wp2
 go_ret
 exact⟨by rw[ae er];rfl,But.refl _ _⟩))
 ·(
 have er:Hid (r=x):=by show _=_;rw[ae hr];simp[h0]
 have n1:(x != 0)=true:=by simp[h0]
 clear hr
 go_enter func179,ntmps179
 go_wp2
 refine wp_loop_rounds 1 ?_
 rw[rounds_succ]
 go_wp2
 go_ret
 exact⟨by rw[ae er];rfl,But.refl _ _⟩))
theorem qgi (h1 l1 h2 l2:Nat) (b1:l1 < 18446744073709551616) (b2:l2 < 18446744073709551616):zq (l1 + 18446744073709551616*h1) (l2 + 18446744073709551616*h2)=if zq h1 h2≠0 then zq h1 h2 else zq l1 l2:=by(
 rcases Nat.lt_trichotomy h1 h2 with h | h | h
 ·rw[o8 h,o8 (by omega)];simp
 ·(
 subst h
 have e:zq h1 h1=0:=by simp[zq]
 rw[e,if_neg (by simp)]
 rcases Nat.lt_trichotomy l1 l2 with h | h | h
 ·rw[o8 h,o8 (by omega)]
 ·subst h;simp[zq]
 ·rw[zcr h,zcr (by omega)])
 ·rw[zcr h,zcr (by omega)];simp)
theorem zld (s1 s2:Bool) (a b c d:Nat) (ha:a < 18446744073709551616) (hb:b < 18446744073709551616) (hc:c < 18446744073709551616) (hd:d < 18446744073709551616) (hb0:0<b) (hd0:0<d) (w:World) (r:Int) (hr:Hid (r=zq (a*d) (c*b))) :
   Calls prog 128 #[.agg #[.bool s1,.int .u64 (a:Int),.int .u64 ((b:Int)-1),.pointer none],.agg #[.bool s2,.int .u64 (c:Int),.int .u64 ((d:Int)-1),.pointer none]] w fun e w'=>e=.returned (.int .i64 r)∧But [] w w':=by(
 have U1:=af (fun W=>iy s1 a b hb hb0 W)
 have U2:=af (fun W=>iy s2 c d hd hd0 W)
 obtain⟨lo1,hi1,hlo1,hhi1,e1⟩:=bp a d 0 ha hd (by omega)
 obtain⟨lo2,hi2,hlo2,hhi2,e2⟩:=bp c b 0 hc hb (by omega)
 rw[Nat.add_zero] at e1 e2
 have M1:=af (fun W=>kw a d hi1 lo1 ha hd hlo1 e1 W)
 have M2:=af (fun W=>kw c b hi2 lo2 hc hb hlo2 e2 W)
 have hrr:Hid (r=if zq hi1 hi2≠0 then zq hi1 hi2 else zq lo1 lo2):=by show _=_;rw[ae hr,e1,e2,qgi _ _ _ _ hlo1 hlo2]
 have C1:=af (fun W=>zgt hi1 hi2 W (zq hi1 hi2) rfl)
 have C2:=af (fun W=>zgt lo1 lo2 W (zq lo1 lo2) rfl)
 clear hr e1 e2
 generalize zq hi1 hi2=z1 at *
 generalize zq lo1 lo2=z2 at *
 obtain⟨W,hW⟩:∃ W,W=((w.alloc (.cells #[.bool s1,.int .u64 (a:Int),.int .u64 ((b:Int)-1),.pointer none] 27)).alloc (.cells #[.bool s2,.int .u64 (c:Int),.int .u64 ((d:Int)-1),.pointer none] 27)):=⟨_,rfl⟩
 obtain⟨tA,tB,-,hB⟩:=nu w W _ _ _ hW
 have x0:=tA 0
 have x1:=tA 1
 have x2:=tA 2
 have x3:=tA 3
 have y0:=tB 0
 have y1:=tB 1
 have y2:=tB 2
 have y3:=tB 3
 simp only[List.getElem?_toArray,List.getElem?_cons_zero,List.getElem?_cons_succ] at x0 x1 x2 x3 y0 y1 y2 y3
 clear tA tB
 have HW:=af hW
 have HB:=af hB
 clear hW hB
 go_enter func128,ntmps128
 go_wp2
 rw[← ae HW]
 obtain⟨ga,hga⟩:∃ ga,ga=w.heap.size:=⟨_,rfl⟩
 obtain⟨gb,hgb⟩:∃ gb,gb=w.heap.size+1:=⟨_,rfl⟩
 rw[← hga] at x0 x1 x2 x3
 rw[← hgb] at y0 y1 y2 y3
 rw[← hgb,← hga]
 clear hga hgb HW
 go_region_held (fun w'=>w'.cell? ⟨ga,0,none⟩=some (.bool s1)∧w'.cell? ⟨ga,1,none⟩=some (.int .u64 (a:Int))∧w'.cell? ⟨ga,2,none⟩=some (.int .u64 ((b:Int)-1))∧w'.cell? ⟨ga,3,none⟩=some (.pointer none)∧w'.cell? ⟨gb,0,none⟩=some (.bool s2)∧w'.cell? ⟨gb,1,none⟩=some (.int .u64 (c:Int))∧w'.cell? ⟨gb,2,none⟩=some (.int .u64 ((d:Int)-1))∧w'.cell? ⟨gb,3,none⟩=some (.pointer none)) (go_keep) (first
  | (go_at_call 140;refine (ae U2 _).mono ?_;rintro e w1 ⟨rfl,hb1⟩;have B1:But [] W w1:=(by first | exact hb1 | exact (But.refl _ _).drew.trans' hb1);have k0:=B1.ag x0 (by simp);have k1:=B1.ag x1 (by simp);have k2:=B1.ag x2 (by simp);have k3:=B1.ag x3 (by simp);have l0:=B1.ag y0 (by simp);have l1:=B1.ag y1 (by simp);have l2:=B1.ag y2 (by simp);have l3:=B1.ag y3 (by simp))
  | (go_at_call 178;refine (ae M1 _).mono ?_;rintro e w2 ⟨rfl,hw2⟩;obtain rfl:=hw2.symm;clear hw2))
 have HB1:Hid (But [] w w1):=(ae HB).trans' B1
 clear B1 hb1 x0 x1 x2 x3 y0 y1 y2 y3 HB
 go_wp2
 go_region_held (fun w'=>w'.cell? ⟨ga,0,none⟩=some (.bool s1)∧w'.cell? ⟨ga,1,none⟩=some (.int .u64 (a:Int))∧w'.cell? ⟨ga,2,none⟩=some (.int .u64 ((b:Int)-1))∧w'.cell? ⟨ga,3,none⟩=some (.pointer none)∧w'.cell? ⟨gb,0,none⟩=some (.bool s2)∧w'.cell? ⟨gb,1,none⟩=some (.int .u64 (c:Int))∧w'.cell? ⟨gb,2,none⟩=some (.int .u64 ((d:Int)-1))∧w'.cell? ⟨gb,3,none⟩=some (.pointer none)) (go_keep) (first
  | (go_at_call 140;refine (ae U1 _).mono ?_;rintro e w3 ⟨rfl,hb3⟩;have B3:But [] w1 w3:=(by first | exact hb3 | exact (But.refl _ _).drew.trans' hb3);have m0:=B3.ag k0 (by simp);have m1:=B3.ag k1 (by simp);have m2:=B3.ag k2 (by simp);have m3:=B3.ag k3 (by simp);have n0:=B3.ag l0 (by simp);have n1:=B3.ag l1 (by simp);have n2:=B3.ag l2 (by simp);have n3:=B3.ag l3 (by simp))
  | (go_at_call 178;refine (ae M2 _).mono ?_;rintro e w4 ⟨rfl,hw4⟩;obtain rfl:=hw4.symm;clear hw4))
 have HB3:Hid (But [] w w3):=(ae HB1).trans' B3
 clear B3 hb3 k0 k1 k2 k3 l0 l1 l2 l3 m0 m1 m2 m3 n0 n1 n2 n3 HB1
 go_wp2_with fail
 refine (ae C1 _).mono ?_
 rintro e w5 ⟨rfl,hw5⟩
 obtain rfl:=hw5.symm
 clear hw5
 go_wp2_with fail
 refine (ae C2 _).mono ?_
 rintro e w5 ⟨rfl,hw5⟩
 obtain rfl:=hw5.symm
 clear hw5
 go_wp2_with fail
 refine (zzt w3.heap.size z1 z2 _ (by simp) (by simp) r hrr).mono ?_
 rintro e w6 ⟨rfl,hb6⟩
 have HB6:Hid (But [] w w6):=((ae HB3).alloc _).trans' hb6
 clear hb6
 go_wp2
 go_ret
 exact⟨rfl,ae HB6⟩)
theorem zgv (vf vg:Value) (f g:Rat) (w:World) (hf:am w vf f) (hg:am w vg g) (lf:Len f 33554431) (lg:Len g 33554431) (r:Int) (hr:Hid (r=zq (f.num.natAbs*g.den) (g.num.natAbs*f.den))) :
   Calls prog 128 #[vf,vg] w fun e w'=>e=.returned (.int .i64 r)∧But [] w w':=by(
 have hq1:=den_pos f
 have hq2:=den_pos g
 have NF:Hid (∀ W,But [] w W→Calls prog 62 #[vf] W fun e w'=>∃ v1 v2,e=.returned (.tuple #[v1,v2])∧Sl .u64 w' v1 (wd 18446744073709551616 f.num.natAbs)∧Sl .u64 w' v2 (wd 18446744073709551616 f.den)∧But [] W w'):=fun W hb=>kz vf f W (hf.but hb)
 have NG:Hid (∀ W,But [] w W→Calls prog 62 #[vg] W fun e w'=>∃ v1 v2,e=.returned (.tuple #[v1,v2])∧Sl .u64 w' v1 (wd 18446744073709551616 g.num.natAbs)∧Sl .u64 w' v2 (wd 18446744073709551616 g.den)∧But [] W w'):=fun W hb=>kz vg g W (hg.but hb)
 have CP:Hid (∀ W na nb nc nd,Sl .u64 W na (wd 18446744073709551616 f.num.natAbs)→Sl .u64 W nb (wd 18446744073709551616 f.den)→Sl .u64 W nc (wd 18446744073709551616 g.num.natAbs)→Sl .u64 W nd (wd 18446744073709551616 g.den)→Calls prog 181 #[na,nd,nc,nb] W fun e w'=>e=.returned (.int .i64 r)∧But [] W w'):=fun W na nb nc nd h1 h2 h3 h4=>zjb na nd nc nb _ _ _ _ W h1 h4 h3 h2 (by have:=lf.1;omega) (by have:=lg.2;omega) (by have:=lg.1;omega) (by have:=lf.2;omega) r hr
 have LARGE:∀ (s1 s2:Bool) (x1 y1 x2 y2:Int) (p1 p2:Option Addr),vf=.agg #[.bool s1,.int .u64 x1,.int .u64 y1,.pointer p1]→vg=.agg #[.bool s2,.int .u64 x2,.int .u64 y2,.pointer p2]→(p1≠none∨p2≠none)→Calls prog 128 #[vf,vg] w fun e w'=>e=.returned (.int .i64 r)∧But [] w w':=by
  intro s1 s2 x1 y1 x2 y2 p1 p2 ef eg hp
  subst ef
  subst eg
  clear hf hg lf lg hr hq1 hq2
  obtain⟨W,hW⟩:∃ W,W=((w.alloc (.cells #[.bool s1,.int .u64 x1,.int .u64 y1,.pointer p1] 27)).alloc (.cells #[.bool s2,.int .u64 x2,.int .u64 y2,.pointer p2] 27)):=⟨_,rfl⟩
  obtain⟨tA,tB,-,hB⟩:=nu w W _ _ _ hW
  have y0:=tB 0
  have y1:=tB 1
  have y2:=tB 2
  have y3:=tB 3
  simp only[List.getElem?_toArray,List.getElem?_cons_zero,List.getElem?_cons_succ] at y0 y1 y2 y3
  clear tA tB
  have HW:=af hW
  have HB:=af hB
  clear hW hB
  rcases p1 with _ | p1
  ·rcases p2 with _ | p2
   ·simp at hp
   ·clear hp
    go_enter func128,ntmps128
    go_wp2_with fail
    rw[← ae HW]
    obtain⟨gb,hgb⟩:∃ gb,gb=w.heap.size+1:=⟨_,rfl⟩
    rw[← hgb] at y0 y1 y2 y3
    rw[← hgb]
    clear hgb HW
    refine (ae NF _ (ae HB)).mono ?_
    rintro e w1 ⟨na,nb,rfl,hna,hnb,hb1⟩
    have d0:=hb1.ag y0 (by simp)
    have d1:=hb1.ag y1 (by simp)
    have d2:=hb1.ag y2 (by simp)
    have d3:=hb1.ag y3 (by simp)
    have HB1:Hid (But [] w w1):=(ae HB).trans' hb1
    have SA:=af hna
    have SB:=af hnb
    clear hb1 hna hnb y0 y1 y2 y3
    go_wp2_with fail
    refine (ae NG _ (ae HB1)).mono ?_
    rintro e w2 ⟨nc,nd,rfl,hnc,hnd,hb2⟩
    have HB2:Hid (But [] w w2):=(ae HB1).trans' hb2
    have SA2:=af ((ae SA).ah hb2)
    have SB2:=af ((ae SB).ah hb2)
    have SC:=af hnc
    have SD:=af hnd
    clear hb2 hnc hnd d0 d1 d2 d3
    go_wp2_with fail
    refine (ae CP _ na nb nc nd (ae SA2) (ae SB2) (ae SC) (ae SD)).mono ?_
    rintro e w3 ⟨rfl,hb3⟩
    have HB3:Hid (But [] w w3):=(ae HB2).trans' hb3
    clear hb3
    go_wp2
    go_ret
    exact⟨rfl,ae HB3⟩
  ·clear hp
   go_enter func128,ntmps128
   go_wp2_with fail
   rw[← ae HW]
   obtain⟨gb,hgb⟩:∃ gb,gb=w.heap.size+1:=⟨_,rfl⟩
   rw[← hgb] at y0 y1 y2 y3
   rw[← hgb]
   clear hgb HW
   refine (ae NF _ (ae HB)).mono ?_
   rintro e w1 ⟨na,nb,rfl,hna,hnb,hb1⟩
   have d0:=hb1.ag y0 (by simp)
   have d1:=hb1.ag y1 (by simp)
   have d2:=hb1.ag y2 (by simp)
   have d3:=hb1.ag y3 (by simp)
   have HB1:Hid (But [] w w1):=(ae HB).trans' hb1
   have SA:=af hna
   have SB:=af hnb
   clear hb1 hna hnb y0 y1 y2 y3
   go_wp2_with fail
   refine (ae NG _ (ae HB1)).mono ?_
   rintro e w2 ⟨nc,nd,rfl,hnc,hnd,hb2⟩
   have HB2:Hid (But [] w w2):=(ae HB1).trans' hb2
   have SA2:=af ((ae SA).ah hb2)
   have SB2:=af ((ae SB).ah hb2)
   have SC:=af hnc
   have SD:=af hnd
   clear hb2 hnc hnd d0 d1 d2 d3
   go_wp2_with fail
   refine (ae CP _ na nb nc nd (ae SA2) (ae SB2) (ae SC) (ae SD)).mono ?_
   rintro e w3 ⟨rfl,hb3⟩
   have HB3:Hid (But [] w w3):=(ae HB2).trans' hb3
   clear hb3
   go_wp2
   go_ret
   exact⟨rfl,ae HB3⟩
 rcases hf.agg with ⟨x1,y1,p1,ef,h1⟩
 rcases hg.agg with ⟨x2,y2,p2,eg,h2⟩
 rcases p1 with _ | p1
 ·(
 rcases p2 with _ | p2
 ·obtain⟨a1,a2,a3,a4⟩:=h1 rfl
  obtain⟨c1,c2,c3,c4⟩:=h2 rfl
  rw[ef,eg,a3,a4,c3,c4]
  exact zld _ _ _ _ _ _ a1 a2 c1 c2 hq1 hq2 w r hr
 ·exact LARGE _ _ _ _ _ _ _ _ ef eg (.inr (by simp)))
 ·exact LARGE _ _ _ _ _ _ _ _ ef eg (.inl (by simp)))
end Go.Proofs.YtagmkkiagjmimaaGreatDoor
