/- The leading bits of numbers and of their -/
import Derived.Test.YtagmkkiagjmimaaGreatDoorYN15
namespace Go.Proofs.YtagmkkiagjmimaaGreatDoor
set_option linter.unusedVariables false
open Go.Proofs.Tryz
open Go.RowKit
set_option maxHeartbeats 8000000
set_option maxRecDepth 100000
structure zni (X x N:Nat):Prop where
 lo:9223372036854775808≤x
 hi:x < 18446744073709551616
 ge:x*2^N≤X*9223372036854775808
 lt:X*9223372036854775808<(x+1)*2^N
theorem qcz (k:Nat) (h:k≤63):2^k*2^(63-k)=9223372036854775808:=by
 rw[← Nat.pow_add,show k+(63-k)=63 from by omega]
theorem qfi (t k:Nat) (hk:k≤63) (h1:9223372036854775808≤t*2^k) (h2:t*2^k < 18446744073709551616):zni t (t*2^k) (63-k):=by(
 have hp:0<2^(63-k):=Nat.pow_pos (by omega)
 refine⟨h1,h2,?_,?_⟩
 ·rw[Nat.mul_assoc,qcz k hk];omega
 ·rw[Nat.add_mul,Nat.mul_assoc,qcz k hk];omega)
theorem qao (X R P m s t k:Nat) (hP:P=18446744073709551616^m) (hX:X=R+P*(s + 18446744073709551616*t)) (hR:R<P) (hs:s < 18446744073709551616) (hk:k≤63) (h1:9223372036854775808≤t*2^k) (h2:t*2^k < 18446744073709551616) :
   zni X (t*2^k+s/2^(64-k)) (64*(m+1)+63-k)∧s/2^(64-k)<2^k:=by(
 have hB:18446744073709551616=2^(64-k)*2^k:=by rw[← Nat.pow_add,show 64-k+k=64 from by omega]
 have hK:0<2^k:=Nat.pow_pos (by omega)
 have hQ:0<2^(64-k):=Nat.pow_pos (by omega)
 have hu:s/2^(64-k)<2^k:=by rw[Nat.div_lt_iff_lt_mul hQ,Nat.mul_comm,← hB];exact hs
 have hd:=Nat.div_add_mod s (2^(64-k))
 have hr:=Nat.mod_lt s hQ
 have e63:=qcz k hk
 have hN:2^(64*(m+1)+63-k)=P * 18446744073709551616*2^(63-k):=by
  rw[hP,show 64*(m+1)+63-k=64*m+64+(63-k) from by omega,Nat.pow_add,Nat.pow_add,Nat.pow_mul]
 have hz:0<2^(63-k):=Nat.pow_pos (by omega)
 generalize hu1:s/2^(64-k)=u at *
 generalize s%2^(64-k)=r at *
 generalize 64*(m+1)+63-k=N at *
 generalize 2^(63-k)=z at *
 generalize 2^(64-k)=Q at *
 generalize 2^k=K at *
 have htQ:t<Q:=by rw[hB] at h2;exact Nat.lt_of_mul_lt_mul_right h2
 have hx:t*K+u < 18446744073709551616:=by
  have:(t+1)*K≤Q*K:=Nat.mul_le_mul_right _ htQ
  rw[← hB,Nat.add_mul] at this;omega
 have eX:X*K=R*K+P*((t*K+u) * 18446744073709551616+r*K):=by rw[hX,← hd,hB];grind
 have hrK:r*K+K≤18446744073709551616:=by
  have:(r+1)*K≤Q*K:=Nat.mul_le_mul_right _ hr
  rw[← hB,Nat.add_mul] at this;omega
 have hRK:R*K<P*K:=Nat.mul_lt_mul_of_pos_right hR hK
 have g1:(t*K+u)*(P * 18446744073709551616)≤X*K:=by
  rw[eX]
  have:P*((t*K+u) * 18446744073709551616)≤P*((t*K+u) * 18446744073709551616+r*K):=Nat.mul_le_mul_left _ (by omega)
  have e:(t*K+u)*(P * 18446744073709551616)=P*((t*K+u) * 18446744073709551616):=by grind
  omega
 have g2:X*K<(t*K+u+1)*(P * 18446744073709551616):=by
  rw[eX]
  have h3:P*((t*K+u) * 18446744073709551616+r*K+K)≤P*((t*K+u) * 18446744073709551616 + 18446744073709551616):=Nat.mul_le_mul_left _ (by omega)
  have e:(t*K+u+1)*(P * 18446744073709551616)=P*((t*K+u) * 18446744073709551616 + 18446744073709551616):=by grind
  have e2:P*((t*K+u) * 18446744073709551616+r*K+K)=P*((t*K+u) * 18446744073709551616+r*K)+P*K:=by grind
  omega
 refine⟨⟨by omega,hx,?_,?_⟩,hu⟩
 ·rw[hN,← e63,← Nat.mul_assoc X,← Nat.mul_assoc (t*K+u)];exact Nat.mul_le_mul_right _ g1
 ·rw[hN,← e63,← Nat.mul_assoc X,← Nat.mul_assoc (t*K+u+1)];exact Nat.mul_lt_mul_of_pos_right g2 hz)
structure znh (Z p K:Nat):Prop where
 lo:9223372036854775808≤p
 hi:p < 18446744073709551616
 ge:p*2^K≤Z*85070591730234615865843651857942052864
 lt:Z*85070591730234615865843651857942052864<(p+8)*2^K
theorem qan (A C x y n m z:Nat) (h1:x*n≤A*z) (h2:A*z<(x+1)*n) (g1:y*m≤C*z) (g2:C*z<(y+1)*m):x*y*(n*m)≤A*C*(z*z)∧A*C*(z*z)<(x+1)*(y+1)*(n*m):=by(
 have h1:=Nat.mul_le_mul h1 g1
 have h2:=Nat.mul_lt_mul'' h2 g2
 constructor
 ·have e1:x*n*(y*m)=x*y*(n*m):=by grind
  have e2:A*z*(C*z)=A*C*(z*z):=by grind
  rw[← e1,← e2];exact h1
 ·have e1:(x+1)*n*((y+1)*m)=(x+1)*(y+1)*(n*m):=by grind
  have e2:A*z*(C*z)=A*C*(z*z):=by grind
  rw[← e1,← e2];exact h2)
theorem zti {A C x y N M:Nat} (h:zni A x N) (g:zni C y M):x*y*2^(N+M)≤A*C*85070591730234615865843651857942052864∧A*C*85070591730234615865843651857942052864<(x+1)*(y+1)*2^(N+M):=by(
 have e:=qan A C x y _ _ _ h.ge h.lt g.ge g.lt
 rw[← Nat.pow_add] at e
 exact e)
theorem zov {A C x y N M:Nat} (h:zni A x N) (g:zni C y M):85070591730234615865843651857942052864≤x*y∧(x+1)*(y+1)≤x*y + 18446744073709551616 + 18446744073709551616:=by(
 have h1:=h.hi
 have h2:=g.hi
 have h3:=Nat.mul_le_mul h.lo g.lo
 have e:(x+1)*(y+1)=x*y+x+y+1:=by grind
 refine⟨h3,?_⟩
 rw[e]
 generalize x*y=u
 omega)
theorem zwd (u v:Nat) (hv:v≤u + 18446744073709551616 + 18446744073709551616):u / 18446744073709551616 * 18446744073709551616≤u∧v≤(u / 18446744073709551616+8) * 18446744073709551616:=⟨by omega,by omega⟩
theorem qal (u v:Nat) (hv:v≤u + 18446744073709551616 + 18446744073709551616):u/9223372036854775808*9223372036854775808≤u∧v≤(u/9223372036854775808+8)*9223372036854775808:=⟨by omega,by omega⟩
theorem qlw (u:Nat):u / 18446744073709551616*2+u % 18446744073709551616/9223372036854775808=u/9223372036854775808:=by omega
theorem zvw (u:Nat) (h1:85070591730234615865843651857942052864≤u) (h2:u / 18446744073709551616<9223372036854775808):9223372036854775808≤u/9223372036854775808∧u/9223372036854775808 < 18446744073709551616:=by(
 constructor
 ·rw[Nat.le_div_iff_mul_le (by omega)];exact h1
 ·omega)
theorem zvz {A C x y N M:Nat} (h:zni A x N) (g:zni C y M) (hh:9223372036854775808≤x*y / 18446744073709551616):znh (A*C) (x*y / 18446744073709551616) (N+M+64):=by(
 obtain⟨a1,a2⟩:=zti h g
 obtain⟨b1,b3⟩:=zov h g
 have b4:x*y / 18446744073709551616 < 18446744073709551616:=by rw[Nat.div_lt_iff_lt_mul (by omega)];exact Nat.mul_lt_mul'' h.hi g.hi
 obtain⟨c1,c2⟩:=zwd _ _ b3
 have e64:2^(N+M+64)=18446744073709551616*2^(N+M):=by rw[Nat.pow_add,Nat.mul_comm]
 refine⟨hh,b4,?_,?_⟩
 ·rw[e64,← Nat.mul_assoc];exact Nat.le_trans (Nat.mul_le_mul_right _ c1) a1
 ·rw[e64,← Nat.mul_assoc];exact Nat.lt_of_lt_of_le a2 (Nat.mul_le_mul_right _ c2))
theorem qap {A C x y N M:Nat} (h:zni A x N) (g:zni C y M) (hh:x*y / 18446744073709551616<9223372036854775808):znh (A*C) (x*y / 18446744073709551616*2+x*y % 18446744073709551616/9223372036854775808) (N+M+63):=by(
 obtain⟨a1,a2⟩:=zti h g
 obtain⟨b1,b3⟩:=zov h g
 obtain⟨c1,c2⟩:=qal _ _ b3
 obtain⟨d1,d2⟩:=zvw _ b1 hh
 have e64:2^(N+M+63)=9223372036854775808*2^(N+M):=by rw[Nat.pow_add,Nat.mul_comm]
 rw[qlw]
 refine⟨d1,d2,?_,?_⟩
 ·rw[e64,← Nat.mul_assoc];exact Nat.le_trans (Nat.mul_le_mul_right _ c1) a1
 ·rw[e64,← Nat.mul_assoc];exact Nat.lt_of_lt_of_le a2 (Nat.mul_le_mul_right _ c2))
theorem zow {Z Z' p q K M:Nat} (h:znh Z p K) (g:znh Z' q M) (hk:M+1<K):Z' < Z:=by(
 refine Nat.lt_of_mul_lt_mul_right (a:=85070591730234615865843651857942052864) (Nat.lt_of_lt_of_le g.lt (Nat.le_trans ?_ h.ge))
 have h1:2^(M+2)≤2^K:=Nat.pow_le_pow_right (by omega) (by omega)
 rw[Nat.pow_add] at h1
 have h2:p*(2^M*2^2)≤p*2^K:=Nat.mul_le_mul_left _ h1
 have h3:=h.lo
 have h4:=g.hi
 refine Nat.le_trans ?_ h2
 rw[Nat.mul_comm (2^M),← Nat.mul_assoc]
 exact Nat.mul_le_mul_right _ (by omega))
theorem zmq {Z Z' p q K:Nat} (h:znh Z p K) (g:znh Z' q K) (hk:q+8≤p):Z' < Z:=by
 refine Nat.lt_of_mul_lt_mul_right (a:=85070591730234615865843651857942052864) (Nat.lt_of_lt_of_le g.lt (Nat.le_trans ?_ h.ge))
 exact Nat.mul_le_mul_right _ hk
def ve (X:Nat):Nat:=qg X*2^lz (qg X)+(if (wd 18446744073709551616 X).length≤1 then 0 else (wd 18446744073709551616 X)[(wd 18446744073709551616 X).length-2]?.getD 0/2^(64-lz (qg X)))
def zcu (X:Nat):Nat:=64*((wd 18446744073709551616 X).length-1)+63-lz (qg X)
theorem zll (X:Nat) (h:0<X):zni X (ve X) (zcu X):=by(
 obtain⟨t1,t2,-,-⟩:=zft X h
 obtain⟨l1,l2,l3,-⟩:=zaw (qg X) t1 t2
 have hl:0<(wd 18446744073709551616 X).length:=by rw[Nat.pos_iff_ne_zero];intro e;rw[zq (by omega)] at e;omega
 unfold ve zcu
 by_cases h1:(wd 18446744073709551616 X).length≤1
 ·(
 have hX:X < 18446744073709551616:=by
  have:=ak (B:=18446744073709551616) (by omega) X 1 h1
  rw[Nat.pow_one] at this;exact this
 have e:qg X=X:=by unfold qg;rw[zds X h hX];rfl
 rw[if_pos h1,Nat.add_zero,show (wd 18446744073709551616 X).length-1=0 from by omega,Nat.mul_zero,Nat.zero_add]
 rw[e] at l1 l2 l3 ⊢
 exact qfi X _ l1 l3 l2)
 ·(
 rw[if_neg h1]
 obtain⟨m,hm⟩:∃ m,(wd 18446744073709551616 X).length=m+2:=⟨(wd 18446744073709551616 X).length-2,by omega⟩
 have e2:=zaf (wd 18446744073709551616 X) m (by omega) (zt (by omega) X)
 have e3:=bt (zt (B:=18446744073709551616) (by omega) X) (by omega:0 < 18446744073709551616) m
 have e4:=zaq 18446744073709551616 (wd 18446744073709551616 X) m (by omega)
 have e5:=xw 18446744073709551616 (wd 18446744073709551616 X) (m+1) (by omega)
 rw[List.drop_eq_nil_of_le (by omega:(wd 18446744073709551616 X).length≤m+1+1)] at e5
 rw[qy (by omega),e5] at e4
 rw[show (wd 18446744073709551616 X)[m+1]?.getD 0=qg X from by unfold qg;rw[hm];rfl] at e4
 rw[show (wd 18446744073709551616 X).length-2=m from by omega,show (wd 18446744073709551616 X).length-1=m+1 from by omega]
 simp only[vl,Nat.mul_zero,Nat.add_zero] at e4
 exact (qao X _ _ m _ (qg X) (lz (qg X)) rfl e4 e2 e3 l1 l3 l2).1))
theorem zkq (v:Value) (X:Nat) (hX:0<X) (w:World) (hv:Sl .u64 w v (wd 18446744073709551616 X)) (hl:(wd 18446744073709551616 X).length<134217728) (x:Nat) (N:Int) (hx:Hid (x=ve X)) (hN:Hid (N=(zcu X:Int)-63)) :
   Calls prog 246 #[v] w fun e w'=>e=.returned (.tuple #[.int .u64 (x:Int),.int .i64 N])∧w'=w:=by(
 obtain⟨t1,t2,-,-⟩:=zft X hX
 obtain⟨hs,l2,l3,-⟩:=zaw (qg X) t1 t2
 have LZ:=af (fun W=>zfk (qg X) t1 t2 W)
 rcases hv.open with ⟨e,-⟩|⟨hp,b,o,c,rfl,hc,-,hcell⟩
 ·rw[wh (by omega)] at e;omega
 have hct:=hcell ((wd 18446744073709551616 X).length-1) (by omega)
 rw[show (wd 18446744073709551616 X)[(wd 18446744073709551616 X).length-1]?.getD 0=qg X from rfl] at hct
 have E0:IntKind.u64.wrap (((qg X:Nat):Int)*2^lz (qg X))=((qg X*2^lz (qg X):Nat):Int):=by
  have e:((qg X:Nat):Int)*2^lz (qg X)=((qg X*2^lz (qg X):Nat):Int):=by simp
  rw[e,IntKind.wrap_u64];omega
 unfold ve at hx
 unfold zcu at hN
 by_cases h1:(wd 18446744073709551616 X).length≤1
 ·(
 have hl1:(wd 18446744073709551616 X).length=1:=by omega
 rw[if_pos h1,Nat.add_zero] at hx
 rw[hl1] at hct hN ⊢
 rw[Nat.sub_self,Nat.add_zero] at hct
 have hNN:Hid (N=-((lz (qg X):Nat):Int)):=by
  show _=_;rw[ae hN];omega
 clear hcell hN hv
 generalize qg X*2^lz (qg X)=y at *
 generalize lz (qg X)=s at *
 generalize qg X=t at *
 have HX:x=y:=ae hx
 subst HX
 have HN:N=-(s:Int):=ae hNN
 subst HN
 go_enter func246,ntmps246
 go_wp2_with fail
 refine (ae LZ _).mono ?_
 rintro e w1 ⟨rfl,hw⟩
 obtain rfl:=hw.symm
 clear hw
 go_wp2
 go_ret2
 exact⟨rfl,rfl⟩)
 ·(
 rw[if_neg h1] at hx
 have hc2:=hcell ((wd 18446744073709551616 X).length-2) (by omega)
 have e3:=bt (zt (B:=18446744073709551616) (by omega) X) (by omega:0 < 18446744073709551616) ((wd 18446744073709551616 X).length-2)
 generalize (wd 18446744073709551616 X)[(wd 18446744073709551616 X).length-2]?.getD 0=y at *
 have hu:y/2^(64-lz (qg X))<2^lz (qg X):=by
  have hB:18446744073709551616=2^(64-lz (qg X))*2^lz (qg X):=by rw[← Nat.pow_add,show 64-lz (qg X)+lz (qg X)=64 from by omega]
  rw[Nat.div_lt_iff_lt_mul (Nat.pow_pos (by omega)),Nat.mul_comm,← hB];exact e3
 have hub:y/2^(64-lz (qg X)) < 18446744073709551616:=Nat.lt_of_le_of_lt (Nat.div_le_self _ _) e3
 have hor:qg X*2^lz (qg X) ||| y/2^(64-lz (qg X))=qg X*2^lz (qg X)+y/2^(64-lz (qg X)):=by
  rw[Nat.mul_comm,Nat.two_pow_add_eq_or_of_lt hu]
 have E1:bits .or .u64 ((qg X*2^lz (qg X):Nat):Int) ((y/2^(64-lz (qg X)):Nat):Int)=((qg X*2^lz (qg X)+y/2^(64-lz (qg X)):Nat):Int):=by
  rw[bits_or_u64_nat _ _ l2 hub,hor]
 have E2:((y:Nat):Int)/2^(64-lz (qg X))=((y/2^(64-lz (qg X)):Nat):Int):=by simp
 have E3:(64-((lz (qg X):Nat):Int)).toNat=64-lz (qg X):=by omega
 clear hcell hv hor hu
 generalize qg X*2^lz (qg X)+y/2^(64-lz (qg X))=z at *
 generalize y/2^(64-lz (qg X))=q at *
 generalize qg X*2^lz (qg X)=p at *
 generalize lz (qg X)=s at *
 generalize qg X=t at *
 generalize (wd 18446744073709551616 X).length=n at *
 have HX:x=z:=ae hx
 subst HX
 have HN:N=((n:Int)-1)*64-s:=by rw[ae hN];omega
 subst HN
 obtain⟨m,rfl⟩:∃ m,n=m+2:=⟨n-2,by omega⟩
 rw[show m+2-1=m+1 from rfl] at hct
 rw[show m+2-2=m from rfl] at hc2
 have hm0:(0:Int)≤(m:Int):=by omega
 clear hx hN
 go_enter func246,ntmps246
 go_wp2_with fail
 refine (ae LZ _).mono ?_
 rintro e w1 ⟨rfl,hw⟩
 obtain rfl:=hw.symm
 clear hw
 go_wp2
 go_ret2
 refine⟨?_,rfl⟩
 go_num))
def zcr (A C:Nat):Nat:=if ve A*ve C / 18446744073709551616<9223372036854775808 then ve A*ve C / 18446744073709551616*2+ve A*ve C % 18446744073709551616/9223372036854775808 else ve A*ve C / 18446744073709551616
def zbg (A C:Nat):Nat:=if ve A*ve C / 18446744073709551616<9223372036854775808 then zcu A+zcu C+63 else zcu A+zcu C+64
theorem zxs (A C:Nat) (hA:0<A) (hC:0<C):znh (A*C) (zcr A C) (zbg A C):=by(
 have h:=zll A hA
 have g:=zll C hC
 unfold zcr zbg
 split
 ·exact qap h g (by assumption)
 ·exact zvz h g (by omega))
theorem zhz (X:Nat) (n:Nat) (h:(wd 18446744073709551616 X).length<n):zcu X≤64*n:=by unfold zcu;omega
theorem zss (A C n:Nat) (hA:(wd 18446744073709551616 A).length<n) (hC:(wd 18446744073709551616 C).length<n):zbg A C≤128*n+64:=by(
 have h1:=zhz A n hA
 have h2:=zhz C n hC
 unfold zbg
 split <;> omega)
theorem zcb (va vc:Value) (A C:Nat) (hA:0<A) (hC:0<C) (w:World) (ha:Sl .u64 w va (wd 18446744073709551616 A)) (hc:Sl .u64 w vc (wd 18446744073709551616 C)) (hla:(wd 18446744073709551616 A).length<134217728) (hlc:(wd 18446744073709551616 C).length<134217728) (p:Nat) (K:Int) (hp:Hid (p=zcr A C)) (hK:Hid (K=(zbg A C:Int)-126)) :
   Calls prog 215 #[va,vc] w fun e w'=>e=.returned (.tuple #[.int .u64 (p:Int),.int .i64 K])∧w'=w:=by(
 have LA:=af (zkq va A hA w ha hla (ve A) ((zcu A:Int)-63) rfl rfl)
 have LC:=af (zkq vc C hC w hc hlc (ve C) ((zcu C:Int)-63) rfl rfl)
 have ba:=(zll A hA).hi
 have bc:=(zll C hC).hi
 have na:=zhz A _ hla
 have nc:=zhz C _ hlc
 have MU:=af (fun W=>Tryz.bits_Mul64 (ve A) (ve C) ba bc W)
 have hzB:ve A*ve C / 18446744073709551616 < 18446744073709551616:=by rw[Nat.div_lt_iff_lt_mul (by omega)];exact Nat.mul_lt_mul'' ba bc
 have hzL:ve A*ve C % 18446744073709551616 < 18446744073709551616:=Nat.mod_lt _ (by omega)
 unfold zcr at hp
 unfold zbg at hK
 obtain⟨aa,ca,rfl,-,-⟩:=ha
 obtain⟨ac,cc,rfl,-,-⟩:=hc
 generalize (wd 18446744073709551616 A).length=la at *
 generalize (wd 18446744073709551616 C).length=lc at *
 generalize ve A*ve C / 18446744073709551616=hi at *
 generalize ve A*ve C % 18446744073709551616=lo at *
 generalize ve A=x at *
 generalize ve C=y at *
 generalize zcu A=n at *
 generalize zcu C=m at *
 by_cases hh:hi<9223372036854775808
 ·(
 rw[if_pos hh] at hp hK
 have d1:((hi:Int)/9223372036854775808==0)=true:=beq_iff_eq.2 (by omega)
 have hor:bits .or .u64 ((hi*2:Nat):Int) ((lo/9223372036854775808:Nat):Int)=((hi*2+lo/9223372036854775808:Nat):Int):=by
  rw[bits_or_u64_nat _ _ (by omega) (by omega)]
  have:=Nat.two_pow_add_eq_or_of_lt (i:=1) (b:=lo/9223372036854775808) (by omega) hi
  rw[Nat.pow_one,Nat.mul_comm] at this
  rw[this]
 have e1:IntKind.u64.wrap ((hi:Int)*2)=((hi*2:Nat):Int):=by rw[IntKind.wrap_u64];omega
 have e2:(lo:Int)/9223372036854775808=((lo/9223372036854775808:Nat):Int):=by simp
 generalize hi*2+lo/9223372036854775808=z at *
 generalize lo/9223372036854775808=z2 at *
 generalize hi*2=z1 at *
 have HP:p=z:=ae hp
 subst HP
 have HK:K=(n:Int)+m-63:=by rw[ae hK];omega
 subst HK
 clear hp hK
 go_enter func215,ntmps215
 go_wp2_with fail
 refine (ae LA).mono ?_
 rintro e w1 ⟨rfl,hw⟩
 obtain rfl:=hw.symm
 clear hw
 go_wp2_with fail
 refine (ae LC).mono ?_
 rintro e w1 ⟨rfl,hw⟩
 obtain rfl:=hw.symm
 clear hw
 go_wp2_with fail
 refine (ae MU _).mono ?_
 rintro e w1 ⟨rfl,hw⟩
 obtain rfl:=hw.symm
 clear hw
 go_wp2
 go_ret2
 refine⟨?_,rfl⟩
 go_num)
 ·(
 rw[if_neg hh] at hp hK
 have d1:((hi:Int)/9223372036854775808==0)=false:=beq_eq_false_iff_ne.2 (by omega)
 have HP:p=hi:=ae hp
 subst HP
 have HK:K=(n:Int)+m-62:=by rw[ae hK];omega
 subst HK
 clear hp hK
 go_enter func215,ntmps215
 go_wp2_with fail
 refine (ae LA).mono ?_
 rintro e w1 ⟨rfl,hw⟩
 obtain rfl:=hw.symm
 clear hw
 go_wp2_with fail
 refine (ae LC).mono ?_
 rintro e w1 ⟨rfl,hw⟩
 obtain rfl:=hw.symm
 clear hw
 go_wp2_with fail
 refine (ae MU _).mono ?_
 rintro e w1 ⟨rfl,hw⟩
 obtain rfl:=hw.symm
 clear hw
 go_wp2
 go_ret2
 refine⟨?_,rfl⟩
 go_num))
theorem zdp {x y:Nat} (h:y<x):zy x y=1:=by unfold zy;rw[if_neg (by omega),if_neg (by omega)]
theorem zlc (va vb vc vd:Value) (A B C D:Nat) (w:World) (ha:Sl .u64 w va (wd 18446744073709551616 A)) (hb:Sl .u64 w vb (wd 18446744073709551616 B)) (hc:Sl .u64 w vc (wd 18446744073709551616 C)) (hd:Sl .u64 w vd (wd 18446744073709551616 D)) (hla:(wd 18446744073709551616 A).length<33554432) (hlb:(wd 18446744073709551616 B).length<33554432) (hlc:(wd 18446744073709551616 C).length<33554432) (hld:(wd 18446744073709551616 D).length<33554432) (r:Int) (hr:Hid (r=zy (A*B) (C*D))) :
   Calls prog 181 #[va,vb,vc,vd] w fun e w'=>e=.returned (.int .i64 r)∧But [] w w':=by(
 have wm:∀ X Y:Nat,(wd 18446744073709551616 X).length<33554432→(wd 18446744073709551616 Y).length<33554432→(wd 18446744073709551616 (X*Y)).length<67108864:=fun X Y h1 h2=>by
  have:=jg X Y;omega
 have M1:Hid (∀ W,But [] w W→Calls prog 171 #[va,vb] W fun e w'=>∃ v',e=.returned v'∧Sl .u64 w' v' (wd 18446744073709551616 (A*B))∧But [] W w'∧zup W.heap.size v' va vb A B):=fun W hB=>j5 va vb A B W (ha.ah hB) (hb.ah hB) (by omega)
 have M2:Hid (∀ W,But [] w W→Calls prog 171 #[vc,vd] W fun e w'=>∃ v',e=.returned v'∧Sl .u64 w' v' (wd 18446744073709551616 (C*D))∧But [] W w'∧zup W.heap.size v' vc vd C D):=fun W hB=>j5 vc vd C D W (hc.ah hB) (hd.ah hB) (by omega)
 have CM:Hid (∀ W v1 v2,Sl .u64 W v1 (wd 18446744073709551616 (A*B))→Sl .u64 W v2 (wd 18446744073709551616 (C*D))→Calls prog 191 #[v1,v2] W fun e w'=>e=.returned (.int .i64 r)∧∃ q,w'=W.drewN q):=fun W v1 v2 h1 h2=>by
  rw[ae hr]
  have l1:=wm A B hla hlb
  have l2:=wm C D hlc hld
  exact ky v1 v2 _ _ W h1 h2 (by omega) (by omega)
 have zl:∀ X:Nat,((wd 18446744073709551616 X).length=0↔X=0):=fun X=>zq (by omega) X
 have LP1:Hid (∀ p K,0<A→0<B→Hid (p=zcr A B)→Hid (K=(zbg A B:Int)-126)→Calls prog 215 #[va,vb] w fun e w'=>e=.returned (.tuple #[.int .u64 (p:Int),.int .i64 K])∧w'=w):=fun p K h1 h2 h3 h4=>zcb va vb A B h1 h2 w ha hb (by omega) (by omega) p K h3 h4
 have LP2:Hid (∀ p K,0<C→0<D→Hid (p=zcr C D)→Hid (K=(zbg C D:Int)-126)→Calls prog 215 #[vc,vd] w fun e w'=>e=.returned (.tuple #[.int .u64 (p:Int),.int .i64 K])∧w'=w):=fun p K h1 h2 h3 h4=>zcb vc vd C D h1 h2 w hc hd (by omega) (by omega) p K h3 h4
 have ZA:=zl A
 have ZB:=zl B
 have ZC:=zl C
 have ZD:=zl D
 have kl1:=zss A B _ hla hlb
 have kl2:=zss C D _ hlc hld
 obtain⟨aa,ca,rfl,-,-⟩:=ha
 obtain⟨ab,cb,rfl,-,-⟩:=hb
 obtain⟨ac,cc,rfl,-,-⟩:=hc
 obtain⟨ad,cd,rfl,-,-⟩:=hd
 clear zl wm
 generalize (wd 18446744073709551616 A).length=la at *
 generalize (wd 18446744073709551616 B).length=lb at *
 generalize (wd 18446744073709551616 C).length=lc at *
 generalize (wd 18446744073709551616 D).length=ld at *
 by_cases h0:la=0∨lb=0∨lc=0∨ld=0
 ·(
 clear LP1 LP2 kl1 kl2 ZA ZB ZC ZD hr
 by_cases z1:la=0
 ·(
 have q1:((la:Int)==0)=true:=beq_iff_eq.2 (by omega)
 clear h0 z1
 go_enter func181,ntmps181
 go_wp2_with fail
 refine (ae M1 _ (But.refl _ _)).mono ?_
 rintro e w1 ⟨v1,rfl,hv1,hb1,-⟩
 have H1:=af hv1
 have B1:=af hb1
 clear hv1 hb1
 go_wp2_with fail
 refine (ae M2 _ (ae B1)).mono ?_
 rintro e w2 ⟨v2,rfl,hv2,hb2,-⟩
 have H2:=af hv2
 have H1':=af ((ae H1).ah hb2)
 have B2:Hid (But [] w w2):=(ae B1).trans' hb2
 clear hv2 hb2 H1
 go_wp2_with fail
 refine (ae CM _ _ _ (ae H1') (ae H2)).mono ?_
 rintro e w3 ⟨rfl,q,rfl⟩
 go_wp2
 go_ret
 exact⟨rfl,(ae B2).drewN q⟩)
 ·(
 have q1:((la:Int)==0)=false:=beq_eq_false_iff_ne.2 (by omega)
 by_cases z2:lb=0
 ·(
 have q2:((lb:Int)==0)=true:=beq_iff_eq.2 (by omega)
 clear h0 z2
 go_enter func181,ntmps181
 go_wp2_with fail
 refine (ae M1 _ (But.refl _ _)).mono ?_
 rintro e w1 ⟨v1,rfl,hv1,hb1,-⟩
 have H1:=af hv1
 have B1:=af hb1
 clear hv1 hb1
 go_wp2_with fail
 refine (ae M2 _ (ae B1)).mono ?_
 rintro e w2 ⟨v2,rfl,hv2,hb2,-⟩
 have H2:=af hv2
 have H1':=af ((ae H1).ah hb2)
 have B2:Hid (But [] w w2):=(ae B1).trans' hb2
 clear hv2 hb2 H1
 go_wp2_with fail
 refine (ae CM _ _ _ (ae H1') (ae H2)).mono ?_
 rintro e w3 ⟨rfl,q,rfl⟩
 go_wp2
 go_ret
 exact⟨rfl,(ae B2).drewN q⟩)
 ·(
 have q2:((lb:Int)==0)=false:=beq_eq_false_iff_ne.2 (by omega)
 by_cases z3:lc=0
 ·(
 have q3:((lc:Int)==0)=true:=beq_iff_eq.2 (by omega)
 clear h0 z3
 go_enter func181,ntmps181
 go_wp2_with fail
 refine (ae M1 _ (But.refl _ _)).mono ?_
 rintro e w1 ⟨v1,rfl,hv1,hb1,-⟩
 have H1:=af hv1
 have B1:=af hb1
 clear hv1 hb1
 go_wp2_with fail
 refine (ae M2 _ (ae B1)).mono ?_
 rintro e w2 ⟨v2,rfl,hv2,hb2,-⟩
 have H2:=af hv2
 have H1':=af ((ae H1).ah hb2)
 have B2:Hid (But [] w w2):=(ae B1).trans' hb2
 clear hv2 hb2 H1
 go_wp2_with fail
 refine (ae CM _ _ _ (ae H1') (ae H2)).mono ?_
 rintro e w3 ⟨rfl,q,rfl⟩
 go_wp2
 go_ret
 exact⟨rfl,(ae B2).drewN q⟩)
 ·(
 have q3:((lc:Int)==0)=false:=beq_eq_false_iff_ne.2 (by omega)
 have q4:((ld:Int)==0)=true:=beq_iff_eq.2 (by omega)
 clear h0
 go_enter func181,ntmps181
 go_wp2_with fail
 refine (ae M1 _ (But.refl _ _)).mono ?_
 rintro e w1 ⟨v1,rfl,hv1,hb1,-⟩
 have H1:=af hv1
 have B1:=af hb1
 clear hv1 hb1
 go_wp2_with fail
 refine (ae M2 _ (ae B1)).mono ?_
 rintro e w2 ⟨v2,rfl,hv2,hb2,-⟩
 have H2:=af hv2
 have H1':=af ((ae H1).ah hb2)
 have B2:Hid (But [] w w2):=(ae B1).trans' hb2
 clear hv2 hb2 H1
 go_wp2_with fail
 refine (ae CM _ _ _ (ae H1') (ae H2)).mono ?_
 rintro e w3 ⟨rfl,q,rfl⟩
 go_wp2
 go_ret
 exact⟨rfl,(ae B2).drewN q⟩))))
 ·(
 have hA:0<A:=by omega
 have hB:0<B:=by omega
 have hC:0<C:=by omega
 have hD:0<D:=by omega
 have P1:=zxs A B hA hB
 have P2:=zxs C D hC hD
 have x1:=P1.hi
 have x2:=P2.hi
 have FAR1:=af (fun h=>zow P1 P2 h)
 have FAR2:=af (fun h=>zow P2 P1 h)
 have NEAR1:Hid (zbg A B=zbg C D→zcr C D+8≤zcr A B→C*D<A*B):=fun e h=>zmq P1 (e ▸ P2) h
 have NEAR2:Hid (zbg A B=zbg C D→zcr A B+8≤zcr C D→A*B<C*D):=fun e h=>zmq P2 (e ▸ P1) h
 have L1:=af (ae LP1 (zcr A B) ((zbg A B:Int)-126) hA hB rfl rfl)
 have L2:=af (ae LP2 (zcr C D) ((zbg C D:Int)-126) hC hD rfl rfl)
 have nz1:((la:Int)==0)=false:=beq_eq_false_iff_ne.2 (by omega)
 have nz2:((lb:Int)==0)=false:=beq_eq_false_iff_ne.2 (by omega)
 have nz3:((lc:Int)==0)=false:=beq_eq_false_iff_ne.2 (by omega)
 have nz4:((ld:Int)==0)=false:=beq_eq_false_iff_ne.2 (by omega)
 clear LP1 LP2 P1 P2 ZA ZB ZC ZD
 generalize zcr A B=x at *
 generalize zcr C D=y at *
 generalize zbg A B=n at *
 generalize zbg C D=m at *
 obtain⟨N,hN⟩:∃ N,N=(n:Int)-126:=⟨_,rfl⟩
 obtain⟨M,hM⟩:∃ M,M=(m:Int)-126:=⟨_,rfl⟩
 rw[← hN] at L1
 rw[← hM] at L2
 have F1:Hid (M+1<N→C*D<A*B):=fun h=>ae FAR1 (by omega)
 have F2:Hid (N+1<M→A*B<C*D):=fun h=>ae FAR2 (by omega)
 have G1:Hid (N=M→y+8≤x→C*D<A*B):=fun h h2=>ae NEAR1 (by omega) h2
 have G2:Hid (N=M→x+8≤y→A*B<C*D):=fun h h2=>ae NEAR2 (by omega) h2
 have n1:-126≤N:=by omega
 have n2:N≤4294967424:=by omega
 have m1:-126≤M:=by omega
 have m2:M≤4294967424:=by omega
 clear FAR1 FAR2 NEAR1 NEAR2 hN hM kl1 kl2 h0
 by_cases c1:M+1<N
 ·(
 have ER:Hid (r=1):=by show _=_;rw[ae hr,zdp (ae F1 c1)]
 clear hr F1 F2 G1 G2
 have d1:decide (M+1<N)=true:=decide_eq_true c1
 go_enter func181,ntmps181
 go_wp2_with fail
 refine (ae L1).mono ?_
 rintro e w1 ⟨rfl,hw⟩
 obtain rfl:=hw.symm
 clear hw
 go_wp2_with fail
 refine (ae L2).mono ?_
 rintro e w1 ⟨rfl,hw⟩
 obtain rfl:=hw.symm
 clear hw
 go_wp2
 go_ret
 exact⟨by rw[ae ER];rfl,But.refl _ _⟩)
 ·(
 have d1:decide (M+1<N)=false:=decide_eq_false c1
 by_cases c2:N=M
 ·(
 have d2:(N==M)=true:=beq_iff_eq.2 c2
 have c3:¬ (N+1<M):=by omega
 have d3:decide (N+1<M)=false:=decide_eq_false c3
 rcases Nat.lt_trichotomy x y with hxy | hxy | hxy
 ·(
 have d4:decide ((y:Int)<(x:Int))=false:=decide_eq_false (by omega)
 have d5:decide ((x:Int)<(y:Int))=true:=decide_eq_true (by omega)
 have d7:IntKind.u64.wrap ((y:Int)-(x:Int))=(y:Int)-(x:Int):=by rw[IntKind.wrap_u64];omega
 by_cases c4:x+8≤y
 ·(
 have ER:Hid (r=-1):=by show _=_;rw[ae hr,u6 (ae G2 c2 c4)]
 clear hr F1 F2 G1 G2
 have d6:decide (8≤(y:Int)-(x:Int))=true:=decide_eq_true (by omega)
 go_enter func181,ntmps181
 go_wp2_with fail
 refine (ae L1).mono ?_
 rintro e w1 ⟨rfl,hw⟩
 obtain rfl:=hw.symm
 clear hw
 go_wp2_with fail
 refine (ae L2).mono ?_
 rintro e w1 ⟨rfl,hw⟩
 obtain rfl:=hw.symm
 clear hw
 go_wp2
 go_ret
 exact⟨by rw[ae ER];rfl,But.refl _ _⟩)
 ·(
 have d6:decide (8≤(y:Int)-(x:Int))=false:=decide_eq_false (by omega)
 clear hr F1 F2 G1 G2
 go_enter func181,ntmps181
 go_wp2_with fail
 refine (ae L1).mono ?_
 rintro e w1 ⟨rfl,hw⟩
 obtain rfl:=hw.symm
 clear hw
 go_wp2_with fail
 refine (ae L2).mono ?_
 rintro e w1 ⟨rfl,hw⟩
 obtain rfl:=hw.symm
 clear hw
 go_wp2_with fail
 refine (ae M1 _ (But.refl _ _)).mono ?_
 rintro e w1 ⟨v1,rfl,hv1,hb1,-⟩
 have H1:=af hv1
 have B1:=af hb1
 clear hv1 hb1
 go_wp2_with fail
 refine (ae M2 _ (ae B1)).mono ?_
 rintro e w2 ⟨v2,rfl,hv2,hb2,-⟩
 have H2:=af hv2
 have H1':=af ((ae H1).ah hb2)
 have B2:Hid (But [] w w2):=(ae B1).trans' hb2
 clear hv2 hb2 H1
 go_wp2_with fail
 refine (ae CM _ _ _ (ae H1') (ae H2)).mono ?_
 rintro e w3 ⟨rfl,q,rfl⟩
 go_wp2
 go_ret
 exact⟨rfl,(ae B2).drewN q⟩))
 ·(
 have d4:decide ((y:Int)<(x:Int))=false:=decide_eq_false (by omega)
 have d5:decide ((x:Int)<(y:Int))=false:=decide_eq_false (by omega)
 clear hr F1 F2 G1 G2
 go_enter func181,ntmps181
 go_wp2_with fail
 refine (ae L1).mono ?_
 rintro e w1 ⟨rfl,hw⟩
 obtain rfl:=hw.symm
 clear hw
 go_wp2_with fail
 refine (ae L2).mono ?_
 rintro e w1 ⟨rfl,hw⟩
 obtain rfl:=hw.symm
 clear hw
 go_wp2_with fail
 refine (ae M1 _ (But.refl _ _)).mono ?_
 rintro e w1 ⟨v1,rfl,hv1,hb1,-⟩
 have H1:=af hv1
 have B1:=af hb1
 clear hv1 hb1
 go_wp2_with fail
 refine (ae M2 _ (ae B1)).mono ?_
 rintro e w2 ⟨v2,rfl,hv2,hb2,-⟩
 have H2:=af hv2
 have H1':=af ((ae H1).ah hb2)
 have B2:Hid (But [] w w2):=(ae B1).trans' hb2
 clear hv2 hb2 H1
 go_wp2_with fail
 refine (ae CM _ _ _ (ae H1') (ae H2)).mono ?_
 rintro e w3 ⟨rfl,q,rfl⟩
 go_wp2
 go_ret
 exact⟨rfl,(ae B2).drewN q⟩)
 ·(
 have d4:decide ((y:Int)<(x:Int))=true:=decide_eq_true (by omega)
 have d5:decide ((x:Int)<(y:Int))=false:=decide_eq_false (by omega)
 have d7:IntKind.u64.wrap ((x:Int)-(y:Int))=(x:Int)-(y:Int):=by rw[IntKind.wrap_u64];omega
 by_cases c4:y+8≤x
 ·(
 have ER:Hid (r=1):=by show _=_;rw[ae hr,zdp (ae G1 c2 c4)]
 clear hr F1 F2 G1 G2
 have d6:decide (8≤(x:Int)-(y:Int))=true:=decide_eq_true (by omega)
 go_enter func181,ntmps181
 go_wp2_with fail
 refine (ae L1).mono ?_
 rintro e w1 ⟨rfl,hw⟩
 obtain rfl:=hw.symm
 clear hw
 go_wp2_with fail
 refine (ae L2).mono ?_
 rintro e w1 ⟨rfl,hw⟩
 obtain rfl:=hw.symm
 clear hw
 go_wp2
 go_ret
 exact⟨by rw[ae ER];rfl,But.refl _ _⟩)
 ·(
 have d6:decide (8≤(x:Int)-(y:Int))=false:=decide_eq_false (by omega)
 clear hr F1 F2 G1 G2
 go_enter func181,ntmps181
 go_wp2_with fail
 refine (ae L1).mono ?_
 rintro e w1 ⟨rfl,hw⟩
 obtain rfl:=hw.symm
 clear hw
 go_wp2_with fail
 refine (ae L2).mono ?_
 rintro e w1 ⟨rfl,hw⟩
 obtain rfl:=hw.symm
 clear hw
 go_wp2_with fail
 refine (ae M1 _ (But.refl _ _)).mono ?_
 rintro e w1 ⟨v1,rfl,hv1,hb1,-⟩
 have H1:=af hv1
 have B1:=af hb1
 clear hv1 hb1
 go_wp2_with fail
 refine (ae M2 _ (ae B1)).mono ?_
 rintro e w2 ⟨v2,rfl,hv2,hb2,-⟩
 have H2:=af hv2
 have H1':=af ((ae H1).ah hb2)
 have B2:Hid (But [] w w2):=(ae B1).trans' hb2
 clear hv2 hb2 H1
 go_wp2_with fail
 refine (ae CM _ _ _ (ae H1') (ae H2)).mono ?_
 rintro e w3 ⟨rfl,q,rfl⟩
 go_wp2
 go_ret
 exact⟨rfl,(ae B2).drewN q⟩)))
 ·(
 have d2:(N==M)=false:=beq_eq_false_iff_ne.2 c2
 by_cases c3:N+1<M
 ·(
 have ER:Hid (r=-1):=by show _=_;rw[ae hr,u6 (ae F2 c3)]
 clear hr F1 F2 G1 G2
 have d3:decide (N+1<M)=true:=decide_eq_true c3
 go_enter func181,ntmps181
 go_wp2_with fail
 refine (ae L1).mono ?_
 rintro e w1 ⟨rfl,hw⟩
 obtain rfl:=hw.symm
 clear hw
 go_wp2_with fail
 refine (ae L2).mono ?_
 rintro e w1 ⟨rfl,hw⟩
 obtain rfl:=hw.symm
 clear hw
 go_wp2
 go_ret
 exact⟨by rw[ae ER];rfl,But.refl _ _⟩)
 ·(
 have d3:decide (N+1<M)=false:=decide_eq_false c3
 clear hr F1 F2 G1 G2
 go_enter func181,ntmps181
 go_wp2_with fail
 refine (ae L1).mono ?_
 rintro e w1 ⟨rfl,hw⟩
 obtain rfl:=hw.symm
 clear hw
 go_wp2_with fail
 refine (ae L2).mono ?_
 rintro e w1 ⟨rfl,hw⟩
 obtain rfl:=hw.symm
 clear hw
 go_wp2_with fail
 refine (ae M1 _ (But.refl _ _)).mono ?_
 rintro e w1 ⟨v1,rfl,hv1,hb1,-⟩
 have H1:=af hv1
 have B1:=af hb1
 clear hv1 hb1
 go_wp2_with fail
 refine (ae M2 _ (ae B1)).mono ?_
 rintro e w2 ⟨v2,rfl,hv2,hb2,-⟩
 have H2:=af hv2
 have H1':=af ((ae H1).ah hb2)
 have B2:Hid (But [] w w2):=(ae B1).trans' hb2
 clear hv2 hb2 H1
 go_wp2_with fail
 refine (ae CM _ _ _ (ae H1') (ae H2)).mono ?_
 rintro e w3 ⟨rfl,q,rfl⟩
 go_wp2
 go_ret
 exact⟨rfl,(ae B2).drewN q⟩)))))
end Go.Proofs.YtagmkkiagjmimaaGreatDoor
