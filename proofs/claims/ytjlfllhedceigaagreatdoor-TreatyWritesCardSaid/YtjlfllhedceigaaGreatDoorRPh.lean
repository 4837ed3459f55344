/- The leading bits of numbers and of their -/
import Derived.Test.YtjlfllhedceigaaGreatDoorRN12
namespace Go.Proofs.YtjlfllhedceigaaGreatDoor
set_option linter.unusedVariables false
open Go.Proofs.Tryz
open Go.RowKit
set_option maxHeartbeats 4000000
set_option maxRecDepth 100000
structure zlm (X x N:Nat):Prop where
 lo:9223372036854775808≤x
 hi:x < 18446744073709551616
 ge:x*2^N≤X*9223372036854775808
 lt:X*9223372036854775808<(x+1)*2^N
theorem zzi (k:Nat) (h:k≤63):2^k*2^(63-k)=9223372036854775808:=by
 rw[← Nat.pow_add,show k+(63-k)=63 from by omega]
theorem qda (t k:Nat) (hk:k≤63) (h1:9223372036854775808≤t*2^k) (h2:t*2^k < 18446744073709551616):zlm t (t*2^k) (63-k):=by(
 have hp:0<2^(63-k):=Nat.pow_pos (by omega)
 refine⟨h1,h2,?_,?_⟩
 ·rw[Nat.mul_assoc,zzi k hk];omega
 ·rw[Nat.add_mul,Nat.mul_assoc,zzi k hk];omega)
theorem zxh (X R P m s t k:Nat) (hP:P=18446744073709551616^m) (hX:X=R+P*(s + 18446744073709551616*t)) (hR:R<P) (hs:s < 18446744073709551616) (hk:k≤63) (h1:9223372036854775808≤t*2^k) (h2:t*2^k < 18446744073709551616) :
   zlm X (t*2^k+s/2^(64-k)) (64*(m+1)+63-k)∧s/2^(64-k)<2^k:=by(
 have hB:18446744073709551616=2^(64-k)*2^k:=by rw[← Nat.pow_add,show 64-k+k=64 from by omega]
 have hK:0<2^k:=Nat.pow_pos (by omega)
 have hQ:0<2^(64-k):=Nat.pow_pos (by omega)
 have hu:s/2^(64-k)<2^k:=by rw[Nat.div_lt_iff_lt_mul hQ,Nat.mul_comm,← hB];exact hs
 have hd:=Nat.div_add_mod s (2^(64-k))
 have hr:=Nat.mod_lt s hQ
 have e63:=zzi k hk
 have hN:2^(64*(m+1)+63-k)=P * 18446744073709551616*2^(63-k):=by
  rw[hP,show 64*(m+1)+63-k=64*m+64+(63-k) from by omega,Nat.pow_add,Nat.pow_add,Nat.pow_mul]
 have hz:0<2^(63-k):=Nat.pow_pos (by omega)
 generalize hu1:s/2^(64-k)=u at *
 generalize s%2^(64-k)=r at *
 generalize 64*(m+1)+63-k=N at *
 generalize 2^(63-k)=z at *
 generalize 2^(64-k)=Q at *
 generalize 2^k=K at *
 have htQ:t<Q:=by rw[hB] at h2;exact Nat.lt_of_mul_lt_mul_right h2
 have hx:t*K+u < 18446744073709551616:=by
  have:(t+1)*K≤Q*K:=Nat.mul_le_mul_right _ htQ
  rw[← hB,Nat.add_mul] at this;omega
 have eX:X*K=R*K+P*((t*K+u) * 18446744073709551616+r*K):=by rw[hX,← hd,hB];grind
 have hrK:r*K+K≤18446744073709551616:=by
  have:(r+1)*K≤Q*K:=Nat.mul_le_mul_right _ hr
  rw[← hB,Nat.add_mul] at this;omega
 have hRK:R*K<P*K:=Nat.mul_lt_mul_of_pos_right hR hK
 have g1:(t*K+u)*(P * 18446744073709551616)≤X*K:=by
  rw[eX]
  have:P*((t*K+u) * 18446744073709551616)≤P*((t*K+u) * 18446744073709551616+r*K):=Nat.mul_le_mul_left _ (by omega)
  have e:(t*K+u)*(P * 18446744073709551616)=P*((t*K+u) * 18446744073709551616):=by grind
  omega
 have g2:X*K<(t*K+u+1)*(P * 18446744073709551616):=by
  rw[eX]
  have h3:P*((t*K+u) * 18446744073709551616+r*K+K)≤P*((t*K+u) * 18446744073709551616 + 18446744073709551616):=Nat.mul_le_mul_left _ (by omega)
  have e:(t*K+u+1)*(P * 18446744073709551616)=P*((t*K+u) * 18446744073709551616 + 18446744073709551616):=by grind
  have e2:P*((t*K+u) * 18446744073709551616+r*K+K)=P*((t*K+u) * 18446744073709551616+r*K)+P*K:=by grind
  omega
 refine⟨⟨by omega,hx,?_,?_⟩,hu⟩
 ·rw[hN,← e63,← Nat.mul_assoc X,← Nat.mul_assoc (t*K+u)];exact Nat.mul_le_mul_right _ g1
 ·rw[hN,← e63,← Nat.mul_assoc X,← Nat.mul_assoc (t*K+u+1)];exact Nat.mul_lt_mul_of_pos_right g2 hz)
structure zll (Z p K:Nat):Prop where
 lo:9223372036854775808≤p
 hi:p < 18446744073709551616
 ge:p*2^K≤Z*85070591730234615865843651857942052864
 lt:Z*85070591730234615865843651857942052864<(p+8)*2^K
theorem zxg (A C x y n m z:Nat) (h1:x*n≤A*z) (h2:A*z<(x+1)*n) (g1:y*m≤C*z) (g2:C*z<(y+1)*m):x*y*(n*m)≤A*C*(z*z)∧A*C*(z*z)<(x+1)*(y+1)*(n*m):=by(
 have h1:=Nat.mul_le_mul h1 g1
 have h2:=Nat.mul_lt_mul'' h2 g2
 constructor
 ·have e1:x*n*(y*m)=x*y*(n*m):=by grind
  have e2:A*z*(C*z)=A*C*(z*z):=by grind
  rw[← e1,← e2];exact h1
 ·have e1:(x+1)*n*((y+1)*m)=(x+1)*(y+1)*(n*m):=by grind
  have e2:A*z*(C*z)=A*C*(z*z):=by grind
  rw[← e1,← e2];exact h2)
theorem zqo {A C x y N M:Nat} (h:zlm A x N) (g:zlm C y M):x*y*2^(N+M)≤A*C*85070591730234615865843651857942052864∧A*C*85070591730234615865843651857942052864<(x+1)*(y+1)*2^(N+M):=by(
 have e:=zxg A C x y _ _ _ h.ge h.lt g.ge g.lt
 rw[← Nat.pow_add] at e
 exact e)
theorem zmy {A C x y N M:Nat} (h:zlm A x N) (g:zlm C y M):85070591730234615865843651857942052864≤x*y∧(x+1)*(y+1)≤x*y + 18446744073709551616 + 18446744073709551616:=by(
 have h1:=h.hi
 have h2:=g.hi
 have h3:=Nat.mul_le_mul h.lo g.lo
 have e:(x+1)*(y+1)=x*y+x+y+1:=by grind
 refine⟨h3,?_⟩
 rw[e]
 generalize x*y=u
 omega)
theorem zth (u v:Nat) (hv:v≤u + 18446744073709551616 + 18446744073709551616):u / 18446744073709551616 * 18446744073709551616≤u∧v≤(u / 18446744073709551616+8) * 18446744073709551616:=⟨by omega,by omega⟩
theorem zxf (u v:Nat) (hv:v≤u + 18446744073709551616 + 18446744073709551616):u/9223372036854775808*9223372036854775808≤u∧v≤(u/9223372036854775808+8)*9223372036854775808:=⟨by omega,by omega⟩
theorem qjh (u:Nat):u / 18446744073709551616*2+u % 18446744073709551616/9223372036854775808=u/9223372036854775808:=by omega
theorem zsz (u:Nat) (h1:85070591730234615865843651857942052864≤u) (h2:u / 18446744073709551616<9223372036854775808):9223372036854775808≤u/9223372036854775808∧u/9223372036854775808 < 18446744073709551616:=by(
 constructor
 ·rw[Nat.le_div_iff_mul_le (by omega)];exact h1
 ·omega)
theorem zte {A C x y N M:Nat} (h:zlm A x N) (g:zlm C y M) (hh:9223372036854775808≤x*y / 18446744073709551616):zll (A*C) (x*y / 18446744073709551616) (N+M+64):=by(
 obtain⟨a1,a2⟩:=zqo h g
 obtain⟨b1,b3⟩:=zmy h g
 have b4:x*y / 18446744073709551616 < 18446744073709551616:=by rw[Nat.div_lt_iff_lt_mul (by omega)];exact Nat.mul_lt_mul'' h.hi g.hi
 obtain⟨c1,c2⟩:=zth _ _ b3
 have e64:2^(N+M+64)=18446744073709551616*2^(N+M):=by rw[Nat.pow_add,Nat.mul_comm]
 refine⟨hh,b4,?_,?_⟩
 ·rw[e64,← Nat.mul_assoc];exact Nat.le_trans (Nat.mul_le_mul_right _ c1) a1
 ·rw[e64,← Nat.mul_assoc];exact Nat.lt_of_lt_of_le a2 (Nat.mul_le_mul_right _ c2))
theorem zxi {A C x y N M:Nat} (h:zlm A x N) (g:zlm C y M) (hh:x*y / 18446744073709551616<9223372036854775808):zll (A*C) (x*y / 18446744073709551616*2+x*y % 18446744073709551616/9223372036854775808) (N+M+63):=by(
 obtain⟨a1,a2⟩:=zqo h g
 obtain⟨b1,b3⟩:=zmy h g
 obtain⟨c1,c2⟩:=zxf _ _ b3
 obtain⟨d1,d2⟩:=zsz _ b1 hh
 have e64:2^(N+M+63)=9223372036854775808*2^(N+M):=by rw[Nat.pow_add,Nat.mul_comm]
 rw[qjh]
 refine⟨d1,d2,?_,?_⟩
 ·rw[e64,← Nat.mul_assoc];exact Nat.le_trans (Nat.mul_le_mul_right _ c1) a1
 ·rw[e64,← Nat.mul_assoc];exact Nat.lt_of_lt_of_le a2 (Nat.mul_le_mul_right _ c2))
theorem zmz {Z Z' p q K M:Nat} (h:zll Z p K) (g:zll Z' q M) (hk:M+1<K):Z' < Z:=by(
 refine Nat.lt_of_mul_lt_mul_right (a:=85070591730234615865843651857942052864) (Nat.lt_of_lt_of_le g.lt (Nat.le_trans ?_ h.ge))
 have h1:2^(M+2)≤2^K:=Nat.pow_le_pow_right (by omega) (by omega)
 rw[Nat.pow_add] at h1
 have h2:p*(2^M*2^2)≤p*2^K:=Nat.mul_le_mul_left _ h1
 have h3:=h.lo
 have h4:=g.hi
 refine Nat.le_trans ?_ h2
 rw[Nat.mul_comm (2^M),← Nat.mul_assoc]
 exact Nat.mul_le_mul_right _ (by omega))
theorem zky {Z Z' p q K:Nat} (h:zll Z p K) (g:zll Z' q K) (hk:q+8≤p):Z' < Z:=by
 refine Nat.lt_of_mul_lt_mul_right (a:=85070591730234615865843651857942052864) (Nat.lt_of_lt_of_le g.lt (Nat.le_trans ?_ h.ge))
 exact Nat.mul_le_mul_right _ hk
def j3 (X:Nat):Nat:=zt X*2^lz (zt X)+(if (wd 18446744073709551616 X).length≤1 then 0 else (wd 18446744073709551616 X)[(wd 18446744073709551616 X).length-2]?.getD 0/2^(64-lz (zt X)))
def zaw (X:Nat):Nat:=64*((wd 18446744073709551616 X).length-1)+63-lz (zt X)
theorem zix (X:Nat) (h:0<X):zlm X (j3 X) (zaw X):=by(
 obtain⟨t1,t2,-,-⟩:=zeq X h
 obtain⟨l1,l2,l3,-⟩:=zai (zt X) t1 t2
 have hl:0<(wd 18446744073709551616 X).length:=by rw[Nat.pos_iff_ne_zero];intro e;rw[zi (by omega)] at e;omega
 unfold j3 zaw
 by_cases h1:(wd 18446744073709551616 X).length≤1
 ·(
 have hX:X < 18446744073709551616:=by
  have:=ak (B:=18446744073709551616) (by omega) X 1 h1
  rw[Nat.pow_one] at this;exact this
 have e:zt X=X:=by unfold zt;rw[zel X h hX];rfl
 rw[if_pos h1,Nat.add_zero,show (wd 18446744073709551616 X).length-1=0 from by omega,Nat.mul_zero,Nat.zero_add]
 rw[e] at l1 l2 l3 ⊢
 exact qda X _ l1 l3 l2)
 ·(
 rw[if_neg h1]
 obtain⟨m,hm⟩:∃ m,(wd 18446744073709551616 X).length=m+2:=⟨(wd 18446744073709551616 X).length-2,by omega⟩
 have e2:=zdz (wd 18446744073709551616 X) m (by omega) (zo (by omega) X)
 have e3:=bz (zo (B:=18446744073709551616) (by omega) X) (by omega:0 < 18446744073709551616) m
 have e4:=zbc 18446744073709551616 (wd 18446744073709551616 X) m (by omega)
 have e5:=jg 18446744073709551616 (wd 18446744073709551616 X) (m+1) (by omega)
 rw[List.drop_eq_nil_of_le (by omega:(wd 18446744073709551616 X).length≤m+1+1)] at e5
 rw[qh (by omega),e5] at e4
 rw[show (wd 18446744073709551616 X)[m+1]?.getD 0=zt X from by unfold zt;rw[hm];rfl] at e4
 rw[show (wd 18446744073709551616 X).length-2=m from by omega,show (wd 18446744073709551616 X).length-1=m+1 from by omega]
 simp only[vl,Nat.mul_zero,Nat.add_zero] at e4
 exact (zxh X _ _ m _ (zt X) (lz (zt X)) rfl e4 e2 e3 l1 l3 l2).1))
theorem zhx (v:Value) (X:Nat) (hX:0<X) (w:World) (hv:Sl .u64 w v (wd 18446744073709551616 X)) (hl:(wd 18446744073709551616 X).length<134217728) (x:Nat) (N:Int) (hx:Hid (x=j3 X)) (hN:Hid (N=(zaw X:Int)-63)) :
   Calls prog 289 #[v] w fun e w'=>e=.returned (.tuple #[.int .u64 (x:Int),.int .i64 N])∧w'=w:=by(
 obtain⟨t1,t2,-,-⟩:=zeq X hX
 obtain⟨hs,l2,l3,-⟩:=zai (zt X) t1 t2
 have LZ:=af (fun W=>zkx (zt X) t1 t2 W)
 rcases hv.open with ⟨e,-⟩|⟨hp,b,o,c,rfl,hc,-,hcell⟩
 ·rw[xx (by omega)] at e;omega
 have hct:=hcell ((wd 18446744073709551616 X).length-1) (by omega)
 rw[show (wd 18446744073709551616 X)[(wd 18446744073709551616 X).length-1]?.getD 0=zt X from rfl] at hct
 have E0:IntKind.u64.wrap (((zt X:Nat):Int)*2^lz (zt X))=((zt X*2^lz (zt X):Nat):Int):=by
  have e:((zt X:Nat):Int)*2^lz (zt X)=((zt X*2^lz (zt X):Nat):Int):=by simp
  rw[e,IntKind.wrap_u64];omega
 unfold j3 at hx
 unfold zaw at hN
 by_cases h1:(wd 18446744073709551616 X).length≤1
 ·(
 have hl1:(wd 18446744073709551616 X).length=1:=by omega
 rw[if_pos h1,Nat.add_zero] at hx
 rw[hl1] at hct hN ⊢
 rw[Nat.sub_self,Nat.add_zero] at hct
 have hNN:Hid (N=-((lz (zt X):Nat):Int)):=by
  show _=_;rw[ae hN];omega
 clear hcell hN hv
 generalize zt X*2^lz (zt X)=y at *
 generalize lz (zt X)=s at *
 generalize zt X=t at *
 have HX:x=y:=ae hx
 subst HX
 have HN:N=-(s:Int):=ae hNN
 subst HN
 go_enter func289,ntmps289
 go_wp2_with fail
 refine (ae LZ _).mono ?_
 rintro e w1 ⟨rfl,hw⟩
 obtain rfl:=hw.symm
 clear hw
 go_wp2
 go_ret2
 exact⟨rfl,rfl⟩)
 ·(
 rw[if_neg h1] at hx
 have hc2:=hcell ((wd 18446744073709551616 X).length-2) (by omega)
 have e3:=bz (zo (B:=18446744073709551616) (by omega) X) (by omega:0 < 18446744073709551616) ((wd 18446744073709551616 X).length-2)
 generalize (wd 18446744073709551616 X)[(wd 18446744073709551616 X).length-2]?.getD 0=y at *
 have hu:y/2^(64-lz (zt X))<2^lz (zt X):=by
  have hB:18446744073709551616=2^(64-lz (zt X))*2^lz (zt X):=by rw[← Nat.pow_add,show 64-lz (zt X)+lz (zt X)=64 from by omega]
  rw[Nat.div_lt_iff_lt_mul (Nat.pow_pos (by omega)),Nat.mul_comm,← hB];exact e3
 have hub:y/2^(64-lz (zt X)) < 18446744073709551616:=Nat.lt_of_le_of_lt (Nat.div_le_self _ _) e3
 have hor:zt X*2^lz (zt X) ||| y/2^(64-lz (zt X))=zt X*2^lz (zt X)+y/2^(64-lz (zt X)):=by
  rw[Nat.mul_comm,Nat.two_pow_add_eq_or_of_lt hu]
 have E1:bits .or .u64 ((zt X*2^lz (zt X):Nat):Int) ((y/2^(64-lz (zt X)):Nat):Int)=((zt X*2^lz (zt X)+y/2^(64-lz (zt X)):Nat):Int):=by
  rw[bits_or_u64_nat _ _ l2 hub,hor]
 have E2:((y:Nat):Int)/2^(64-lz (zt X))=((y/2^(64-lz (zt X)):Nat):Int):=by simp
 have E3:(64-((lz (zt X):Nat):Int)).toNat=64-lz (zt X):=by omega
 clear hcell hv hor hu
 generalize zt X*2^lz (zt X)+y/2^(64-lz (zt X))=z at *
 generalize y/2^(64-lz (zt X))=q at *
 generalize zt X*2^lz (zt X)=p at *
 generalize lz (zt X)=s at *
 generalize zt X=t at *
 generalize (wd 18446744073709551616 X).length=n at *
 have HX:x=z:=ae hx
 subst HX
 have HN:N=((n:Int)-1)*64-s:=by rw[ae hN];omega
 subst HN
 obtain⟨m,rfl⟩:∃ m,n=m+2:=⟨n-2,by omega⟩
 rw[show m+2-1=m+1 from rfl] at hct
 rw[show m+2-2=m from rfl] at hc2
 have hm0:(0:Int)≤(m:Int):=by omega
 clear hx hN
 go_enter func289,ntmps289
 go_wp2_with fail
 refine (ae LZ _).mono ?_
 rintro e w1 ⟨rfl,hw⟩
 obtain rfl:=hw.symm
 clear hw
 go_wp2
 go_ret2
 refine⟨?_,rfl⟩
 go_num))
def zav (A C:Nat):Nat:=if j3 A*j3 C / 18446744073709551616<9223372036854775808 then j3 A*j3 C / 18446744073709551616*2+j3 A*j3 C % 18446744073709551616/9223372036854775808 else j3 A*j3 C / 18446744073709551616
def sj (A C:Nat):Nat:=if j3 A*j3 C / 18446744073709551616<9223372036854775808 then zaw A+zaw C+63 else zaw A+zaw C+64
theorem zui (A C:Nat) (hA:0<A) (hC:0<C):zll (A*C) (zav A C) (sj A C):=by(
 have h:=zix A hA
 have g:=zix C hC
 unfold zav sj
 split
 ·exact zxi h g (by assumption)
 ·exact zte h g (by omega))
theorem zfj (X:Nat) (n:Nat) (h:(wd 18446744073709551616 X).length<n):zaw X≤64*n:=by unfold zaw;omega
theorem zqf (A C n:Nat) (hA:(wd 18446744073709551616 A).length<n) (hC:(wd 18446744073709551616 C).length<n):sj A C≤128*n+64:=by(
 have h1:=zfj A n hA
 have h2:=zfj C n hC
 unfold sj
 split <;> omega)
theorem zaj (va vc:Value) (A C:Nat) (hA:0<A) (hC:0<C) (w:World) (ha:Sl .u64 w va (wd 18446744073709551616 A)) (hc:Sl .u64 w vc (wd 18446744073709551616 C)) (hla:(wd 18446744073709551616 A).length<134217728) (hlc:(wd 18446744073709551616 C).length<134217728) (p:Nat) (K:Int) (hp:Hid (p=zav A C)) (hK:Hid (K=(sj A C:Int)-126)) :
   Calls prog 246 #[va,vc] w fun e w'=>e=.returned (.tuple #[.int .u64 (p:Int),.int .i64 K])∧w'=w:=by(
 have LA:=af (zhx va A hA w ha hla (j3 A) ((zaw A:Int)-63) rfl rfl)
 have LC:=af (zhx vc C hC w hc hlc (j3 C) ((zaw C:Int)-63) rfl rfl)
 have ba:=(zix A hA).hi
 have bc:=(zix C hC).hi
 have na:=zfj A _ hla
 have nc:=zfj C _ hlc
 have MU:=af (fun W=>Tryz.bits_Mul64 (j3 A) (j3 C) ba bc W)
 have hzB:j3 A*j3 C / 18446744073709551616 < 18446744073709551616:=by rw[Nat.div_lt_iff_lt_mul (by omega)];exact Nat.mul_lt_mul'' ba bc
 have hzL:j3 A*j3 C % 18446744073709551616 < 18446744073709551616:=Nat.mod_lt _ (by omega)
 unfold zav at hp
 unfold sj at hK
 obtain⟨aa,ca,rfl,-,-⟩:=ha
 obtain⟨ac,cc,rfl,-,-⟩:=hc
 generalize (wd 18446744073709551616 A).length=la at *
 generalize (wd 18446744073709551616 C).length=lc at *
 generalize j3 A*j3 C / 18446744073709551616=hi at *
 generalize j3 A*j3 C % 18446744073709551616=lo at *
 generalize j3 A=x at *
 generalize j3 C=y at *
 generalize zaw A=n at *
 generalize zaw C=m at *
 by_cases hh:hi<9223372036854775808
 ·(
 rw[if_pos hh] at hp hK
 have d1:((hi:Int)/9223372036854775808==0)=true:=beq_iff_eq.2 (by omega)
 have hor:bits .or .u64 ((hi*2:Nat):Int) ((lo/9223372036854775808:Nat):Int)=((hi*2+lo/9223372036854775808:Nat):Int):=by
  rw[bits_or_u64_nat _ _ (by omega) (by omega)]
  have:=Nat.two_pow_add_eq_or_of_lt (i:=1) (b:=lo/9223372036854775808) (by omega) hi
  rw[Nat.pow_one,Nat.mul_comm] at this
  rw[this]
 have e1:IntKind.u64.wrap ((hi:Int)*2)=((hi*2:Nat):Int):=by rw[IntKind.wrap_u64];omega
 have e2:(lo:Int)/9223372036854775808=((lo/9223372036854775808:Nat):Int):=by simp
 generalize hi*2+lo/9223372036854775808=z at *
 generalize lo/9223372036854775808=z2 at *
 generalize hi*2=z1 at *
 have HP:p=z:=ae hp
 subst HP
 have HK:K=(n:Int)+m-63:=by rw[ae hK];omega
 subst HK
 clear hp hK
 go_enter func246,ntmps246
 go_wp2_with fail
 refine (ae LA).mono ?_
 rintro e w1 ⟨rfl,hw⟩
 obtain rfl:=hw.symm
 clear hw
 go_wp2_with fail
 refine (ae LC).mono ?_
 rintro e w1 ⟨rfl,hw⟩
 obtain rfl:=hw.symm
 clear hw
 go_wp2_with fail
 refine (ae MU _).mono ?_
 rintro e w1 ⟨rfl,hw⟩
 obtain rfl:=hw.symm
 clear hw
 go_wp2
 go_ret2
 refine⟨?_,rfl⟩
 go_num)
 ·(
 rw[if_neg hh] at hp hK
 have d1:((hi:Int)/9223372036854775808==0)=false:=beq_eq_false_iff_ne.2 (by omega)
 have HP:p=hi:=ae hp
 subst HP
 have HK:K=(n:Int)+m-62:=by rw[ae hK];omega
 subst HK
 clear hp hK
 go_enter func246,ntmps246
 go_wp2_with fail
 refine (ae LA).mono ?_
 rintro e w1 ⟨rfl,hw⟩
 obtain rfl:=hw.symm
 clear hw
 go_wp2_with fail
 refine (ae LC).mono ?_
 rintro e w1 ⟨rfl,hw⟩
 obtain rfl:=hw.symm
 clear hw
 go_wp2_with fail
 refine (ae MU _).mono ?_
 rintro e w1 ⟨rfl,hw⟩
 obtain rfl:=hw.symm
 clear hw
 go_wp2
 go_ret2
 refine⟨?_,rfl⟩
 go_num))
theorem zbp (B:Nat) (xs:List Nat) (k:Nat):vl B (xs.take (k+1))=vl B (xs.take k)+xs[k]?.getD 0*B^k:=by(
 rcases Nat.lt_or_ge k xs.length with h | h
 ·exact qw B xs k h
 ·rw[List.take_of_length_le h,List.take_of_length_le (by omega),List.getElem?_eq_none h];simp)
theorem qep (B:Nat) (rs:List Nat) (k s:Nat) (hk:k<rs.length) (hz:rs[k]?.getD 0=0):vl B (rs.set k s)=vl B rs+s*B^k:=by(
 have:=x9 B rs k s hk
 rw[hz,Nat.zero_mul,Nat.add_zero] at this
 exact this)
structure j5 (k:IntKind) (w:World) (g:Nat) (rs:List Nat):Prop where
 row:Row k w g rs
 ints:0<rs.length→Ints k w g
theorem ztf (k:IntKind) (w:World) (n:Nat) (t:TypeId):Ints k (w.alloc (.cells (madeCells #[.int k 0] n) t)) w.heap.size:=fun i v hv=>by
 rw[World.cell?_alloc_new] at hv
 unfold madeCells at hv
 rw[Array.getElem?_map] at hv
 obtain⟨x,-,rfl⟩:=Option.map_eq_some_iff.1 hv
 exact⟨0,by simp[Nat.mod_one]⟩
theorem j5.made (k:IntKind) (w:World) (n:Nat) (t:TypeId):j5 k (w.alloc (.cells (madeCells #[.int k 0] n) t)) w.heap.size (List.replicate n 0):=⟨Row.made k w n t,fun _=>ztf k w n t⟩
theorem j5.set {k:IntKind} {w:World} {g:Nat} {rs:List Nat} (h:j5 k w g rs) (i:Nat) (hi:i<rs.length) (t:Nat):j5 k (w.setCell ⟨g,i,none⟩ (.int k t)) g (rs.set i t):=⟨h.row.set i hi t,fun h0=>(h.ints (by rw[List.length_set] at h0;exact h0)).set i t⟩
theorem j5.sl {k:IntKind} {w:World} {g:Nat} {rs:List Nat} (h:j5 k w g rs) (cap:Nat) (hc:rs.length≤cap):Sl k w (.slice (some ⟨g,0,none⟩) rs.length cap) rs:=Sl.mk g 0 cap hc (fun i hi=>by rw[Nat.zero_add];exact (h.row i hi).1) h.ints
theorem j5.lt {k:IntKind} {w:World} {g:Nat} {rs:List Nat} (h:j5 k w g rs) (h0:0<rs.length):g<w.heap.size:=ai (h.row 0 h0).1
theorem j5.but {k:IntKind} {w w':World} {g:Nat} {rs:List Nat} {l:List Nat} (h:j5 k w g rs) (hb:But l w w') (hn:g ∉ l):j5 k w' g rs:=⟨fun i hi=>by
 have hl:=ai (h.row i hi).1
 exact⟨hb.ag (h.row i hi).1 hn,(hb.frozen (p:=⟨g,i,none⟩) hl hn).trans (h.row i hi).2⟩,fun h0=>(h.ints h0).but hb (h.lt h0) hn⟩
theorem j5.drewN {k:IntKind} {w:World} {g:Nat} {rs:List Nat} (h:j5 k w g rs) (q:Nat):j5 k (w.drewN q) g rs:=h.but ((But.refl [] _).drewN q) (by simp)
/-! ### sums -/
/-! ### differences -/
/-! ### shifts -/
theorem zvo (B Y:Nat):∀ (n:Nat) (rs:List Nat),rs.length=n→(∀ j,j<n→rs[j]?.getD 0=Y/B^j%B)→vl B rs=Y%B^n:=by(
 intro n
 induction n with
 | zero =>
  intro rs h _
  have:rs=[]:=List.length_eq_zero_iff.1 h
  subst this;simp[vl,Nat.mod_one]
 | succ n ih =>
  intro rs h hd
  have e:=qw B rs n (by omega)
  rw[List.take_of_length_le (by omega)] at e
  rw[e,ih (rs.take n) (by rw[List.length_take];omega) (fun j hj=>by rw[List.getElem?_take_of_lt hj];exact hd j (by omega)),hd n (by omega),Nat.pow_succ,Nat.mod_mul,Nat.mul_comm (Y/B^n%B)])
structure zfw (S W P u0 u1 u2 v1 v2:Nat):Prop where
 s:∃ Sr,S=((u0*4294967296+u1)*4294967296+u2)*P+Sr∧Sr<P
 w:∃ Wr,W=(v1*4294967296+v2)*P+Wr∧Wr<P
 lt:S<W*4294967296
 hi:2147483648≤v1
 hv1:v1<4294967296
 hv2:v2<4294967296
 hu1:u1<4294967296
 hu2:u2<4294967296
theorem zfw.pos {S W P u0 u1 u2 v1 v2:Nat} (h:zfw S W P u0 u1 u2 v1 v2):0<P∧0<W:=by(
 obtain⟨Wr,h1,h2⟩:=h.w
 have:=h.hi
 refine⟨by omega,?_⟩
 rw[h1]
 have h3:1*P≤(v1*4294967296+v2)*P:=Nat.mul_le_mul_right _ (by omega)
 omega)
theorem zfw.top {S W P u0 u1 u2 v1 v2:Nat} (h:zfw S W P u0 u1 u2 v1 v2):u0≤v1:=by(
 obtain⟨Sr,hs,-⟩:=h.s
 obtain⟨Wr,hw,hwr⟩:=h.w
 have hP:=h.pos.1
 have hlt:=h.lt
 have h2:=h.hv2
 rcases Nat.lt_or_ge v1 u0 with hc | hc
 ·(
 exfalso
 have h3:(v1+1)*4294967296*4294967296*P≤((u0*4294967296+u1)*4294967296+u2)*P:=Nat.mul_le_mul_right _ (by omega)
 have h4:W<(v1+1)*4294967296*P:=by
  have:(v1*4294967296+v2+1)*P≤(v1+1)*4294967296*P:=Nat.mul_le_mul_right _ (by omega)
  rw[Nat.succ_mul] at this
  omega
 have h5:W*4294967296<(v1+1)*4294967296*P*4294967296:=by omega
 have h6:(v1+1)*4294967296*P*4294967296=(v1+1)*4294967296*4294967296*P:=by grind
 omega)
 ·exact hc)
theorem zfw.qjd {S W P u0 u1 u2 v1 v2:Nat} (h:zfw S W P u0 u1 u2 v1 v2):S/W<4294967296:=Nat.div_lt_of_lt_mul h.lt
theorem zfw.qhx {S W P u0 u1 u2 v1 v2:Nat} (h:zfw S W P u0 u1 u2 v1 v2) (g:Nat) (hg:g≤S/W):g*(v1*4294967296+v2)≤(u0*4294967296+u1)*4294967296+u2:=by(
 obtain⟨Sr,hs,hsr⟩:=h.s
 obtain⟨Wr,hw,hwr⟩:=h.w
 have h1:g*W≤S:=Nat.le_trans (Nat.mul_le_mul_right _ hg) (Nat.div_mul_le_self S W)
 have h2:g*(v1*4294967296+v2)*P≤g*W:=by
  have e:g*W=g*(v1*4294967296+v2)*P+g*Wr:=by rw[hw];grind
  omega
 rcases Nat.lt_or_ge ((u0*4294967296+u1)*4294967296+u2) (g*(v1*4294967296+v2)) with hc | hc
 ·exfalso
  have h3:((u0*4294967296+u1)*4294967296+u2+1)*P≤g*(v1*4294967296+v2)*P:=Nat.mul_le_mul_right _ hc
  rw[Nat.succ_mul] at h3
  omega
 ·exact hc)
structure ru (S W u0 u1 v1 g r:Nat):Prop where
 eq:u0*4294967296+u1=g*v1+r
 ge:S/W≤g
 le:g≤4294967297
theorem ru.start {S W P u0 u1 u2 v1 v2:Nat} (h:zfw S W P u0 u1 u2 v1 v2):ru S W u0 u1 v1 ((u0*4294967296+u1)/v1) ((u0*4294967296+u1)%v1):=by(
 have hv:=h.hi
 refine⟨(Nat.div_add_mod' _ _).symm,?_,?_⟩
 ·(
 rw[Nat.le_div_iff_mul_le (by omega)]
 have h1:=h.qhx (S/W) (Nat.le_refl _)
 have h2:=h.hu2
 rw[Nat.mul_add,← Nat.mul_assoc] at h1
 omega)
 ·(
 have h1:=h.top
 have h2:=h.hu1
 have h3:(u0*4294967296+u1)/v1<4294967298:=by
  rw[Nat.div_lt_iff_lt_mul (by omega)]
  omega
 omega))
theorem ru.next {S W P u0 u1 u2 v1 v2 g r:Nat} (h:zfw S W P u0 u1 u2 v1 v2) (k:ru S W u0 u1 v1 g r) (hc:4294967295<g∨r*4294967296+u2<g*v2):0<g∧ru S W u0 u1 v1 (g-1) (r+v1):=by(
 have hq:S/W<g:=by
  rcases hc with hc | hc
  ·exact Nat.lt_of_lt_of_le h.qjd hc
  ·rcases Nat.lt_or_ge (S/W) g with h1 | h1
   ·exact h1
   ·exfalso
    have h2:=h.qhx g h1
    rw[k.eq,Nat.mul_add,← Nat.mul_assoc] at h2
    omega
 have h0:0<g:=Nat.lt_of_le_of_lt (Nat.zero_le _) hq
 refine⟨h0,?_,Nat.le_sub_one_of_lt hq,Nat.le_trans (Nat.sub_le _ _) k.le⟩
 have e:=k.eq
 obtain⟨p,rfl⟩:∃ p,g=p+1:=⟨g-1,by omega⟩
 rw[Nat.succ_mul] at e
 rw[Nat.add_sub_cancel]
 omega)
theorem ru.small {S W P u0 u1 u2 v1 v2 g r:Nat} (h:zfw S W P u0 u1 u2 v1 v2) (k:ru S W u0 u1 v1 g r) (hr:4294967296≤r):g≤4294967295∧g*v2≤r*4294967296+u2:=by(
 have h1:=h.top
 have h2:=h.hu1
 have e:=k.eq
 have hg:g≤4294967295:=by
  rcases Nat.lt_or_ge 4294967295 g with hc | hc
  ·exfalso
   have h3:4294967296*v1≤g*v1:=Nat.mul_le_mul_right _ hc
   omega
  ·exact hc
 refine⟨hg,?_⟩
 have h4:g*v2≤4294967295*4294967295:=Nat.mul_le_mul hg (by have:=h.hv2;omega)
 omega)
theorem ru.fin {S W P u0 u1 u2 v1 v2 g r:Nat} (h:zfw S W P u0 u1 u2 v1 v2) (k:ru S W u0 u1 v1 g r) (hg:g≤4294967295) (ht:g*v2≤r*4294967296+u2):g=S/W∨(g=S/W+1):=by(
 obtain⟨Sr,hs,hsr⟩:=h.s
 obtain⟨Wr,hw,hwr⟩:=h.w
 have hW:=h.pos.2
 have h1:g*(v1*4294967296+v2)≤(u0*4294967296+u1)*4294967296+u2:=by
  rw[k.eq,Nat.mul_add,← Nat.mul_assoc];omega
 have h2:g*(v1*4294967296+v2)*P≤((u0*4294967296+u1)*4294967296+u2)*P:=Nat.mul_le_mul_right _ h1
 have h3:g*Wr≤g*P:=Nat.mul_le_mul_left _ (by omega)
 have h4:g*P≤W:=by
  rw[hw]
  have:g*P≤(v1*4294967296+v2)*P:=Nat.mul_le_mul_right _ (by have:=h.hi;omega)
  omega
 have h5:g*W≤S+W:=by
  have:g*W=g*(v1*4294967296+v2)*P+g*Wr:=by rw[hw];grind
  omega
 have h6:g≤S/W+1:=by
  rcases Nat.eq_zero_or_pos g with h0 | h0
  ·rw[h0];exact Nat.zero_le _
  ·obtain⟨p,rfl⟩:∃ p,g=p+1:=⟨g-1,by omega⟩
   rw[Nat.succ_mul] at h5
   have:p≤S/W:=by rw[Nat.le_div_iff_mul_le hW];omega
   exact Nat.succ_le_succ this
 have h7:=k.ge
 generalize S/W=Q at *
 omega)
/-! ### taking away -/
structure Taken (us0 us vs:List Nat) (j k c d g:Nat):Prop where
 len:us.length=us0.length
 mem:∀ x ∈ us,x<4294967296
 car:c<4294967296
 bor:d≤1
 val:vl 4294967296 us+4294967296^j*(g*vl 4294967296 (vs.take k))=vl 4294967296 us0+4294967296^(j+k)*(c+d)
 same:∀ i,j+k≤i→us[i]?.getD 0=us0[i]?.getD 0
theorem Taken.start (us vs:List Nat) (j g:Nat) (hm:∀ x ∈ us,x<4294967296):Taken us us vs j 0 0 0 g :=
 ⟨rfl,hm,by omega,by omega,by simp[vl],fun _ _=>rfl⟩
theorem Taken.step {us0 us vs:List Nat} {j k c d g:Nat} (h:Taken us0 us vs j k c d g) (hk:j+k<us0.length) (hv:vs[k]?.getD 0<4294967296) (hg:g≤4294967295) (c1 s d':Nat) (hc1:c1=c+g*vs[k]?.getD 0) (hs:s<4294967296) (hd:d'≤1) (e:s+c1%4294967296+d=us[j+k]?.getD 0+4294967296*d'):Taken us0 (us.set (j+k) s) vs j (k+1) (c1/4294967296) d' g:=by(
 have hl:=h.len
 have hcc:c1<4294967296*4294967296:=by
  have:g*vs[k]?.getD 0≤4294967295*4294967295:=Nat.mul_le_mul hg (by omega)
  have:=h.car
  omega
 refine⟨by rw[List.length_set];exact hl,mem_set h.mem _ _ hs,Nat.div_lt_of_lt_mul hcc,hd,?_,fun i hi=>by rw[List.getElem?_set_ne (by omega)];exact h.same i (by omega)⟩
 have h1:=x9 4294967296 us (j+k) s (by omega)
 have h2:=h.val
 have h3:=Nat.div_add_mod c1 4294967296
 rw[zbp,show j+(k+1)=j+k+1 from by omega,Nat.pow_succ,Nat.pow_add] at *
 generalize us[j+k]?.getD 0=u at *
 generalize vs[k]?.getD 0=v at *
 generalize vl 4294967296 (us.set (j+k) s)=A at *
 generalize vl 4294967296 us=B at *
 generalize vl 4294967296 us0=D at *
 generalize vl 4294967296 (vs.take k)=E at *
 generalize c1/4294967296=hi at *
 generalize c1%4294967296=lo at *
 generalize (4294967296:Nat)^j=P at *
 generalize (4294967296:Nat)^k=Q at *
 have e2:(s+lo+d)*(P*Q)=(u+4294967296*d')*(P*Q):=by rw[e]
 have e3:(4294967296*hi+lo)*(P*Q)=(c+g*v)*(P*Q):=by rw[h3,hc1]
 grind)
/-! ### adding back -/
structure zpe (us0 us vs:List Nat) (j k c:Nat):Prop where
 len:us.length=us0.length
 mem:∀ x ∈ us,x<4294967296
 car:c≤1
 val:vl 4294967296 us+4294967296^(j+k)*c=vl 4294967296 us0+4294967296^j*vl 4294967296 (vs.take k)
 same:∀ i,j+k≤i→us[i]?.getD 0=us0[i]?.getD 0
theorem zpe.start (us vs:List Nat) (j:Nat) (hm:∀ x ∈ us,x<4294967296):zpe us us vs j 0 0 :=
 ⟨rfl,hm,by omega,by simp[vl],fun _ _=>rfl⟩
theorem zpe.step {us0 us vs:List Nat} {j k c:Nat} (h:zpe us0 us vs j k c) (hk:j+k<us0.length) (hv:vs[k]?.getD 0<4294967296) (hu:us[j+k]?.getD 0<4294967296) (c1:Nat) (hc1:c1=c+(us[j+k]?.getD 0+vs[k]?.getD 0)):zpe us0 (us.set (j+k) (c1%4294967296)) vs j (k+1) (c1/4294967296):=by(
 have hl:=h.len
 refine⟨by rw[List.length_set];exact hl,mem_set h.mem _ _ (Nat.mod_lt _ (by omega)),by have:=h.car;omega,?_,fun i hi=>by rw[List.getElem?_set_ne (by omega)];exact h.same i (by omega)⟩
 have h1:=x9 4294967296 us (j+k) (c1%4294967296) (by omega)
 have h2:=h.val
 have h3:=Nat.div_add_mod c1 4294967296
 rw[zbp,show j+(k+1)=j+k+1 from by omega,Nat.pow_succ,Nat.pow_add] at *
 generalize us[j+k]?.getD 0=u at *
 generalize vs[k]?.getD 0=v at *
 generalize vl 4294967296 (us.set (j+k) (c1%4294967296))=A at *
 generalize vl 4294967296 us=B at *
 generalize vl 4294967296 us0=D at *
 generalize vl 4294967296 (vs.take k)=E at *
 generalize c1/4294967296=hi at *
 generalize c1%4294967296=lo at *
 generalize (4294967296:Nat)^j=P at *
 generalize (4294967296:Nat)^k=Q at *
 have e3:(4294967296*hi+lo)*(P*Q)=(c+(u+v))*(P*Q):=by rw[h3,hc1]
 grind)
theorem zem (us:List Nat) (m:Nat) (h:vl 4294967296 us<4294967296^m):∀ i,m≤i→us[i]?.getD 0=0:=fun i hi=>by
 rcases Nat.lt_or_ge i us.length with hl | hl
 ·have e:=zbc 4294967296 us i hl
  rcases Nat.eq_zero_or_pos (us[i]?.getD 0) with h0 | h0
  ·exact h0
  ·exfalso
   have h1:4294967296^i*1≤4294967296^i*(us[i]?.getD 0+4294967296*vl 4294967296 (us.drop (i+1))):=Nat.mul_le_mul_left _ (by omega)
   have h2:4294967296^m≤4294967296^i:=Nat.pow_le_pow_right (by omega) hi
   omega
 ·rw[List.getElem?_eq_none hl];rfl
theorem iy (us:List Nat) (m:Nat) (hz:∀ i,m≤i→us[i]?.getD 0=0):vl 4294967296 (us.drop m)=0:=zac _ _ (fun j _=>by rw[List.getElem?_drop];exact hz _ (by omega))
theorem iw (us:List Nat) (m:Nat) (hm:m≤us.length):vl 4294967296 us=vl 4294967296 (us.take m)+4294967296^m*vl 4294967296 (us.drop m):=by(
 have:=congrArg (vl 4294967296) (List.take_append_drop m us)
 rw[zq,List.length_take,Nat.min_eq_left hm] at this
 exact this.symm)
theorem ja (us:List Nat) (m:Nat) (hm:m≤us.length) (hx:∀ x ∈ us,x<4294967296):vl 4294967296 (us.take m)<4294967296^m:=by(
 have:=mg (by omega:0<4294967296) (us.take m) (fun x h=>hx x (List.mem_of_mem_take h))
 rw[List.length_take,Nat.min_eq_left hm] at this
 exact this)
theorem zvn (us:List Nat) (m:Nat) (hm:m≤us.length) (hx:∀ x ∈ us,x<4294967296) (hz:∀ i,m≤i→us[i]?.getD 0=0):vl 4294967296 us<4294967296^m:=by
 rw[iw us m hm,iy us m hz,Nat.mul_zero,Nat.add_zero]
 exact ja us m hm hx
theorem zpk (us:List Nat) (m:Nat) (hm:m<us.length) (hz:∀ i,m+1≤i→us[i]?.getD 0=0):vl 4294967296 us=vl 4294967296 (us.take m)+4294967296^m*us[m]?.getD 0:=by
 rw[iw us m (by omega),jg 4294967296 us m hm,iy us (m+1) hz,Nat.mul_zero,Nat.add_zero]
theorem qes (us vs:List Nat) (j n:Nat) (hn:vs.length=n+2) (hj:j+(n+2)<us.length) (hu:∀ x ∈ us,x<4294967296) (hv:∀ x ∈ vs,x<4294967296) (hlt:vl 4294967296 us<vl 4294967296 vs*4294967296^j*4294967296) (hhi:2147483648≤vs[n+1]?.getD 0) :
   zfw (vl 4294967296 us) (vl 4294967296 vs*4294967296^j) (4294967296^(j+n)) (us[j+(n+2)]?.getD 0) (us[j+(n+2)-1]?.getD 0) (us[j+(n+2)-2]?.getD 0) (vs[n+1]?.getD 0) (vs[n]?.getD 0):=by(
 have bu:=fun i=>bz hu (by omega:0<4294967296) i
 have bv:=fun i=>bz hv (by omega:0<4294967296) i
 have hV:=mg (by omega:0<4294967296) vs hv
 have hS:vl 4294967296 us<4294967296^(j+(n+2)+1):=by
  refine Nat.lt_of_lt_of_le hlt ?_
  rw[show 4294967296^(j+(n+2)+1)=4294967296^(n+2)*4294967296^j*4294967296 from by rw[← Nat.pow_add,← Nat.pow_succ];congr 1;omega]
  rw[hn] at hV
  exact Nat.mul_le_mul_right _ (Nat.mul_le_mul_right _ (Nat.le_of_lt hV))
 have hz:=zem us _ hS
 refine⟨⟨vl 4294967296 (us.take (j+n)),?_,ja us _ (by omega) hu⟩,⟨vl 4294967296 (vs.take n)*4294967296^j,?_,?_⟩,hlt,hhi,bv _,bv _,bu _,bu _⟩
 ·rw[iw us (j+n) (by omega),jg _ us (j+n) (by omega),jg _ us (j+n+1) (by omega),jg _ us (j+n+1+1) (by omega),iy us (j+n+1+1+1) (fun i hi=>hz i (by omega))]
  rw[show j+(n+2)=j+n+1+1 from by omega,show j+n+1+1-1=j+n+1 from by omega,show j+n+1+1-2=j+n from by omega]
  grind
 ·rw[iw vs n (by omega),jg _ vs n (by omega),jg _ vs (n+1) (by omega),iy vs (n+1+1) (fun i hi=>by rw[List.getElem?_eq_none (by omega)];rfl),Nat.pow_add]
  grind
 ·rw[Nat.pow_add,Nat.mul_comm (4294967296^j)]
  exact Nat.mul_lt_mul_of_pos_right (ja vs n (by omega) hv) (Nat.pow_pos (by omega)))
theorem zrr {us0 us vs:List Nat} {j n c d g u:Nat} (h:Taken us0 us vs j n c d g) (hn:vs.length=n) (hj:j+n<us0.length) (hu:us[j+n]?.getD 0=u) (hge:c+d≤u) (hg:vl 4294967296 us0/(vl 4294967296 vs*4294967296^j)≤g) (hW:0<vl 4294967296 vs*4294967296^j) :
   g=vl 4294967296 us0/(vl 4294967296 vs*4294967296^j)∧vl 4294967296 (us.set (j+n) (u-c-d))=vl 4294967296 us0%(vl 4294967296 vs*4294967296^j):=by(
 have h1:=x9 4294967296 us (j+n) (u-c-d) (by rw[h.len];exact hj)
 have h2:=h.val
 rw[hu] at h1
 rw[List.take_of_length_le (by omega)] at h2
 have e:vl 4294967296 (us.set (j+n) (u-c-d))+g*(vl 4294967296 vs*4294967296^j)=vl 4294967296 us0:=by
  obtain⟨z,hz⟩:∃ z,u=c+d+z:=⟨u-(c+d),by omega⟩
  rw[show u-c-d=z from by omega] at h1 ⊢
  subst hz
  generalize vl 4294967296 (us.set (j+n) z)=X at *
  generalize vl 4294967296 us=Y at *
  generalize vl 4294967296 us0=S at *
  generalize (4294967296:Nat)^(j+n)=Q at *
  generalize (4294967296:Nat)^j=P at *
  grind
 generalize vl 4294967296 vs*4294967296^j=W at *
 generalize vl 4294967296 us0=S at *
 have hq:g≤S/W:=by rw[Nat.le_div_iff_mul_le hW];omega
 have hqe:g=S/W:=Nat.le_antisymm hq hg
 refine⟨hqe,?_⟩
 have h3:=Nat.div_add_mod S W
 rw[← hqe,Nat.mul_comm] at h3
 omega)
theorem zrq {us0 us vs:List Nat} {j n c d g u:Nat} (h:Taken us0 us vs j n c d g) (hn:vs.length=n) (hj:j+n<us0.length) (hu:us[j+n]?.getD 0=u) (hlt:u<c+d) (hg:g=vl 4294967296 us0/(vl 4294967296 vs*4294967296^j)∨g=vl 4294967296 us0/(vl 4294967296 vs*4294967296^j)+1) (hS:vl 4294967296 us0<4294967296^(j+n+1)) :
   g=vl 4294967296 us0/(vl 4294967296 vs*4294967296^j)+1∧vl 4294967296 (us.set (j+n) (u+4294967296-(c+d)))+vl 4294967296 vs*4294967296^j=vl 4294967296 us0%(vl 4294967296 vs*4294967296^j)+4294967296^(j+n+1)∧(∀ x ∈ us.set (j+n) (u+4294967296-(c+d)),x<4294967296)∧(∀ i,j+n+1≤i→(us.set (j+n) (u+4294967296-(c+d)))[i]?.getD 0=0):=by(
 have hc:=h.car
 have hd:=h.bor
 have hl:=h.len
 have hz:=zem us0 _ hS
 have hm':∀ x ∈ us.set (j+n) (u+4294967296-(c+d)),x<4294967296:=mem_set h.mem _ _ (by omega)
 have hz':∀ i,j+n+1≤i→(us.set (j+n) (u+4294967296-(c+d)))[i]?.getD 0=0:=fun i hi=>by
  rw[List.getElem?_set_ne (by omega),h.same i (by omega)];exact hz i hi
 have hlt':=zvn (us.set (j+n) (u+4294967296-(c+d))) (j+n+1) (by rw[List.length_set,hl];omega) hm' hz'
 have h1:=x9 4294967296 us (j+n) (u+4294967296-(c+d)) (by rw[h.len];exact hj)
 have h2:=h.val
 rw[hu] at h1
 rw[List.take_of_length_le (by omega)] at h2
 have e:vl 4294967296 (us.set (j+n) (u+4294967296-(c+d)))+g*(vl 4294967296 vs*4294967296^j)=vl 4294967296 us0+4294967296^(j+n+1):=by
  obtain⟨z,hz⟩:∃ z,z+(c+d)=u+4294967296:=⟨u+4294967296-(c+d),by omega⟩
  rw[show u+4294967296-(c+d)=z from by omega] at h1 ⊢
  rw[Nat.pow_succ]
  generalize vl 4294967296 (us.set (j+n) z)=X at *
  generalize vl 4294967296 us=Y at *
  generalize vl 4294967296 us0=S at *
  generalize (4294967296:Nat)^(j+n)=Q at *
  generalize (4294967296:Nat)^j=P at *
  have e2:(z+(c+d))*Q=(u+4294967296)*Q:=by rw[hz]
  grind
 refine⟨?_,?_,hm',hz'⟩
 ·(
 rcases hg with hg | hg
 ·exfalso
  have h3:=Nat.div_mul_le_self (vl 4294967296 us0) (vl 4294967296 vs*4294967296^j)
  rw[← hg] at h3
  omega
 ·exact hg)
 ·(
 have hg':g=vl 4294967296 us0/(vl 4294967296 vs*4294967296^j)+1:=by
  rcases hg with hg | hg
  ·exfalso
   have h3:=Nat.div_mul_le_self (vl 4294967296 us0) (vl 4294967296 vs*4294967296^j)
   rw[← hg] at h3
   omega
  ·exact hg
 have h3:=Nat.div_add_mod (vl 4294967296 us0) (vl 4294967296 vs*4294967296^j)
 rw[hg',Nat.succ_mul] at e
 rw[Nat.mul_comm] at h3
 omega))
theorem qej {us0 us vs:List Nat} {j n c R W:Nat} (h:zpe us0 us vs j n c) (hn:vs.length=n) (hj:j+n<us0.length) (hz:∀ i,j+n+1≤i→us0[i]?.getD 0=0) (hW:W=vl 4294967296 vs*4294967296^j) (hWl:W≤4294967296^(j+n)) (hR:R<W) (e:vl 4294967296 us0+W=R+4294967296^(j+n+1)) :
   us[j+n]?.getD 0+c=4294967296∧vl 4294967296 (us.set (j+n) 0)=R:=by(
 have h2:=h.val
 have hl:=h.len
 rw[List.take_of_length_le (by omega)] at h2
 have hz':∀ i,j+n+1≤i→us[i]?.getD 0=0:=fun i hi=>by rw[h.same i (by omega)];exact hz i hi
 have ht:=zpk us (j+n) (by omega) hz'
 have hlo:=ja us (j+n) (by omega) h.mem
 have h1:=x9 4294967296 us (j+n) 0 (by omega)
 rw[Nat.zero_mul,Nat.add_zero] at h1
 generalize us[j+n]?.getD 0=t at *
 rw[Nat.pow_succ] at e
 rw[Nat.mul_comm (4294967296^j),← hW] at h2
 generalize vl 4294967296 (us.take (j+n))=L at *
 generalize vl 4294967296 (us.set (j+n) 0)=X at *
 generalize vl 4294967296 us=Y at *
 generalize vl 4294967296 us0=S at *
 generalize (4294967296:Nat)^(j+n)=Q at *
 have e2:L+Q*(t+c)=R+Q*4294967296:=by grind
 have htc:t+c=4294967296:=by
  rcases Nat.lt_trichotomy (t+c) 4294967296 with hc | hc | hc
  ·exfalso
   have:Q*(t+c+1)≤Q*4294967296:=Nat.mul_le_mul_left _ hc
   rw[Nat.mul_succ] at this
   omega
  ·exact hc
  ·exfalso
   have:Q*(4294967296+1)≤Q*(t+c):=Nat.mul_le_mul_left _ hc
   rw[Nat.mul_succ] at this
   omega
 refine⟨htc,?_⟩
 rw[htc] at e2
 have:t*Q=Q*t:=Nat.mul_comm _ _
 omega)
structure zrl (A V:Nat) (us qs:List Nat) (t:Nat):Prop where
 um:∀ x ∈ us,x<4294967296
 qm:∀ x ∈ qs,x<4294967296
 lt:vl 4294967296 us<V*4294967296^t
 zero:∀ j,j<t→qs[j]?.getD 0=0
 val:vl 4294967296 us+V*vl 4294967296 qs=A
theorem zrl.step {A V:Nat} {us us' qs:List Nat} {j q:Nat} (h:zrl A V us qs (j+1)) (hq:j<qs.length) (hq1:q=vl 4294967296 us/(V*4294967296^j)) (hV:0<V) (hm:∀ x ∈ us',x<4294967296) (hu:vl 4294967296 us'=vl 4294967296 us%(V*4294967296^j)):zrl A V us' (qs.set j q) j:=by(
 have hW:0<V*4294967296^j:=Nat.mul_pos hV (Nat.pow_pos (by omega))
 have hqB:q<4294967296:=by
  rw[hq1]
  refine Nat.div_lt_of_lt_mul ?_
  have:=h.lt
  rw[Nat.pow_succ,← Nat.mul_assoc] at this
  exact this
 refine⟨hm,mem_set h.qm _ _ hqB,by rw[hu];exact Nat.mod_lt _ hW,fun i hi=>by rw[List.getElem?_set_ne (by omega)];exact h.zero i (by omega),?_⟩
 rw[qep _ qs j q hq (h.zero j (by omega)),hu]
 have h1:=Nat.div_add_mod (vl 4294967296 us) (V*4294967296^j)
 rw[← hq1] at h1
 have h2:=h.val
 generalize vl 4294967296 us%(V*4294967296^j)=R at *
 generalize vl 4294967296 us=S at *
 generalize vl 4294967296 qs=Z at *
 generalize (4294967296:Nat)^j=P at *
 grind)
theorem zrl.fin {A V:Nat} {us qs:List Nat} (h:zrl A V us qs 0):vl 4294967296 qs=A/V∧vl 4294967296 us=A%V:=by(
 have h1:=h.lt
 rw[Nat.pow_zero,Nat.mul_one] at h1
 have h2:=h.val
 have hV:0<V:=by omega
 constructor
 ·rw[← h2,Nat.add_mul_div_left _ _ hV,Nat.div_eq_of_lt h1,Nat.zero_add]
 ·rw[← h2,Nat.add_mul_mod_self_left,Nat.mod_eq_of_lt h1])
end Go.Proofs.YtjlfllhedceigaaGreatDoor
