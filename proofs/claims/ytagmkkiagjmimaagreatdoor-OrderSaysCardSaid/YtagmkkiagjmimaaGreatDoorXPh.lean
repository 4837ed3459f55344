/- The leading bits of numbers and of their -/
import Derived.Test.YtagmkkiagjmimaaGreatDoorXN15
namespace Go.Proofs.YtagmkkiagjmimaaGreatDoor
open Go.Proofs.Tryz
open Go.RowKit
set_option maxHeartbeats 8000000
set_option maxRecDepth 100000
structure zmk (X x N:Nat):Prop where
 lo:9223372036854775808≤x
 hi:x < 18446744073709551616
 ge:x*2^N≤X*9223372036854775808
 lt:X*9223372036854775808<(x+1)*2^N
theorem qaz (k:Nat) (h:k≤63):2^k*2^(63-k)=9223372036854775808:=by
 rw[← Nat.pow_add,show k+(63-k)=63 from by omega]
theorem qbt (t k:Nat) (hk:k≤63) (h1:9223372036854775808≤t*2^k) (h2:t*2^k < 18446744073709551616):zmk t (t*2^k) (63-k):=by(
 have hp:0<2^(63-k):=Nat.pow_pos (by omega)
 refine⟨h1,h2,?_,?_⟩
 ·rw[Nat.mul_assoc,qaz k hk];omega
 ·rw[Nat.add_mul,Nat.mul_assoc,qaz k hk];omega)
theorem zzb (X R P m s t k:Nat) (hP:P=18446744073709551616^m) (hX:X=R+P*(s + 18446744073709551616*t)) (hR:R<P) (hs:s < 18446744073709551616) (hk:k≤63) (h1:9223372036854775808≤t*2^k) (h2:t*2^k < 18446744073709551616) :
   zmk X (t*2^k+s/2^(64-k)) (64*(m+1)+63-k)∧s/2^(64-k)<2^k:=by(
 have hB:18446744073709551616=2^(64-k)*2^k:=by rw[← Nat.pow_add,show 64-k+k=64 from by omega]
 have hK:0<2^k:=Nat.pow_pos (by omega)
 have hQ:0<2^(64-k):=Nat.pow_pos (by omega)
 have hu:s/2^(64-k)<2^k:=by rw[Nat.div_lt_iff_lt_mul hQ,Nat.mul_comm,← hB];exact hs
 have hd:=Nat.div_add_mod s (2^(64-k))
 have hr:=Nat.mod_lt s hQ
 have e63:=qaz k hk
 have hN:2^(64*(m+1)+63-k)=P * 18446744073709551616*2^(63-k):=by
  rw[hP,show 64*(m+1)+63-k=64*m+64+(63-k) from by omega,Nat.pow_add,Nat.pow_add,Nat.pow_mul]
 have hz:0<2^(63-k):=Nat.pow_pos (by omega)
 generalize hu1:s/2^(64-k)=u at *
 generalize s%2^(64-k)=r at *
 generalize 64*(m+1)+63-k=N at *
 generalize 2^(63-k)=z at *
 generalize 2^(64-k)=Q at *
 generalize 2^k=K at *
 have htQ:t<Q:=by rw[hB] at h2;exact Nat.lt_of_mul_lt_mul_right h2
 have hx:t*K+u < 18446744073709551616:=by
  have:(t+1)*K≤Q*K:=Nat.mul_le_mul_right _ htQ
  rw[← hB,Nat.add_mul] at this;omega
 have eX:X*K=R*K+P*((t*K+u) * 18446744073709551616+r*K):=by rw[hX,← hd,hB];grind
 have hrK:r*K+K≤18446744073709551616:=by
  have:(r+1)*K≤Q*K:=Nat.mul_le_mul_right _ hr
  rw[← hB,Nat.add_mul] at this;omega
 have hRK:R*K<P*K:=Nat.mul_lt_mul_of_pos_right hR hK
 have g1:(t*K+u)*(P * 18446744073709551616)≤X*K:=by
  rw[eX]
  have:P*((t*K+u) * 18446744073709551616)≤P*((t*K+u) * 18446744073709551616+r*K):=Nat.mul_le_mul_left _ (by omega)
  have e:(t*K+u)*(P * 18446744073709551616)=P*((t*K+u) * 18446744073709551616):=by grind
  omega
 have g2:X*K<(t*K+u+1)*(P * 18446744073709551616):=by
  rw[eX]
  have h3:P*((t*K+u) * 18446744073709551616+r*K+K)≤P*((t*K+u) * 18446744073709551616 + 18446744073709551616):=Nat.mul_le_mul_left _ (by omega)
  have e:(t*K+u+1)*(P * 18446744073709551616)=P*((t*K+u) * 18446744073709551616 + 18446744073709551616):=by grind
  have e2:P*((t*K+u) * 18446744073709551616+r*K+K)=P*((t*K+u) * 18446744073709551616+r*K)+P*K:=by grind
  omega
 refine⟨⟨by omega,hx,?_,?_⟩,hu⟩
 ·rw[hN,← e63,← Nat.mul_assoc X,← Nat.mul_assoc (t*K+u)];exact Nat.mul_le_mul_right _ g1
 ·rw[hN,← e63,← Nat.mul_assoc X,← Nat.mul_assoc (t*K+u+1)];exact Nat.mul_lt_mul_of_pos_right g2 hz)
structure zmj (Z p K:Nat):Prop where
 lo:9223372036854775808≤p
 hi:p < 18446744073709551616
 ge:p*2^K≤Z*85070591730234615865843651857942052864
 lt:Z*85070591730234615865843651857942052864<(p+8)*2^K
theorem zza (A C x y n m z:Nat) (h1:x*n≤A*z) (h2:A*z<(x+1)*n) (g1:y*m≤C*z) (g2:C*z<(y+1)*m):x*y*(n*m)≤A*C*(z*z)∧A*C*(z*z)<(x+1)*(y+1)*(n*m):=by(
 have h1:=Nat.mul_le_mul h1 g1
 have h2:=Nat.mul_lt_mul'' h2 g2
 constructor
 ·have e1:x*n*(y*m)=x*y*(n*m):=by grind
  have e2:A*z*(C*z)=A*C*(z*z):=by grind
  rw[← e1,← e2];exact h1
 ·have e1:(x+1)*n*((y+1)*m)=(x+1)*(y+1)*(n*m):=by grind
  have e2:A*z*(C*z)=A*C*(z*z):=by grind
  rw[← e1,← e2];exact h2)
theorem zsj {A C x y N M:Nat} (h:zmk A x N) (g:zmk C y M):x*y*2^(N+M)≤A*C*85070591730234615865843651857942052864∧A*C*85070591730234615865843651857942052864<(x+1)*(y+1)*2^(N+M):=by(
 have e:=zza A C x y _ _ _ h.ge h.lt g.ge g.lt
 rw[← Nat.pow_add] at e
 exact e)
theorem znr {A C x y N M:Nat} (h:zmk A x N) (g:zmk C y M):85070591730234615865843651857942052864≤x*y∧(x+1)*(y+1)≤x*y + 18446744073709551616 + 18446744073709551616:=by(
 have h1:=h.hi
 have h2:=g.hi
 have h3:=Nat.mul_le_mul h.lo g.lo
 have e:(x+1)*(y+1)=x*y+x+y+1:=by grind
 refine⟨h3,?_⟩
 rw[e]
 generalize x*y=u
 omega)
theorem zvk (u v:Nat) (hv:v≤u + 18446744073709551616 + 18446744073709551616):u / 18446744073709551616 * 18446744073709551616≤u∧v≤(u / 18446744073709551616+8) * 18446744073709551616:=⟨by omega,by omega⟩
theorem zyx (u v:Nat) (hv:v≤u + 18446744073709551616 + 18446744073709551616):u/9223372036854775808*9223372036854775808≤u∧v≤(u/9223372036854775808+8)*9223372036854775808:=⟨by omega,by omega⟩
theorem qhj (u:Nat):u / 18446744073709551616*2+u % 18446744073709551616/9223372036854775808=u/9223372036854775808:=by omega
theorem zvd (u:Nat) (h1:85070591730234615865843651857942052864≤u) (h2:u / 18446744073709551616<9223372036854775808):9223372036854775808≤u/9223372036854775808∧u/9223372036854775808 < 18446744073709551616:=by(
 constructor
 ·rw[Nat.le_div_iff_mul_le (by omega)];exact h1
 ·omega)
theorem zvi {A C x y N M:Nat} (h:zmk A x N) (g:zmk C y M) (hh:9223372036854775808≤x*y / 18446744073709551616):zmj (A*C) (x*y / 18446744073709551616) (N+M+64):=by(
 obtain⟨a1,a2⟩:=zsj h g
 obtain⟨b1,b3⟩:=znr h g
 have b4:x*y / 18446744073709551616 < 18446744073709551616:=by rw[Nat.div_lt_iff_lt_mul (by omega)];exact Nat.mul_lt_mul'' h.hi g.hi
 obtain⟨c1,c2⟩:=zvk _ _ b3
 have e64:2^(N+M+64)=18446744073709551616*2^(N+M):=by rw[Nat.pow_add,Nat.mul_comm]
 refine⟨hh,b4,?_,?_⟩
 ·rw[e64,← Nat.mul_assoc];exact Nat.le_trans (Nat.mul_le_mul_right _ c1) a1
 ·rw[e64,← Nat.mul_assoc];exact Nat.lt_of_lt_of_le a2 (Nat.mul_le_mul_right _ c2))
theorem zzc {A C x y N M:Nat} (h:zmk A x N) (g:zmk C y M) (hh:x*y / 18446744073709551616<9223372036854775808):zmj (A*C) (x*y / 18446744073709551616*2+x*y % 18446744073709551616/9223372036854775808) (N+M+63):=by(
 obtain⟨a1,a2⟩:=zsj h g
 obtain⟨b1,b3⟩:=znr h g
 obtain⟨c1,c2⟩:=zyx _ _ b3
 obtain⟨d1,d2⟩:=zvd _ b1 hh
 have e64:2^(N+M+63)=9223372036854775808*2^(N+M):=by rw[Nat.pow_add,Nat.mul_comm]
 rw[qhj]
 refine⟨d1,d2,?_,?_⟩
 ·rw[e64,← Nat.mul_assoc];exact Nat.le_trans (Nat.mul_le_mul_right _ c1) a1
 ·rw[e64,← Nat.mul_assoc];exact Nat.lt_of_lt_of_le a2 (Nat.mul_le_mul_right _ c2))
theorem zns {Z Z' p q K M:Nat} (h:zmj Z p K) (g:zmj Z' q M) (hk:M+1<K):Z' < Z:=by(
 refine Nat.lt_of_mul_lt_mul_right (a:=85070591730234615865843651857942052864) (Nat.lt_of_lt_of_le g.lt (Nat.le_trans ?_ h.ge))
 have h1:2^(M+2)≤2^K:=Nat.pow_le_pow_right (by omega) (by omega)
 rw[Nat.pow_add] at h1
 have h2:p*(2^M*2^2)≤p*2^K:=Nat.mul_le_mul_left _ h1
 have h3:=h.lo
 have h4:=g.hi
 refine Nat.le_trans ?_ h2
 rw[Nat.mul_comm (2^M),← Nat.mul_assoc]
 exact Nat.mul_le_mul_right _ (by omega))
theorem zlq {Z Z' p q K:Nat} (h:zmj Z p K) (g:zmj Z' q K) (hk:q+8≤p):Z' < Z:=by
 refine Nat.lt_of_mul_lt_mul_right (a:=85070591730234615865843651857942052864) (Nat.lt_of_lt_of_le g.lt (Nat.le_trans ?_ h.ge))
 exact Nat.mul_le_mul_right _ hk
def ve (X:Nat):Nat:=qh X*2^lz (qh X)+(if (wd 18446744073709551616 X).length≤1 then 0 else (wd 18446744073709551616 X)[(wd 18446744073709551616 X).length-2]?.getD 0/2^(64-lz (qh X)))
def zck (X:Nat):Nat:=64*((wd 18446744073709551616 X).length-1)+63-lz (qh X)
theorem zkf (X:Nat) (h:0<X):zmk X (ve X) (zck X):=by(
 obtain⟨t1,t2,-,-⟩:=zfe X h
 obtain⟨l1,l2,l3,-⟩:=zak (qh X) t1 t2
 have hl:0<(wd 18446744073709551616 X).length:=by rw[Nat.pos_iff_ne_zero];intro e;rw[zo (by omega)] at e;omega
 unfold ve zck
 by_cases h1:(wd 18446744073709551616 X).length≤1
 ·(
 have hX:X < 18446744073709551616:=by
  have:=am (B:=18446744073709551616) (by omega) X 1 h1
  rw[Nat.pow_one] at this;exact this
 have e:qh X=X:=by unfold qh;rw[zdm X h hX];rfl
 rw[if_pos h1,Nat.add_zero,show (wd 18446744073709551616 X).length-1=0 from by omega,Nat.mul_zero,Nat.zero_add]
 rw[e] at l1 l2 l3 ⊢
 exact qbt X _ l1 l3 l2)
 ·(
 rw[if_neg h1]
 obtain⟨m,hm⟩:∃ m,(wd 18446744073709551616 X).length=m+2:=⟨(wd 18446744073709551616 X).length-2,by omega⟩
 have e2:=ui (wd 18446744073709551616 X) m (by omega) (zt (by omega) X)
 have e3:=cf (zt (B:=18446744073709551616) (by omega) X) (by omega:0 < 18446744073709551616) m
 have e4:=zac 18446744073709551616 (wd 18446744073709551616 X) m (by omega)
 have e5:=kg 18446744073709551616 (wd 18446744073709551616 X) (m+1) (by omega)
 rw[List.drop_eq_nil_of_le (by omega:(wd 18446744073709551616 X).length≤m+1+1)] at e5
 rw[ja (by omega),e5] at e4
 rw[show (wd 18446744073709551616 X)[m+1]?.getD 0=qh X from by unfold qh;rw[hm];rfl] at e4
 rw[show (wd 18446744073709551616 X).length-2=m from by omega,show (wd 18446744073709551616 X).length-1=m+1 from by omega]
 simp only[vl,Nat.mul_zero,Nat.add_zero] at e4
 exact (zzb X _ _ m _ (qh X) (lz (qh X)) rfl e4 e2 e3 l1 l3 l2).1))
theorem zjm (v:Value) (X:Nat) (hX:0<X) (w:World) (hv:Sl .u64 w v (wd 18446744073709551616 X)) (hl:(wd 18446744073709551616 X).length<134217728) (x:Nat) (N:Int) (hx:Hid (x=ve X)) (hN:Hid (N=(zck X:Int)-63)) :
   Calls prog 246 #[v] w fun e w'=>e=.returned (.tuple #[.int .u64 (x:Int),.int .i64 N])∧w'=w:=by(
 obtain⟨t1,t2,-,-⟩:=zfe X hX
 obtain⟨hs,l2,l3,-⟩:=zak (qh X) t1 t2
 have LZ:=af (fun W=>zev (qh X) t1 t2 W)
 rcases hv.open with ⟨e,-⟩|⟨hp,b,o,c,rfl,hc,-,hcell⟩
 ·rw[wh (by omega)] at e;omega
 have hct:=hcell ((wd 18446744073709551616 X).length-1) (by omega)
 rw[show (wd 18446744073709551616 X)[(wd 18446744073709551616 X).length-1]?.getD 0=qh X from rfl] at hct
 have E0:IntKind.u64.wrap (((qh X:Nat):Int)*2^lz (qh X))=((qh X*2^lz (qh X):Nat):Int):=by
  have e:((qh X:Nat):Int)*2^lz (qh X)=((qh X*2^lz (qh X):Nat):Int):=by simp
  rw[e,IntKind.wrap_u64];omega
 unfold ve at hx
 unfold zck at hN
 by_cases h1:(wd 18446744073709551616 X).length≤1
 ·(
 have hl1:(wd 18446744073709551616 X).length=1:=by omega
 rw[if_pos h1,Nat.add_zero] at hx
 rw[hl1] at hct hN ⊢
 rw[Nat.sub_self,Nat.add_zero] at hct
 have hNN:Hid (N=-((lz (qh X):Nat):Int)):=by
  show _=_;rw[ae hN];omega
 clear hcell hN hv
 generalize qh X*2^lz (qh X)=y at *
 generalize lz (qh X)=s at *
 generalize qh X=t at *
 have HX:x=y:=ae hx
 subst HX
 have HN:N=-(s:Int):=ae hNN
 subst HN
 go_enter func246,ntmps246
 go_wp2_with fail
 refine (ae LZ _).mono ?_
 rintro e w1 ⟨rfl,hw⟩
 obtain rfl:=hw.symm
 clear hw
 go_wp2
 go_ret2
 exact⟨rfl,rfl⟩)
 ·(
 rw[if_neg h1] at hx
 have hc2:=hcell ((wd 18446744073709551616 X).length-2) (by omega)
 have e3:=cf (zt (B:=18446744073709551616) (by omega) X) (by omega:0 < 18446744073709551616) ((wd 18446744073709551616 X).length-2)
 generalize (wd 18446744073709551616 X)[(wd 18446744073709551616 X).length-2]?.getD 0=y at *
 have hu:y/2^(64-lz (qh X))<2^lz (qh X):=by
  have hB:18446744073709551616=2^(64-lz (qh X))*2^lz (qh X):=by rw[← Nat.pow_add,show 64-lz (qh X)+lz (qh X)=64 from by omega]
  rw[Nat.div_lt_iff_lt_mul (Nat.pow_pos (by omega)),Nat.mul_comm,← hB];exact e3
 have hub:y/2^(64-lz (qh X)) < 18446744073709551616:=Nat.lt_of_le_of_lt (Nat.div_le_self _ _) e3
 have hor:qh X*2^lz (qh X) ||| y/2^(64-lz (qh X))=qh X*2^lz (qh X)+y/2^(64-lz (qh X)):=by
  rw[Nat.mul_comm,Nat.two_pow_add_eq_or_of_lt hu]
 have E1:bits .or .u64 ((qh X*2^lz (qh X):Nat):Int) ((y/2^(64-lz (qh X)):Nat):Int)=((qh X*2^lz (qh X)+y/2^(64-lz (qh X)):Nat):Int):=by
  rw[bits_or_u64_nat _ _ l2 hub,hor]
 have E2:((y:Nat):Int)/2^(64-lz (qh X))=((y/2^(64-lz (qh X)):Nat):Int):=by simp
 have E3:(64-((lz (qh X):Nat):Int)).toNat=64-lz (qh X):=by omega
 clear hcell hv hor hu
 generalize qh X*2^lz (qh X)+y/2^(64-lz (qh X))=z at *
 generalize y/2^(64-lz (qh X))=q at *
 generalize qh X*2^lz (qh X)=p at *
 generalize lz (qh X)=s at *
 generalize qh X=t at *
 generalize (wd 18446744073709551616 X).length=n at *
 have HX:x=z:=ae hx
 subst HX
 have HN:N=((n:Int)-1)*64-s:=by rw[ae hN];omega
 subst HN
 obtain⟨m,rfl⟩:∃ m,n=m+2:=⟨n-2,by omega⟩
 rw[show m+2-1=m+1 from rfl] at hct
 rw[show m+2-2=m from rfl] at hc2
 have hm0:(0:Int)≤(m:Int):=by omega
 clear hx hN
 go_enter func246,ntmps246
 go_wp2_with fail
 refine (ae LZ _).mono ?_
 rintro e w1 ⟨rfl,hw⟩
 obtain rfl:=hw.symm
 clear hw
 go_wp2
 go_ret2
 refine⟨?_,rfl⟩
 go_num))
def zce (A C:Nat):Nat:=if ve A*ve C / 18446744073709551616<9223372036854775808 then ve A*ve C / 18446744073709551616*2+ve A*ve C % 18446744073709551616/9223372036854775808 else ve A*ve C / 18446744073709551616
def zau (A C:Nat):Nat:=if ve A*ve C / 18446744073709551616<9223372036854775808 then zck A+zck C+63 else zck A+zck C+64
theorem zwp (A C:Nat) (hA:0<A) (hC:0<C):zmj (A*C) (zce A C) (zau A C):=by(
 have h:=zkf A hA
 have g:=zkf C hC
 unfold zce zau
 split
 ·exact zzc h g (by assumption)
 ·exact zvi h g (by omega))
theorem zhl (X:Nat) (n:Nat) (h:(wd 18446744073709551616 X).length<n):zck X≤64*n:=by unfold zck;omega
theorem zrq (A C n:Nat) (hA:(wd 18446744073709551616 A).length<n) (hC:(wd 18446744073709551616 C).length<n):zau A C≤128*n+64:=by(
 have h1:=zhl A n hA
 have h2:=zhl C n hC
 unfold zau
 split <;> omega)
theorem zbr (va vc:Value) (A C:Nat) (hA:0<A) (hC:0<C) (w:World) (ha:Sl .u64 w va (wd 18446744073709551616 A)) (hc:Sl .u64 w vc (wd 18446744073709551616 C)) (hla:(wd 18446744073709551616 A).length<134217728) (hlc:(wd 18446744073709551616 C).length<134217728) (p:Nat) (K:Int) (hp:Hid (p=zce A C)) (hK:Hid (K=(zau A C:Int)-126)) :
   Calls prog 215 #[va,vc] w fun e w'=>e=.returned (.tuple #[.int .u64 (p:Int),.int .i64 K])∧w'=w:=by(
 have LA:=af (zjm va A hA w ha hla (ve A) ((zck A:Int)-63) rfl rfl)
 have LC:=af (zjm vc C hC w hc hlc (ve C) ((zck C:Int)-63) rfl rfl)
 have ba:=(zkf A hA).hi
 have bc:=(zkf C hC).hi
 have na:=zhl A _ hla
 have nc:=zhl C _ hlc
 have MU:=af (fun W=>Tryz.bits_Mul64 (ve A) (ve C) ba bc W)
 have hzB:ve A*ve C / 18446744073709551616 < 18446744073709551616:=by rw[Nat.div_lt_iff_lt_mul (by omega)];exact Nat.mul_lt_mul'' ba bc
 have hzL:ve A*ve C % 18446744073709551616 < 18446744073709551616:=Nat.mod_lt _ (by omega)
 unfold zce at hp
 unfold zau at hK
 obtain⟨aa,ca,rfl,-,-⟩:=ha
 obtain⟨ac,cc,rfl,-,-⟩:=hc
 generalize (wd 18446744073709551616 A).length=la at *
 generalize (wd 18446744073709551616 C).length=lc at *
 generalize ve A*ve C / 18446744073709551616=hi at *
 generalize ve A*ve C % 18446744073709551616=lo at *
 generalize ve A=x at *
 generalize ve C=y at *
 generalize zck A=n at *
 generalize zck C=m at *
 by_cases hh:hi<9223372036854775808
 ·(
 rw[if_pos hh] at hp hK
 have d1:((hi:Int)/9223372036854775808==0)=true:=beq_iff_eq.2 (by omega)
 have hor:bits .or .u64 ((hi*2:Nat):Int) ((lo/9223372036854775808:Nat):Int)=((hi*2+lo/9223372036854775808:Nat):Int):=by
  rw[bits_or_u64_nat _ _ (by omega) (by omega)]
  have:=Nat.two_pow_add_eq_or_of_lt (i:=1) (b:=lo/9223372036854775808) (by omega) hi
  rw[Nat.pow_one,Nat.mul_comm] at this
  rw[this]
 have e1:IntKind.u64.wrap ((hi:Int)*2)=((hi*2:Nat):Int):=by rw[IntKind.wrap_u64];omega
 have e2:(lo:Int)/9223372036854775808=((lo/9223372036854775808:Nat):Int):=by simp
 generalize hi*2+lo/9223372036854775808=z at *
 generalize lo/9223372036854775808=z2 at *
 generalize hi*2=z1 at *
 have HP:p=z:=ae hp
 subst HP
 have HK:K=(n:Int)+m-63:=by rw[ae hK];omega
 subst HK
 clear hp hK
 go_enter func215,ntmps215
 go_wp2_with fail
 refine (ae LA).mono ?_
 rintro e w1 ⟨rfl,hw⟩
 obtain rfl:=hw.symm
 clear hw
 go_wp2_with fail
 refine (ae LC).mono ?_
 rintro e w1 ⟨rfl,hw⟩
 obtain rfl:=hw.symm
 clear hw
 go_wp2_with fail
 refine (ae MU _).mono ?_
 rintro e w1 ⟨rfl,hw⟩
 obtain rfl:=hw.symm
 clear hw
 go_wp2
 go_ret2
 refine⟨?_,rfl⟩
 go_num)
 ·(
 rw[if_neg hh] at hp hK
 have d1:((hi:Int)/9223372036854775808==0)=false:=beq_eq_false_iff_ne.2 (by omega)
 have HP:p=hi:=ae hp
 subst HP
 have HK:K=(n:Int)+m-62:=by rw[ae hK];omega
 subst HK
 clear hp hK
 go_enter func215,ntmps215
 go_wp2_with fail
 refine (ae LA).mono ?_
 rintro e w1 ⟨rfl,hw⟩
 obtain rfl:=hw.symm
 clear hw
 go_wp2_with fail
 refine (ae LC).mono ?_
 rintro e w1 ⟨rfl,hw⟩
 obtain rfl:=hw.symm
 clear hw
 go_wp2_with fail
 refine (ae MU _).mono ?_
 rintro e w1 ⟨rfl,hw⟩
 obtain rfl:=hw.symm
 clear hw
 go_wp2
 go_ret2
 refine⟨?_,rfl⟩
 go_num))
theorem zdk {x y:Nat} (h:y<x):zz x y=1:=by unfold zz;rw[if_neg (by omega),if_neg (by omega)]
theorem zjz (va vb vc vd:Value) (A B C D:Nat) (w:World) (ha:Sl .u64 w va (wd 18446744073709551616 A)) (hb:Sl .u64 w vb (wd 18446744073709551616 B)) (hc:Sl .u64 w vc (wd 18446744073709551616 C)) (hd:Sl .u64 w vd (wd 18446744073709551616 D)) (hla:(wd 18446744073709551616 A).length<33554432) (hlb:(wd 18446744073709551616 B).length<33554432) (hlc:(wd 18446744073709551616 C).length<33554432) (hld:(wd 18446744073709551616 D).length<33554432) (r:Int) (hr:Hid (r=zz (A*B) (C*D))) :
   Calls prog 181 #[va,vb,vc,vd] w fun e w'=>e=.returned (.int .i64 r)∧But [] w w':=by(
 have wm:∀ X Y:Nat,(wd 18446744073709551616 X).length<33554432→(wd 18446744073709551616 Y).length<33554432→(wd 18446744073709551616 (X*Y)).length<67108864:=fun X Y h1 h2=>by
  have:=jf X Y;omega
 have M1:Hid (∀ W,But [] w W→Calls prog 171 #[va,vb] W fun e w'=>∃ v',e=.returned v'∧Sl .u64 w' v' (wd 18446744073709551616 (A*B))∧But [] W w'∧zth W.heap.size v' va vb A B):=fun W hB=>xq va vb A B W (ha.ah hB) (hb.ah hB) (by omega)
 have M2:Hid (∀ W,But [] w W→Calls prog 171 #[vc,vd] W fun e w'=>∃ v',e=.returned v'∧Sl .u64 w' v' (wd 18446744073709551616 (C*D))∧But [] W w'∧zth W.heap.size v' vc vd C D):=fun W hB=>xq vc vd C D W (hc.ah hB) (hd.ah hB) (by omega)
 have CM:Hid (∀ W v1 v2,Sl .u64 W v1 (wd 18446744073709551616 (A*B))→Sl .u64 W v2 (wd 18446744073709551616 (C*D))→Calls prog 191 #[v1,v2] W fun e w'=>e=.returned (.int .i64 r)∧∃ q,w'=W.drewN q):=fun W v1 v2 h1 h2=>by
  rw[ae hr]
  have l1:=wm A B hla hlb
  have l2:=wm C D hlc hld
  exact kz v1 v2 _ _ W h1 h2 (by omega) (by omega)
 have zl:∀ X:Nat,((wd 18446744073709551616 X).length=0↔X=0):=fun X=>zo (by omega) X
 have LP1:Hid (∀ p K,0<A→0<B→Hid (p=zce A B)→Hid (K=(zau A B:Int)-126)→Calls prog 215 #[va,vb] w fun e w'=>e=.returned (.tuple #[.int .u64 (p:Int),.int .i64 K])∧w'=w):=fun p K h1 h2 h3 h4=>zbr va vb A B h1 h2 w ha hb (by omega) (by omega) p K h3 h4
 have LP2:Hid (∀ p K,0<C→0<D→Hid (p=zce C D)→Hid (K=(zau C D:Int)-126)→Calls prog 215 #[vc,vd] w fun e w'=>e=.returned (.tuple #[.int .u64 (p:Int),.int .i64 K])∧w'=w):=fun p K h1 h2 h3 h4=>zbr vc vd C D h1 h2 w hc hd (by omega) (by omega) p K h3 h4
 have ZA:=zl A
 have ZB:=zl B
 have ZC:=zl C
 have ZD:=zl D
 have kl1:=zrq A B _ hla hlb
 have kl2:=zrq C D _ hlc hld
 obtain⟨aa,ca,rfl,-,-⟩:=ha
 obtain⟨ab,cb,rfl,-,-⟩:=hb
 obtain⟨ac,cc,rfl,-,-⟩:=hc
 obtain⟨ad,cd,rfl,-,-⟩:=hd
 clear zl wm
 generalize (wd 18446744073709551616 A).length=la at *
 generalize (wd 18446744073709551616 B).length=lb at *
 generalize (wd 18446744073709551616 C).length=lc at *
 generalize (wd 18446744073709551616 D).length=ld at *
 by_cases h0:la=0∨lb=0∨lc=0∨ld=0
 ·(
 clear LP1 LP2 kl1 kl2 ZA ZB ZC ZD hr
 by_cases z1:la=0
 ·(
 have q1:((la:Int)==0)=true:=beq_iff_eq.2 (by omega)
 clear h0 z1
 go_enter func181,ntmps181
 go_wp2_with fail
 refine (ae M1 _ (But.refl _ _)).mono ?_
 rintro e w1 ⟨v1,rfl,hv1,hb1,-⟩
 have H1:=af hv1
 have B1:=af hb1
 clear hv1 hb1
 go_wp2_with fail
 refine (ae M2 _ (ae B1)).mono ?_
 rintro e w2 ⟨v2,rfl,hv2,hb2,-⟩
 have H2:=af hv2
 have H1':=af ((ae H1).ah hb2)
 have B2:Hid (But [] w w2):=(ae B1).trans' hb2
 clear hv2 hb2 H1
 go_wp2_with fail
 refine (ae CM _ _ _ (ae H1') (ae H2)).mono ?_
 rintro e w3 ⟨rfl,q,rfl⟩
 go_wp2
 go_ret
 exact⟨rfl,(ae B2).drewN q⟩)
 ·(
 have q1:((la:Int)==0)=false:=beq_eq_false_iff_ne.2 (by omega)
 by_cases z2:lb=0
 ·(
 have q2:((lb:Int)==0)=true:=beq_iff_eq.2 (by omega)
 clear h0 z2
 go_enter func181,ntmps181
 go_wp2_with fail
 refine (ae M1 _ (But.refl _ _)).mono ?_
 rintro e w1 ⟨v1,rfl,hv1,hb1,-⟩
 have H1:=af hv1
 have B1:=af hb1
 clear hv1 hb1
 go_wp2_with fail
 refine (ae M2 _ (ae B1)).mono ?_
 rintro e w2 ⟨v2,rfl,hv2,hb2,-⟩
 have H2:=af hv2
 have H1':=af ((ae H1).ah hb2)
 have B2:Hid (But [] w w2):=(ae B1).trans' hb2
 clear hv2 hb2 H1
 go_wp2_with fail
 refine (ae CM _ _ _ (ae H1') (ae H2)).mono ?_
 rintro e w3 ⟨rfl,q,rfl⟩
 go_wp2
 go_ret
 exact⟨rfl,(ae B2).drewN q⟩)
 ·(
 have q2:((lb:Int)==0)=false:=beq_eq_false_iff_ne.2 (by omega)
 by_cases z3:lc=0
 ·(
 have q3:((lc:Int)==0)=true:=beq_iff_eq.2 (by omega)
 clear h0 z3
 go_enter func181,ntmps181
 go_wp2_with fail
 refine (ae M1 _ (But.refl _ _)).mono ?_
 rintro e w1 ⟨v1,rfl,hv1,hb1,-⟩
 have H1:=af hv1
 have B1:=af hb1
 clear hv1 hb1
 go_wp2_with fail
 refine (ae M2 _ (ae B1)).mono ?_
 rintro e w2 ⟨v2,rfl,hv2,hb2,-⟩
 have H2:=af hv2
 have H1':=af ((ae H1).ah hb2)
 have B2:Hid (But [] w w2):=(ae B1).trans' hb2
 clear hv2 hb2 H1
 go_wp2_with fail
 refine (ae CM _ _ _ (ae H1') (ae H2)).mono ?_
 rintro e w3 ⟨rfl,q,rfl⟩
 go_wp2
 go_ret
 exact⟨rfl,(ae B2).drewN q⟩)
 ·(
 have q3:((lc:Int)==0)=false:=beq_eq_false_iff_ne.2 (by omega)
 have q4:((ld:Int)==0)=true:=beq_iff_eq.2 (by omega)
 clear h0
 go_enter func181,ntmps181
 go_wp2_with fail
 refine (ae M1 _ (But.refl _ _)).mono ?_
 rintro e w1 ⟨v1,rfl,hv1,hb1,-⟩
 have H1:=af hv1
 have B1:=af hb1
 clear hv1 hb1
 go_wp2_with fail
 refine (ae M2 _ (ae B1)).mono ?_
 rintro e w2 ⟨v2,rfl,hv2,hb2,-⟩
 have H2:=af hv2
 have H1':=af ((ae H1).ah hb2)
 have B2:Hid (But [] w w2):=(ae B1).trans' hb2
 clear hv2 hb2 H1
 go_wp2_with fail
 refine (ae CM _ _ _ (ae H1') (ae H2)).mono ?_
 rintro e w3 ⟨rfl,q,rfl⟩
 go_wp2
 go_ret
 exact⟨rfl,(ae B2).drewN q⟩))))
 ·(
 have hA:0<A:=by omega
 have hB:0<B:=by omega
 have hC:0<C:=by omega
 have hD:0<D:=by omega
 have P1:=zwp A B hA hB
 have P2:=zwp C D hC hD
 have x1:=P1.hi
 have x2:=P2.hi
 have FAR1:=af (fun h=>zns P1 P2 h)
 have FAR2:=af (fun h=>zns P2 P1 h)
 have NEAR1:Hid (zau A B=zau C D→zce C D+8≤zce A B→C*D<A*B):=fun e h=>zlq P1 (e ▸ P2) h
 have NEAR2:Hid (zau A B=zau C D→zce A B+8≤zce C D→A*B<C*D):=fun e h=>zlq P2 (e ▸ P1) h
 have L1:=af (ae LP1 (zce A B) ((zau A B:Int)-126) hA hB rfl rfl)
 have L2:=af (ae LP2 (zce C D) ((zau C D:Int)-126) hC hD rfl rfl)
 have nz1:((la:Int)==0)=false:=beq_eq_false_iff_ne.2 (by omega)
 have nz2:((lb:Int)==0)=false:=beq_eq_false_iff_ne.2 (by omega)
 have nz3:((lc:Int)==0)=false:=beq_eq_false_iff_ne.2 (by omega)
 have nz4:((ld:Int)==0)=false:=beq_eq_false_iff_ne.2 (by omega)
 clear LP1 LP2 P1 P2 ZA ZB ZC ZD
 generalize zce A B=x at *
 generalize zce C D=y at *
 generalize zau A B=n at *
 generalize zau C D=m at *
 obtain⟨N,hN⟩:∃ N,N=(n:Int)-126:=⟨_,rfl⟩
 obtain⟨M,hM⟩:∃ M,M=(m:Int)-126:=⟨_,rfl⟩
 rw[← hN] at L1
 rw[← hM] at L2
 have F1:Hid (M+1<N→C*D<A*B):=fun h=>ae FAR1 (by omega)
 have F2:Hid (N+1<M→A*B<C*D):=fun h=>ae FAR2 (by omega)
 have G1:Hid (N=M→y+8≤x→C*D<A*B):=fun h h2=>ae NEAR1 (by omega) h2
 have G2:Hid (N=M→x+8≤y→A*B<C*D):=fun h h2=>ae NEAR2 (by omega) h2
 have n1:-126≤N:=by omega
 have n2:N≤4294967424:=by omega
 have m1:-126≤M:=by omega
 have m2:M≤4294967424:=by omega
 clear FAR1 FAR2 NEAR1 NEAR2 hN hM kl1 kl2 h0
 by_cases c1:M+1<N
 ·(
 have ER:Hid (r=1):=by show _=_;rw[ae hr,zdk (ae F1 c1)]
 clear hr F1 F2 G1 G2
 have d1:decide (M+1<N)=true:=decide_eq_true c1
 go_enter func181,ntmps181
 go_wp2_with fail
 refine (ae L1).mono ?_
 rintro e w1 ⟨rfl,hw⟩
 obtain rfl:=hw.symm
 clear hw
 go_wp2_with fail
 refine (ae L2).mono ?_
 rintro e w1 ⟨rfl,hw⟩
 obtain rfl:=hw.symm
 clear hw
 go_wp2
 go_ret
 exact⟨by rw[ae ER];rfl,But.refl _ _⟩)
 ·(
 have d1:decide (M+1<N)=false:=decide_eq_false c1
 by_cases c2:N=M
 ·(
 have d2:(N==M)=true:=beq_iff_eq.2 c2
 have c3:¬ (N+1<M):=by omega
 have d3:decide (N+1<M)=false:=decide_eq_false c3
 rcases Nat.lt_trichotomy x y with hxy | hxy | hxy
 ·(
 have d4:decide ((y:Int)<(x:Int))=false:=decide_eq_false (by omega)
 have d5:decide ((x:Int)<(y:Int))=true:=decide_eq_true (by omega)
 have d7:IntKind.u64.wrap ((y:Int)-(x:Int))=(y:Int)-(x:Int):=by rw[IntKind.wrap_u64];omega
 by_cases c4:x+8≤y
 ·(
 have ER:Hid (r=-1):=by show _=_;rw[ae hr,sw (ae G2 c2 c4)]
 clear hr F1 F2 G1 G2
 have d6:decide (8≤(y:Int)-(x:Int))=true:=decide_eq_true (by omega)
 go_enter func181,ntmps181
 go_wp2_with fail
 refine (ae L1).mono ?_
 rintro e w1 ⟨rfl,hw⟩
 obtain rfl:=hw.symm
 clear hw
 go_wp2_with fail
 refine (ae L2).mono ?_
 rintro e w1 ⟨rfl,hw⟩
 obtain rfl:=hw.symm
 clear hw
 go_wp2
 go_ret
 exact⟨by rw[ae ER];rfl,But.refl _ _⟩)
 ·(
 have d6:decide (8≤(y:Int)-(x:Int))=false:=decide_eq_false (by omega)
 clear hr F1 F2 G1 G2
 go_enter func181,ntmps181
 go_wp2_with fail
 refine (ae L1).mono ?_
 rintro e w1 ⟨rfl,hw⟩
 obtain rfl:=hw.symm
 clear hw
 go_wp2_with fail
 refine (ae L2).mono ?_
 rintro e w1 ⟨rfl,hw⟩
 obtain rfl:=hw.symm
 clear hw
 go_wp2_with fail
 refine (ae M1 _ (But.refl _ _)).mono ?_
 rintro e w1 ⟨v1,rfl,hv1,hb1,-⟩
 have H1:=af hv1
 have B1:=af hb1
 clear hv1 hb1
 go_wp2_with fail
 refine (ae M2 _ (ae B1)).mono ?_
 rintro e w2 ⟨v2,rfl,hv2,hb2,-⟩
 have H2:=af hv2
 have H1':=af ((ae H1).ah hb2)
 have B2:Hid (But [] w w2):=(ae B1).trans' hb2
 clear hv2 hb2 H1
 go_wp2_with fail
 refine (ae CM _ _ _ (ae H1') (ae H2)).mono ?_
 rintro e w3 ⟨rfl,q,rfl⟩
 go_wp2
 go_ret
 exact⟨rfl,(ae B2).drewN q⟩))
 ·(
 have d4:decide ((y:Int)<(x:Int))=false:=decide_eq_false (by omega)
 have d5:decide ((x:Int)<(y:Int))=false:=decide_eq_false (by omega)
 clear hr F1 F2 G1 G2
 go_enter func181,ntmps181
 go_wp2_with fail
 refine (ae L1).mono ?_
 rintro e w1 ⟨rfl,hw⟩
 obtain rfl:=hw.symm
 clear hw
 go_wp2_with fail
 refine (ae L2).mono ?_
 rintro e w1 ⟨rfl,hw⟩
 obtain rfl:=hw.symm
 clear hw
 go_wp2_with fail
 refine (ae M1 _ (But.refl _ _)).mono ?_
 rintro e w1 ⟨v1,rfl,hv1,hb1,-⟩
 have H1:=af hv1
 have B1:=af hb1
 clear hv1 hb1
 go_wp2_with fail
 refine (ae M2 _ (ae B1)).mono ?_
 rintro e w2 ⟨v2,rfl,hv2,hb2,-⟩
 have H2:=af hv2
 have H1':=af ((ae H1).ah hb2)
 have B2:Hid (But [] w w2):=(ae B1).trans' hb2
 clear hv2 hb2 H1
 go_wp2_with fail
 refine (ae CM _ _ _ (ae H1') (ae H2)).mono ?_
 rintro e w3 ⟨rfl,q,rfl⟩
 go_wp2
 go_ret
 exact⟨rfl,(ae B2).drewN q⟩)
 ·(
 have d4:decide ((y:Int)<(x:Int))=true:=decide_eq_true (by omega)
 have d5:decide ((x:Int)<(y:Int))=false:=decide_eq_false (by omega)
 have d7:IntKind.u64.wrap ((x:Int)-(y:Int))=(x:Int)-(y:Int):=by rw[IntKind.wrap_u64];omega
 by_cases c4:y+8≤x
 ·(
 have ER:Hid (r=1):=by show _=_;rw[ae hr,zdk (ae G1 c2 c4)]
 clear hr F1 F2 G1 G2
 have d6:decide (8≤(x:Int)-(y:Int))=true:=decide_eq_true (by omega)
 go_enter func181,ntmps181
 go_wp2_with fail
 refine (ae L1).mono ?_
 rintro e w1 ⟨rfl,hw⟩
 obtain rfl:=hw.symm
 clear hw
 go_wp2_with fail
 refine (ae L2).mono ?_
 rintro e w1 ⟨rfl,hw⟩
 obtain rfl:=hw.symm
 clear hw
 go_wp2
 go_ret
 exact⟨by rw[ae ER];rfl,But.refl _ _⟩)
 ·(
 have d6:decide (8≤(x:Int)-(y:Int))=false:=decide_eq_false (by omega)
 clear hr F1 F2 G1 G2
 go_enter func181,ntmps181
 go_wp2_with fail
 refine (ae L1).mono ?_
 rintro e w1 ⟨rfl,hw⟩
 obtain rfl:=hw.symm
 clear hw
 go_wp2_with fail
 refine (ae L2).mono ?_
 rintro e w1 ⟨rfl,hw⟩
 obtain rfl:=hw.symm
 clear hw
 go_wp2_with fail
 refine (ae M1 _ (But.refl _ _)).mono ?_
 rintro e w1 ⟨v1,rfl,hv1,hb1,-⟩
 have H1:=af hv1
 have B1:=af hb1
 clear hv1 hb1
 go_wp2_with fail
 refine (ae M2 _ (ae B1)).mono ?_
 rintro e w2 ⟨v2,rfl,hv2,hb2,-⟩
 have H2:=af hv2
 have H1':=af ((ae H1).ah hb2)
 have B2:Hid (But [] w w2):=(ae B1).trans' hb2
 clear hv2 hb2 H1
 go_wp2_with fail
 refine (ae CM _ _ _ (ae H1') (ae H2)).mono ?_
 rintro e w3 ⟨rfl,q,rfl⟩
 go_wp2
 go_ret
 exact⟨rfl,(ae B2).drewN q⟩)))
 ·(
 have d2:(N==M)=false:=beq_eq_false_iff_ne.2 c2
 by_cases c3:N+1<M
 ·(
 have ER:Hid (r=-1):=by show _=_;rw[ae hr,sw (ae F2 c3)]
 clear hr F1 F2 G1 G2
 have d3:decide (N+1<M)=true:=decide_eq_true c3
 go_enter func181,ntmps181
 go_wp2_with fail
 refine (ae L1).mono ?_
 rintro e w1 ⟨rfl,hw⟩
 obtain rfl:=hw.symm
 clear hw
 go_wp2_with fail
 refine (ae L2).mono ?_
 rintro e w1 ⟨rfl,hw⟩
 obtain rfl:=hw.symm
 clear hw
 go_wp2
 go_ret
 exact⟨by rw[ae ER];rfl,But.refl _ _⟩)
 ·(
 have d3:decide (N+1<M)=false:=decide_eq_false c3
 clear hr F1 F2 G1 G2
 go_enter func181,ntmps181
 go_wp2_with fail
 refine (ae L1).mono ?_
 rintro e w1 ⟨rfl,hw⟩
 obtain rfl:=hw.symm
 clear hw
 go_wp2_with fail
 refine (ae L2).mono ?_
 rintro e w1 ⟨rfl,hw⟩
 obtain rfl:=hw.symm
 clear hw
 go_wp2_with fail
 refine (ae M1 _ (But.refl _ _)).mono ?_
 rintro e w1 ⟨v1,rfl,hv1,hb1,-⟩
 have H1:=af hv1
 have B1:=af hb1
 clear hv1 hb1
 go_wp2_with fail
 refine (ae M2 _ (ae B1)).mono ?_
 rintro e w2 ⟨v2,rfl,hv2,hb2,-⟩
 have H2:=af hv2
 have H1':=af ((ae H1).ah hb2)
 have B2:Hid (But [] w w2):=(ae B1).trans' hb2
 clear hv2 hb2 H1
 go_wp2_with fail
 refine (ae CM _ _ _ (ae H1') (ae H2)).mono ?_
 rintro e w3 ⟨rfl,q,rfl⟩
 go_wp2
 go_ret
 exact⟨rfl,(ae B2).drewN q⟩)))))
def sgR (f:Nat→Rat):Nat→Rat
 | 0=>0
 | k+1=>sgR f k+f k
theorem uo (f g:Nat→Rat):∀ n,(∀ k,k<n→f k=g k)→sgR f n=sgR g n
 | 0,_=>rfl
 | n+1,h=>by
  show sgR f n+f n=sgR g n+g n
  rw[uo f g n (fun k hk=>h k (by omega)),h n (by omega)]
theorem zgd (f:Nat→Rat):∀ n,(∀ k,k<n→0≤f k)→0≤sgR f n
 | 0,_=>by
  show (0:Rat)≤0
  decide
 | n+1,h=>by
  have h1:=zgd f n (fun k hk=>h k (by omega))
  have h2:=h n (by omega)
  show 0≤sgR f n+f n
  grind
theorem zqv (f:Nat→Rat) (m:Nat):∀ d,(∀ k,m≤k→f k=0)→sgR f (m+d)=sgR f m
 | 0,_=>rfl
 | d+1,h=>by
  show sgR f (m+d)+f (m+d)=_
  rw[zqv f m d h,h _ (by omega)];grind
theorem zwj (f:Nat→Rat) (c:Rat):∀ n,sgR (fun k=>c*f k) n=c*sgR f n
 | 0=>by
  show (0:Rat)=c*0
  grind
 | n+1=>by
  show sgR (fun k=>c*f k) n+c*f n=c*(sgR f n+f n)
  rw[zwj f c n];grind
def upS (f:Nat→Rat) (n:Nat):Nat→Rat
 | 0=>0
 | d+1=>upS f n d+f (n-(d+1))
theorem zzt (f:Nat→Rat) (n:Nat):∀ d,d≤n→upS f n d+sgR f (n-d)=sgR f n
 | 0,_=>by
  show 0+sgR f n=sgR f n
  grind
 | d+1,h=>by
  have ih:=zzt f n d (by omega)
  have e:n-d=(n-(d+1))+1:=by omega
  rw[e] at ih
  have e2:sgR f (n-(d+1)+1)=sgR f (n-(d+1))+f (n-(d+1)):=rfl
  rw[e2] at ih
  show upS f n d+f (n-(d+1))+sgR f (n-(d+1))=sgR f n
  grind
def upM (f:Nat→Rat) (n:Nat):Nat→Rat
 | 0=>0
 | d+1=>upM f n d+f (n-(d+1))*(((n-(d+1):Nat):Int):Rat)
theorem zni (g:Nat→Rat):∀ q,(∀ k,k≤q→g k=0)→sgR g (q+1)=0
 | 0,h=>by
  show (0:Rat)+g 0=0
  rw[h 0 (by omega)];grind
 | q+1,h=>by
  show sgR g (q+1)+g (q+1)=0
  rw[zni g q (fun k hk=>h k (by omega)),h (q+1) (by omega)];grind
def xu (f g:Rat):Rat:=if f≤g then f else g
def tkC (L:Nat→Rat) (c:Rat):Nat→Rat
 | 0=>c
 | k+1=>tkC L c k-xu (tkC L c k) (L k)
def tkP (L:Nat→Rat) (c:Rat) (k:Nat):Rat:=xu (tkC L c k) (L k)
def zgi (x:Rat):Rat:=if 0≤x then x else 0
theorem zom (L:Nat→Rat) (c:Rat) (n:Nat) (hL:∀ k,k<n→0≤L k) (hc:0≤c):∀ k,k≤n→tkC L c k=zgi (c-sgR L k)∧sgR (fun j=>L j-tkP L c j) k=zgi (sgR L k-c)∧∀ j,j<k→0≤tkP L c j∧tkP L c j≤L j
 | 0,_=>by
  refine⟨?_,?_,fun j hj=>absurd hj (by omega)⟩
  ·show c=zgi (c-0)
   unfold zgi
   rw[if_pos (by grind)];grind
  ·show (0:Rat)=zgi (0-c)
   unfold zgi
   split <;> grind
 | k+1,h=>by
  obtain⟨h1,h2,h3⟩:=zom L c n hL hc k (by omega)
  have hk:=hL k (by omega)
  have e1:tkC L c (k+1)=tkC L c k-xu (tkC L c k) (L k):=rfl
  have e2:sgR L (k+1)=sgR L k+L k:=rfl
  have e3:sgR (fun j=>L j-tkP L c j) (k+1)=sgR (fun j=>L j-tkP L c j) k+(L k-tkP L c k):=rfl
  have e4:tkP L c k=xu (tkC L c k) (L k):=rfl
  have hc0:0≤tkC L c k:=by rw[h1];unfold zgi;split <;> grind
  have h5:0≤tkP L c k∧tkP L c k≤L k:=by
   rw[e4];unfold xu
   split <;> grind
  refine⟨?_,?_,fun j hj=>?_⟩
  ·rw[e1,e2,h1]
   unfold xu zgi
   split <;> split <;> (try split) <;> grind
  ·rw[e3,e2,h2,e4,h1]
   unfold xu zgi
   split <;> split <;> (try split) <;> (try split) <;> grind
  ·by_cases e:j=k
   ·rw[e];exact h5
   ·exact h3 j (by omega)
def mi (a b:Nat→Rat):Nat→Nat→Rat
 | 0=>b
 | i+1=>fun k=>mi a b i k-tkP (mi a b i) (a i) k
def qid (a b:Nat→Rat) (i k:Nat):Rat:=tkP (mi a b i) (a i) k
theorem zot (f g:Nat→Rat):∀ n,sgR (fun k=>f k-g k) n=sgR f n-sgR g n
 | 0=>by
  show (0:Rat)=0-0
  grind
 | n+1=>by
  show sgR _ n+(f n-g n)=sgR f n+f n-(sgR g n+g n)
  rw[zot f g n];grind
theorem ztc (a b:Nat→Rat) (na nb:Nat) (ha:∀ i,i<na→0≤a i) (hb:∀ k,k<nb→0≤b k):∀ i,i≤na→(∀ k,k<nb→0≤mi a b i k)∧∀ k,k≤nb→sgR (mi a b i) k=zgi (sgR b k-sgR a i)
 | 0,_=>by
  refine⟨hb,fun k hk=>?_⟩
  have h:=zgd b k (fun j hj=>hb j (by omega))
  show sgR b k=zgi (sgR b k-0)
  unfold zgi
  rw[if_pos (by grind)];grind
 | i+1,h=>by
  obtain⟨h1,h2⟩:=ztc a b na nb ha hb i (by omega)
  have t:=zom (mi a b i) (a i) nb h1 (ha i (by omega))
  refine⟨fun k hk=>?_,fun k hk=>?_⟩
  ·have:=(t (k+1) (by omega)).2.2 k (by omega)
   show 0≤mi a b i k-tkP (mi a b i) (a i) k
   grind
  ·have h3:=(t k hk).2.1
   show sgR (fun k=>mi a b i k-tkP (mi a b i) (a i) k) k=_
   rw[h3,h2 k hk]
   have e:sgR a (i+1)=sgR a i+a i:=rfl
   have hai:=ha i (by omega)
   rw[e]
   unfold zgi
   split <;> split <;> (try split) <;> grind
set_option linter.unusedVariables false
def nk (ab:Nat→Bool) (n:Nat) (bl:Bool) (f:Nat):Prop:=(bl=true∧f=0∧∀ x,x<n→ab x=false)∨(bl=false∧f<n∧ab f=true∧∀ x,x<f→ab x=false)
theorem nk.same {ab:Nat→Bool} {n:Nat} {b1 b2:Bool} {f1 f2:Nat} (h:nk ab n b1 f1) (k:nk ab n b2 f2):b1=b2∧f1=f2:=by(
 rcases h with ⟨rfl,rfl,h⟩|⟨rfl,h0,h1,h2⟩
 ·rcases k with ⟨rfl,rfl,k⟩|⟨rfl,k0,k1,k2⟩
  ·exact⟨rfl,rfl⟩
  ·rw[h _ k0] at k1;exact absurd k1 (by decide)
 ·(
 rcases k with ⟨rfl,rfl,k⟩|⟨rfl,k0,k1,k2⟩
 ·rw[k _ h0] at h1;exact absurd h1 (by decide)
 ·(
 refine⟨rfl,?_⟩
 rcases Nat.lt_trichotomy f1 f2 with h | h | h
 ·rw[k2 _ h] at h1;exact absurd h1 (by decide)
 ·exact h
 ·rw[h2 _ h] at k1;exact absurd k1 (by decide))))
def dm (ab:Nat→Bool) (n j:Nat) (bl:Bool) (f:Nat):Prop:=(bl=true∧f=0∧∀ x,n-j≤x→x<n→ab x=false)∨(bl=false∧f<n∧n-j≤f∧ab f=true∧∀ x,n-j≤x→x<f→ab x=false)
theorem dm.start (ab:Nat→Bool) (n:Nat):dm ab n 0 true 0:=.inl ⟨rfl,rfl,fun x h1 h2=>absurd h1 (by omega)⟩
theorem dm.yes {ab:Nat→Bool} {n j k:Nat} {bl:Bool} {f:Nat} (h:dm ab n j bl f) (hk:k=n-(j+1)) (hj:j<n) (hab:ab k=true):dm ab n (j+1) false k :=
 .inr ⟨rfl,by omega,by omega,hab,fun x h1 h2=>absurd h1 (by omega)⟩
theorem dm.no {ab:Nat→Bool} {n j k:Nat} {bl:Bool} {f:Nat} (h:dm ab n j bl f) (hk:k=n-(j+1)) (hj:j<n) (hab:ab k=false):dm ab n (j+1) bl f:=by(
 rcases h with ⟨rfl,rfl,h⟩|⟨rfl,h0,h1,h2,h3⟩
 ·refine .inl ⟨rfl,rfl,fun x h1 h2=>?_⟩
  by_cases e:x=k
  ·rw[e];exact hab
  ·exact h x (by omega) h2
 ·refine .inr ⟨rfl,h0,by omega,h2,fun x h4 h5=>?_⟩
  by_cases e:x=k
  ·rw[e];exact hab
  ·exact h3 x (by omega) h5)
theorem dm.done {ab:Nat→Bool} {n:Nat} {bl:Bool} {f:Nat} (h:dm ab n n bl f):nk ab n bl f:=by(
 rcases h with ⟨h0,h1,h⟩|⟨h0,h1,h2,h3,h4⟩
 ·exact .inl ⟨h0,h1,fun x hx=>h x (by omega) hx⟩
 ·exact .inr ⟨h0,h1,h3,fun x hx=>h4 x (by omega) hx⟩)
theorem ztl (f:Nat→Rat) (n x:Nat):∀ j,x+j+1=n→upS f n j=sgR (fun k=>if x<k then f k else 0) n:=by(
 intro j hj
 have h1:=zzt f n j (by omega)
 have h2:∀ m,m≤n→sgR (fun k=>if x<k then f k else 0) m=if x<m then sgR f m-sgR f (x+1) else 0:=by
  intro m
  induction m with
  | zero=>intro _;rw[if_neg (by omega)];rfl
  | succ m ih =>
   intro hm
   have ih:=ih (by omega)
   have e:sgR (fun k=>if x<k then f k else 0) (m+1)=sgR (fun k=>if x<k then f k else 0) m+(if x<m then f m else 0):=rfl
   have e2:sgR f (m+1)=sgR f m+f m:=rfl
   rw[e,ih,e2]
   by_cases h:x<m
   ·rw[if_pos h,if_pos h,if_pos (by omega)];grind
   ·rw[if_neg h,if_neg h]
    by_cases h3:x<m+1
    ·have:x=m:=by omega
     subst this
     rw[if_pos h3]
     have e3:sgR f (x+1)=sgR f x+f x:=rfl
     rw[e3];grind
    ·rw[if_neg h3];grind
 rw[h2 n (Nat.le_refl _),if_pos (by omega)]
 rw[show n-j=x+1 by omega] at h1
 grind)
theorem ztm (f:Nat→Rat) (n x:Nat):∀ j,x+j+1=n→upM f n j=sgR (fun k=>if x<k then f k*((k:Int):Rat) else 0) n:=by(
 intro j hj
 have key:∀ d,d+x+1≤n→upM f n d+sgR (fun k=>if x<k then f k*((k:Int):Rat) else 0) (n-d)=sgR (fun k=>if x<k then f k*((k:Int):Rat) else 0) n:=by
  intro d
  induction d with
  | zero =>
   intro _
   show (0:Rat)+sgR _ n=_
   grind
  | succ d ih =>
   intro hd
   have ih:=ih (by omega)
   have e:n-d=(n-(d+1))+1:=by omega
   rw[e] at ih
   have e1:sgR (fun k=>if x<k then f k*((k:Int):Rat) else 0) (n-(d+1)+1)=sgR (fun k=>if x<k then f k*((k:Int):Rat) else 0) (n-(d+1))+(if x<n-(d+1) then f (n-(d+1))*(((n-(d+1):Nat):Int):Rat) else 0):=rfl
   rw[e1] at ih
   show upM f n d+f (n-(d+1))*(((n-(d+1):Nat):Int):Rat)+_=_
   by_cases h:x<n-(d+1)
   ·rw[if_pos h] at ih
    grind
   ·omega
 have:=key j (by omega)
 rw[show n-j=x+1 by omega] at this
 rw[← this]
 have z:sgR (fun k=>if x<k then f k*((k:Int):Rat) else 0) (x+1)=0:=zni _ x (fun k hk=>if_neg (by omega))
 rw[z];grind)
theorem zwk (f:Nat→Rat) (a b:Nat) (h:a≤b) (hz:∀ k,a≤k→f k=0):sgR f b=sgR f a:=by
 have:=zqv f a (b-a) hz
 rwa [show a+(b-a)=b by omega] at this
theorem zjr (a b:Nat→Rat) (na nb n x:Nat) (g:Nat→Rat) (hn:n=max na nb) (ha:∀ k,na≤k→a k=0) (hb:∀ k,nb≤k→b k=0) :
   sgR (fun k=>if x<k then (a k-b k)*g k else 0) n=sgR (fun k=>if x<k then a k*g k else 0) na-sgR (fun k=>if x<k then b k*g k else 0) nb:=by(
 rw[← zwk (fun k=>if x<k then a k*g k else 0) na n (by omega) (fun k hk=>by simp only[ha k hk,Rat.zero_mul,ite_self]),← zwk (fun k=>if x<k then b k*g k else 0) nb n (by omega) (fun k hk=>by simp only[hb k hk,Rat.zero_mul,ite_self]),← zot]
 refine uo _ _ _ (fun k _=>?_)
 show (if x<k then (a k-b k)*g k else 0)=(if x<k then a k*g k else 0)-(if x<k then b k*g k else 0)
 split
 ·grind
 ·grind)
def qbp (a b:Nat→Rat) (i k:Nat):Rat:=if sgR a i<sgR b k then sgR b k else sgR a i
def zsq (a b:Nat→Rat) (i k:Nat):Rat:=if sgR b (k+1)<sgR a (i+1) then sgR b (k+1) else sgR a (i+1)
def zlj (a b:Nat→Rat) (i k:Nat):Rat:=if zsq a b i k-qbp a b i k<0 then 0 else zsq a b i k-qbp a b i k
def uh (s u v:Rat):Rat:=if v≤(if s<u then u else s) then 0 else v-(if s<u then u else s)
theorem zxv (s c u v:Rat) (hc:0≤c) (huv:u≤v):uh u s (s+c)-xu (uh u s (s+c)) (uh s u v)=uh v s (s+c):=by(
 unfold uh xu
 by_cases h1:u<s
 ·(
 by_cases h2:v<s
 ·grind
 ·by_cases h3:s+c≤v
  ·grind
  ·grind)
 ·by_cases h3:s+c≤v
  ·grind
  ·grind)
theorem zxw (s c u v:Rat) (hc:0≤c) (huv:u≤v):uh s u v-xu (uh u s (s+c)) (uh s u v)=uh (s+c) u v:=by(
 unfold uh xu
 by_cases h1:u<s
 ·(
 by_cases h2:v<s
 ·grind
 ·by_cases h3:s+c≤v
  ·grind
  ·grind)
 ·by_cases h3:s+c≤v
  ·grind
  ·grind)
theorem zkv (a:Nat→Rat) (ha:∀ k,0≤a k) (n:Nat):0≤sgR a n:=zgd a n (fun k _=>ha k)
theorem zpo (L b:Nat→Rat) (s c:Rat) (hs:0≤s) (hb:∀ k,0≤b k) (hc:0≤c) (hL:∀ k,L k=uh s (sgR b k) (sgR b (k+1))):∀ k,tkC L c k=uh (sgR b k) s (s+c)
 | 0=>by
  show c=uh 0 s (s+c)
  unfold uh
  grind
 | k+1=>by
  show tkC L c k-xu (tkC L c k) (L k)=_
  rw[zpo L b s c hs hb hc hL k,hL k]
  have e:sgR b (k+1)=sgR b k+b k:=rfl
  have h:=hb k
  exact zxv s c (sgR b k) (sgR b (k+1)) hc (by rw[e];grind)
theorem zma (a b:Nat→Rat) (ha:∀ k,0≤a k) (hb:∀ k,0≤b k):∀ i k,mi a b i k=uh (sgR a i) (sgR b k) (sgR b (k+1))
 | 0,k=>by
  show b k=uh 0 (sgR b k) (sgR b k+b k)
  have h1:=zkv b hb k
  have h2:=hb k
  unfold uh
  grind
 | i+1,k=>by
  have ih:=zma a b ha hb i
  have e:sgR a (i+1)=sgR a i+a i:=rfl
  have e2:sgR b (k+1)=sgR b k+b k:=rfl
  have h:=hb k
  show mi a b i k-xu (tkC (mi a b i) (a i) k) (mi a b i k)=_
  rw[zpo (mi a b i) b (sgR a i) (a i) (zkv a ha i) hb (ha i) ih k,ih k,e]
  exact zxw (sgR a i) (a i) (sgR b k) (sgR b (k+1)) (ha i) (by rw[e2];grind)
theorem qcx (a b:Nat→Rat) (ha:∀ k,0≤a k) (hb:∀ k,0≤b k) (i k:Nat):qid a b i k=zlj a b i k:=by(
 show xu (tkC (mi a b i) (a i) k) (mi a b i k)=_
 rw[zpo (mi a b i) b (sgR a i) (a i) (zkv a ha i) hb (ha i) (zma a b ha hb i) k,zma a b ha hb i k]
 unfold zlj zsq qbp uh xu
 have e:sgR a (i+1)=sgR a i+a i:=rfl
 have e2:sgR b (k+1)=sgR b k+b k:=rfl
 have h1:=ha i
 have h2:=hb k
 rw[e,e2]
 generalize sgR a i=s at *
 generalize sgR b k=u at *
 generalize a i=c at *
 generalize b k=d at *
 clear e e2 ha hb
 by_cases h3:s<u
 ·by_cases h4:u+d<s+c
  ·grind
  ·grind
 ·by_cases h4:u+d<s+c
  ·grind
  ·grind)
end Go.Proofs.YtagmkkiagjmimaaGreatDoor
