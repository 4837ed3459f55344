/- The leading bits of numbers and of their -/
import Derived.Test.YtlckjpelcmjimaaGreatDoorKPN19
namespace Go.Proofs.YtlckjpelcmjimaaGreatDoor
open Go.RowKit
set_option maxHeartbeats 4000000
set_option maxRecDepth 100000
structure Lead (X x N:Nat):Prop where
 lo:9223372036854775808≤x
 hi:x < 18446744073709551616
 ge:x*2^N≤X*9223372036854775808
 lt:X*9223372036854775808<(x+1)*2^N
theorem pow63 (k:Nat) (h:k≤63):2^k*2^(63-k)=9223372036854775808:=by
 rw [← Nat.pow_add,show k+(63-k)=63 from by omega]
theorem lead_one (t k:Nat) (hk:k≤63) (h1:9223372036854775808≤t*2^k) (h2:t*2^k < 18446744073709551616):Lead t (t*2^k) (63-k):=by
 have hp:0<2^(63-k):=Nat.pow_pos (by omega)
 refine ⟨h1,h2,?_,?_⟩
 ·rw [Nat.mul_assoc,pow63 k hk];omega
 ·rw [Nat.add_mul,Nat.mul_assoc,pow63 k hk];omega
theorem lead_more (X R P m s t k:Nat) (hP:P=18446744073709551616^m) (hX:X=R+P*(s + 18446744073709551616*t)) (hR:R<P) (hs:s < 18446744073709551616) (hk:k≤63) (h1:9223372036854775808≤t*2^k) (h2:t*2^k < 18446744073709551616) :
  Lead X (t*2^k+s/2^(64-k)) (64*(m+1)+63-k)∧s/2^(64-k)<2^k:=by
 have hB:18446744073709551616=2^(64-k)*2^k:=by rw [← Nat.pow_add,show 64-k+k=64 from by omega]
 have hK:0<2^k:=Nat.pow_pos (by omega)
 have hQ:0<2^(64-k):=Nat.pow_pos (by omega)
 have hu:s/2^(64-k)<2^k:=by rw [Nat.div_lt_iff_lt_mul hQ,Nat.mul_comm,← hB];exact hs
 have hd:=Nat.div_add_mod s (2^(64-k))
 have hr:=Nat.mod_lt s hQ
 have e63:=pow63 k hk
 have hN:2^(64*(m+1)+63-k)=P * 18446744073709551616*2^(63-k):=by
  rw [hP,show 64*(m+1)+63-k=64*m+64+(63-k) from by omega,Nat.pow_add,Nat.pow_add,Nat.pow_mul]
 have hz:0<2^(63-k):=Nat.pow_pos (by omega)
 generalize hu1:s/2^(64-k)=u at *
 generalize s%2^(64-k)=r at *
 generalize 64*(m+1)+63-k=N at *
 generalize 2^(63-k)=z at *
 generalize 2^(64-k)=Q at *
 generalize 2^k=K at *
 have htQ:t<Q:=by rw [hB] at h2;exact Nat.lt_of_mul_lt_mul_right h2
 have hx:t*K+u < 18446744073709551616:=by
  have:(t+1)*K≤Q*K:=Nat.mul_le_mul_right _ htQ
  rw [← hB,Nat.add_mul] at this;omega
 have eX:X*K=R*K+P*((t*K+u) * 18446744073709551616+r*K):=by rw [hX,← hd,hB];grind
 have hrK:r*K+K≤18446744073709551616:=by
  have:(r+1)*K≤Q*K:=Nat.mul_le_mul_right _ hr
  rw [← hB,Nat.add_mul] at this;omega
 have hRK:R*K<P*K:=Nat.mul_lt_mul_of_pos_right hR hK
 have g1:(t*K+u)*(P * 18446744073709551616)≤X*K:=by
  rw [eX]
  have:P*((t*K+u) * 18446744073709551616)≤P*((t*K+u) * 18446744073709551616+r*K):=Nat.mul_le_mul_left _ (by omega)
  have e:(t*K+u)*(P * 18446744073709551616)=P*((t*K+u) * 18446744073709551616):=by grind
  omega
 have g2:X*K<(t*K+u+1)*(P * 18446744073709551616):=by
  rw [eX]
  have h3:P*((t*K+u) * 18446744073709551616+r*K+K)≤P*((t*K+u) * 18446744073709551616 + 18446744073709551616):=Nat.mul_le_mul_left _ (by omega)
  have e:(t*K+u+1)*(P * 18446744073709551616)=P*((t*K+u) * 18446744073709551616 + 18446744073709551616):=by grind
  have e2:P*((t*K+u) * 18446744073709551616+r*K+K)=P*((t*K+u) * 18446744073709551616+r*K)+P*K:=by grind
  omega
 refine ⟨⟨by omega,hx,?_,?_⟩,hu⟩
 ·rw [hN,← e63,← Nat.mul_assoc X,← Nat.mul_assoc (t*K+u)];exact Nat.mul_le_mul_right _ g1
 ·rw [hN,← e63,← Nat.mul_assoc X,← Nat.mul_assoc (t*K+u+1)];exact Nat.mul_lt_mul_of_pos_right g2 hz
structure LeadP (Z p K:Nat):Prop where
 lo:9223372036854775808≤p
 hi:p < 18446744073709551616
 ge:p*2^K≤Z*85070591730234615865843651857942052864
 lt:Z*85070591730234615865843651857942052864<(p+8)*2^K
theorem lead_mul' (A C x y n m z:Nat) (h1:x*n≤A*z) (h2:A*z<(x+1)*n) (g1:y*m≤C*z) (g2:C*z<(y+1)*m):x*y*(n*m)≤A*C*(z*z)∧A*C*(z*z)<(x+1)*(y+1)*(n*m):=by
 have h1:=Nat.mul_le_mul h1 g1
 have h2:=Nat.mul_lt_mul'' h2 g2
 constructor
 ·have e1:x*n*(y*m)=x*y*(n*m):=by grind
  have e2:A*z*(C*z)=A*C*(z*z):=by grind
  rw [← e1,← e2];exact h1
 ·have e1:(x+1)*n*((y+1)*m)=(x+1)*(y+1)*(n*m):=by grind
  have e2:A*z*(C*z)=A*C*(z*z):=by grind
  rw [← e1,← e2];exact h2
theorem lead_mul {A C x y N M:Nat} (h:Lead A x N) (g:Lead C y M):x*y*2^(N+M)≤A*C*85070591730234615865843651857942052864∧A*C*85070591730234615865843651857942052864<(x+1)*(y+1)*2^(N+M):=by
 have e:=lead_mul' A C x y _ _ _ h.ge h.lt g.ge g.lt
 rw [← Nat.pow_add] at e
 exact e
theorem lead_prod {A C x y N M:Nat} (h:Lead A x N) (g:Lead C y M):85070591730234615865843651857942052864≤x*y∧(x+1)*(y+1)≤x*y + 18446744073709551616 + 18446744073709551616:=by
 have h1:=h.hi
 have h2:=g.hi
 have h3:=Nat.mul_le_mul h.lo g.lo
 have e:(x+1)*(y+1)=x*y+x+y+1:=by grind
 refine ⟨h3,?_⟩
 rw [e]
 generalize x*y=u
 omega
theorem high_facts (u v:Nat) (hv:v≤u + 18446744073709551616 + 18446744073709551616):u / 18446744073709551616 * 18446744073709551616≤u∧v≤(u / 18446744073709551616+8) * 18446744073709551616:=⟨by omega,by omega⟩
theorem low_facts (u v:Nat) (hv:v≤u + 18446744073709551616 + 18446744073709551616):u/9223372036854775808*9223372036854775808≤u∧v≤(u/9223372036854775808+8)*9223372036854775808:=⟨by omega,by omega⟩
theorem low_eq (u:Nat):u / 18446744073709551616*2+u % 18446744073709551616/9223372036854775808=u/9223372036854775808:=by omega
theorem low_bounds (u:Nat) (h1:85070591730234615865843651857942052864≤u) (h2:u / 18446744073709551616<9223372036854775808):9223372036854775808≤u/9223372036854775808∧u/9223372036854775808 < 18446744073709551616:=by
 constructor
 ·rw [Nat.le_div_iff_mul_le (by omega)];exact h1
 ·omega
theorem leadP_high {A C x y N M:Nat} (h:Lead A x N) (g:Lead C y M) (hh:9223372036854775808≤x*y / 18446744073709551616):LeadP (A*C) (x*y / 18446744073709551616) (N+M+64):=by
 obtain ⟨a1,a2⟩:=lead_mul h g
 obtain ⟨b1,b3⟩:=lead_prod h g
 have b4:x*y / 18446744073709551616 < 18446744073709551616:=by rw [Nat.div_lt_iff_lt_mul (by omega)];exact Nat.mul_lt_mul'' h.hi g.hi
 obtain ⟨c1,c2⟩:=high_facts _ _ b3
 have e64:2^(N+M+64)=18446744073709551616*2^(N+M):=by rw [Nat.pow_add,Nat.mul_comm]
 refine ⟨hh,b4,?_,?_⟩
 ·rw [e64,← Nat.mul_assoc];exact Nat.le_trans (Nat.mul_le_mul_right _ c1) a1
 ·rw [e64,← Nat.mul_assoc];exact Nat.lt_of_lt_of_le a2 (Nat.mul_le_mul_right _ c2)
theorem leadP_low {A C x y N M:Nat} (h:Lead A x N) (g:Lead C y M) (hh:x*y / 18446744073709551616<9223372036854775808):LeadP (A*C) (x*y / 18446744073709551616*2+x*y % 18446744073709551616/9223372036854775808) (N+M+63):=by
 obtain ⟨a1,a2⟩:=lead_mul h g
 obtain ⟨b1,b3⟩:=lead_prod h g
 obtain ⟨c1,c2⟩:=low_facts _ _ b3
 obtain ⟨d1,d2⟩:=low_bounds _ b1 hh
 have e64:2^(N+M+63)=9223372036854775808*2^(N+M):=by rw [Nat.pow_add,Nat.mul_comm]
 rw [low_eq]
 refine ⟨d1,d2,?_,?_⟩
 ·rw [e64,← Nat.mul_assoc];exact Nat.le_trans (Nat.mul_le_mul_right _ c1) a1
 ·rw [e64,← Nat.mul_assoc];exact Nat.lt_of_lt_of_le a2 (Nat.mul_le_mul_right _ c2)
theorem leadP_far {Z Z' p q K M:Nat} (h:LeadP Z p K) (g:LeadP Z' q M) (hk:M+1<K):Z' < Z:=by
 refine Nat.lt_of_mul_lt_mul_right (a:=85070591730234615865843651857942052864) (Nat.lt_of_lt_of_le g.lt (Nat.le_trans ?_ h.ge))
 have h1:2^(M+2)≤2^K:=Nat.pow_le_pow_right (by omega) (by omega)
 rw [Nat.pow_add] at h1
 have h2:p*(2^M*2^2)≤p*2^K:=Nat.mul_le_mul_left _ h1
 have h3:=h.lo
 have h4:=g.hi
 refine Nat.le_trans ?_ h2
 rw [Nat.mul_comm (2^M),← Nat.mul_assoc]
 exact Nat.mul_le_mul_right _ (by omega)
theorem leadP_near {Z Z' p q K:Nat} (h:LeadP Z p K) (g:LeadP Z' q K) (hk:q+8≤p):Z' < Z:=by
 refine Nat.lt_of_mul_lt_mul_right (a:=85070591730234615865843651857942052864) (Nat.lt_of_lt_of_le g.lt (Nat.le_trans ?_ h.ge))
 exact Nat.mul_le_mul_right _ hk
def leadW (X:Nat):Nat:=topW X*2^lz (topW X)+(if (wd 18446744073709551616 X).length≤1 then 0 else (wd 18446744073709551616 X)[(wd 18446744073709551616 X).length-2]?.getD 0/2^(64-lz (topW X)))
def leadN (X:Nat):Nat:=64*((wd 18446744073709551616 X).length-1)+63-lz (topW X)
theorem lead_ok (X:Nat) (h:0<X):Lead X (leadW X) (leadN X):=by
 obtain ⟨t1,t2,-,-⟩:=top_pos X h
 obtain ⟨l1,l2,l3,-⟩:=lz_facts (topW X) t1 t2
 have hl:0<(wd 18446744073709551616 X).length:=by rw [Nat.pos_iff_ne_zero];intro e;rw [wd_len_zero (by omega)] at e;omega
 unfold leadW leadN
 by_cases h1:(wd 18446744073709551616 X).length≤1
 ·have hX:X < 18446744073709551616:=by
   have:=ak (B:=18446744073709551616) (by omega) X 1 h1
   rw [Nat.pow_one] at this;exact this
  have e:topW X=X:=by unfold topW;rw [wd_word X h hX];rfl
  rw [if_pos h1,Nat.add_zero,show (wd 18446744073709551616 X).length-1=0 from by omega,Nat.mul_zero,Nat.zero_add]
  rw [e] at l1 l2 l3 ⊢
  exact lead_one X _ l1 l3 l2
 ·rw [if_neg h1]
  obtain ⟨m,hm⟩:∃ m,(wd 18446744073709551616 X).length=m+2:=⟨(wd 18446744073709551616 X).length-2,by omega⟩
  have e2:=vl_take_lt (wd 18446744073709551616 X) m (by omega) (wd_mem (by omega) X)
  have e3:=bi (wd_mem (B:=18446744073709551616) (by omega) X) (by omega:0 < 18446744073709551616) m
  have e4:=vl_split 18446744073709551616 (wd 18446744073709551616 X) m (by omega)
  have e5:=vl_drop 18446744073709551616 (wd 18446744073709551616 X) (m+1) (by omega)
  rw [List.drop_eq_nil_of_le (by omega:(wd 18446744073709551616 X).length≤m+1+1)] at e5
  rw [vl_wd (by omega),e5] at e4
  rw [show (wd 18446744073709551616 X)[m+1]?.getD 0=topW X from by unfold topW;rw [hm];rfl] at e4
  rw [show (wd 18446744073709551616 X).length-2=m from by omega,show (wd 18446744073709551616 X).length-1=m+1 from by omega]
  simp only [vl,Nat.mul_zero,Nat.add_zero] at e4
  exact (lead_more X _ _ m _ (topW X) (lz (topW X)) rfl e4 e2 e3 l1 l3 l2).1
theorem leading_any (v:Value) (X:Nat) (hX:0<X) (w:World) (hv:Sl .u64 w v (wd 18446744073709551616 X)) (hl:(wd 18446744073709551616 X).length<134217728) (x:Nat) (N:Int) (hx:Hid (x=leadW X)) (hN:Hid (N=(leadN X:Int)-63)) :
  Calls Tryz.prog 200 #[v] w fun e w'=>e=.returned (.tuple #[.int .u64 (x:Int),.int .i64 N])∧w'=w:=by
 obtain ⟨t1,t2,-,-⟩:=top_pos X hX
 obtain ⟨hs,l2,l3,-⟩:=lz_facts (topW X) t1 t2
 have LZ:=af (fun W=>lead_any (topW X) t1 t2 W)
 rcases hv.open with ⟨e,-⟩ | ⟨hp,b,o,c,rfl,hc,-,hcell⟩
 ·rw [wd_nil_iff (by omega)] at e;omega
 have hct:=hcell ((wd 18446744073709551616 X).length-1) (by omega)
 rw [show (wd 18446744073709551616 X)[(wd 18446744073709551616 X).length-1]?.getD 0=topW X from rfl] at hct
 have E0:IntKind.u64.wrap (((topW X:Nat):Int)*2^lz (topW X))=((topW X*2^lz (topW X):Nat):Int):=by
  have e:((topW X:Nat):Int)*2^lz (topW X)=((topW X*2^lz (topW X):Nat):Int):=by simp
  rw [e,IntKind.wrap_u64];omega
 unfold leadW at hx
 unfold leadN at hN
 by_cases h1:(wd 18446744073709551616 X).length≤1
 ·have hl1:(wd 18446744073709551616 X).length=1:=by omega
  rw [if_pos h1,Nat.add_zero] at hx
  rw [hl1] at hct hN ⊢
  rw [Nat.sub_self,Nat.add_zero] at hct
  have hNN:Hid (N=-((lz (topW X):Nat):Int)):=by
   show _=_;rw [ae hN];omega
  clear hcell hN hv
  generalize topW X*2^lz (topW X)=y at *
  generalize lz (topW X)=s at *
  generalize topW X=t at *
  have HX:x=y:=ae hx
  subst HX
  have HN:N=-(s:Int):=ae hNN
  subst HN
  go_enter Tryz.func200,Tryz.ntmps200
  go_wp2_with fail
  refine (ae LZ _).mono ?_
  rintro e w1 ⟨rfl,hw⟩
  obtain rfl:=hw.symm
  clear hw
  go_wp2
  go_ret2
  exact ⟨rfl,rfl⟩
 ·rw [if_neg h1] at hx
  have hc2:=hcell ((wd 18446744073709551616 X).length-2) (by omega)
  have e3:=bi (wd_mem (B:=18446744073709551616) (by omega) X) (by omega:0 < 18446744073709551616) ((wd 18446744073709551616 X).length-2)
  generalize (wd 18446744073709551616 X)[(wd 18446744073709551616 X).length-2]?.getD 0=y at *
  have hu:y/2^(64-lz (topW X))<2^lz (topW X):=by
   have hB:18446744073709551616=2^(64-lz (topW X))*2^lz (topW X):=by rw [← Nat.pow_add,show 64-lz (topW X)+lz (topW X)=64 from by omega]
   rw [Nat.div_lt_iff_lt_mul (Nat.pow_pos (by omega)),Nat.mul_comm,← hB];exact e3
  have hub:y/2^(64-lz (topW X)) < 18446744073709551616:=Nat.lt_of_le_of_lt (Nat.div_le_self _ _) e3
  have hor:topW X*2^lz (topW X) ||| y/2^(64-lz (topW X))=topW X*2^lz (topW X)+y/2^(64-lz (topW X)):=by
   rw [Nat.mul_comm,Nat.two_pow_add_eq_or_of_lt hu]
  have E1:bits .or .u64 ((topW X*2^lz (topW X):Nat):Int) ((y/2^(64-lz (topW X)):Nat):Int)=((topW X*2^lz (topW X)+y/2^(64-lz (topW X)):Nat):Int):=by
   rw [bits_or_u64_nat _ _ l2 hub,hor]
  have E2:((y:Nat):Int)/2^(64-lz (topW X))=((y/2^(64-lz (topW X)):Nat):Int):=by simp
  have E3:(64-((lz (topW X):Nat):Int)).toNat=64-lz (topW X):=by omega
  clear hcell hv hor hu
  generalize topW X*2^lz (topW X)+y/2^(64-lz (topW X))=z at *
  generalize y/2^(64-lz (topW X))=q at *
  generalize topW X*2^lz (topW X)=p at *
  generalize lz (topW X)=s at *
  generalize topW X=t at *
  generalize (wd 18446744073709551616 X).length=n at *
  have HX:x=z:=ae hx
  subst HX
  have HN:N=((n:Int)-1)*64-s:=by rw [ae hN];omega
  subst HN
  obtain ⟨m,rfl⟩:∃ m,n=m+2:=⟨n-2,by omega⟩
  rw [show m+2-1=m+1 from rfl] at hct
  rw [show m+2-2=m from rfl] at hc2
  have hm0:(0:Int)≤(m:Int):=by omega
  clear hx hN
  go_enter Tryz.func200,Tryz.ntmps200
  go_wp2_with fail
  refine (ae LZ _).mono ?_
  rintro e w1 ⟨rfl,hw⟩
  obtain rfl:=hw.symm
  clear hw
  go_wp2
  go_ret2
  refine ⟨?_,rfl⟩
  go_num
def prodW (A C:Nat):Nat:=if leadW A*leadW C / 18446744073709551616<9223372036854775808 then leadW A*leadW C / 18446744073709551616*2+leadW A*leadW C % 18446744073709551616/9223372036854775808 else leadW A*leadW C / 18446744073709551616
def prodK (A C:Nat):Nat:=if leadW A*leadW C / 18446744073709551616<9223372036854775808 then leadN A+leadN C+63 else leadN A+leadN C+64
theorem prod_ok (A C:Nat) (hA:0<A) (hC:0<C):LeadP (A*C) (prodW A C) (prodK A C):=by
 have h:=lead_ok A hA
 have g:=lead_ok C hC
 unfold prodW prodK
 split
 ·exact leadP_low h g (by assumption)
 ·exact leadP_high h g (by omega)
theorem leadN_le (X:Nat) (n:Nat) (h:(wd 18446744073709551616 X).length<n):leadN X≤64*n:=by unfold leadN;omega
theorem prodK_le (A C n:Nat) (hA:(wd 18446744073709551616 A).length<n) (hC:(wd 18446744073709551616 C).length<n):prodK A C≤128*n+64:=by
 have h1:=leadN_le A n hA
 have h2:=leadN_le C n hC
 unfold prodK
 split <;> omega
theorem leadingProduct_any (va vc:Value) (A C:Nat) (hA:0<A) (hC:0<C) (w:World) (ha:Sl .u64 w va (wd 18446744073709551616 A)) (hc:Sl .u64 w vc (wd 18446744073709551616 C)) (hla:(wd 18446744073709551616 A).length<134217728) (hlc:(wd 18446744073709551616 C).length<134217728) (p:Nat) (K:Int) (hp:Hid (p=prodW A C)) (hK:Hid (K=(prodK A C:Int)-126)) :
  Calls Tryz.prog 186 #[va,vc] w fun e w'=>e=.returned (.tuple #[.int .u64 (p:Int),.int .i64 K])∧w'=w:=by
 have LA:=af (leading_any va A hA w ha hla (leadW A) ((leadN A:Int)-63) rfl rfl)
 have LC:=af (leading_any vc C hC w hc hlc (leadW C) ((leadN C:Int)-63) rfl rfl)
 have ba:=(lead_ok A hA).hi
 have bc:=(lead_ok C hC).hi
 have na:=leadN_le A _ hla
 have nc:=leadN_le C _ hlc
 have MU:=af (fun W=>Tryz.bits_Mul64 (leadW A) (leadW C) ba bc W)
 have hzB:leadW A*leadW C / 18446744073709551616 < 18446744073709551616:=by rw [Nat.div_lt_iff_lt_mul (by omega)];exact Nat.mul_lt_mul'' ba bc
 have hzL:leadW A*leadW C % 18446744073709551616 < 18446744073709551616:=Nat.mod_lt _ (by omega)
 unfold prodW at hp
 unfold prodK at hK
 obtain ⟨aa,ca,rfl,-,-⟩:=ha
 obtain ⟨ac,cc,rfl,-,-⟩:=hc
 generalize (wd 18446744073709551616 A).length=la at *
 generalize (wd 18446744073709551616 C).length=lc at *
 generalize leadW A*leadW C / 18446744073709551616=hi at *
 generalize leadW A*leadW C % 18446744073709551616=lo at *
 generalize leadW A=x at *
 generalize leadW C=y at *
 generalize leadN A=n at *
 generalize leadN C=m at *
 by_cases hh:hi<9223372036854775808
 ·rw [if_pos hh] at hp hK
  have d1:((hi:Int)/9223372036854775808==0)=true:=beq_iff_eq.2 (by omega)
  have hor:bits .or .u64 ((hi*2:Nat):Int) ((lo/9223372036854775808:Nat):Int)=((hi*2+lo/9223372036854775808:Nat):Int):=by
   rw [bits_or_u64_nat _ _ (by omega) (by omega)]
   have:=Nat.two_pow_add_eq_or_of_lt (i:=1) (b:=lo/9223372036854775808) (by omega) hi
   rw [Nat.pow_one,Nat.mul_comm] at this
   rw [this]
  have e1:IntKind.u64.wrap ((hi:Int)*2)=((hi*2:Nat):Int):=by rw [IntKind.wrap_u64];omega
  have e2:(lo:Int)/9223372036854775808=((lo/9223372036854775808:Nat):Int):=by simp
  generalize hi*2+lo/9223372036854775808=z at *
  generalize lo/9223372036854775808=z2 at *
  generalize hi*2=z1 at *
  have HP:p=z:=ae hp
  subst HP
  have HK:K=(n:Int)+m-63:=by rw [ae hK];omega
  subst HK
  clear hp hK
  go_enter Tryz.func186,Tryz.ntmps186
  go_wp2_with fail
  refine (ae LA).mono ?_
  rintro e w1 ⟨rfl,hw⟩
  obtain rfl:=hw.symm
  clear hw
  go_wp2_with fail
  refine (ae LC).mono ?_
  rintro e w1 ⟨rfl,hw⟩
  obtain rfl:=hw.symm
  clear hw
  go_wp2_with fail
  refine (ae MU _).mono ?_
  rintro e w1 ⟨rfl,hw⟩
  obtain rfl:=hw.symm
  clear hw
  go_wp2
  go_ret2
  refine ⟨?_,rfl⟩
  go_num
 ·rw [if_neg hh] at hp hK
  have d1:((hi:Int)/9223372036854775808==0)=false:=beq_eq_false_iff_ne.2 (by omega)
  have HP:p=hi:=ae hp
  subst HP
  have HK:K=(n:Int)+m-62:=by rw [ae hK];omega
  subst HK
  clear hp hK
  go_enter Tryz.func186,Tryz.ntmps186
  go_wp2_with fail
  refine (ae LA).mono ?_
  rintro e w1 ⟨rfl,hw⟩
  obtain rfl:=hw.symm
  clear hw
  go_wp2_with fail
  refine (ae LC).mono ?_
  rintro e w1 ⟨rfl,hw⟩
  obtain rfl:=hw.symm
  clear hw
  go_wp2_with fail
  refine (ae MU _).mono ?_
  rintro e w1 ⟨rfl,hw⟩
  obtain rfl:=hw.symm
  clear hw
  go_wp2
  go_ret2
  refine ⟨?_,rfl⟩
  go_num
def Digits (ds:List UInt8):Prop:=∀ d ∈ ds,48≤d.toNat∧d.toNat≤57
def dval (ds:List UInt8):Nat:=ds.foldl (fun n d=>n*10+(d.toNat-48)) 0
theorem dval_from (ds:List UInt8):∀ n:Nat,ds.foldl (fun n d=>n*10+(d.toNat-48)) n=n*10^ds.length+dval ds:=by
 induction ds with
 | nil=>intro n;simp [dval]
 | cons d ds ih =>
  intro n
  unfold dval
  rw [List.foldl_cons,List.foldl_cons,ih,ih (0*10+(d.toNat-48)),List.length_cons,Nat.pow_succ]
  generalize 10^ds.length=P
  generalize dval ds=D
  grind
theorem dval_append (xs ys:List UInt8):dval (xs++ys)=dval xs*10^ys.length+dval ys:=by
 show (xs++ys).foldl (fun n d=>n*10+(d.toNat-48)) 0=_
 rw [List.foldl_append,dval_from]
 rfl
theorem dval_snoc (xs:List UInt8) (d:UInt8):dval (xs++[d])=dval xs*10+(d.toNat-48):=by
 rw [dval_append]
 simp [dval]
theorem dval_cons (d:UInt8) (ds:List UInt8):dval (d::ds)=(d.toNat-48)*10^ds.length+dval ds:=by
 have h:=dval_append [d] ds
 rw [List.singleton_append] at h
 rw [h]
 simp [dval]
theorem dval_lt:∀ {ds:List UInt8},Digits ds→dval ds<10^ds.length
 | [],_=>by simp [dval]
 | d::ds,h=>by
  have h1:=dval_lt (ds:=ds) (fun x hx=>h x (by simp [hx]))
  have h2:=h d (by simp)
  have h3:(d.toNat-48)*10^ds.length≤9*10^ds.length:=Nat.mul_le_mul_right _ (by omega)
  rw [dval_cons,List.length_cons,Nat.pow_succ]
  omega
theorem dig_byte (k:Nat) (h:k<10):(UInt8.ofNat (48+k)).toNat=48+k:=UInt8.toNat_ofNat_of_lt' (by simp [UInt8.size];omega)
theorem dec_digits (n:Nat):Digits (Lib.decDigits n)∧dval (Lib.decDigits n)=n∧0<(Lib.decDigits n).length:=by
 induction n using Nat.strongRecOn with
 | _ n ih =>
  rw [Lib.decDigits]
  by_cases h10:n<10
  ·rw [dif_pos h10]
   have e:=dig_byte n h10
   refine ⟨fun d hd=>?_,?_,by simp⟩
   ·rw [List.mem_singleton] at hd
    rw [hd,e]
    omega
   ·show 0*10+((UInt8.ofNat (48+n)).toNat-48)=n
    rw [e]
    omega
  ·rw [dif_neg h10]
   obtain ⟨h1,h2,h3⟩:=ih (n/10) (Nat.div_lt_self (by omega) (by omega))
   have e:=dig_byte (n%10) (Nat.mod_lt _ (by omega))
   refine ⟨fun d hd=>?_,?_,by simp⟩
   ·rcases List.mem_append.1 hd with hd | hd
    ·exact h1 d hd
    ·rw [List.mem_singleton] at hd
     rw [hd,e]
     omega
   ·rw [dval_snoc,h2,e]
    omega
theorem take_dval {es:List UInt8} {j:Nat} (hd:Digits es) (hj:j<es.length):dval (es.take (j+1))=dval (es.take j)*10+((es[j]?.getD 0).toNat-48)∧dval (es.take j)<10^j∧48≤(es[j]?.getD 0).toNat∧(es[j]?.getD 0).toNat≤57:=by
 have h1:es.take (j+1)=es.take j++[es[j]?.getD 0]:=by
  rw [List.getElem?_eq_getElem hj,Option.getD_some,List.take_succ_eq_append_getElem hj]
 have h2:=dval_lt (ds:=es.take j) (fun x hx=>hd x (List.mem_of_mem_take hx))
 rw [List.length_take,Nat.min_eq_left (by omega)] at h2
 have h3:=hd (es[j]?.getD 0) (by rw [List.getElem?_eq_getElem hj,Option.getD_some];exact List.getElem_mem hj)
 exact ⟨by rw [h1,dval_snoc],h2,h3.1,h3.2⟩
theorem byte_at {t:ByteArray} {es:List UInt8} (ht:t.data.toList=es) (j:Nat) (hj:j<es.length) (T:TypeId) (hT:Tryz.prog.underlying T=some .string) (w:World):(Instr.index T (.string t) (.int .i64 (j:Int))).run Tryz.prog w=.ok (.int .u8 (((es[j]?.getD 0).toNat:Nat):Int)) w:=by
 subst ht
 have hs:j<t.size:=by simpa using hj
 rw [run_index_string w T t .i64 (j:Int) hT,dif_pos ⟨by omega,by omega⟩]
 have e:(t[((j:Int)).toNat]'(by simpa using hs))=t.data.toList[j]?.getD 0:=by
  rw [List.getElem?_eq_getElem hj,Option.getD_some]
  simp
  rfl
 simp only [e]
theorem extract_drop (t:ByteArray) (j:Nat):(t.extract j t.size).data.toList=t.data.toList.drop j:=by
 rw [ByteArray.data_extract,Array.toList_extract,List.extract_eq_take_drop,List.take_of_length_le]
 rw [List.length_drop]
 simp
structure ReadInv (w:World) (ds:List UInt8) (k:Nat) (t:ByteArray) (vo:Value) (wr:World):Prop where
 left:t.data.toList=ds.drop k
 le:k≤ds.length
 num:Sl .u64 wr vo (wd 18446744073709551616 (dval (ds.take k)))
 but:But [] w wr
theorem natRead_any (t:ByteArray) (ds:List UInt8) (w:World) (ht:t.data.toList=ds) (hd:Digits ds) (hl:ds.length<1000000) :
  Calls Tryz.prog 220 #[.string t] w fun e w'=>∃ v',e=.returned v'∧Sl .u64 w' v' (wd 18446744073709551616 (dval ds))∧But [] w w':=by
 have HD:=af hd
 have HT:=af ht
 clear hd ht
 go_enter Tryz.func220,Tryz.ntmps220
 go_wp2
 go_loopg [0,3] ds.length (fun m s o wr=>∃ (t:ByteArray),s=.string t∧Hid (ReadInv w ds (ds.length-m) t o wr)∧m≤ds.length∧t.size=m)
 case atStart=>exact ⟨t,rfl,⟨by rw [Nat.sub_self,List.drop_zero];exact ae HT,by omega,by rw [Nat.sub_self,List.take_zero];exact wd_zero 18446744073709551616 ▸ Sl.nil _ _,But.refl _ _⟩,Nat.le_refl _,by rw [← ae HT];simp⟩
 case round =>
  obtain ⟨t,rfl,HI,hm,hsz⟩:=hrel
  rename World=>wr
  have hs:((t.size:Nat):Int)=(gk:Int):=by omega
  by_cases hm0:gk=0
  ·subst hm0
   have hfin:Hid (Sl .u64 wr u3 (wd 18446744073709551616 (dval ds))∧But [] w wr):=by
    have h:=ae HI
    have h1:=h.num
    rw [Nat.sub_zero,List.take_length] at h1
    exact ⟨h1,h.but⟩
   clear HI
   go_wp2
   go_ret
   exact ⟨_,rfl,(ae hfin).1,(ae hfin).2⟩
  ·obtain ⟨c,hc⟩:∃ c,c=min gk 19:=⟨_,rfl⟩
   have hc1:0<c:=by omega
   have hc2:c≤19:=by omega
   have hc3:c≤gk:=by omega
   have hmin:min (gk:Int) 19=(c:Int):=by omega
   clear hc
   have hes:Hid (t.data.toList=ds.drop (ds.length-gk)):=(ae HI).left
   have hel:(ds.drop (ds.length-gk)).length=gk:=by rw [List.length_drop];omega
   have hed:Digits (ds.drop (ds.length-gk)):=fun d h=>ae HD d (List.mem_of_mem_drop h)
   obtain ⟨es,hese⟩:∃ es,es=ds.drop (ds.length-gk):=⟨_,rfl⟩
   rw [← hese] at hes hel hed
   have HEE:=af hese
   have HED:=af hed
   clear hese hed
   go_wp2_with fail
   go_loopw [5,6,15] (fun a b i wq=>∃ j x P:Nat,j≤c∧i=.int .i64 j∧a=.int .u64 x∧b=.int .u64 P∧x<10000000000000000000∧P≤10000000000000000000∧Hid (x=dval (es.take j)∧P=10^j)∧wq=wr) (fun _ _ i _=>c-(intOf i).toNat)
   case atStart=>exact ⟨0,0,1,by omega,rfl,rfl,rfl,by omega,by omega,⟨by simp [dval],by simp⟩,rfl⟩
   case round =>
    obtain ⟨j,x,P,hj,rfl,rfl,rfl,hx,hP,HJ,rfl⟩:=hrel
    by_cases hjc:j<c
    ·obtain ⟨d1,d2,d3,d4⟩:=take_dval (ae HED) (by omega:j<es.length)
     have hb:=fun W=>byte_at (ae hes) j (by omega) 9 Tryz.underlying9 W
     rw [← (ae HJ).1] at d1 d2
     have hp18:10^j≤10^18:=Nat.pow_le_pow_right (by omega) (by omega)
     have hpp:Hid (P*10=10^(j+1)):=by show _=_;rw [(ae HJ).2,Nat.pow_succ]
     have hP2:P≤1000000000000000000:=by rw [(ae HJ).2];exact hp18
     have hx2:x<1000000000000000000:=Nat.lt_of_lt_of_le d2 hp18
     generalize (es[j]?.getD 0).toNat=d at *
     obtain ⟨d',rfl⟩:∃ d',d=48+d':=⟨d-48,by omega⟩
     have HD1:Hid (dval (es.take (j+1))=x*10+d'):=by show _=_;rw [d1];omega
     have hd9:d'≤9:=by omega
     have e1:IntKind.u8.wrap (((48+d':Nat):Int)-48)=(d':Int):=by rw [IntKind.wrap_u8];omega
     have e2:IntKind.u64.wrap ((x:Int)*10)=((x*10:Nat):Int):=by rw [IntKind.wrap_u64];omega
     have e3:IntKind.u64.wrap (((x*10:Nat):Int)+(d':Int))=((x*10+d':Nat):Int):=by rw [IntKind.wrap_u64];omega
     have e4:IntKind.u64.wrap ((P:Int)*10)=((P*10:Nat):Int):=by rw [IntKind.wrap_u64];omega
     clear d1 d2 d3 d4 hp18
     go_wp2
     refine ⟨⟨j+1,x*10+d',P*10,by omega,by go_num,by go_num,by go_num,by omega,by omega,⟨(ae HD1).symm,ae hpp⟩,trivial⟩,?_⟩
     simp [intOf];omega
    ·have hjc':j=c:=by omega
     subst hjc'
     have hI:=ae HI
     have hnew:dval (ds.take (ds.length-gk))*P+x=dval (ds.take (ds.length-(gk-j))):=by
      have e:ds.take (ds.length-(gk-j))=ds.take (ds.length-gk)++es.take j:=by
       rw [ae HEE,show ds.length-(gk-j)=(ds.length-gk)+j from by omega,List.take_add]
      rw [e,dval_append,List.length_take,Nat.min_eq_left (by omega),← (ae HJ).1,← (ae HJ).2]
     have hlen:(wd 18446744073709551616 (dval (ds.take (ds.length-gk)))).length<1000000:=by
      have h1:=dval_lt (ds:=ds.take (ds.length-gk)) (fun x hx=>ae HD x (List.mem_of_mem_take hx))
      refine Nat.lt_of_le_of_lt (aj (B:=18446744073709551616) (by omega) _ (ds.take (ds.length-gk)).length (Nat.lt_of_lt_of_le h1 (Nat.pow_le_pow_left (by omega) _))) ?_
      rw [List.length_take]
      omega
     have hwl:∀ n,n < 18446744073709551616→(wd 18446744073709551616 n).length≤1:=fun n hn=>aj (by omega) _ _ (by rw [Nat.pow_one];exact hn)
     have hl1:=hwl P (by omega)
     have hl2:=hwl x (by omega)
     have hl3:=wd_len_mul (dval (ds.take (ds.length-gk))) P
     have MU:=af (fun (W:World) (v:Value) (hb:But [] wr W) (h:Sl .u64 W v (wd 18446744073709551616 P))=>natMul_any u3 v _ _ W (hI.num.ah hb) h (by omega))
     have AD:=af (fun (W:World) (v v2:Value) (h:Sl .u64 W v (wd 18446744073709551616 (dval (ds.take (ds.length-gk))*P))) (h2:Sl .u64 W v2 (wd 18446744073709551616 x))=>natAdd_any v v2 _ _ W h h2 (by omega) (by omega))
     rw [hnew] at AD
     have HBW:=af hI.but
     have hex:t.extract j t.size=t.extract j t.size:=rfl
     have hleft:Hid ((t.extract j t.size).data.toList=ds.drop (ds.length-(gk-j))):=by
      show _=_
      have h1:=ae hes
      rw [show ds.length-(gk-j)=(ds.length-gk)+j from by omega,← List.drop_drop,← ae HEE,← h1]
      exact extract_drop t j
     have hsz2:(t.extract j t.size).size=gk-j:=by simp [hsz]
     rw [hsz] at hleft hsz2
     clear hI hnew hlen hwl hl1 hl2 hl3 hex
     obtain ⟨oa,oc,hoe⟩:∃ a c,u3=.slice a (wd 18446744073709551616 (dval (ds.take (ds.length-gk)))).length c:=by obtain ⟨a,c,e,-,-⟩:=(ae HI).num;exact ⟨a,c,e⟩
     clear HI
     subst hoe
     generalize (wd 18446744073709551616 (dval (ds.take (ds.length-gk)))).length=on at *
     go_wp2_with fail
     refine (natOf_any P (by omega) _).mono ?_
     rintro e w1 ⟨v1,rfl,hv1,hb1,-⟩
     have H1:=af hv1
     have B1:=af hb1
     clear hv1 hb1
     go_wp2_with fail
     refine (ae MU _ v1 (ae B1) (ae H1)).mono ?_
     rintro e w2 ⟨v2,rfl,hv2,hb2,-⟩
     have H2:=af hv2
     have B2:Hid (But [] w w2):=((ae HBW).trans' (ae B1)).trans' hb2
     clear hv2 hb2
     go_wp2_with fail
     refine (natOf_any x (by omega) _).mono ?_
     rintro e w3 ⟨v3,rfl,hv3,hb3,-⟩
     have H3:=af hv3
     have H2':=af ((ae H2).ah hb3)
     have B3:Hid (But [] w w3):=(ae B2).trans' hb3
     clear hv3 hb3
     go_wp2_with fail
     refine (ae AD _ v2 v3 (ae H2') (ae H3)).mono ?_
     rintro e w4 ⟨v4,rfl,hv4,hb4⟩
     have H4:=af hv4
     have B4:Hid (But [] w w4):=(ae B3).trans' hb4
     clear hv4 hb4
     go_wp2
     go_roundg (gk-j)
     case measure=>omega
     case rel=>exact ⟨_,rfl,⟨ae hleft,by omega,ae H4,ae B4⟩,by omega,hsz2⟩
theorem digitsEnd_any (t:ByteArray) (bs ds es:List UInt8) (k:Nat) (w:World) (ht:t.data.toList=bs) (hk:bs.drop k=ds++es) (hkl:k≤bs.length) (hd:Digits ds) (he:∀ e,es.head? = some e→e.toNat<48∨57<e.toNat) (hl:bs.length<1000000) (r:Int) (hr:Hid (r=((k+ds.length:Nat):Int))) :
  Calls Tryz.prog 219 #[.string t,.int .i64 (k:Int)] w fun e w'=>e=.returned (.int .i64 r)∧w'=w:=by
 have hlen:bs.length=k+ds.length+es.length:=by
  have:=congrArg List.length hk
  rw [List.length_drop,List.length_append] at this
  omega
 have hsz:t.size=k+ds.length+es.length:=by rw [← hlen,← ht];simp
 have hs:((t.size:Nat):Int)=((k+ds.length+es.length:Nat):Int):=by rw [hsz]
 have hat:∀ j,(bs[k+j]?.getD 0)=((ds++es)[j]?.getD 0):=fun j=>by rw [← hk,List.getElem?_drop]
 have HAT:=af hat
 have HT:=af ht
 have HD:=af hd
 have HE:=af he
 clear hat hk hd he ht hkl
 go_enter Tryz.func219,Tryz.ntmps219
 go_wp2
 obtain ⟨m,hm⟩:∃ m,m=k+ds.length:=⟨_,rfl⟩
 have hsm:t.size=m+es.length:=by omega
 rw [← hm] at hr
 have hkm:k≤m:=by omega
 have hbl:bs.length=m+es.length:=by omega
 have hdl:ds.length=m-k:=by omega
 clear hsz hs hlen
 go_loopw [1] (fun a wq=>∃ i:Nat,k≤i∧i≤m∧a=.int .i64 (i:Int)∧wq=w) (fun a _=>m-(intOf a).toNat)
 case atStart=>exact ⟨k,by omega,by omega,rfl,rfl⟩
 case round =>
  obtain ⟨i,hki,him,rfl,rfl⟩:=hrel
  have hA:(bs[i]?.getD 0)=((ds++es)[i-k]?.getD 0):=by have:=ae HAT (i-k);rw [show k+(i-k)=i from by omega] at this;exact this
  by_cases hjd:i<m
  ·have hb:=fun W=>byte_at (ae HT) i (by omega) 9 Tryz.underlying9 W
   rw [hA,List.getElem?_append_left (by omega)] at hb
   have hdd:=ae HD (ds[i-k]?.getD 0) (by rw [List.getElem?_eq_getElem (by omega),Option.getD_some];exact List.getElem_mem _)
   generalize (ds[i-k]?.getD 0).toNat=d at *
   have l1:(i:Int)<(t.size:Int):=by omega
   have c1:decide (48≤(d:Int))=true:=decide_eq_true (by omega)
   have c2:decide ((d:Int)≤57)=true:=decide_eq_true (by omega)
   have l2:decide ((i:Int)<(t.size:Int))=true:=decide_eq_true l1
   have i0:(0:Int)≤(i:Int):=by omega
   clear hA hdl hm
   go_wp2
   refine ⟨⟨i+1,by omega,by omega,by go_num,trivial⟩,?_⟩
   simp [intOf];omega
  ·have hje:i=m:=by omega
   subst hje
   have hE:Hid ((i:Int)=r):=(ae hr).symm
   by_cases hes:es.length=0
   ·have l1:(t.size:Int)≤(i:Int):=by omega
    have l2:decide ((i:Int)<(t.size:Int))=false:=decide_eq_false (by omega)
    clear hA hdl hm hsm hbl hes hjd him hkm hki
    go_wp2
    go_ret
    exact ⟨by rw [ae hE];rfl,rfl⟩
   ·have hb:=fun W=>byte_at (ae HT) i (by omega) 9 Tryz.underlying9 W
    rw [hA,List.getElem?_append_right (by omega),show i-k-ds.length=0 from by omega] at hb
    have hee:=ae HE (es[0]?.getD 0) (by rw [List.head?_eq_getElem?,List.getElem?_eq_getElem (by omega)];rfl)
    have l1:(i:Int)<(t.size:Int):=by omega
    have l2:decide ((i:Int)<(t.size:Int))=true:=decide_eq_true l1
    have i0:(0:Int)≤(i:Int):=by omega
    generalize (es[0]?.getD 0).toNat=d at *
    clear hA hdl hm hsm hbl hes hjd him hkm hki
    rcases hee with hee | hee
    ·have c1:decide (48≤(d:Int))=false:=decide_eq_false (by omega)
     go_wp2
     go_ret
     exact ⟨by rw [ae hE];rfl,rfl⟩
    ·have c1:decide (48≤(d:Int))=true:=decide_eq_true (by omega)
     have c2:decide ((d:Int)≤57)=false:=decide_eq_false (by omega)
     go_wp2
     go_ret
     exact ⟨by rw [ae hE];rfl,rfl⟩
end Go.Proofs.YtlckjpelcmjimaaGreatDoor
