/- The leading bits of numbers and of their -/
import Derived.Test.YthlnhheblhapgaaGreatDoorKMN15
namespace Go.Proofs.YthlnhheblhapgaaGreatDoor
open Go.RowKit
structure Lead (X x N:Nat):Prop where
 lo:9223372036854775808≤x
 hi:x < 18446744073709551616
 ge:x*2^N≤X*9223372036854775808
 lt:X*9223372036854775808<(x+1)*2^N
theorem pow63 (k:Nat) (h:k≤63):2^k*2^(63-k)=9223372036854775808:=by
 rw [← Nat.pow_add,show k+(63-k)=63 from by omega]
theorem lead_one (t k:Nat) (hk:k≤63) (h1:9223372036854775808≤t*2^k) (h2:t*2^k < 18446744073709551616):Lead t (t*2^k) (63-k):=by
 have hp:0<2^(63-k):=Nat.pow_pos (by omega)
 refine ⟨h1,h2,?_,?_⟩
 ·rw [Nat.mul_assoc,pow63 k hk];omega
 ·rw [Nat.add_mul,Nat.mul_assoc,pow63 k hk];omega
theorem lead_more (X R P m s t k:Nat) (hP:P=18446744073709551616^m) (hX:X=R+P*(s + 18446744073709551616*t)) (hR:R<P) (hs:s < 18446744073709551616) (hk:k≤63) (h1:9223372036854775808≤t*2^k) (h2:t*2^k < 18446744073709551616) :
  Lead X (t*2^k+s/2^(64-k)) (64*(m+1)+63-k)∧s/2^(64-k)<2^k:=by
 have hB:18446744073709551616=2^(64-k)*2^k:=by rw [← Nat.pow_add,show 64-k+k=64 from by omega]
 have hK:0<2^k:=Nat.pow_pos (by omega)
 have hQ:0<2^(64-k):=Nat.pow_pos (by omega)
 have hu:s/2^(64-k)<2^k:=by rw [Nat.div_lt_iff_lt_mul hQ,Nat.mul_comm,← hB];exact hs
 have hd:=Nat.div_add_mod s (2^(64-k))
 have hr:=Nat.mod_lt s hQ
 have e63:=pow63 k hk
 have hN:2^(64*(m+1)+63-k)=P * 18446744073709551616*2^(63-k):=by
  rw [hP,show 64*(m+1)+63-k=64*m+64+(63-k) from by omega,Nat.pow_add,Nat.pow_add,Nat.pow_mul]
 have hz:0<2^(63-k):=Nat.pow_pos (by omega)
 generalize hu1:s/2^(64-k)=u at *
 generalize s%2^(64-k)=r at *
 generalize 64*(m+1)+63-k=N at *
 generalize 2^(63-k)=z at *
 generalize 2^(64-k)=Q at *
 generalize 2^k=K at *
 have htQ:t<Q:=by rw [hB] at h2;exact Nat.lt_of_mul_lt_mul_right h2
 have hx:t*K+u < 18446744073709551616:=by
  have:(t+1)*K≤Q*K:=Nat.mul_le_mul_right _ htQ
  rw [← hB,Nat.add_mul] at this;omega
 have eX:X*K=R*K+P*((t*K+u) * 18446744073709551616+r*K):=by rw [hX,← hd,hB];grind
 have hrK:r*K+K≤18446744073709551616:=by
  have:(r+1)*K≤Q*K:=Nat.mul_le_mul_right _ hr
  rw [← hB,Nat.add_mul] at this;omega
 have hRK:R*K<P*K:=Nat.mul_lt_mul_of_pos_right hR hK
 have g1:(t*K+u)*(P * 18446744073709551616)≤X*K:=by
  rw [eX]
  have:P*((t*K+u) * 18446744073709551616)≤P*((t*K+u) * 18446744073709551616+r*K):=Nat.mul_le_mul_left _ (by omega)
  have e:(t*K+u)*(P * 18446744073709551616)=P*((t*K+u) * 18446744073709551616):=by grind
  omega
 have g2:X*K<(t*K+u+1)*(P * 18446744073709551616):=by
  rw [eX]
  have h3:P*((t*K+u) * 18446744073709551616+r*K+K)≤P*((t*K+u) * 18446744073709551616 + 18446744073709551616):=Nat.mul_le_mul_left _ (by omega)
  have e:(t*K+u+1)*(P * 18446744073709551616)=P*((t*K+u) * 18446744073709551616 + 18446744073709551616):=by grind
  have e2:P*((t*K+u) * 18446744073709551616+r*K+K)=P*((t*K+u) * 18446744073709551616+r*K)+P*K:=by grind
  omega
 refine ⟨⟨by omega,hx,?_,?_⟩,hu⟩
 ·rw [hN,← e63,← Nat.mul_assoc X,← Nat.mul_assoc (t*K+u)];exact Nat.mul_le_mul_right _ g1
 ·rw [hN,← e63,← Nat.mul_assoc X,← Nat.mul_assoc (t*K+u+1)];exact Nat.mul_lt_mul_of_pos_right g2 hz
structure LeadP (Z p K:Nat):Prop where
 lo:9223372036854775808≤p
 hi:p < 18446744073709551616
 ge:p*2^K≤Z*85070591730234615865843651857942052864
 lt:Z*85070591730234615865843651857942052864<(p+8)*2^K
theorem lead_mul' (A C x y n m z:Nat) (h1:x*n≤A*z) (h2:A*z<(x+1)*n) (g1:y*m≤C*z) (g2:C*z<(y+1)*m):x*y*(n*m)≤A*C*(z*z)∧A*C*(z*z)<(x+1)*(y+1)*(n*m):=by
 have h1:=Nat.mul_le_mul h1 g1
 have h2:=Nat.mul_lt_mul'' h2 g2
 constructor
 ·have e1:x*n*(y*m)=x*y*(n*m):=by grind
  have e2:A*z*(C*z)=A*C*(z*z):=by grind
  rw [← e1,← e2];exact h1
 ·have e1:(x+1)*n*((y+1)*m)=(x+1)*(y+1)*(n*m):=by grind
  have e2:A*z*(C*z)=A*C*(z*z):=by grind
  rw [← e1,← e2];exact h2
theorem lead_mul {A C x y N M:Nat} (h:Lead A x N) (g:Lead C y M):x*y*2^(N+M)≤A*C*85070591730234615865843651857942052864∧A*C*85070591730234615865843651857942052864<(x+1)*(y+1)*2^(N+M):=by
 have e:=lead_mul' A C x y _ _ _ h.ge h.lt g.ge g.lt
 rw [← Nat.pow_add] at e
 exact e
theorem lead_prod {A C x y N M:Nat} (h:Lead A x N) (g:Lead C y M):85070591730234615865843651857942052864≤x*y∧(x+1)*(y+1)≤x*y + 18446744073709551616 + 18446744073709551616:=by
 have h1:=h.hi
 have h2:=g.hi
 have h3:=Nat.mul_le_mul h.lo g.lo
 have e:(x+1)*(y+1)=x*y+x+y+1:=by grind
 refine ⟨h3,?_⟩
 rw [e]
 generalize x*y=u
 omega
theorem high_facts (u v:Nat) (hv:v≤u + 18446744073709551616 + 18446744073709551616):u / 18446744073709551616 * 18446744073709551616≤u∧v≤(u / 18446744073709551616+8) * 18446744073709551616:=⟨by omega,by omega⟩
theorem low_facts (u v:Nat) (hv:v≤u + 18446744073709551616 + 18446744073709551616):u/9223372036854775808*9223372036854775808≤u∧v≤(u/9223372036854775808+8)*9223372036854775808:=⟨by omega,by omega⟩
theorem low_eq (u:Nat):u / 18446744073709551616*2+u % 18446744073709551616/9223372036854775808=u/9223372036854775808:=by omega
theorem low_bounds (u:Nat) (h1:85070591730234615865843651857942052864≤u) (h2:u / 18446744073709551616<9223372036854775808):9223372036854775808≤u/9223372036854775808∧u/9223372036854775808 < 18446744073709551616:=by
 constructor
 ·rw [Nat.le_div_iff_mul_le (by omega)];exact h1
 ·omega
theorem leadP_high {A C x y N M:Nat} (h:Lead A x N) (g:Lead C y M) (hh:9223372036854775808≤x*y / 18446744073709551616):LeadP (A*C) (x*y / 18446744073709551616) (N+M+64):=by
 obtain ⟨a1,a2⟩:=lead_mul h g
 obtain ⟨b1,b3⟩:=lead_prod h g
 have b4:x*y / 18446744073709551616 < 18446744073709551616:=by rw [Nat.div_lt_iff_lt_mul (by omega)];exact Nat.mul_lt_mul'' h.hi g.hi
 obtain ⟨c1,c2⟩:=high_facts _ _ b3
 have e64:2^(N+M+64)=18446744073709551616*2^(N+M):=by rw [Nat.pow_add,Nat.mul_comm]
 refine ⟨hh,b4,?_,?_⟩
 ·rw [e64,← Nat.mul_assoc];exact Nat.le_trans (Nat.mul_le_mul_right _ c1) a1
 ·rw [e64,← Nat.mul_assoc];exact Nat.lt_of_lt_of_le a2 (Nat.mul_le_mul_right _ c2)
theorem leadP_low {A C x y N M:Nat} (h:Lead A x N) (g:Lead C y M) (hh:x*y / 18446744073709551616<9223372036854775808):LeadP (A*C) (x*y / 18446744073709551616*2+x*y % 18446744073709551616/9223372036854775808) (N+M+63):=by
 obtain ⟨a1,a2⟩:=lead_mul h g
 obtain ⟨b1,b3⟩:=lead_prod h g
 obtain ⟨c1,c2⟩:=low_facts _ _ b3
 obtain ⟨d1,d2⟩:=low_bounds _ b1 hh
 have e64:2^(N+M+63)=9223372036854775808*2^(N+M):=by rw [Nat.pow_add,Nat.mul_comm]
 rw [low_eq]
 refine ⟨d1,d2,?_,?_⟩
 ·rw [e64,← Nat.mul_assoc];exact Nat.le_trans (Nat.mul_le_mul_right _ c1) a1
 ·rw [e64,← Nat.mul_assoc];exact Nat.lt_of_lt_of_le a2 (Nat.mul_le_mul_right _ c2)
theorem leadP_far {Z Z' p q K M:Nat} (h:LeadP Z p K) (g:LeadP Z' q M) (hk:M+1<K):Z' < Z:=by
 refine Nat.lt_of_mul_lt_mul_right (a:=85070591730234615865843651857942052864) (Nat.lt_of_lt_of_le g.lt (Nat.le_trans ?_ h.ge))
 have h1:2^(M+2)≤2^K:=Nat.pow_le_pow_right (by omega) (by omega)
 rw [Nat.pow_add] at h1
 have h2:p*(2^M*2^2)≤p*2^K:=Nat.mul_le_mul_left _ h1
 have h3:=h.lo
 have h4:=g.hi
 refine Nat.le_trans ?_ h2
 rw [Nat.mul_comm (2^M),← Nat.mul_assoc]
 exact Nat.mul_le_mul_right _ (by omega)
theorem leadP_near {Z Z' p q K:Nat} (h:LeadP Z p K) (g:LeadP Z' q K) (hk:q+8≤p):Z' < Z:=by
 refine Nat.lt_of_mul_lt_mul_right (a:=85070591730234615865843651857942052864) (Nat.lt_of_lt_of_le g.lt (Nat.le_trans ?_ h.ge))
 exact Nat.mul_le_mul_right _ hk
end Go.Proofs.YthlnhheblhapgaaGreatDoor

namespace Go.Proofs.YthlnhheblhapgaaGreatDoor
open Go.RowKit
set_option maxHeartbeats 4000000
set_option maxRecDepth 100000
def leadW (X:Nat):Nat:=topW X*2^lz (topW X)+(if (wd 18446744073709551616 X).length≤1 then 0 else (wd 18446744073709551616 X)[(wd 18446744073709551616 X).length-2]?.getD 0/2^(64-lz (topW X)))
def leadN (X:Nat):Nat:=64*((wd 18446744073709551616 X).length-1)+63-lz (topW X)
theorem lead_ok (X:Nat) (h:0<X):Lead X (leadW X) (leadN X):=by
 obtain ⟨t1,t2,-,-⟩:=top_pos X h
 obtain ⟨l1,l2,l3,-⟩:=lz_facts (topW X) t1 t2
 have hl:0<(wd 18446744073709551616 X).length:=by rw [Nat.pos_iff_ne_zero];intro e;rw [wd_len_zero (by omega)] at e;omega
 unfold leadW leadN
 by_cases h1:(wd 18446744073709551616 X).length≤1
 ·have hX:X < 18446744073709551616:=by
   have:=lt_of_wd_length (B:=18446744073709551616) (by omega) X 1 h1
   rw [Nat.pow_one] at this;exact this
  have e:topW X=X:=by unfold topW;rw [wd_word X h hX];rfl
  rw [if_pos h1,Nat.add_zero,show (wd 18446744073709551616 X).length-1=0 from by omega,Nat.mul_zero,Nat.zero_add]
  rw [e] at l1 l2 l3 ⊢
  exact lead_one X _ l1 l3 l2
 ·rw [if_neg h1]
  obtain ⟨m,hm⟩:∃ m,(wd 18446744073709551616 X).length=m+2:=⟨(wd 18446744073709551616 X).length-2,by omega⟩
  have e2:=vl_take_lt (wd 18446744073709551616 X) m (by omega) (wd_mem (by omega) X)
  have e3:=mem_getD (wd_mem (B:=18446744073709551616) (by omega) X) (by omega:0 < 18446744073709551616) m
  have e4:=vl_split 18446744073709551616 (wd 18446744073709551616 X) m (by omega)
  have e5:=vl_drop 18446744073709551616 (wd 18446744073709551616 X) (m+1) (by omega)
  rw [List.drop_eq_nil_of_le (by omega:(wd 18446744073709551616 X).length≤m+1+1)] at e5
  rw [vl_wd (by omega),e5] at e4
  rw [show (wd 18446744073709551616 X)[m+1]?.getD 0=topW X from by unfold topW;rw [hm];rfl] at e4
  rw [show (wd 18446744073709551616 X).length-2=m from by omega,show (wd 18446744073709551616 X).length-1=m+1 from by omega]
  simp only [vl,Nat.mul_zero,Nat.add_zero] at e4
  exact (lead_more X _ _ m _ (topW X) (lz (topW X)) rfl e4 e2 e3 l1 l3 l2).1
theorem leading_any (v:Value) (X:Nat) (hX:0<X) (w:World) (hv:Sl .u64 w v (wd 18446744073709551616 X)) (hl:(wd 18446744073709551616 X).length<134217728) (x:Nat) (N:Int) (hx:Hid (x=leadW X)) (hN:Hid (N=(leadN X:Int)-63)) :
  Calls Tryz.prog 113 #[v] w fun e w'=>e=.returned (.tuple #[.int .u64 (x:Int),.int .i64 N])∧w'=w:=by
 obtain ⟨t1,t2,-,-⟩:=top_pos X hX
 obtain ⟨hs,l2,l3,-⟩:=lz_facts (topW X) t1 t2
 have LZ:=hide (fun W=>lead_any (topW X) t1 t2 W)
 rcases hv.open with ⟨e,-⟩ | ⟨hp,b,o,c,rfl,hc,-,hcell⟩
 ·rw [wd_nil_iff (by omega)] at e;omega
 have hct:=hcell ((wd 18446744073709551616 X).length-1) (by omega)
 rw [show (wd 18446744073709551616 X)[(wd 18446744073709551616 X).length-1]?.getD 0=topW X from rfl] at hct
 have E0:IntKind.u64.wrap (((topW X:Nat):Int)*2^lz (topW X))=((topW X*2^lz (topW X):Nat):Int):=by
  have e:((topW X:Nat):Int)*2^lz (topW X)=((topW X*2^lz (topW X):Nat):Int):=by simp
  rw [e,IntKind.wrap_u64];omega
 unfold leadW at hx
 unfold leadN at hN
 by_cases h1:(wd 18446744073709551616 X).length≤1
 ·have hl1:(wd 18446744073709551616 X).length=1:=by omega
  rw [if_pos h1,Nat.add_zero] at hx
  rw [hl1] at hct hN ⊢
  rw [Nat.sub_self,Nat.add_zero] at hct
  have hNN:Hid (N=-((lz (topW X):Nat):Int)):=by
   show _=_;rw [unhide hN];omega
  clear hcell hN hv
  generalize topW X*2^lz (topW X)=y at *
  generalize lz (topW X)=s at *
  generalize topW X=t at *
  have HX:x=y:=unhide hx
  subst HX
  have HN:N=-(s:Int):=unhide hNN
  subst HN
  go_enter Tryz.func113,Tryz.ntmps113
  go_wp2_with fail
  refine (unhide LZ _).mono ?_
  rintro e w1 ⟨rfl,hw⟩
  obtain rfl:=hw.symm
  clear hw
  go_wp2
  go_ret2
  exact ⟨rfl,rfl⟩
 ·rw [if_neg h1] at hx
  have hc2:=hcell ((wd 18446744073709551616 X).length-2) (by omega)
  have e3:=mem_getD (wd_mem (B:=18446744073709551616) (by omega) X) (by omega:0 < 18446744073709551616) ((wd 18446744073709551616 X).length-2)
  generalize (wd 18446744073709551616 X)[(wd 18446744073709551616 X).length-2]?.getD 0=y at *
  have hu:y/2^(64-lz (topW X))<2^lz (topW X):=by
   have hB:18446744073709551616=2^(64-lz (topW X))*2^lz (topW X):=by rw [← Nat.pow_add,show 64-lz (topW X)+lz (topW X)=64 from by omega]
   rw [Nat.div_lt_iff_lt_mul (Nat.pow_pos (by omega)),Nat.mul_comm,← hB];exact e3
  have hub:y/2^(64-lz (topW X)) < 18446744073709551616:=Nat.lt_of_le_of_lt (Nat.div_le_self _ _) e3
  have hor:topW X*2^lz (topW X) ||| y/2^(64-lz (topW X))=topW X*2^lz (topW X)+y/2^(64-lz (topW X)):=by
   rw [Nat.mul_comm,Nat.two_pow_add_eq_or_of_lt hu]
  have E1:bits .or .u64 ((topW X*2^lz (topW X):Nat):Int) ((y/2^(64-lz (topW X)):Nat):Int)=((topW X*2^lz (topW X)+y/2^(64-lz (topW X)):Nat):Int):=by
   rw [bits_or_u64_nat _ _ l2 hub,hor]
  have E2:((y:Nat):Int)/2^(64-lz (topW X))=((y/2^(64-lz (topW X)):Nat):Int):=by simp
  have E3:(64-((lz (topW X):Nat):Int)).toNat=64-lz (topW X):=by omega
  clear hcell hv hor hu
  generalize topW X*2^lz (topW X)+y/2^(64-lz (topW X))=z at *
  generalize y/2^(64-lz (topW X))=q at *
  generalize topW X*2^lz (topW X)=p at *
  generalize lz (topW X)=s at *
  generalize topW X=t at *
  generalize (wd 18446744073709551616 X).length=n at *
  have HX:x=z:=unhide hx
  subst HX
  have HN:N=((n:Int)-1)*64-s:=by rw [unhide hN];omega
  subst HN
  obtain ⟨m,rfl⟩:∃ m,n=m+2:=⟨n-2,by omega⟩
  rw [show m+2-1=m+1 from rfl] at hct
  rw [show m+2-2=m from rfl] at hc2
  have hm0:(0:Int)≤(m:Int):=by omega
  clear hx hN
  go_enter Tryz.func113,Tryz.ntmps113
  go_wp2_with fail
  refine (unhide LZ _).mono ?_
  rintro e w1 ⟨rfl,hw⟩
  obtain rfl:=hw.symm
  clear hw
  go_wp2
  go_ret2
  refine ⟨?_,rfl⟩
  go_num
end Go.Proofs.YthlnhheblhapgaaGreatDoor

namespace Go.Proofs.YthlnhheblhapgaaGreatDoor
open Go.RowKit
set_option maxHeartbeats 4000000
set_option maxRecDepth 100000
def prodW (A C:Nat):Nat:=if leadW A*leadW C / 18446744073709551616<9223372036854775808 then leadW A*leadW C / 18446744073709551616*2+leadW A*leadW C % 18446744073709551616/9223372036854775808 else leadW A*leadW C / 18446744073709551616
def prodK (A C:Nat):Nat:=if leadW A*leadW C / 18446744073709551616<9223372036854775808 then leadN A+leadN C+63 else leadN A+leadN C+64
theorem prod_ok (A C:Nat) (hA:0<A) (hC:0<C):LeadP (A*C) (prodW A C) (prodK A C):=by
 have h:=lead_ok A hA
 have g:=lead_ok C hC
 unfold prodW prodK
 split
 ·exact leadP_low h g (by assumption)
 ·exact leadP_high h g (by omega)
theorem leadN_le (X:Nat) (n:Nat) (h:(wd 18446744073709551616 X).length<n):leadN X≤64*n:=by unfold leadN;omega
theorem prodK_le (A C n:Nat) (hA:(wd 18446744073709551616 A).length<n) (hC:(wd 18446744073709551616 C).length<n):prodK A C≤128*n+64:=by
 have h1:=leadN_le A n hA
 have h2:=leadN_le C n hC
 unfold prodK
 split <;> omega
theorem leadingProduct_any (va vc:Value) (A C:Nat) (hA:0<A) (hC:0<C) (w:World) (ha:Sl .u64 w va (wd 18446744073709551616 A)) (hc:Sl .u64 w vc (wd 18446744073709551616 C)) (hla:(wd 18446744073709551616 A).length<134217728) (hlc:(wd 18446744073709551616 C).length<134217728) (p:Nat) (K:Int) (hp:Hid (p=prodW A C)) (hK:Hid (K=(prodK A C:Int)-126)) :
  Calls Tryz.prog 89 #[va,vc] w fun e w'=>e=.returned (.tuple #[.int .u64 (p:Int),.int .i64 K])∧w'=w:=by
 have LA:=hide (leading_any va A hA w ha hla (leadW A) ((leadN A:Int)-63) rfl rfl)
 have LC:=hide (leading_any vc C hC w hc hlc (leadW C) ((leadN C:Int)-63) rfl rfl)
 have ba:=(lead_ok A hA).hi
 have bc:=(lead_ok C hC).hi
 have na:=leadN_le A _ hla
 have nc:=leadN_le C _ hlc
 have MU:=hide (fun W=>Tryz.bits_Mul64 (leadW A) (leadW C) ba bc W)
 have hzB:leadW A*leadW C / 18446744073709551616 < 18446744073709551616:=by rw [Nat.div_lt_iff_lt_mul (by omega)];exact Nat.mul_lt_mul'' ba bc
 have hzL:leadW A*leadW C % 18446744073709551616 < 18446744073709551616:=Nat.mod_lt _ (by omega)
 unfold prodW at hp
 unfold prodK at hK
 obtain ⟨aa,ca,rfl,-,-⟩:=ha
 obtain ⟨ac,cc,rfl,-,-⟩:=hc
 generalize (wd 18446744073709551616 A).length=la at *
 generalize (wd 18446744073709551616 C).length=lc at *
 generalize leadW A*leadW C / 18446744073709551616=hi at *
 generalize leadW A*leadW C % 18446744073709551616=lo at *
 generalize leadW A=x at *
 generalize leadW C=y at *
 generalize leadN A=n at *
 generalize leadN C=m at *
 by_cases hh:hi<9223372036854775808
 ·rw [if_pos hh] at hp hK
  have d1:((hi:Int)/9223372036854775808==0)=true:=beq_iff_eq.2 (by omega)
  have hor:bits .or .u64 ((hi*2:Nat):Int) ((lo/9223372036854775808:Nat):Int)=((hi*2+lo/9223372036854775808:Nat):Int):=by
   rw [bits_or_u64_nat _ _ (by omega) (by omega)]
   have:=Nat.two_pow_add_eq_or_of_lt (i:=1) (b:=lo/9223372036854775808) (by omega) hi
   rw [Nat.pow_one,Nat.mul_comm] at this
   rw [this]
  have e1:IntKind.u64.wrap ((hi:Int)*2)=((hi*2:Nat):Int):=by rw [IntKind.wrap_u64];omega
  have e2:(lo:Int)/9223372036854775808=((lo/9223372036854775808:Nat):Int):=by simp
  generalize hi*2+lo/9223372036854775808=z at *
  generalize lo/9223372036854775808=z2 at *
  generalize hi*2=z1 at *
  have HP:p=z:=unhide hp
  subst HP
  have HK:K=(n:Int)+m-63:=by rw [unhide hK];omega
  subst HK
  clear hp hK
  go_enter Tryz.func89,Tryz.ntmps89
  go_wp2_with fail
  refine (unhide LA).mono ?_
  rintro e w1 ⟨rfl,hw⟩
  obtain rfl:=hw.symm
  clear hw
  go_wp2_with fail
  refine (unhide LC).mono ?_
  rintro e w1 ⟨rfl,hw⟩
  obtain rfl:=hw.symm
  clear hw
  go_wp2_with fail
  refine (unhide MU _).mono ?_
  rintro e w1 ⟨rfl,hw⟩
  obtain rfl:=hw.symm
  clear hw
  go_wp2
  go_ret2
  refine ⟨?_,rfl⟩
  go_num
 ·rw [if_neg hh] at hp hK
  have d1:((hi:Int)/9223372036854775808==0)=false:=beq_eq_false_iff_ne.2 (by omega)
  have HP:p=hi:=unhide hp
  subst HP
  have HK:K=(n:Int)+m-62:=by rw [unhide hK];omega
  subst HK
  clear hp hK
  go_enter Tryz.func89,Tryz.ntmps89
  go_wp2_with fail
  refine (unhide LA).mono ?_
  rintro e w1 ⟨rfl,hw⟩
  obtain rfl:=hw.symm
  clear hw
  go_wp2_with fail
  refine (unhide LC).mono ?_
  rintro e w1 ⟨rfl,hw⟩
  obtain rfl:=hw.symm
  clear hw
  go_wp2_with fail
  refine (unhide MU _).mono ?_
  rintro e w1 ⟨rfl,hw⟩
  obtain rfl:=hw.symm
  clear hw
  go_wp2
  go_ret2
  refine ⟨?_,rfl⟩
  go_num
end Go.Proofs.YthlnhheblhapgaaGreatDoor

namespace Go.Proofs.YthlnhheblhapgaaGreatDoor
open Go.RowKit
set_option maxHeartbeats 8000000
set_option maxRecDepth 100000
theorem cmpN_one {x y:Nat} (h:y<x):cmpN x y=1:=by unfold cmpN;rw [if_neg (by omega),if_neg (by omega)]
theorem cmpProducts_any (va vb vc vd:Value) (A B C D:Nat) (w:World) (ha:Sl .u64 w va (wd 18446744073709551616 A)) (hb:Sl .u64 w vb (wd 18446744073709551616 B)) (hc:Sl .u64 w vc (wd 18446744073709551616 C)) (hd:Sl .u64 w vd (wd 18446744073709551616 D)) (hla:(wd 18446744073709551616 A).length<33554432) (hlb:(wd 18446744073709551616 B).length<33554432) (hlc:(wd 18446744073709551616 C).length<33554432) (hld:(wd 18446744073709551616 D).length<33554432) (r:Int) (hr:Hid (r=cmpN (A*B) (C*D))) :
  Calls Tryz.prog 62 #[va,vb,vc,vd] w fun e w'=>e=.returned (.int .i64 r)∧But [] w w':=by
 have wm:∀ X Y:Nat,(wd 18446744073709551616 X).length<33554432→(wd 18446744073709551616 Y).length<33554432→(wd 18446744073709551616 (X*Y)).length<67108864:=fun X Y h1 h2=>by
  have:=wd_len_mul X Y;omega
 have M1:Hid (∀ W,But [] w W→Calls Tryz.prog 55 #[va,vb] W fun e w'=>∃ v',e=.returned v'∧Sl .u64 w' v' (wd 18446744073709551616 (A*B))∧But [] W w'∧MulAt W.heap.size v' va vb A B):=fun W hB=>natMul_any va vb A B W (ha.but_nil hB) (hb.but_nil hB) (by omega)
 have M2:Hid (∀ W,But [] w W→Calls Tryz.prog 55 #[vc,vd] W fun e w'=>∃ v',e=.returned v'∧Sl .u64 w' v' (wd 18446744073709551616 (C*D))∧But [] W w'∧MulAt W.heap.size v' vc vd C D):=fun W hB=>natMul_any vc vd C D W (hc.but_nil hB) (hd.but_nil hB) (by omega)
 have CM:Hid (∀ W v1 v2,Sl .u64 W v1 (wd 18446744073709551616 (A*B))→Sl .u64 W v2 (wd 18446744073709551616 (C*D))→Calls Tryz.prog 78 #[v1,v2] W fun e w'=>e=.returned (.int .i64 r)∧∃ q,w'=W.drewN q):=fun W v1 v2 h1 h2=>by
  rw [unhide hr]
  have l1:=wm A B hla hlb
  have l2:=wm C D hlc hld
  exact natCmp_any v1 v2 _ _ W h1 h2 (by omega) (by omega)
 have zl:∀ X:Nat,((wd 18446744073709551616 X).length=0↔X=0):=fun X=>wd_len_zero (by omega) X
 have LP1:Hid (∀ p K,0<A→0<B→Hid (p=prodW A B)→Hid (K=(prodK A B:Int)-126)→Calls Tryz.prog 89 #[va,vb] w fun e w'=>e=.returned (.tuple #[.int .u64 (p:Int),.int .i64 K])∧w'=w):=fun p K h1 h2 h3 h4=>leadingProduct_any va vb A B h1 h2 w ha hb (by omega) (by omega) p K h3 h4
 have LP2:Hid (∀ p K,0<C→0<D→Hid (p=prodW C D)→Hid (K=(prodK C D:Int)-126)→Calls Tryz.prog 89 #[vc,vd] w fun e w'=>e=.returned (.tuple #[.int .u64 (p:Int),.int .i64 K])∧w'=w):=fun p K h1 h2 h3 h4=>leadingProduct_any vc vd C D h1 h2 w hc hd (by omega) (by omega) p K h3 h4
 have ZA:=zl A
 have ZB:=zl B
 have ZC:=zl C
 have ZD:=zl D
 have kl1:=prodK_le A B _ hla hlb
 have kl2:=prodK_le C D _ hlc hld
 obtain ⟨aa,ca,rfl,-,-⟩:=ha
 obtain ⟨ab,cb,rfl,-,-⟩:=hb
 obtain ⟨ac,cc,rfl,-,-⟩:=hc
 obtain ⟨ad,cd,rfl,-,-⟩:=hd
 clear zl wm
 generalize (wd 18446744073709551616 A).length=la at *
 generalize (wd 18446744073709551616 B).length=lb at *
 generalize (wd 18446744073709551616 C).length=lc at *
 generalize (wd 18446744073709551616 D).length=ld at *
 by_cases h0:la=0∨lb=0∨lc=0∨ld=0
 ·clear LP1 LP2 kl1 kl2 ZA ZB ZC ZD hr
  by_cases z1:la=0
  ·have q1:((la:Int)==0)=true:=beq_iff_eq.2 (by omega)
   clear h0 z1
   go_enter Tryz.func62,Tryz.ntmps62
   go_wp2_with fail
   refine (unhide M1 _ (But.refl _ _)).mono ?_
   rintro e w1 ⟨v1,rfl,hv1,hb1,-⟩
   have H1:=hide hv1
   have B1:=hide hb1
   clear hv1 hb1
   go_wp2_with fail
   refine (unhide M2 _ (unhide B1)).mono ?_
   rintro e w2 ⟨v2,rfl,hv2,hb2,-⟩
   have H2:=hide hv2
   have H1':=hide ((unhide H1).but_nil hb2)
   have B2:Hid (But [] w w2):=(unhide B1).trans' hb2
   clear hv2 hb2 H1
   go_wp2_with fail
   refine (unhide CM _ _ _ (unhide H1') (unhide H2)).mono ?_
   rintro e w3 ⟨rfl,q,rfl⟩
   go_wp2
   go_ret
   exact ⟨rfl,(unhide B2).drewN q⟩
  ·have q1:((la:Int)==0)=false:=beq_eq_false_iff_ne.2 (by omega)
   by_cases z2:lb=0
   ·have q2:((lb:Int)==0)=true:=beq_iff_eq.2 (by omega)
    clear h0 z2
    go_enter Tryz.func62,Tryz.ntmps62
    go_wp2_with fail
    refine (unhide M1 _ (But.refl _ _)).mono ?_
    rintro e w1 ⟨v1,rfl,hv1,hb1,-⟩
    have H1:=hide hv1
    have B1:=hide hb1
    clear hv1 hb1
    go_wp2_with fail
    refine (unhide M2 _ (unhide B1)).mono ?_
    rintro e w2 ⟨v2,rfl,hv2,hb2,-⟩
    have H2:=hide hv2
    have H1':=hide ((unhide H1).but_nil hb2)
    have B2:Hid (But [] w w2):=(unhide B1).trans' hb2
    clear hv2 hb2 H1
    go_wp2_with fail
    refine (unhide CM _ _ _ (unhide H1') (unhide H2)).mono ?_
    rintro e w3 ⟨rfl,q,rfl⟩
    go_wp2
    go_ret
    exact ⟨rfl,(unhide B2).drewN q⟩
   ·have q2:((lb:Int)==0)=false:=beq_eq_false_iff_ne.2 (by omega)
    by_cases z3:lc=0
    ·have q3:((lc:Int)==0)=true:=beq_iff_eq.2 (by omega)
     clear h0 z3
     go_enter Tryz.func62,Tryz.ntmps62
     go_wp2_with fail
     refine (unhide M1 _ (But.refl _ _)).mono ?_
     rintro e w1 ⟨v1,rfl,hv1,hb1,-⟩
     have H1:=hide hv1
     have B1:=hide hb1
     clear hv1 hb1
     go_wp2_with fail
     refine (unhide M2 _ (unhide B1)).mono ?_
     rintro e w2 ⟨v2,rfl,hv2,hb2,-⟩
     have H2:=hide hv2
     have H1':=hide ((unhide H1).but_nil hb2)
     have B2:Hid (But [] w w2):=(unhide B1).trans' hb2
     clear hv2 hb2 H1
     go_wp2_with fail
     refine (unhide CM _ _ _ (unhide H1') (unhide H2)).mono ?_
     rintro e w3 ⟨rfl,q,rfl⟩
     go_wp2
     go_ret
     exact ⟨rfl,(unhide B2).drewN q⟩
    ·have q3:((lc:Int)==0)=false:=beq_eq_false_iff_ne.2 (by omega)
     have q4:((ld:Int)==0)=true:=beq_iff_eq.2 (by omega)
     clear h0
     go_enter Tryz.func62,Tryz.ntmps62
     go_wp2_with fail
     refine (unhide M1 _ (But.refl _ _)).mono ?_
     rintro e w1 ⟨v1,rfl,hv1,hb1,-⟩
     have H1:=hide hv1
     have B1:=hide hb1
     clear hv1 hb1
     go_wp2_with fail
     refine (unhide M2 _ (unhide B1)).mono ?_
     rintro e w2 ⟨v2,rfl,hv2,hb2,-⟩
     have H2:=hide hv2
     have H1':=hide ((unhide H1).but_nil hb2)
     have B2:Hid (But [] w w2):=(unhide B1).trans' hb2
     clear hv2 hb2 H1
     go_wp2_with fail
     refine (unhide CM _ _ _ (unhide H1') (unhide H2)).mono ?_
     rintro e w3 ⟨rfl,q,rfl⟩
     go_wp2
     go_ret
     exact ⟨rfl,(unhide B2).drewN q⟩
 ·have hA:0<A:=by omega
  have hB:0<B:=by omega
  have hC:0<C:=by omega
  have hD:0<D:=by omega
  have P1:=prod_ok A B hA hB
  have P2:=prod_ok C D hC hD
  have x1:=P1.hi
  have x2:=P2.hi
  have FAR1:=hide (fun h=>leadP_far P1 P2 h)
  have FAR2:=hide (fun h=>leadP_far P2 P1 h)
  have NEAR1:Hid (prodK A B=prodK C D→prodW C D+8≤prodW A B→C*D<A*B):=fun e h=>leadP_near P1 (e ▸ P2) h
  have NEAR2:Hid (prodK A B=prodK C D→prodW A B+8≤prodW C D→A*B<C*D):=fun e h=>leadP_near P2 (e ▸ P1) h
  have L1:=hide (unhide LP1 (prodW A B) ((prodK A B:Int)-126) hA hB rfl rfl)
  have L2:=hide (unhide LP2 (prodW C D) ((prodK C D:Int)-126) hC hD rfl rfl)
  have nz1:((la:Int)==0)=false:=beq_eq_false_iff_ne.2 (by omega)
  have nz2:((lb:Int)==0)=false:=beq_eq_false_iff_ne.2 (by omega)
  have nz3:((lc:Int)==0)=false:=beq_eq_false_iff_ne.2 (by omega)
  have nz4:((ld:Int)==0)=false:=beq_eq_false_iff_ne.2 (by omega)
  clear LP1 LP2 P1 P2 ZA ZB ZC ZD
  generalize prodW A B=x at *
  generalize prodW C D=y at *
  generalize prodK A B=n at *
  generalize prodK C D=m at *
  obtain ⟨N,hN⟩:∃ N,N=(n:Int)-126:=⟨_,rfl⟩
  obtain ⟨M,hM⟩:∃ M,M=(m:Int)-126:=⟨_,rfl⟩
  rw [← hN] at L1
  rw [← hM] at L2
  have F1:Hid (M+1<N→C*D<A*B):=fun h=>unhide FAR1 (by omega)
  have F2:Hid (N+1<M→A*B<C*D):=fun h=>unhide FAR2 (by omega)
  have G1:Hid (N=M→y+8≤x→C*D<A*B):=fun h h2=>unhide NEAR1 (by omega) h2
  have G2:Hid (N=M→x+8≤y→A*B<C*D):=fun h h2=>unhide NEAR2 (by omega) h2
  have n1:-126≤N:=by omega
  have n2:N≤4294967424:=by omega
  have m1:-126≤M:=by omega
  have m2:M≤4294967424:=by omega
  clear FAR1 FAR2 NEAR1 NEAR2 hN hM kl1 kl2 h0
  by_cases c1:M+1<N
  ·have ER:Hid (r=1):=by show _=_;rw [unhide hr,cmpN_one (unhide F1 c1)]
   clear hr F1 F2 G1 G2
   have d1:decide (M+1<N)=true:=decide_eq_true c1
   go_enter Tryz.func62,Tryz.ntmps62
   go_wp2_with fail
   refine (unhide L1).mono ?_
   rintro e w1 ⟨rfl,hw⟩
   obtain rfl:=hw.symm
   clear hw
   go_wp2_with fail
   refine (unhide L2).mono ?_
   rintro e w1 ⟨rfl,hw⟩
   obtain rfl:=hw.symm
   clear hw
   go_wp2
   go_ret
   exact ⟨by rw [unhide ER];rfl,But.refl _ _⟩
  ·have d1:decide (M+1<N)=false:=decide_eq_false c1
   by_cases c2:N=M
   ·have d2:(N==M)=true:=beq_iff_eq.2 c2
    have c3:¬ (N+1<M):=by omega
    have d3:decide (N+1<M)=false:=decide_eq_false c3
    rcases Nat.lt_trichotomy x y with hxy | hxy | hxy
    ·have d4:decide ((y:Int)<(x:Int))=false:=decide_eq_false (by omega)
     have d5:decide ((x:Int)<(y:Int))=true:=decide_eq_true (by omega)
     have d7:IntKind.u64.wrap ((y:Int)-(x:Int))=(y:Int)-(x:Int):=by rw [IntKind.wrap_u64];omega
     by_cases c4:x+8≤y
     ·have ER:Hid (r=-1):=by show _=_;rw [unhide hr,cmpN_lt (unhide G2 c2 c4)]
      clear hr F1 F2 G1 G2
      have d6:decide (8≤(y:Int)-(x:Int))=true:=decide_eq_true (by omega)
      go_enter Tryz.func62,Tryz.ntmps62
      go_wp2_with fail
      refine (unhide L1).mono ?_
      rintro e w1 ⟨rfl,hw⟩
      obtain rfl:=hw.symm
      clear hw
      go_wp2_with fail
      refine (unhide L2).mono ?_
      rintro e w1 ⟨rfl,hw⟩
      obtain rfl:=hw.symm
      clear hw
      go_wp2
      go_ret
      exact ⟨by rw [unhide ER];rfl,But.refl _ _⟩
     ·have d6:decide (8≤(y:Int)-(x:Int))=false:=decide_eq_false (by omega)
      clear hr F1 F2 G1 G2
      go_enter Tryz.func62,Tryz.ntmps62
      go_wp2_with fail
      refine (unhide L1).mono ?_
      rintro e w1 ⟨rfl,hw⟩
      obtain rfl:=hw.symm
      clear hw
      go_wp2_with fail
      refine (unhide L2).mono ?_
      rintro e w1 ⟨rfl,hw⟩
      obtain rfl:=hw.symm
      clear hw
      go_wp2_with fail
      refine (unhide M1 _ (But.refl _ _)).mono ?_
      rintro e w1 ⟨v1,rfl,hv1,hb1,-⟩
      have H1:=hide hv1
      have B1:=hide hb1
      clear hv1 hb1
      go_wp2_with fail
      refine (unhide M2 _ (unhide B1)).mono ?_
      rintro e w2 ⟨v2,rfl,hv2,hb2,-⟩
      have H2:=hide hv2
      have H1':=hide ((unhide H1).but_nil hb2)
      have B2:Hid (But [] w w2):=(unhide B1).trans' hb2
      clear hv2 hb2 H1
      go_wp2_with fail
      refine (unhide CM _ _ _ (unhide H1') (unhide H2)).mono ?_
      rintro e w3 ⟨rfl,q,rfl⟩
      go_wp2
      go_ret
      exact ⟨rfl,(unhide B2).drewN q⟩
    ·have d4:decide ((y:Int)<(x:Int))=false:=decide_eq_false (by omega)
     have d5:decide ((x:Int)<(y:Int))=false:=decide_eq_false (by omega)
     clear hr F1 F2 G1 G2
     go_enter Tryz.func62,Tryz.ntmps62
     go_wp2_with fail
     refine (unhide L1).mono ?_
     rintro e w1 ⟨rfl,hw⟩
     obtain rfl:=hw.symm
     clear hw
     go_wp2_with fail
     refine (unhide L2).mono ?_
     rintro e w1 ⟨rfl,hw⟩
     obtain rfl:=hw.symm
     clear hw
     go_wp2_with fail
     refine (unhide M1 _ (But.refl _ _)).mono ?_
     rintro e w1 ⟨v1,rfl,hv1,hb1,-⟩
     have H1:=hide hv1
     have B1:=hide hb1
     clear hv1 hb1
     go_wp2_with fail
     refine (unhide M2 _ (unhide B1)).mono ?_
     rintro e w2 ⟨v2,rfl,hv2,hb2,-⟩
     have H2:=hide hv2
     have H1':=hide ((unhide H1).but_nil hb2)
     have B2:Hid (But [] w w2):=(unhide B1).trans' hb2
     clear hv2 hb2 H1
     go_wp2_with fail
     refine (unhide CM _ _ _ (unhide H1') (unhide H2)).mono ?_
     rintro e w3 ⟨rfl,q,rfl⟩
     go_wp2
     go_ret
     exact ⟨rfl,(unhide B2).drewN q⟩
    ·have d4:decide ((y:Int)<(x:Int))=true:=decide_eq_true (by omega)
     have d5:decide ((x:Int)<(y:Int))=false:=decide_eq_false (by omega)
     have d7:IntKind.u64.wrap ((x:Int)-(y:Int))=(x:Int)-(y:Int):=by rw [IntKind.wrap_u64];omega
     by_cases c4:y+8≤x
     ·have ER:Hid (r=1):=by show _=_;rw [unhide hr,cmpN_one (unhide G1 c2 c4)]
      clear hr F1 F2 G1 G2
      have d6:decide (8≤(x:Int)-(y:Int))=true:=decide_eq_true (by omega)
      go_enter Tryz.func62,Tryz.ntmps62
      go_wp2_with fail
      refine (unhide L1).mono ?_
      rintro e w1 ⟨rfl,hw⟩
      obtain rfl:=hw.symm
      clear hw
      go_wp2_with fail
      refine (unhide L2).mono ?_
      rintro e w1 ⟨rfl,hw⟩
      obtain rfl:=hw.symm
      clear hw
      go_wp2
      go_ret
      exact ⟨by rw [unhide ER];rfl,But.refl _ _⟩
     ·have d6:decide (8≤(x:Int)-(y:Int))=false:=decide_eq_false (by omega)
      clear hr F1 F2 G1 G2
      go_enter Tryz.func62,Tryz.ntmps62
      go_wp2_with fail
      refine (unhide L1).mono ?_
      rintro e w1 ⟨rfl,hw⟩
      obtain rfl:=hw.symm
      clear hw
      go_wp2_with fail
      refine (unhide L2).mono ?_
      rintro e w1 ⟨rfl,hw⟩
      obtain rfl:=hw.symm
      clear hw
      go_wp2_with fail
      refine (unhide M1 _ (But.refl _ _)).mono ?_
      rintro e w1 ⟨v1,rfl,hv1,hb1,-⟩
      have H1:=hide hv1
      have B1:=hide hb1
      clear hv1 hb1
      go_wp2_with fail
      refine (unhide M2 _ (unhide B1)).mono ?_
      rintro e w2 ⟨v2,rfl,hv2,hb2,-⟩
      have H2:=hide hv2
      have H1':=hide ((unhide H1).but_nil hb2)
      have B2:Hid (But [] w w2):=(unhide B1).trans' hb2
      clear hv2 hb2 H1
      go_wp2_with fail
      refine (unhide CM _ _ _ (unhide H1') (unhide H2)).mono ?_
      rintro e w3 ⟨rfl,q,rfl⟩
      go_wp2
      go_ret
      exact ⟨rfl,(unhide B2).drewN q⟩
   ·have d2:(N==M)=false:=beq_eq_false_iff_ne.2 c2
    by_cases c3:N+1<M
    ·have ER:Hid (r=-1):=by show _=_;rw [unhide hr,cmpN_lt (unhide F2 c3)]
     clear hr F1 F2 G1 G2
     have d3:decide (N+1<M)=true:=decide_eq_true c3
     go_enter Tryz.func62,Tryz.ntmps62
     go_wp2_with fail
     refine (unhide L1).mono ?_
     rintro e w1 ⟨rfl,hw⟩
     obtain rfl:=hw.symm
     clear hw
     go_wp2_with fail
     refine (unhide L2).mono ?_
     rintro e w1 ⟨rfl,hw⟩
     obtain rfl:=hw.symm
     clear hw
     go_wp2
     go_ret
     exact ⟨by rw [unhide ER];rfl,But.refl _ _⟩
    ·have d3:decide (N+1<M)=false:=decide_eq_false c3
     clear hr F1 F2 G1 G2
     go_enter Tryz.func62,Tryz.ntmps62
     go_wp2_with fail
     refine (unhide L1).mono ?_
     rintro e w1 ⟨rfl,hw⟩
     obtain rfl:=hw.symm
     clear hw
     go_wp2_with fail
     refine (unhide L2).mono ?_
     rintro e w1 ⟨rfl,hw⟩
     obtain rfl:=hw.symm
     clear hw
     go_wp2_with fail
     refine (unhide M1 _ (But.refl _ _)).mono ?_
     rintro e w1 ⟨v1,rfl,hv1,hb1,-⟩
     have H1:=hide hv1
     have B1:=hide hb1
     clear hv1 hb1
     go_wp2_with fail
     refine (unhide M2 _ (unhide B1)).mono ?_
     rintro e w2 ⟨v2,rfl,hv2,hb2,-⟩
     have H2:=hide hv2
     have H1':=hide ((unhide H1).but_nil hb2)
     have B2:Hid (But [] w w2):=(unhide B1).trans' hb2
     clear hv2 hb2 H1
     go_wp2_with fail
     refine (unhide CM _ _ _ (unhide H1') (unhide H2)).mono ?_
     rintro e w3 ⟨rfl,q,rfl⟩
     go_wp2
     go_ret
     exact ⟨rfl,(unhide B2).drewN q⟩
end Go.Proofs.YthlnhheblhapgaaGreatDoor
