/- The leading bits of numbers and of their products, and what they tell of which is the greater one. -/
import Derived.Test.YtloojmaamaambaaGreatDoorKBN12
namespace Go.Proofs.YtloojmaamaambaaGreatDoor
open Go.RowKit

/-- x is the leading 64 bits of X, with N - 63 bits behind them -/
structure Lead (X x N : Nat) : Prop where
 lo : 9223372036854775808 ≤ x
 hi : x < 18446744073709551616
 ge : x * 2 ^ N ≤ X * 9223372036854775808
 lt : X * 9223372036854775808 < (x + 1) * 2 ^ N
theorem pow63 (k : Nat) (h : k ≤ 63) : 2 ^ k * 2 ^ (63 - k) = 9223372036854775808:=by
 rw [← Nat.pow_add,show k + (63 - k) = 63 from by omega]
theorem lead_one (t k : Nat) (hk : k ≤ 63) (h1 : 9223372036854775808 ≤ t * 2 ^ k) (h2 : t * 2 ^ k < 18446744073709551616) : Lead t (t * 2 ^ k) (63 - k):=by
 have hp : 0 < 2 ^ (63 - k):=Nat.pow_pos (by omega)
 refine ⟨h1,h2,?_,?_⟩
 ·rw [Nat.mul_assoc,pow63 k hk]; omega
 ·rw [Nat.add_mul,Nat.mul_assoc,pow63 k hk]; omega
theorem lead_more (X R P m s t k : Nat) (hP : P = 18446744073709551616 ^ m) (hX : X = R + P * (s + 18446744073709551616 * t)) (hR : R < P) (hs : s < 18446744073709551616) (hk : k ≤ 63) (h1 : 9223372036854775808 ≤ t * 2 ^ k) (h2 : t * 2 ^ k < 18446744073709551616) :
  Lead X (t * 2 ^ k + s / 2 ^ (64 - k)) (64 * (m + 1) + 63 - k)∧s / 2 ^ (64 - k) < 2 ^ k:=by
 have hB : 18446744073709551616 = 2 ^ (64 - k) * 2 ^ k:=by rw [← Nat.pow_add,show 64 - k + k = 64 from by omega]
 have hK : 0 < 2 ^ k:=Nat.pow_pos (by omega)
 have hQ : 0 < 2 ^ (64 - k):=Nat.pow_pos (by omega)
 have hu : s / 2 ^ (64 - k) < 2 ^ k:=by rw [Nat.div_lt_iff_lt_mul hQ,Nat.mul_comm,← hB]; exact hs
 have hd:=Nat.div_add_mod s (2 ^ (64 - k))
 have hr:=Nat.mod_lt s hQ
 have e63:=pow63 k hk
 have hN : 2 ^ (64 * (m + 1) + 63 - k) = P * 18446744073709551616 * 2 ^ (63 - k):=by
  rw [hP,show 64 * (m + 1) + 63 - k = 64 * m + 64 + (63 - k) from by omega,Nat.pow_add,Nat.pow_add,Nat.pow_mul]
 have hz : 0 < 2 ^ (63 - k):=Nat.pow_pos (by omega)
 generalize hu1 : s / 2 ^ (64 - k) = u at *
 generalize s % 2 ^ (64 - k) = r at *
 generalize 64 * (m + 1) + 63 - k = N at *
 generalize 2 ^ (63 - k) = z at *
 generalize 2 ^ (64 - k) = Q at *
 generalize 2 ^ k = K at *
 have htQ : t < Q:=by rw [hB] at h2; exact Nat.lt_of_mul_lt_mul_right h2
 have hx : t * K + u < 18446744073709551616:=by
  have : (t + 1) * K ≤ Q * K:=Nat.mul_le_mul_right _ htQ
  rw [← hB,Nat.add_mul] at this; omega
 have eX : X * K = R * K + P * ((t * K + u) * 18446744073709551616 + r * K):=by rw [hX,← hd,hB]; grind
 have hrK : r * K + K ≤ 18446744073709551616:=by
  have : (r + 1) * K ≤ Q * K:=Nat.mul_le_mul_right _ hr
  rw [← hB,Nat.add_mul] at this; omega
 have hRK : R * K < P * K:=Nat.mul_lt_mul_of_pos_right hR hK
 have g1 : (t * K + u) * (P * 18446744073709551616) ≤ X * K:=by
  rw [eX]
  have : P * ((t * K + u) * 18446744073709551616) ≤ P * ((t * K + u) * 18446744073709551616 + r * K):=Nat.mul_le_mul_left _ (by omega)
  have e : (t * K + u) * (P * 18446744073709551616) = P * ((t * K + u) * 18446744073709551616):=by grind
  omega
 have g2 : X * K < (t * K + u + 1) * (P * 18446744073709551616):=by
  rw [eX]
  have h3 : P * ((t * K + u) * 18446744073709551616 + r * K + K) ≤ P * ((t * K + u) * 18446744073709551616 + 18446744073709551616):=Nat.mul_le_mul_left _ (by omega)
  have e : (t * K + u + 1) * (P * 18446744073709551616) = P * ((t * K + u) * 18446744073709551616 + 18446744073709551616):=by grind
  have e2 : P * ((t * K + u) * 18446744073709551616 + r * K + K) = P * ((t * K + u) * 18446744073709551616 + r * K) + P * K:=by grind
  omega
 refine ⟨⟨by omega,hx,?_,?_⟩,hu⟩
 ·rw [hN,← e63,← Nat.mul_assoc X,← Nat.mul_assoc (t * K + u)]; exact Nat.mul_le_mul_right _ g1
 ·rw [hN,← e63,← Nat.mul_assoc X,← Nat.mul_assoc (t * K + u + 1)]; exact Nat.mul_lt_mul_of_pos_right g2 hz

/-- p is the leading 64 bits of a product Z, or up to eight less, with K - 126 bits behind them -/
structure LeadP (Z p K : Nat) : Prop where
 lo : 9223372036854775808 ≤ p
 hi : p < 18446744073709551616
 ge : p * 2 ^ K ≤ Z * 85070591730234615865843651857942052864
 lt : Z * 85070591730234615865843651857942052864 < (p + 8) * 2 ^ K
theorem lead_mul' (A C x y n m z : Nat) (h1 : x * n ≤ A * z) (h2 : A * z < (x + 1) * n) (g1 : y * m ≤ C * z) (g2 : C * z < (y + 1) * m) : x * y * (n * m) ≤ A * C * (z * z)∧A * C * (z * z) < (x + 1) * (y + 1) * (n * m):=by
 have h1:=Nat.mul_le_mul h1 g1
 have h2:=Nat.mul_lt_mul'' h2 g2
 constructor
 ·have e1 : x * n * (y * m) = x * y * (n * m):=by grind
  have e2 : A * z * (C * z) = A * C * (z * z):=by grind
  rw [← e1,← e2]; exact h1
 ·have e1 : (x + 1) * n * ((y + 1) * m) = (x + 1) * (y + 1) * (n * m):=by grind
  have e2 : A * z * (C * z) = A * C * (z * z):=by grind
  rw [← e1,← e2]; exact h2
theorem lead_mul {A C x y N M : Nat} (h : Lead A x N) (g : Lead C y M) : x * y * 2 ^ (N + M) ≤ A * C * 85070591730234615865843651857942052864∧A * C * 85070591730234615865843651857942052864 < (x + 1) * (y + 1) * 2 ^ (N + M):=by
 have e:=lead_mul' A C x y _ _ _ h.ge h.lt g.ge g.lt
 rw [← Nat.pow_add] at e
 exact e
theorem lead_prod {A C x y N M : Nat} (h : Lead A x N) (g : Lead C y M) : 85070591730234615865843651857942052864 ≤ x * y∧(x + 1) * (y + 1) ≤ x * y + 18446744073709551616 + 18446744073709551616:=by
 have h1:=h.hi
 have h2:=g.hi
 have h3:=Nat.mul_le_mul h.lo g.lo
 have e : (x + 1) * (y + 1) = x * y + x + y + 1:=by grind
 refine ⟨h3,?_⟩
 rw [e]
 generalize x * y = u
 omega
theorem high_facts (u v : Nat) (hv : v ≤ u + 18446744073709551616 + 18446744073709551616) : u / 18446744073709551616 * 18446744073709551616 ≤ u∧v ≤ (u / 18446744073709551616 + 8) * 18446744073709551616:=⟨by omega,by omega⟩
theorem low_facts (u v : Nat) (hv : v ≤ u + 18446744073709551616 + 18446744073709551616) : u / 9223372036854775808 * 9223372036854775808 ≤ u∧v ≤ (u / 9223372036854775808 + 8) * 9223372036854775808:=⟨by omega,by omega⟩
theorem low_eq (u : Nat) : u / 18446744073709551616 * 2 + u % 18446744073709551616 / 9223372036854775808 = u / 9223372036854775808:=by omega
theorem low_bounds (u : Nat) (h1 : 85070591730234615865843651857942052864 ≤ u) (h2 : u / 18446744073709551616 < 9223372036854775808) : 9223372036854775808 ≤ u / 9223372036854775808∧u / 9223372036854775808 < 18446744073709551616:=by
 constructor
 ·rw [Nat.le_div_iff_mul_le (by omega)]; exact h1
 ·omega
theorem leadP_high {A C x y N M : Nat} (h : Lead A x N) (g : Lead C y M) (hh : 9223372036854775808 ≤ x * y / 18446744073709551616) : LeadP (A * C) (x * y / 18446744073709551616) (N + M + 64):=by
 obtain ⟨a1,a2⟩:=lead_mul h g
 obtain ⟨b1,b3⟩:=lead_prod h g
 have b4 : x * y / 18446744073709551616 < 18446744073709551616:=by rw [Nat.div_lt_iff_lt_mul (by omega)]; exact Nat.mul_lt_mul'' h.hi g.hi
 obtain ⟨c1,c2⟩:=high_facts _ _ b3
 have e64 : 2 ^ (N + M + 64) = 18446744073709551616 * 2 ^ (N + M):=by rw [Nat.pow_add,Nat.mul_comm]
 refine ⟨hh,b4,?_,?_⟩
 ·rw [e64,← Nat.mul_assoc]; exact Nat.le_trans (Nat.mul_le_mul_right _ c1) a1
 ·rw [e64,← Nat.mul_assoc]; exact Nat.lt_of_lt_of_le a2 (Nat.mul_le_mul_right _ c2)
theorem leadP_low {A C x y N M : Nat} (h : Lead A x N) (g : Lead C y M) (hh : x * y / 18446744073709551616 < 9223372036854775808) : LeadP (A * C) (x * y / 18446744073709551616 * 2 + x * y % 18446744073709551616 / 9223372036854775808) (N + M + 63):=by
 obtain ⟨a1,a2⟩:=lead_mul h g
 obtain ⟨b1,b3⟩:=lead_prod h g
 obtain ⟨c1,c2⟩:=low_facts _ _ b3
 obtain ⟨d1,d2⟩:=low_bounds _ b1 hh
 have e64 : 2 ^ (N + M + 63) = 9223372036854775808 * 2 ^ (N + M):=by rw [Nat.pow_add,Nat.mul_comm]
 rw [low_eq]
 refine ⟨d1,d2,?_,?_⟩
 ·rw [e64,← Nat.mul_assoc]; exact Nat.le_trans (Nat.mul_le_mul_right _ c1) a1
 ·rw [e64,← Nat.mul_assoc]; exact Nat.lt_of_lt_of_le a2 (Nat.mul_le_mul_right _ c2)
theorem leadP_far {Z Z' p q K M : Nat} (h : LeadP Z p K) (g : LeadP Z' q M) (hk : M + 1 < K) : Z' < Z:=by
 refine Nat.lt_of_mul_lt_mul_right (a:=85070591730234615865843651857942052864) (Nat.lt_of_lt_of_le g.lt (Nat.le_trans ?_ h.ge))
 have h1 : 2 ^ (M + 2) ≤ 2 ^ K:=Nat.pow_le_pow_right (by omega) (by omega)
 rw [Nat.pow_add] at h1
 have h2 : p * (2 ^ M * 2 ^ 2) ≤ p * 2 ^ K:=Nat.mul_le_mul_left _ h1
 have h3:=h.lo
 have h4:=g.hi
 refine Nat.le_trans ?_ h2
 rw [Nat.mul_comm (2 ^ M),← Nat.mul_assoc]
 exact Nat.mul_le_mul_right _ (by omega)
theorem leadP_near {Z Z' p q K : Nat} (h : LeadP Z p K) (g : LeadP Z' q K) (hk : q + 8 ≤ p) : Z' < Z:=by
 refine Nat.lt_of_mul_lt_mul_right (a:=85070591730234615865843651857942052864) (Nat.lt_of_lt_of_le g.lt (Nat.le_trans ?_ h.ge))
 exact Nat.mul_le_mul_right _ hk
end Go.Proofs.YtloojmaamaambaaGreatDoor

namespace Go.Proofs.YtloojmaamaambaaGreatDoor
open Go.RowKit

/-- the leading 64 bits of a number -/
def leadW (X : Nat) : Nat:=topW X * 2 ^ lz (topW X) + (if (wd 18446744073709551616 X).length ≤ 1 then 0 else (wd 18446744073709551616 X)[(wd 18446744073709551616 X).length - 2]?.getD 0 / 2 ^ (64 - lz (topW X)))
/-- how many bits are behind them, and 63 -/
def leadN (X : Nat) : Nat:=64 * ((wd 18446744073709551616 X).length - 1) + 63 - lz (topW X)
theorem lead_ok (X : Nat) (h : 0 < X) : Lead X (leadW X) (leadN X):=by
 obtain ⟨t1,t2,-,-⟩:=top_pos X h
 obtain ⟨l1,l2,l3,-⟩:=lz_facts (topW X) t1 t2
 have hl : 0 < (wd 18446744073709551616 X).length:=by rw [Nat.pos_iff_ne_zero]; intro e; rw [wd_len_zero (by omega)] at e; omega
 unfold leadW leadN
 by_cases h1 : (wd 18446744073709551616 X).length ≤ 1
 ·have hX : X < 18446744073709551616:=by
   have:=lt_of_wd_length (B:=18446744073709551616) (by omega) X 1 h1
   rw [Nat.pow_one] at this; exact this
  have e : topW X = X:=by unfold topW; rw [wd_word X h hX]; rfl
  rw [if_pos h1,Nat.add_zero,show (wd 18446744073709551616 X).length - 1 = 0 from by omega,Nat.mul_zero,Nat.zero_add]
  rw [e] at l1 l2 l3 ⊢
  exact lead_one X _ l1 l3 l2
 ·rw [if_neg h1]
  obtain ⟨m,hm⟩ : ∃ m,(wd 18446744073709551616 X).length = m + 2:=⟨(wd 18446744073709551616 X).length - 2,by omega⟩
  have e2:=vl_take_lt (wd 18446744073709551616 X) m (by omega) (wd_mem (by omega) X)
  have e3:=mem_getD (wd_mem (B:=18446744073709551616) (by omega) X) (by omega : 0 < 18446744073709551616) m
  have e4:=vl_split 18446744073709551616 (wd 18446744073709551616 X) m (by omega)
  have e5:=vl_drop 18446744073709551616 (wd 18446744073709551616 X) (m + 1) (by omega)
  rw [List.drop_eq_nil_of_le (by omega : (wd 18446744073709551616 X).length ≤ m + 1 + 1)] at e5
  rw [vl_wd (by omega),e5] at e4
  rw [show (wd 18446744073709551616 X)[m + 1]?.getD 0 = topW X from by unfold topW; rw [hm]; rfl] at e4
  rw [show (wd 18446744073709551616 X).length - 2 = m from by omega,show (wd 18446744073709551616 X).length - 1 = m + 1 from by omega]
  simp only [vl,Nat.mul_zero,Nat.add_zero] at e4
  exact (lead_more X _ _ m _ (topW X) (lz (topW X)) rfl e4 e2 e3 l1 l3 l2).1

set_option maxHeartbeats 4000000 in
set_option maxRecDepth 100000 in
theorem leading_any (v : Value) (X : Nat) (hX : 0 < X) (w : World) (hv : Sl .u64 w v (wd 18446744073709551616 X)) (hl : (wd 18446744073709551616 X).length < 134217728) (x : Nat) (N : Int) (hx : Hid (x = leadW X)) (hN : Hid (N = (leadN X : Int) - 63)) :
  Calls Tryz.prog 200 #[v] w fun e w' => e = .returned (.tuple #[.int .u64 (x : Int),.int .i64 N])∧w' = w:=by
 obtain ⟨t1,t2,-,-⟩:=top_pos X hX
 obtain ⟨hs,l2,l3,-⟩:=lz_facts (topW X) t1 t2
 have LZ:=hide (fun W => lead_any (topW X) t1 t2 W)
 rcases hv.open with ⟨e,-⟩ | ⟨hp,b,o,c,rfl,hc,-,hcell⟩
 ·rw [wd_nil_iff (by omega)] at e; omega
 have hct:=hcell ((wd 18446744073709551616 X).length - 1) (by omega)
 rw [show (wd 18446744073709551616 X)[(wd 18446744073709551616 X).length - 1]?.getD 0 = topW X from rfl] at hct
 have E0 : IntKind.u64.wrap (((topW X : Nat) : Int) * 2 ^ lz (topW X)) = ((topW X * 2 ^ lz (topW X) : Nat) : Int):=by
  have e : ((topW X : Nat) : Int) * 2 ^ lz (topW X) = ((topW X * 2 ^ lz (topW X) : Nat) : Int):=by simp
  rw [e,IntKind.wrap_u64]; omega
 unfold leadW at hx
 unfold leadN at hN
 by_cases h1 : (wd 18446744073709551616 X).length ≤ 1
 ·have hl1 : (wd 18446744073709551616 X).length = 1:=by omega
  rw [if_pos h1,Nat.add_zero] at hx
  rw [hl1] at hct hN ⊢
  rw [Nat.sub_self,Nat.add_zero] at hct
  have hNN : Hid (N = -((lz (topW X) : Nat) : Int)):=by
   show _ = _; rw [unhide hN]; omega
  clear hcell hN hv
  generalize topW X * 2 ^ lz (topW X) = y at *
  generalize lz (topW X) = s at *
  generalize topW X = t at *
  have HX : x = y:=unhide hx
  subst HX
  have HN : N = -(s : Int):=unhide hNN
  subst HN
  go_enter Tryz.func200,Tryz.ntmps200
  go_wp2_with fail
  refine (unhide LZ _).mono ?_
  rintro e w1 ⟨rfl,hw⟩
  obtain rfl:=hw.symm
  clear hw
  go_wp2
  go_ret2
  exact ⟨rfl,rfl⟩
 ·rw [if_neg h1] at hx
  have hc2:=hcell ((wd 18446744073709551616 X).length - 2) (by omega)
  have e3:=mem_getD (wd_mem (B:=18446744073709551616) (by omega) X) (by omega : 0 < 18446744073709551616) ((wd 18446744073709551616 X).length - 2)
  generalize (wd 18446744073709551616 X)[(wd 18446744073709551616 X).length - 2]?.getD 0 = y at *
  have hu : y / 2 ^ (64 - lz (topW X)) < 2 ^ lz (topW X):=by
   have hB : 18446744073709551616 = 2 ^ (64 - lz (topW X)) * 2 ^ lz (topW X):=by rw [← Nat.pow_add,show 64 - lz (topW X) + lz (topW X) = 64 from by omega]
   rw [Nat.div_lt_iff_lt_mul (Nat.pow_pos (by omega)),Nat.mul_comm,← hB]; exact e3
  have hub : y / 2 ^ (64 - lz (topW X)) < 18446744073709551616:=Nat.lt_of_le_of_lt (Nat.div_le_self _ _) e3
  have hor : topW X * 2 ^ lz (topW X) ||| y / 2 ^ (64 - lz (topW X)) = topW X * 2 ^ lz (topW X) + y / 2 ^ (64 - lz (topW X)):=by
   rw [Nat.mul_comm,Nat.two_pow_add_eq_or_of_lt hu]
  have E1 : bits .or .u64 ((topW X * 2 ^ lz (topW X) : Nat) : Int) ((y / 2 ^ (64 - lz (topW X)) : Nat) : Int) = ((topW X * 2 ^ lz (topW X) + y / 2 ^ (64 - lz (topW X)) : Nat) : Int):=by
   rw [bits_or_u64_nat _ _ l2 hub,hor]
  have E2 : ((y : Nat) : Int) / 2 ^ (64 - lz (topW X)) = ((y / 2 ^ (64 - lz (topW X)) : Nat) : Int):=by simp
  have E3 : (64 - ((lz (topW X) : Nat) : Int)).toNat = 64 - lz (topW X):=by omega
  clear hcell hv hor hu
  generalize topW X * 2 ^ lz (topW X) + y / 2 ^ (64 - lz (topW X)) = z at *
  generalize y / 2 ^ (64 - lz (topW X)) = q at *
  generalize topW X * 2 ^ lz (topW X) = p at *
  generalize lz (topW X) = s at *
  generalize topW X = t at *
  generalize (wd 18446744073709551616 X).length = n at *
  have HX : x = z:=unhide hx
  subst HX
  have HN : N = ((n : Int) - 1) * 64 - s:=by rw [unhide hN]; omega
  subst HN
  obtain ⟨m,rfl⟩ : ∃ m,n = m + 2:=⟨n - 2,by omega⟩
  rw [show m + 2 - 1 = m + 1 from rfl] at hct
  rw [show m + 2 - 2 = m from rfl] at hc2
  have hm0 : (0 : Int) ≤ (m : Int):=by omega
  clear hx hN
  go_enter Tryz.func200,Tryz.ntmps200
  go_wp2_with fail
  refine (unhide LZ _).mono ?_
  rintro e w1 ⟨rfl,hw⟩
  obtain rfl:=hw.symm
  clear hw
  go_wp2
  go_ret2
  refine ⟨?_,rfl⟩
  go_num
end Go.Proofs.YtloojmaamaambaaGreatDoor

namespace Go.Proofs.YtloojmaamaambaaGreatDoor
open Go.RowKit

/-- the leading 64 bits of a product, or up to eight less -/
def prodW (A C : Nat) : Nat:=if leadW A * leadW C / 18446744073709551616 < 9223372036854775808 then leadW A * leadW C / 18446744073709551616 * 2 + leadW A * leadW C % 18446744073709551616 / 9223372036854775808 else leadW A * leadW C / 18446744073709551616
/-- how many bits are behind them, and 126 -/
def prodK (A C : Nat) : Nat:=if leadW A * leadW C / 18446744073709551616 < 9223372036854775808 then leadN A + leadN C + 63 else leadN A + leadN C + 64
theorem prod_ok (A C : Nat) (hA : 0 < A) (hC : 0 < C) : LeadP (A * C) (prodW A C) (prodK A C):=by
 have h:=lead_ok A hA
 have g:=lead_ok C hC
 unfold prodW prodK
 split
 ·exact leadP_low h g (by assumption)
 ·exact leadP_high h g (by omega)
theorem leadN_le (X : Nat) (n : Nat) (h : (wd 18446744073709551616 X).length < n) : leadN X ≤ 64 * n:=by unfold leadN; omega
theorem prodK_le (A C n : Nat) (hA : (wd 18446744073709551616 A).length < n) (hC : (wd 18446744073709551616 C).length < n) : prodK A C ≤ 128 * n + 64:=by
 have h1:=leadN_le A n hA
 have h2:=leadN_le C n hC
 unfold prodK
 split <;> omega

set_option maxHeartbeats 4000000 in
set_option maxRecDepth 100000 in
theorem leadingProduct_any (va vc : Value) (A C : Nat) (hA : 0 < A) (hC : 0 < C) (w : World) (ha : Sl .u64 w va (wd 18446744073709551616 A)) (hc : Sl .u64 w vc (wd 18446744073709551616 C)) (hla : (wd 18446744073709551616 A).length < 134217728) (hlc : (wd 18446744073709551616 C).length < 134217728) (p : Nat) (K : Int) (hp : Hid (p = prodW A C)) (hK : Hid (K = (prodK A C : Int) - 126)) :
  Calls Tryz.prog 186 #[va,vc] w fun e w' => e = .returned (.tuple #[.int .u64 (p : Int),.int .i64 K])∧w' = w:=by
 have LA:=hide (leading_any va A hA w ha hla (leadW A) ((leadN A : Int) - 63) rfl rfl)
 have LC:=hide (leading_any vc C hC w hc hlc (leadW C) ((leadN C : Int) - 63) rfl rfl)
 have ba:=(lead_ok A hA).hi
 have bc:=(lead_ok C hC).hi
 have na:=leadN_le A _ hla
 have nc:=leadN_le C _ hlc
 have MU:=hide (fun W => Tryz.bits_Mul64 (leadW A) (leadW C) ba bc W)
 have hzB : leadW A * leadW C / 18446744073709551616 < 18446744073709551616:=by rw [Nat.div_lt_iff_lt_mul (by omega)]; exact Nat.mul_lt_mul'' ba bc
 have hzL : leadW A * leadW C % 18446744073709551616 < 18446744073709551616:=Nat.mod_lt _ (by omega)
 unfold prodW at hp
 unfold prodK at hK
 obtain ⟨aa,ca,rfl,-,-⟩:=ha
 obtain ⟨ac,cc,rfl,-,-⟩:=hc
 generalize (wd 18446744073709551616 A).length = la at *
 generalize (wd 18446744073709551616 C).length = lc at *
 generalize leadW A * leadW C / 18446744073709551616 = hi at *
 generalize leadW A * leadW C % 18446744073709551616 = lo at *
 generalize leadW A = x at *
 generalize leadW C = y at *
 generalize leadN A = n at *
 generalize leadN C = m at *
 by_cases hh : hi < 9223372036854775808
 ·rw [if_pos hh] at hp hK
  have d1 : ((hi : Int) / 9223372036854775808 == 0) = true:=beq_iff_eq.2 (by omega)
  have hor : bits .or .u64 ((hi * 2 : Nat) : Int) ((lo / 9223372036854775808 : Nat) : Int) = ((hi * 2 + lo / 9223372036854775808 : Nat) : Int):=by
   rw [bits_or_u64_nat _ _ (by omega) (by omega)]
   have:=Nat.two_pow_add_eq_or_of_lt (i:=1) (b:=lo / 9223372036854775808) (by omega) hi
   rw [Nat.pow_one,Nat.mul_comm] at this
   rw [this]
  have e1 : IntKind.u64.wrap ((hi : Int) * 2) = ((hi * 2 : Nat) : Int):=by rw [IntKind.wrap_u64]; omega
  have e2 : (lo : Int) / 9223372036854775808 = ((lo / 9223372036854775808 : Nat) : Int):=by simp
  generalize hi * 2 + lo / 9223372036854775808 = z at *
  generalize lo / 9223372036854775808 = z2 at *
  generalize hi * 2 = z1 at *
  have HP : p = z:=unhide hp
  subst HP
  have HK : K = (n : Int) + m - 63:=by rw [unhide hK]; omega
  subst HK
  clear hp hK
  go_enter Tryz.func186,Tryz.ntmps186
  go_wp2_with fail
  refine (unhide LA).mono ?_
  rintro e w1 ⟨rfl,hw⟩
  obtain rfl:=hw.symm
  clear hw
  go_wp2_with fail
  refine (unhide LC).mono ?_
  rintro e w1 ⟨rfl,hw⟩
  obtain rfl:=hw.symm
  clear hw
  go_wp2_with fail
  refine (unhide MU _).mono ?_
  rintro e w1 ⟨rfl,hw⟩
  obtain rfl:=hw.symm
  clear hw
  go_wp2
  go_ret2
  refine ⟨?_,rfl⟩
  go_num
 ·rw [if_neg hh] at hp hK
  have d1 : ((hi : Int) / 9223372036854775808 == 0) = false:=beq_eq_false_iff_ne.2 (by omega)
  have HP : p = hi:=unhide hp
  subst HP
  have HK : K = (n : Int) + m - 62:=by rw [unhide hK]; omega
  subst HK
  clear hp hK
  go_enter Tryz.func186,Tryz.ntmps186
  go_wp2_with fail
  refine (unhide LA).mono ?_
  rintro e w1 ⟨rfl,hw⟩
  obtain rfl:=hw.symm
  clear hw
  go_wp2_with fail
  refine (unhide LC).mono ?_
  rintro e w1 ⟨rfl,hw⟩
  obtain rfl:=hw.symm
  clear hw
  go_wp2_with fail
  refine (unhide MU _).mono ?_
  rintro e w1 ⟨rfl,hw⟩
  obtain rfl:=hw.symm
  clear hw
  go_wp2
  go_ret2
  refine ⟨?_,rfl⟩
  go_num
end Go.Proofs.YtloojmaamaambaaGreatDoor

namespace Go.Proofs.YtloojmaamaambaaGreatDoor
open Go.RowKit

set_option maxHeartbeats 2000000 in
set_option maxRecDepth 100000 in
theorem byWord_fresh (v : Value) (X d : Nat) (w : World) (hv : Sl .u64 w v (wd 18446744073709551616 X)) (hl : (wd 18446744073709551616 X).length < 1073741824) (hd : 0 < d) (hdB : d < 18446744073709551616) :
  Calls Tryz.prog 133 #[v,.int .u64 (d : Int)] w fun e w' => ∃ v',e = .returned (.tuple #[v',.int .u64 ((X % d : Nat) : Int)])∧Sl .u64 w' v' (wd 18446744073709551616 (X / d))∧But [] w w'∧Fresh w.heap.size v':=by
 have mm:=wd_mem (B:=18446744073709551616) (by omega) X
 have em:=vl_wd (B:=18446744073709551616) (by omega) X
 obtain ⟨a,c,rfl,hc,hcell,-⟩:=hv
 generalize wd 18446744073709551616 X = xs at *
 subst em
 obtain ⟨R,hR⟩ : ∃ R,R = vl 18446744073709551616 xs % d:=⟨_,rfl⟩
 rw [← hR]
 have HR:=hide hR
 have hmk:=fun wx => run_make64 wx xs.length (by omega)
 have HC:=hide hcell
 have MM:=hide mm
 clear hcell mm hR
 go_enter Tryz.func133,Tryz.ntmps133
 go_wp2
 go_loopw [7,8] (fun r i wr => ∃ (k rN : Nat) (rs : List Nat),k ≤ xs.length∧i = .int .i64 ((k : Int) - 1)∧r = .int .u64 rN∧rN < d∧rs.length = xs.length∧Hid (ByInv xs rs d k rN∧But [] w wr∧Seg wr w.heap.size 0 rs)) (fun _ i _ => (intOf i + 1).toNat)
 case atStart => exact ⟨xs.length,0,List.replicate xs.length 0,Nat.le_refl _,rfl,rfl,hd,by simp,ByInv.start xs d hd,(But.refl _ _).alloc _,Seg.made _ _ _⟩
 case round =>
  obtain ⟨k,rN,rs,hk,rfl,rfl,hrN,hrl,HI⟩:=hrel
  rename World => wr
  by_cases hk0 : k = 0
  ·subst hk0
   have hsl:=(unhide HI).2.2.sl xs.length (by omega)
   rw [hrl] at hsl
   have HSL:=hide hsl
   have HF:=hide (unhide HI).1.fin
   have hln : rs.length < 2147483648:=by omega
   clear hsl HC
   go_wp2_with fail
   refine (trimmed_any _ rs _ (unhide HSL) (unhide HI).1.mem hln).mono ?_
   rintro e w1 ⟨v1,rfl,hv1,hw,hsb⟩
   obtain rfl:=hw.symm
   clear hw
   rw [(unhide HF).1] at hv1
   have HV1:=hide hv1
   have HSB:=hide hsb
   clear hsb
   have er : Hid (rN = R):=by show _ = _; rw [unhide HR]; exact (unhide HF).2
   clear hv1
   go_wp2
   go_ret2
   exact ⟨v1,by rw [← unhide er]; rfl,unhide HV1,(unhide HI).2.1,fresh_of (unhide HSB) (Nat.le_refl _)⟩
  ·obtain ⟨i,rfl⟩ : ∃ i,k = i + 1:=⟨k - 1,by omega⟩
   obtain ⟨b,off,rfl,hci⟩:=unhide HC i (by omega)
   have cx:=(unhide HI).2.1.cell_some hci (by simp)
   have hxB : xs[i]?.getD 0 < 18446744073709551616:=mem_getD (unhide MM) (by omega) i
   obtain ⟨cr,fr⟩:=(unhide HI).2.2 i (by omega)
   rw [Nat.zero_add] at cr fr
   obtain ⟨q,hq⟩ : ∃ q,(rN * 18446744073709551616 + xs[i]?.getD 0) / d = q:=⟨_,rfl⟩
   obtain ⟨r',hr'⟩ : ∃ r',(rN * 18446744073709551616 + xs[i]?.getD 0) % d = r':=⟨_,rfl⟩
   obtain ⟨hqB,hst⟩:=(unhide HI).1.step (by omega) hxB q r' hq hr'
   have hr'd : r' < d:=hst.lt
   have ST:=hide hst
   have DV:=hide (div64_any rN (xs[i]?.getD 0) d hdB hxB hrN wr q r' hq hr')
   have hset:=(unhide HI).2.2.set i (by omega) q
   rw [Nat.zero_add] at hset
   have HSET:=hide hset
   clear hset hst hci hq hr'
   generalize xs[i]?.getD 0 = x at *
   generalize rs[i]?.getD 0 = r0 at cr
   rw [show (((i + 1 : Nat) : Int) - 1) = (i : Int) from by omega]
   go_wp2_with fail
   refine (unhide DV).mono ?_
   rintro e w1 ⟨rfl,n,rfl⟩
   go_wp2
   refine ⟨⟨i,r',rs.set i q,by omega,rfl,rfl,hr'd,by rw [List.length_set]; exact hrl,unhide ST,((unhide HI).2.1.drewN n).setCell (.inr (Nat.le_refl _)) _,?_⟩,?_⟩
   ·exact unhide HSET
   ·simp [intOf]
end Go.Proofs.YtloojmaamaambaaGreatDoor
