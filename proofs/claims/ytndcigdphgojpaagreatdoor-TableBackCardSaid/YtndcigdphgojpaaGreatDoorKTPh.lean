/- The leading bits of numbers and of their products, and what they tell of which is the greater one. -/
import Derived.Test.YtndcigdphgojpaaGreatDoorKTBase
namespace Go.Proofs.YtndcigdphgojpaaGreatDoor
open Go.RowKit

/-- x is the leading 64 bits of X, with N - 63 bits behind them -/
structure Lead (X x N : Nat) : Prop where
 lo : 9223372036854775808 ≤ x
 hi : x < 18446744073709551616
 ge : x * 2 ^ N ≤ X * 9223372036854775808
 lt : X * 9223372036854775808 < (x + 1) * 2 ^ N
theorem pow63 (k : Nat) (h : k ≤ 63) : 2 ^ k * 2 ^ (63 - k) = 9223372036854775808:=by
 rw [← Nat.pow_add,show k + (63 - k) = 63 from by omega]
theorem lead_one (t k : Nat) (hk : k ≤ 63) (h1 : 9223372036854775808 ≤ t * 2 ^ k) (h2 : t * 2 ^ k < 18446744073709551616) : Lead t (t * 2 ^ k) (63 - k):=by
 have hp : 0 < 2 ^ (63 - k):=Nat.pow_pos (by omega)
 refine ⟨h1,h2,?_,?_⟩
 ·rw [Nat.mul_assoc,pow63 k hk]; omega
 ·rw [Nat.add_mul,Nat.mul_assoc,pow63 k hk]; omega
theorem lead_more (X R P m s t k : Nat) (hP : P = 18446744073709551616 ^ m) (hX : X = R + P * (s + 18446744073709551616 * t)) (hR : R < P) (hs : s < 18446744073709551616) (hk : k ≤ 63) (h1 : 9223372036854775808 ≤ t * 2 ^ k) (h2 : t * 2 ^ k < 18446744073709551616) :
  Lead X (t * 2 ^ k + s / 2 ^ (64 - k)) (64 * (m + 1) + 63 - k)∧s / 2 ^ (64 - k) < 2 ^ k:=by
 have hB : 18446744073709551616 = 2 ^ (64 - k) * 2 ^ k:=by rw [← Nat.pow_add,show 64 - k + k = 64 from by omega]
 have hK : 0 < 2 ^ k:=Nat.pow_pos (by omega)
 have hQ : 0 < 2 ^ (64 - k):=Nat.pow_pos (by omega)
 have hu : s / 2 ^ (64 - k) < 2 ^ k:=by rw [Nat.div_lt_iff_lt_mul hQ,Nat.mul_comm,← hB]; exact hs
 have hd:=Nat.div_add_mod s (2 ^ (64 - k))
 have hr:=Nat.mod_lt s hQ
 have e63:=pow63 k hk
 have hN : 2 ^ (64 * (m + 1) + 63 - k) = P * 18446744073709551616 * 2 ^ (63 - k):=by
  rw [hP,show 64 * (m + 1) + 63 - k = 64 * m + 64 + (63 - k) from by omega,Nat.pow_add,Nat.pow_add,Nat.pow_mul]
 have hz : 0 < 2 ^ (63 - k):=Nat.pow_pos (by omega)
 generalize hu1 : s / 2 ^ (64 - k) = u at *
 generalize s % 2 ^ (64 - k) = r at *
 generalize 64 * (m + 1) + 63 - k = N at *
 generalize 2 ^ (63 - k) = z at *
 generalize 2 ^ (64 - k) = Q at *
 generalize 2 ^ k = K at *
 have htQ : t < Q:=by rw [hB] at h2; exact Nat.lt_of_mul_lt_mul_right h2
 have hx : t * K + u < 18446744073709551616:=by
  have : (t + 1) * K ≤ Q * K:=Nat.mul_le_mul_right _ htQ
  rw [← hB,Nat.add_mul] at this; omega
 have eX : X * K = R * K + P * ((t * K + u) * 18446744073709551616 + r * K):=by rw [hX,← hd,hB]; grind
 have hrK : r * K + K ≤ 18446744073709551616:=by
  have : (r + 1) * K ≤ Q * K:=Nat.mul_le_mul_right _ hr
  rw [← hB,Nat.add_mul] at this; omega
 have hRK : R * K < P * K:=Nat.mul_lt_mul_of_pos_right hR hK
 have g1 : (t * K + u) * (P * 18446744073709551616) ≤ X * K:=by
  rw [eX]
  have : P * ((t * K + u) * 18446744073709551616) ≤ P * ((t * K + u) * 18446744073709551616 + r * K):=Nat.mul_le_mul_left _ (by omega)
  have e : (t * K + u) * (P * 18446744073709551616) = P * ((t * K + u) * 18446744073709551616):=by grind
  omega
 have g2 : X * K < (t * K + u + 1) * (P * 18446744073709551616):=by
  rw [eX]
  have h3 : P * ((t * K + u) * 18446744073709551616 + r * K + K) ≤ P * ((t * K + u) * 18446744073709551616 + 18446744073709551616):=Nat.mul_le_mul_left _ (by omega)
  have e : (t * K + u + 1) * (P * 18446744073709551616) = P * ((t * K + u) * 18446744073709551616 + 18446744073709551616):=by grind
  have e2 : P * ((t * K + u) * 18446744073709551616 + r * K + K) = P * ((t * K + u) * 18446744073709551616 + r * K) + P * K:=by grind
  omega
 refine ⟨⟨by omega,hx,?_,?_⟩,hu⟩
 ·rw [hN,← e63,← Nat.mul_assoc X,← Nat.mul_assoc (t * K + u)]; exact Nat.mul_le_mul_right _ g1
 ·rw [hN,← e63,← Nat.mul_assoc X,← Nat.mul_assoc (t * K + u + 1)]; exact Nat.mul_lt_mul_of_pos_right g2 hz

/-- p is the leading 64 bits of a product Z, or up to eight less, with K - 126 bits behind them -/
structure LeadP (Z p K : Nat) : Prop where
 lo : 9223372036854775808 ≤ p
 hi : p < 18446744073709551616
 ge : p * 2 ^ K ≤ Z * 85070591730234615865843651857942052864
 lt : Z * 85070591730234615865843651857942052864 < (p + 8) * 2 ^ K
theorem lead_mul' (A C x y n m z : Nat) (h1 : x * n ≤ A * z) (h2 : A * z < (x + 1) * n) (g1 : y * m ≤ C * z) (g2 : C * z < (y + 1) * m) : x * y * (n * m) ≤ A * C * (z * z)∧A * C * (z * z) < (x + 1) * (y + 1) * (n * m):=by
 have h1:=Nat.mul_le_mul h1 g1
 have h2:=Nat.mul_lt_mul'' h2 g2
 constructor
 ·have e1 : x * n * (y * m) = x * y * (n * m):=by grind
  have e2 : A * z * (C * z) = A * C * (z * z):=by grind
  rw [← e1,← e2]; exact h1
 ·have e1 : (x + 1) * n * ((y + 1) * m) = (x + 1) * (y + 1) * (n * m):=by grind
  have e2 : A * z * (C * z) = A * C * (z * z):=by grind
  rw [← e1,← e2]; exact h2
theorem lead_mul {A C x y N M : Nat} (h : Lead A x N) (g : Lead C y M) : x * y * 2 ^ (N + M) ≤ A * C * 85070591730234615865843651857942052864∧A * C * 85070591730234615865843651857942052864 < (x + 1) * (y + 1) * 2 ^ (N + M):=by
 have e:=lead_mul' A C x y _ _ _ h.ge h.lt g.ge g.lt
 rw [← Nat.pow_add] at e
 exact e
theorem lead_prod {A C x y N M : Nat} (h : Lead A x N) (g : Lead C y M) : 85070591730234615865843651857942052864 ≤ x * y∧(x + 1) * (y + 1) ≤ x * y + 18446744073709551616 + 18446744073709551616:=by
 have h1:=h.hi
 have h2:=g.hi
 have h3:=Nat.mul_le_mul h.lo g.lo
 have e : (x + 1) * (y + 1) = x * y + x + y + 1:=by grind
 refine ⟨h3,?_⟩
 rw [e]
 generalize x * y = u
 omega
theorem high_facts (u v : Nat) (hv : v ≤ u + 18446744073709551616 + 18446744073709551616) : u / 18446744073709551616 * 18446744073709551616 ≤ u∧v ≤ (u / 18446744073709551616 + 8) * 18446744073709551616:=⟨by omega,by omega⟩
theorem low_facts (u v : Nat) (hv : v ≤ u + 18446744073709551616 + 18446744073709551616) : u / 9223372036854775808 * 9223372036854775808 ≤ u∧v ≤ (u / 9223372036854775808 + 8) * 9223372036854775808:=⟨by omega,by omega⟩
theorem low_eq (u : Nat) : u / 18446744073709551616 * 2 + u % 18446744073709551616 / 9223372036854775808 = u / 9223372036854775808:=by omega
theorem low_bounds (u : Nat) (h1 : 85070591730234615865843651857942052864 ≤ u) (h2 : u / 18446744073709551616 < 9223372036854775808) : 9223372036854775808 ≤ u / 9223372036854775808∧u / 9223372036854775808 < 18446744073709551616:=by
 constructor
 ·rw [Nat.le_div_iff_mul_le (by omega)]; exact h1
 ·omega
theorem leadP_high {A C x y N M : Nat} (h : Lead A x N) (g : Lead C y M) (hh : 9223372036854775808 ≤ x * y / 18446744073709551616) : LeadP (A * C) (x * y / 18446744073709551616) (N + M + 64):=by
 obtain ⟨a1,a2⟩:=lead_mul h g
 obtain ⟨b1,b3⟩:=lead_prod h g
 have b4 : x * y / 18446744073709551616 < 18446744073709551616:=by rw [Nat.div_lt_iff_lt_mul (by omega)]; exact Nat.mul_lt_mul'' h.hi g.hi
 obtain ⟨c1,c2⟩:=high_facts _ _ b3
 have e64 : 2 ^ (N + M + 64) = 18446744073709551616 * 2 ^ (N + M):=by rw [Nat.pow_add,Nat.mul_comm]
 refine ⟨hh,b4,?_,?_⟩
 ·rw [e64,← Nat.mul_assoc]; exact Nat.le_trans (Nat.mul_le_mul_right _ c1) a1
 ·rw [e64,← Nat.mul_assoc]; exact Nat.lt_of_lt_of_le a2 (Nat.mul_le_mul_right _ c2)
theorem leadP_low {A C x y N M : Nat} (h : Lead A x N) (g : Lead C y M) (hh : x * y / 18446744073709551616 < 9223372036854775808) : LeadP (A * C) (x * y / 18446744073709551616 * 2 + x * y % 18446744073709551616 / 9223372036854775808) (N + M + 63):=by
 obtain ⟨a1,a2⟩:=lead_mul h g
 obtain ⟨b1,b3⟩:=lead_prod h g
 obtain ⟨c1,c2⟩:=low_facts _ _ b3
 obtain ⟨d1,d2⟩:=low_bounds _ b1 hh
 have e64 : 2 ^ (N + M + 63) = 9223372036854775808 * 2 ^ (N + M):=by rw [Nat.pow_add,Nat.mul_comm]
 rw [low_eq]
 refine ⟨d1,d2,?_,?_⟩
 ·rw [e64,← Nat.mul_assoc]; exact Nat.le_trans (Nat.mul_le_mul_right _ c1) a1
 ·rw [e64,← Nat.mul_assoc]; exact Nat.lt_of_lt_of_le a2 (Nat.mul_le_mul_right _ c2)
theorem leadP_far {Z Z' p q K M : Nat} (h : LeadP Z p K) (g : LeadP Z' q M) (hk : M + 1 < K) : Z' < Z:=by
 refine Nat.lt_of_mul_lt_mul_right (a:=85070591730234615865843651857942052864) (Nat.lt_of_lt_of_le g.lt (Nat.le_trans ?_ h.ge))
 have h1 : 2 ^ (M + 2) ≤ 2 ^ K:=Nat.pow_le_pow_right (by omega) (by omega)
 rw [Nat.pow_add] at h1
 have h2 : p * (2 ^ M * 2 ^ 2) ≤ p * 2 ^ K:=Nat.mul_le_mul_left _ h1
 have h3:=h.lo
 have h4:=g.hi
 refine Nat.le_trans ?_ h2
 rw [Nat.mul_comm (2 ^ M),← Nat.mul_assoc]
 exact Nat.mul_le_mul_right _ (by omega)
theorem leadP_near {Z Z' p q K : Nat} (h : LeadP Z p K) (g : LeadP Z' q K) (hk : q + 8 ≤ p) : Z' < Z:=by
 refine Nat.lt_of_mul_lt_mul_right (a:=85070591730234615865843651857942052864) (Nat.lt_of_lt_of_le g.lt (Nat.le_trans ?_ h.ge))
 exact Nat.mul_le_mul_right _ hk
end Go.Proofs.YtndcigdphgojpaaGreatDoor
