/- Plain facts on dividing two words by one, in halves of words. -/
import Derived.Laws.Bits64b
import Derived.Test.YtloojmaamaambaaGreatDoorKBBase
namespace Go.Proofs.YtloojmaamaambaaGreatDoor
theorem dv_init (u Y n1 n0 u1 q r : Nat) (hY : Y = n1 * 4294967296 + n0) (e : u = q * n1 + r) (hr : r < n1) (hu1 : u1 < 4294967296) : (u * 4294967296 + u1) / Y ≤ q:=by
 have h0 : 0 < Y:=by omega
 have : u * 4294967296 + u1 < (q + 1) * (n1 * 4294967296):=by
  have h1 : u + 1 ≤ (q + 1) * n1:=by rw [e,Nat.add_mul]; omega
  have h2:=Nat.mul_le_mul_right 4294967296 h1
  grind
 apply Nat.le_of_lt_succ
 rw [Nat.div_lt_iff_lt_mul h0]
 subst hY
 grind
theorem dv_dec (u Y n1 n0 u1 q r : Nat) (hY : Y = n1 * 4294967296 + n0) (e : u = q * n1 + r) (hu : u < Y) (hu1 : u1 < 4294967296) (hc : 4294967296 ≤ q ∨ 4294967296 * r + u1 < q * n0) : (u * 4294967296 + u1) / Y < q:=by
 have h0 : 0 < Y:=by omega
 rw [Nat.div_lt_iff_lt_mul h0]
 rcases hc with hc | hc
 ·have h1 : 4294967296 * Y ≤ q * Y:=Nat.mul_le_mul_right _ hc
  omega
 ·subst hY e
  grind
theorem dv_fin (u Y n1 n0 u1 q r : Nat) (hY : Y = n1 * 4294967296 + n0) (e : u = q * n1 + r) (hu : u < Y) (hQ : (u * 4294967296 + u1) / Y ≤ q) (hc : q * n0 ≤ 4294967296 * r + u1) : q = (u * 4294967296 + u1) / Y:=by
 have h0 : 0 < Y:=by omega
 refine Nat.le_antisymm ?_ hQ
 rw [Nat.le_div_iff_mul_le h0]
 subst hY e
 grind
theorem dv_brk (u Y n1 n0 u1 q r : Nat) (hY : Y = n1 * 4294967296 + n0) (hn0 : n0 < 4294967296) (e : u = q * n1 + r) (hu : u < Y) (hr : 4294967296 ≤ r) : q < 4294967296∧q * n0 ≤ 4294967296 * r + u1:=by
 have hq : q < 4294967296:=by
  rcases Nat.lt_or_ge q 4294967296 with h | h
  ·exact h
  ·have:=Nat.mul_le_mul_right n1 h
   omega
 refine ⟨hq,?_⟩
 have h1 : q * n0 ≤ 4294967296 * 4294967296:=Nat.mul_le_mul (by omega) (by omega)
 omega
theorem dv_q_lt (u Y u1 : Nat) (hu : u < Y) (hu1 : u1 < 4294967296) : (u * 4294967296 + u1) / Y < 4294967296:=by
 rw [Nat.div_lt_iff_lt_mul (by omega)]
 omega
theorem dv_all (N y P Y u L u1 u0 q1 r1 q0 r0 : Nat) (hP : 0 < P) (hY : Y = y * P) (hN : N * P = u * 18446744073709551616 + L) (hL : L = u1 * 4294967296 + u0) (e1 : u * 4294967296 + u1 = q1 * Y + r1) (e0 : r1 * 4294967296 + u0 = q0 * Y + r0) (h0 : r0 < Y) : q1 * 4294967296 + q0 = N / y∧r0 / P = N % y:=by
 have h : N * P = (q1 * 4294967296 + q0) * (y * P) + r0:=by
  subst hL hY
  have : (u * 4294967296 + u1) * 4294967296 = (q1 * (y * P) + r1) * 4294967296:=by rw [e1]
  grind
 subst hY
 have hd : r0 = (N - (q1 * 4294967296 + q0) * y) * P:=by
  rw [Nat.sub_mul,h,Nat.mul_assoc]; omega
 have hle : (q1 * 4294967296 + q0) * y ≤ N:=by
  have : (q1 * 4294967296 + q0) * y * P ≤ N * P:=by rw [h,Nat.mul_assoc]; omega
  exact Nat.le_of_mul_le_mul_right this hP
 have hlt : N - (q1 * 4294967296 + q0) * y < y:=by
  rw [hd] at h0
  exact Nat.lt_of_mul_lt_mul_right h0
 have hN2 : N = (q1 * 4294967296 + q0) * y + (N - (q1 * 4294967296 + q0) * y):=by omega
 constructor
 ·refine (Nat.div_eq_of_lt_le ?_ ?_).symm
  ·exact hle
  ·rw [Nat.add_mul]; omega
 ·rw [hd,Nat.mul_div_cancel _ hP]
  have:=Nat.mod_eq_of_lt hlt
  conv => rhs; rw [hN2]
  rw [Nat.mul_comm _ y,Nat.mul_add_mod,Nat.mul_comm y,this]
theorem sh_or (hi lo s : Nat) (hs : s ≤ 63) (hlo : lo < 18446744073709551616) : (hi * 2 ^ s) ||| (lo / 2 ^ (64 - s)) = hi * 2 ^ s + lo / 2 ^ (64 - s)∧lo / 2 ^ (64 - s) < 2 ^ s:=by
 have hp : 18446744073709551616 = 2 ^ s * 2 ^ (64 - s):=by rw [← Nat.pow_add,show s + (64 - s) = 64 from by omega]
 have hb : lo / 2 ^ (64 - s) < 2 ^ s:=by
  rw [Nat.div_lt_iff_lt_mul (Nat.pow_pos (by omega)),← hp]; exact hlo
 refine ⟨?_,hb⟩
 rw [Nat.mul_comm hi,Nat.two_pow_add_eq_or_of_lt hb]
theorem sh_sum (hi lo s : Nat) (hs : s ≤ 63) : (hi * 18446744073709551616 + lo) * 2 ^ s = (hi * 2 ^ s + lo / 2 ^ (64 - s)) * 18446744073709551616 + lo * 2 ^ s % 18446744073709551616:=by
 have hp : 18446744073709551616 = 2 ^ (64 - s) * 2 ^ s:=by rw [← Nat.pow_add,show (64 - s) + s = 64 from by omega]
 have e : lo * 2 ^ s / 18446744073709551616 = lo / 2 ^ (64 - s):=by
  rw [hp,Nat.mul_div_mul_right _ _ (Nat.pow_pos (by omega))]
 have:=Nat.div_add_mod (lo * 2 ^ s) 18446744073709551616
 rw [e] at this
 grind
theorem gs_init (x2 x1 x0 f s P Rl Yl R Y q r : Nat) (hR : R = Rl + P * (x0 + 18446744073709551616 * (x1 + 18446744073709551616 * x2))) (hY : Y = Yl + P * (s + 18446744073709551616 * f)) (hl : Rl < P) (hx0 : x0 < 18446744073709551616) (e : x2 * 18446744073709551616 + x1 = q * f + r) (hr : r < f) : R < (q + 1) * Y:=by
 have h1 : x2 * 18446744073709551616 + x1 + 1 ≤ (q + 1) * f:=by rw [e,Nat.add_mul]; omega
 have h2 : (x2 * 18446744073709551616 + x1 + 1) * (18446744073709551616 * P) ≤ (q + 1) * f * (18446744073709551616 * P):=Nat.mul_le_mul_right _ h1
 have h3 : R < (x2 * 18446744073709551616 + x1 + 1) * (18446744073709551616 * P):=by
  have h4 : (x0 + 1) * P ≤ 18446744073709551616 * P:=Nat.mul_le_mul_right _ hx0
  subst hR
  grind
 have h5 : (q + 1) * f * (18446744073709551616 * P) ≤ (q + 1) * Y:=by
  subst hY
  grind
 omega
theorem gs_dec (x2 x1 x0 f s P Rl Yl R Y q r : Nat) (hR : R = Rl + P * (x0 + 18446744073709551616 * (x1 + 18446744073709551616 * x2))) (hY : Y = Yl + P * (s + 18446744073709551616 * f)) (hl : Rl < P) (e : x2 * 18446744073709551616 + x1 = q * f + r) (hc : r * 18446744073709551616 + x0 < q * s) : R < q * Y:=by
 have h1 : x2 * 18446744073709551616 * 18446744073709551616 + x1 * 18446744073709551616 + x0 + 1 ≤ q * (s + 18446744073709551616 * f):=by
  have : (x2 * 18446744073709551616 + x1) * 18446744073709551616 = (q * f + r) * 18446744073709551616:=by rw [e]
  grind
 have h2 : (x2 * 18446744073709551616 * 18446744073709551616 + x1 * 18446744073709551616 + x0 + 1) * P ≤ q * (s + 18446744073709551616 * f) * P:=Nat.mul_le_mul_right _ h1
 subst hR hY
 grind
end Go.Proofs.YtloojmaamaambaaGreatDoor

namespace Go.Proofs.YtloojmaamaambaaGreatDoor

/-- the sum of the first k -/
def sgR (f : Nat→Rat) : Nat→Rat
 | 0 => 0
 | k + 1 => sgR f k + f k
theorem sgR_congr (f g : Nat→Rat) : ∀ n,(∀ k,k < n→f k = g k)→sgR f n = sgR g n
 | 0,_ => rfl
 | n + 1,h => by
  show sgR f n + f n = sgR g n + g n
  rw [sgR_congr f g n (fun k hk => h k (by omega)),h n (by omega)]
theorem sgR_add (f g : Nat→Rat) : ∀ n,sgR (fun k => f k + g k) n = sgR f n + sgR g n
 | 0 => by
  show (0 : Rat) = 0 + 0
  grind
 | n + 1 => by
  show sgR _ n + (f n + g n) = sgR f n + f n + (sgR g n + g n)
  rw [sgR_add f g n]; grind
theorem sgR_nonneg (f : Nat→Rat) : ∀ n,(∀ k,k < n→0 ≤ f k)→0 ≤ sgR f n
 | 0,_ => by
  show (0 : Rat) ≤ 0
  decide
 | n + 1,h => by
  have h1:=sgR_nonneg f n (fun k hk => h k (by omega))
  have h2:=h n (by omega)
  show 0 ≤ sgR f n + f n
  grind
theorem sgR_lin (f : Nat→Rat) (c : Rat) : ∀ n,sgR (fun k => c * f k) n = c * sgR f n
 | 0 => by
  show (0 : Rat) = c * 0
  grind
 | n + 1 => by
  show sgR (fun k => c * f k) n + c * f n = c * (sgR f n + f n)
  rw [sgR_lin f c n]; grind
end Go.Proofs.YtloojmaamaambaaGreatDoor

namespace Go.Proofs.YtloojmaamaambaaGreatDoor

def max0 (x : Rat) : Rat:=if 0 ≤ x then x else 0
theorem sgR_sub (f g : Nat→Rat) : ∀ n,sgR (fun k => f k - g k) n = sgR f n - sgR g n
 | 0 => by
  show (0 : Rat) = 0 - 0
  grind
 | n + 1 => by
  show sgR _ n + (f n - g n) = sgR f n + f n - (sgR g n + g n)
  rw [sgR_sub f g n]; grind
end Go.Proofs.YtloojmaamaambaaGreatDoor

namespace Go.Proofs.YtloojmaamaambaaGreatDoor

/-- a sum of whole numbers -/
def sgN (f : Nat→Nat) : Nat→Nat
 | 0 => 0
 | k + 1 => sgN f k + f k
end Go.Proofs.YtloojmaamaambaaGreatDoor

namespace Go.Proofs.YtloojmaamaambaaGreatDoor

theorem sgR_times (f : Nat→Rat) (c : Rat) (n : Nat) : sgR (fun k => f k * c) n = sgR f n * c:=by
 rw [Rat.mul_comm,← sgR_lin]
 exact sgR_congr _ _ n (fun k _ => Rat.mul_comm _ _)
/-- the variance, as the mean of squares -/
theorem var_eq (c m : Nat→Rat) (n : Nat) (h1 : sgR c n = 1) : sgR (fun j => c j * (m j * m j)) n - sgR (fun j => c j * m j) n * sgR (fun j => c j * m j) n = sgR (fun j => c j * ((m j - sgR (fun j => c j * m j) n) * (m j - sgR (fun j => c j * m j) n))) n:=by
 generalize hM : sgR (fun j => c j * m j) n = M at *
 have e : sgR (fun j => c j * ((m j - M) * (m j - M))) n = sgR (fun j => (c j * (m j * m j) - (c j * m j) * (2 * M)) + c j * (M * M)) n:=sgR_congr _ _ n (fun j _ => by grind)
 rw [e,sgR_add,sgR_sub,sgR_times (fun j => c j * m j),sgR_times c,hM,h1]
 grind
theorem sq_nonneg (x : Rat) : 0 ≤ x * x:=by
 rcases (Rat.le_total : (0 : Rat) ≤ x ∨ x ≤ 0) with h | h
 ·exact Rat.mul_nonneg h h
 ·have:=Rat.mul_nonneg (show 0 ≤ -x by grind) (show 0 ≤ -x by grind)
  grind
theorem var_nonneg (c m : Nat→Rat) (n : Nat) (hc : ∀ j,j < n→0 ≤ c j) (h1 : sgR c n = 1) : 0 ≤ sgR (fun j => c j * (m j * m j)) n - sgR (fun j => c j * m j) n * sgR (fun j => c j * m j) n:=by
 rw [var_eq c m n h1]
 exact sgR_nonneg _ n (fun j hj => Rat.mul_nonneg (hc j hj) (sq_nonneg _))
/-- no line says less amiss -/
theorem line_best (m b d o base own : Rat) (hb : 0 ≤ b) (hd : 0 ≤ d) (h0 : b = 0→o = 0) (h1 : b ≠ 0→o * (b + d) = b) :
  ((1 - o) * m - (1 - o) * m) * ((1 - o) * m - (1 - o) * m) + (1 - o) * (1 - o) * b + o * o * d ≤ (base - (1 - own) * m) * (base - (1 - own) * m) + (1 - own) * (1 - own) * b + own * own * d∧0 ≤ o∧o ≤ 1:=by
 have hs:=sq_nonneg (base - (1 - own) * m)
 by_cases hz : b = 0
 ·rw [h0 hz,hz]
  have:=Rat.mul_nonneg (sq_nonneg own) hd
  refine ⟨by grind,by grind,by grind⟩
 ·have e:=h1 hz
  have hp : 0 < b + d:=by grind
  have ho : 0 ≤ o:=by
   refine Rat.le_of_mul_le_mul_right (c:=b + d) ?_ hp
   rw [e]; grind
  have ho1 : o ≤ 1:=by
   refine Rat.le_of_mul_le_mul_right (c:=b + d) ?_ hp
   rw [e]; grind
  refine ⟨?_,ho,ho1⟩
  have hq:=Rat.mul_nonneg (show 0 ≤ b + d by grind) (sq_nonneg (own - o))
  have e2 : (b + d) * ((own - o) * (own - o)) = ((1 - own) * (1 - own) * b + own * own * d) - ((1 - o) * (1 - o) * b + o * o * d):=by grind
  grind
/-- premiums are the mean, in the mean -/
theorem premiums_mean (x : Nat→Rat) (n : Nat) (a o : Rat) (_hn : 0 < n) (ha : a * (((n : Nat) : Int) : Rat) = sgR x n) : sgR (fun j => a + o * (x j - a)) n = a * (((n : Nat) : Int) : Rat):=by
 have hone : ∀ k : Nat,sgR (fun _ => (1 : Rat)) k = (((k : Nat) : Int) : Rat):=fun k => by
  induction k with
  | zero => rfl
  | succ k ih =>
   show sgR (fun _ => (1 : Rat)) k + 1 = _
   rw [ih,Int.natCast_add,Rat.intCast_add]; rfl
 have e : sgR (fun j => a + o * (x j - a)) n = sgR (fun j => 1 * (a - o * a) + x j * o) n:=sgR_congr _ _ n (fun j _ => by grind)
 rw [e,sgR_add,sgR_times (fun _ => 1),sgR_times x,hone,← ha]
 grind
end Go.Proofs.YtloojmaamaambaaGreatDoor
