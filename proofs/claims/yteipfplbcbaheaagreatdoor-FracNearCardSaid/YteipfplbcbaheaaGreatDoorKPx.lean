/- A decimal is no farther off than half a unit of its last place (plain). -/
import Derived.Test.YteipfplbcbaheaaGreatDoorKQ4
namespace Go.Proofs.YteipfplbcbaheaaGreatDoor
open Go.RowKit

theorem cross_sub (f g : Rat) : (f - g).num * (f.den * g.den : Nat) = (f.num * g.den - g.num * f.den) * (f - g).den:=by
 have h:=cross_add f (-g)
 rw [← Rat.sub_eq_add_neg] at h
 simp only [Rat.neg_num,Rat.neg_den] at h
 rw [h]
 grind
end Go.Proofs.YteipfplbcbaheaaGreatDoor

namespace Go.Proofs.YteipfplbcbaheaaGreatDoor
open Go.RowKit

theorem farey (O1 Ob P : Int) (u1 ub Q most : Nat) (hd : O1 * (ub : Int) - Ob * (u1 : Int) = 1 ∨ O1 * (ub : Int) - Ob * (u1 : Int) = -1) (hs : most < u1 + ub) (hQ0 : 0 < Q) (hQ : Q ≤ most) :
  (P * (u1 : Int) ≤ O1 * (Q : Int)∧P * (ub : Int) ≤ Ob * (Q : Int)) ∨ (O1 * (Q : Int) ≤ P * (u1 : Int)∧Ob * (Q : Int) ≤ P * (ub : Int)):=by
 have key : ∀ (U V : Int),1 ≤ U→1 ≤ V→(u1 : Int) + (ub : Int) ≤ U * (ub : Int) + V * (u1 : Int):=fun U V hU hV => by
  have h1:=Int.mul_le_mul_of_nonneg_right hU (show (0 : Int) ≤ (ub : Int) by omega)
  have h2:=Int.mul_le_mul_of_nonneg_right hV (show (0 : Int) ≤ (u1 : Int) by omega)
  omega
 have e : (P * (u1 : Int) - O1 * (Q : Int)) * (ub : Int) + (Ob * (Q : Int) - P * (ub : Int)) * (u1 : Int) = -((O1 * (ub : Int) - Ob * (u1 : Int)) * (Q : Int)):=by grind
 by_cases h1 : P * (u1 : Int) ≤ O1 * (Q : Int)
 ·by_cases h2 : P * (ub : Int) ≤ Ob * (Q : Int)
  ·exact .inl ⟨h1,h2⟩
  ·by_cases h3 : O1 * (Q : Int) ≤ P * (u1 : Int)
   ·exact .inr ⟨h3,by omega⟩
   ·exfalso
    have h4:=key (-(P * (u1 : Int) - O1 * (Q : Int))) (-(Ob * (Q : Int) - P * (ub : Int))) (by omega) (by omega)
    rcases hd with hd | hd <;> rw [hd] at e <;> grind
 ·by_cases h2 : Ob * (Q : Int) ≤ P * (ub : Int)
  ·exact .inr ⟨by omega,h2⟩
  ·exfalso
   have h4:=key (P * (u1 : Int) - O1 * (Q : Int)) (Ob * (Q : Int) - P * (ub : Int)) (by omega) (by omega)
   rcases hd with hd | hd <;> rw [hd] at e <;> grind
/-- the number beside which the lesser part lies -/
theorem between (f r : Rat) (O0 O1 : Rat) (u0 u1 m : Rat) (hE : f * (u1 + u0 * r) = O1 + O0 * r) (hr : 0 < r) (hm : r * m ≤ 1) :
  (f * u1 ≤ O1∧O0 + m * O1 ≤ f * (u0 + m * u1)) ∨ (O1 ≤ f * u1∧f * (u0 + m * u1) ≤ O0 + m * O1):=by
 have hA : f * u1 - O1 = -((f * u0 - O0) * r):=by grind
 have hB : f * (u0 + m * u1) - (O0 + m * O1) = (f * u0 - O0) * (1 - r * m):=by grind
 have hr' : 0 ≤ r:=by grind
 have hm' : 0 ≤ 1 - r * m:=by grind
 generalize f * u0 - O0 = L at *
 rcases Rat.le_total (a:=0) (b:=L) with h | h
 ·have h1:=Rat.mul_nonneg h hr'
  have h2:=Rat.mul_nonneg h hm'
  left
  constructor
  ·grind
  ·grind
 ·have h0 : 0 ≤ -L:=by grind
  have h1:=Rat.mul_nonneg h0 hr'
  have h2:=Rat.mul_nonneg h0 hm'
  right
  constructor
  ·grind
  ·grind
/-- the distance -/
def dist (x f : Rat) : Rat:=absR (x - f)
theorem num_neg (x : Rat) : x.num < 0 ↔ x < 0:=by
 rw [Rat.lt_iff]
 simp
theorem dist_cases (x f : Rat) : (x ≤ f∧dist x f = f - x) ∨ (f ≤ x∧dist x f = x - f):=by
 unfold dist absR
 by_cases h : (x - f).num < 0
 ·rw [if_pos h]
  have:=(num_neg _).1 h
  left
  constructor <;> grind
 ·rw [if_neg h]
  have h2 : ¬ x - f < 0:=fun e => h ((num_neg _).2 e)
  right
  constructor <;> grind
/-- and farther than one of them, unless it is one -/
theorem outside2 (f a b y : Rat) (hf : (f ≤ a∧b ≤ f) ∨ (a ≤ f∧f ≤ b)) (hy : (y ≤ a∧y ≤ b) ∨ (a ≤ y∧b ≤ y)) : y = a ∨ y = b ∨ dist a f < dist y f ∨ dist b f < dist y f:=by
 have ca:=dist_cases a f
 have cb:=dist_cases b f
 have cy:=dist_cases y f
 generalize dist a f = da at *
 generalize dist b f = db at *
 generalize dist y f = dy at *
 grind
/-- nearer, or as near and with a lesser lower number, or the lesser one of these -/
def Bef (f x y : Rat) : Prop:=dist x f < dist y f ∨ (dist x f = dist y f∧(x.den < y.den ∨ (x.den = y.den∧x ≤ y)))
theorem Bef.refl (f x : Rat) : Bef f x x:=.inr ⟨rfl,.inr ⟨rfl,Rat.le_refl⟩⟩
theorem Bef.le {f x y : Rat} (h : Bef f x y) : dist x f ≤ dist y f:=by
 rcases h with h | ⟨h,-⟩
 ·grind
 ·rw [h]; exact Rat.le_refl
theorem Bef.of_lt {f x y z : Rat} (h : Bef f x y) (k : dist y f < dist z f) : Bef f x z:=by
 have:=h.le
 exact .inl (by grind)
theorem Bef.same {f x y : Rat} (h : Bef f x y) (k : Bef f y x) : x = y:=by
 rcases h with h | ⟨h,h1⟩ <;> rcases k with k | ⟨k,k1⟩
 ·grind
 ·grind
 ·grind
 ·rcases h1 with h1 | ⟨h1,h2⟩ <;> rcases k1 with k1 | ⟨k1,k2⟩
  ·omega
  ·omega
  ·omega
  ·exact Rat.le_antisymm h2 k2
theorem cmp_le (x y : Rat) : cmpZ (x.num * (y.den : Int)) (y.num * (x.den : Int)) ≤ 0 ↔ x ≤ y:=by
 rw [Rat.le_iff]
 unfold cmpZ
 constructor
 ·intro h
  by_cases h1 : x.num * (y.den : Int) < y.num * (x.den : Int)
  ·omega
  ·rw [if_neg h1] at h
   by_cases h2 : x.num * (y.den : Int) = y.num * (x.den : Int)
   ·omega
   ·rw [if_neg h2] at h; omega
 ·intro h
  by_cases h1 : x.num * (y.den : Int) < y.num * (x.den : Int)
  ·rw [if_pos h1]; omega
  ·rw [if_neg h1,if_pos (by omega)]; omega
theorem den_cast (x : Rat) : x * ((x.den : Int) : Rat) = ((x.num : Int) : Rat):=by
 obtain ⟨i1,i2⟩:=int_num (x.den : Int)
 obtain ⟨j1,j2⟩:=int_num x.num
 have h:=cross_mul x ((x.den : Int) : Rat)
 rw [i1,i2,Nat.mul_one] at h
 have hd:=den_pos x
 obtain ⟨e1,e2⟩:=rat_of_coprime x.num 1 (by omega) (by simp) (x * ((x.den : Int) : Rat)) (by
  refine Int.eq_of_mul_eq_mul_right (show (x.den : Int) ≠ 0 by omega) ?_
  grind)
 exact Rat.ext (by rw [e1,j1]) (by rw [e2,j2])
theorem nat_pos (u : Nat) (hu : 0 < u) : (0 : Rat) < ((u : Int) : Rat):=by
 have : ((0 : Int) : Rat) < ((u : Int) : Rat):=Rat.intCast_lt_intCast.2 (by omega)
 simpa using this
theorem part_mul (O : Int) (u : Nat) (hu : 0 < u) : (O : Rat) * (((u : Int) : Rat))⁻¹ * ((u : Int) : Rat) = (O : Rat):=by
 have h:=nat_pos u hu
 rw [Rat.mul_assoc,Rat.inv_mul_cancel _ (by grind),Rat.mul_one]
/-- y against O / u, by its own numbers -/
theorem le_part (y : Rat) (O : Int) (u : Nat) (hu : 0 < u) (h : y.num * (u : Int) ≤ O * (y.den : Int)) : y ≤ (O : Rat) * (((u : Int) : Rat))⁻¹:=by
 have h1:=den_cast y
 have h2:=part_mul O u hu
 have h3:=nat_pos u hu
 have h4:=nat_pos y.den (den_pos y)
 have h5 : ((y.num * (u : Int) : Int) : Rat) ≤ ((O * (y.den : Int) : Int) : Rat):=Rat.intCast_le_intCast.2 h
 rw [Rat.intCast_mul,Rat.intCast_mul,← h1,← h2] at h5
 generalize (O : Rat) * (((u : Int) : Rat))⁻¹ = c at *
 generalize ((u : Int) : Rat) = U at *
 generalize ((y.den : Int) : Rat) = D at *
 refine Rat.le_of_mul_le_mul_right (c:=D * U) ?_ (Rat.mul_pos h4 h3)
 grind
theorem part_le (y : Rat) (O : Int) (u : Nat) (hu : 0 < u) (h : O * (y.den : Int) ≤ y.num * (u : Int)) : (O : Rat) * (((u : Int) : Rat))⁻¹ ≤ y:=by
 have h1:=den_cast y
 have h2:=part_mul O u hu
 have h3:=nat_pos u hu
 have h4:=nat_pos y.den (den_pos y)
 have h5 : ((O * (y.den : Int) : Int) : Rat) ≤ ((y.num * (u : Int) : Int) : Rat):=Rat.intCast_le_intCast.2 h
 rw [Rat.intCast_mul,Rat.intCast_mul,← h1,← h2] at h5
 generalize (O : Rat) * (((u : Int) : Rat))⁻¹ = c at *
 generalize ((u : Int) : Rat) = U at *
 generalize ((y.den : Int) : Rat) = D at *
 refine Rat.le_of_mul_le_mul_right (c:=D * U) ?_ (Rat.mul_pos h4 h3)
 grind
theorem rat_le_part (f : Rat) (O : Int) (u : Nat) (hu : 0 < u) (h : f * ((u : Int) : Rat) ≤ (O : Rat)) : f ≤ (O : Rat) * (((u : Int) : Rat))⁻¹:=by
 have h2:=part_mul O u hu
 have h3:=nat_pos u hu
 refine Rat.le_of_mul_le_mul_right (c:=((u : Int) : Rat)) ?_ h3
 rw [h2]
 exact h
theorem part_le_rat (f : Rat) (O : Int) (u : Nat) (hu : 0 < u) (h : (O : Rat) ≤ f * ((u : Int) : Rat)) : (O : Rat) * (((u : Int) : Rat))⁻¹ ≤ f:=by
 have h2:=part_mul O u hu
 have h3:=nat_pos u hu
 refine Rat.le_of_mul_le_mul_right (c:=((u : Int) : Rat)) ?_ h3
 rw [h2]
 exact h
/-- a fraction of two numbers without a divisor in common has the lower one -/
theorem part_den (O : Int) (u : Nat) (hu : 0 < u) (x y : Int) (h : O * x - y * (u : Int) = 1 ∨ O * x - y * (u : Int) = -1) : ((O : Rat) * (((u : Int) : Rat))⁻¹).den = u:=by
 have hm:=part_mul O u hu
 generalize (O : Rat) * (((u : Int) : Rat))⁻¹ = q at *
 have hc:=den_cast q
 have h1 : ((q.num * (u : Int) : Int) : Rat) = ((O * (q.den : Int) : Int) : Rat):=by
  rw [Rat.intCast_mul,Rat.intCast_mul,← hc,← hm]
  grind
 have h2 : q.num * (u : Int) = O * (q.den : Int):=Rat.intCast_inj.1 h1
 have hco : Nat.Coprime q.num.natAbs q.den:=q.reduced
 have d1 : q.den ∣ u:=by
  have h3 : q.num.natAbs * u = O.natAbs * q.den:=by
   have:=congrArg Int.natAbs h2
   rw [Int.natAbs_mul,Int.natAbs_mul,Int.natAbs_natCast,Int.natAbs_natCast] at this
   exact this
  exact hco.symm.dvd_of_dvd_mul_left ⟨O.natAbs,by rw [h3,Nat.mul_comm]⟩
 have d2 : u ∣ q.den:=by
  have h4 : (u : Int) ∣ (q.den : Int):=by
   rcases h with h | h
   ·refine ⟨q.num * x - y * (q.den : Int),?_⟩
    have : (q.den : Int) = (q.den : Int) * (O * x - y * (u : Int)):=by rw [h,Int.mul_one]
    grind
   ·refine ⟨-(q.num * x - y * (q.den : Int)),?_⟩
    have : (q.den : Int) = -((q.den : Int) * (O * x - y * (u : Int))):=by rw [h]; omega
    grind
  exact Int.natCast_dvd_natCast.1 h4
 exact Nat.dvd_antisymm d1 d2
end Go.Proofs.YteipfplbcbaheaaGreatDoor

namespace Go.Proofs.YteipfplbcbaheaaGreatDoor
open Go.RowKit

/-- what is above the whole -/
theorem rest_facts (g : Rat) : (g - ((fl g : Int) : Rat)).num = g.num % (g.den : Int)∧(g - ((fl g : Int) : Rat)).den = g.den:=by
 have hd:=den_pos g
 obtain ⟨i1,i2⟩:=int_num (fl g)
 have h:=cross_sub g ((fl g : Int) : Rat)
 rw [i1,i2,Nat.mul_one] at h
 have h3 : g.num - fl g * (g.den : Int) = g.num % (g.den : Int):=by
  unfold fl
  have:=Int.emod_add_mul_ediv g.num (g.den : Int)
  grind
 simp only [Int.natCast_one,Int.mul_one] at h
 rw [h3] at h
 refine rat_of_coprime _ _ (by omega) ?_ _ h
 have h5 : Int.gcd (g.num - fl g * (g.den : Int)) (g.den : Int) = Int.gcd g.num (g.den : Int):=Int.gcd_sub_mul_right_left _ _ _
 rw [h3] at h5
 have hr:=g.reduced
 unfold Nat.Coprime at hr ⊢
 unfold Int.gcd at h5
 rw [Int.natAbs_natCast] at h5
 rw [h5,hr]
theorem fl_le (g : Rat) : ((fl g : Int) : Rat) ≤ g:=by
 obtain ⟨h1,h2⟩:=rest_facts g
 have h3:=Int.emod_nonneg g.num (show (g.den : Int) ≠ 0 by have:=den_pos g; omega)
 have h4 : ¬ (g - ((fl g : Int) : Rat)) < 0:=fun e => by
  have:=(num_neg _).2 e
  omega
 grind

/-- how far the continued fraction has come -/
structure Nb (f : Rat) (most K : Nat) (O0 O1 : Int) (u0 u1 : Nat) (r : Rat) : Prop where
 eq : f * (((u1 : Int) : Rat) + ((u0 : Int) : Rat) * r) = (O1 : Rat) + (O0 : Rat) * r
 det : O1 * (u0 : Int) - O0 * (u1 : Int) = 1 ∨ O1 * (u0 : Int) - O0 * (u1 : Int) = -1
 u1p : 0 < u1
 u1m : u1 ≤ most
 u0m : u0 ≤ most
 r0 : 0 ≤ r.num
 r1 : r.num < (r.den : Int)
 rd : r.den ≤ f.den
 s1 : O1.natAbs ≤ K * u1
 s0 : (0 < u0∧O0.natAbs ≤ K * u0) ∨ (u0 = 0∧u1 = 1∧O0 = 1∧O1.natAbs + 1 ≤ K)
theorem Nb.start (f : Rat) (most : Nat) (hm : 0 < most) : Nb f most ((fl f).natAbs + 1) 1 (fl f) 0 1 (f - ((fl f : Int) : Rat)):=by
 obtain ⟨h1,h2⟩:=rest_facts f
 have hd:=den_pos f
 have h3:=Int.emod_nonneg f.num (show (f.den : Int) ≠ 0 by omega)
 have h5:=Int.emod_lt_of_pos f.num (show (0 : Int) < (f.den : Int) by omega)
 refine ⟨?_,.inr (by omega),by omega,by omega,by omega,by rw [h1]; exact h3,by rw [h1,h2]; exact h5,by rw [h2]; exact Nat.le_refl _,by omega,.inr ⟨rfl,rfl,rfl,Nat.le_refl _⟩⟩
 simp only [Int.natCast_one,Int.natCast_zero,Rat.intCast_one,Rat.intCast_zero]
 grind
/-- an upper number brought on -/
theorem bound_on (K n u0 u1 : Nat) (O0 O1 : Int) (s1 : O1.natAbs ≤ K * u1) (s0 : (0 < u0∧O0.natAbs ≤ K * u0) ∨ (u0 = 0∧u1 = 1∧O0 = 1∧O1.natAbs + 1 ≤ K)) (hn : 0 < n ∨ 0 < u0) : (O0 + (n : Int) * O1).natAbs ≤ K * (u0 + n * u1):=by
 have h1 : (O0 + (n : Int) * O1).natAbs ≤ O0.natAbs + n * O1.natAbs:=by
  refine Nat.le_trans (Int.natAbs_add_le _ _) ?_
  rw [Int.natAbs_mul,Int.natAbs_natCast]
  exact Nat.le_refl _
 rcases s0 with ⟨-,s0⟩ | ⟨rfl,rfl,rfl,s0⟩
 ·have h2:=Nat.mul_le_mul_left n s1
  have h3 : K * (u0 + n * u1) = K * u0 + n * (K * u1):=by grind
  omega
 ·have hn' : 1 ≤ n:=by omega
  have h2:=Nat.mul_le_mul_left n s0
  have h3 : n * (O1.natAbs + 1) = n * O1.natAbs + n:=by grind
  have h4 : K * (0 + n * 1) = n * K:=by grind
  have h5 : (1 : Int).natAbs = 1:=rfl
  omega
/-- the next of it -/
theorem Nb.next {f : Rat} {most K : Nat} {O0 O1 : Int} {u0 u1 : Nat} {r : Rat} (h : Nb f most K O0 O1 u0 u1 r) (hr : r.num ≠ 0) (n : Nat) (hn : fl r⁻¹ = (n : Int)) (hroom : n ≤ (most - u0) / u1) :
  Nb f most K O1 (O0 + (n : Int) * O1) u1 (u0 + n * u1) (r⁻¹ - ((fl r⁻¹ : Int) : Rat))∧(r⁻¹ - ((fl r⁻¹ : Int) : Rat)).den < r.den∧0 < n:=by
 obtain ⟨i1,i2,i3⟩:=inv_facts r hr
 obtain ⟨g1,g2⟩:=rest_facts r⁻¹
 have hd:=den_pos r⁻¹
 have h3:=Int.emod_nonneg r⁻¹.num (show (r⁻¹.den : Int) ≠ 0 by omega)
 have h5:=Int.emod_lt_of_pos r⁻¹.num (show (0 : Int) < (r⁻¹.den : Int) by omega)
 have hr0:=h.r0
 have hr1:=h.r1
 have hrd:=h.rd
 have hn0 : 0 < n:=by
  rcases Nat.eq_zero_or_pos n with h0 | h0
  ·exfalso
   rw [h0] at hn
   have h6:=Int.emod_add_mul_ediv r⁻¹.num (r⁻¹.den : Int)
   unfold fl at hn
   rw [hn] at h6
   have h7 : r⁻¹.num = (r.den : Int):=by
    have h8 : ¬ r⁻¹.num < 0:=fun e => by
     have:=i3
     omega
    omega
   rw [Int.natCast_zero,Int.mul_zero,Int.add_zero] at h6
   omega
  ·exact h0
 have hlt : (r⁻¹ - ((fl r⁻¹ : Int) : Rat)).den < r.den:=by rw [g2,i2]; omega
 have hmul:=Nat.div_mul_le_self (most - u0) u1
 have hm2:=Nat.mul_le_mul_right u1 hroom
 have u1p:=h.u1p
 have u0m:=h.u0m
 have hpos : 0 < n * u1:=Nat.mul_pos hn0 u1p
 refine ⟨⟨?_,?_,by omega,by omega,h.u1m,by rw [g1]; exact h3,by rw [g1,g2]; exact h5,by omega,bound_on K n u0 u1 O0 O1 h.s1 h.s0 (.inl hn0),.inl ⟨u1p,h.s1⟩⟩,hlt,hn0⟩
 ·have hrne : r ≠ 0:=fun e => hr (by rw [e]; rfl)
  have hc:=Rat.mul_inv_cancel r hrne
  have he:=h.eq
  rw [hn]
  simp only [Int.natCast_add,Int.natCast_mul,Rat.intCast_add,Rat.intCast_mul]
  generalize r⁻¹ = x at *
  generalize ((n : Int) : Rat) = N at *
  grind
 ·have hdet:=h.det
  simp only [Int.natCast_add,Int.natCast_mul]
  rcases hdet with hdet | hdet
  ·right; grind
  ·left; grind
/-- two fractions by which all others with such lower numbers are no nearer -/
def Nearby (f : Rat) (most K : Nat) (Oa Ob : Int) (ua ub : Nat) : Prop:=0 < ua∧ua ≤ most∧Oa.natAbs ≤ K * ua∧0 < ub∧ub ≤ most∧Ob.natAbs ≤ K * ub∧((Oa : Rat) * (((ua : Int) : Rat))⁻¹).den = ua∧((Ob : Rat) * (((ub : Int) : Rat))⁻¹).den = ub∧∀ y : Rat,y.den ≤ most→y = (Oa : Rat) * (((ua : Int) : Rat))⁻¹ ∨ y = (Ob : Rat) * (((ub : Int) : Rat))⁻¹ ∨ dist ((Oa : Rat) * (((ua : Int) : Rat))⁻¹) f < dist y f ∨ dist ((Ob : Rat) * (((ub : Int) : Rat))⁻¹) f < dist y f
theorem Nb.exact {f : Rat} {most K : Nat} {O0 O1 : Int} {u0 u1 : Nat} {r : Rat} (h : Nb f most K O0 O1 u0 u1 r) (hr : r.num = 0) : Nearby f most K O1 O1 u1 u1:=by
 have hden:=part_den O1 u1 h.u1p (u0 : Int) O0 h.det
 refine ⟨h.u1p,h.u1m,h.s1,h.u1p,h.u1m,h.s1,hden,hden,fun y _ => ?_⟩
 have hr' : r = 0:=Rat.num_eq_zero.1 hr
 have he:=h.eq
 rw [hr'] at he
 have hm:=part_mul O1 u1 h.u1p
 have hp:=nat_pos u1 h.u1p
 have hx : (O1 : Rat) * (((u1 : Int) : Rat))⁻¹ = f:=by
  have h2 : f * ((u1 : Int) : Rat) = (O1 : Rat):=by grind
  have a1:=rat_le_part f O1 u1 h.u1p (by rw [h2]; exact Rat.le_refl)
  have a2:=part_le_rat f O1 u1 h.u1p (by rw [h2]; exact Rat.le_refl)
  exact Rat.le_antisymm a2 a1
 rw [hx]
 have c1:=dist_cases f f
 have c2:=dist_cases y f
 generalize dist f f = d0 at *
 generalize dist y f = d1 at *
 grind
theorem Nb.sides {f : Rat} {most K : Nat} {O0 O1 : Int} {u0 u1 : Nat} {r : Rat} (h : Nb f most K O0 O1 u0 u1 r) (hr : r.num ≠ 0) (room : Nat) (hroom : room = (most - u0) / u1) (hn : (room : Int) < fl r⁻¹) (hm : 0 < most) :
  Nearby f most K O1 (O0 + (room : Int) * O1) u1 (u0 + room * u1):=by
 have u1p:=h.u1p
 have u0m:=h.u0m
 have hmul:=Nat.div_mul_le_self (most - u0) u1
 have hlt : most - u0 < (room + 1) * u1:=by rw [hroom]; exact (Nat.div_lt_iff_lt_mul u1p).1 (Nat.lt_succ_self _)
 rw [← hroom] at hmul
 have hsuc : (room + 1) * u1 = room * u1 + u1:=Nat.succ_mul _ _
 have hub : 0 < u0 + room * u1:=by
  rcases h.s0 with ⟨h1,-⟩ | ⟨h1,h2,-⟩
  ·omega
  ·subst h1 h2; omega
 have hside : 0 < room ∨ 0 < u0:=by
  rcases Nat.eq_zero_or_pos room with h1 | h1
  ·right; rw [h1] at hub; omega
  ·exact .inl h1
 have hrne : r ≠ 0:=fun e => hr (by rw [e]; rfl)
 have hrp : 0 < r:=by
  have h3 : ¬ r < 0:=fun e => by have:=(num_neg r).2 e; have:=h.r0; omega
  grind
 have hc:=Rat.mul_inv_cancel r hrne
 have hfl:=fl_le r⁻¹
 have hR : ((room : Int) : Rat) ≤ ((fl r⁻¹ : Int) : Rat):=Rat.intCast_le_intCast.2 (by omega)
 have hrm : r * ((room : Int) : Rat) ≤ 1:=by
  have h4 : ((room : Int) : Rat) ≤ r⁻¹:=Rat.le_trans hR hfl
  have h5:=Rat.mul_le_mul_of_nonneg_left h4 (show 0 ≤ r by grind)
  grind
 have hb:=between f r (O0 : Rat) (O1 : Rat) ((u0 : Int) : Rat) ((u1 : Int) : Rat) ((room : Int) : Rat) h.eq hrp hrm
 have hdet : O1 * ((u0 + room * u1 : Nat) : Int) - (O0 + (room : Int) * O1) * (u1 : Int) = 1 ∨ O1 * ((u0 + room * u1 : Nat) : Int) - (O0 + (room : Int) * O1) * (u1 : Int) = -1:=by
  simp only [Int.natCast_add,Int.natCast_mul]
  rcases h.det with hd | hd
  ·left; grind
  ·right; grind
 have hden1:=part_den O1 u1 u1p ((u0 + room * u1 : Nat) : Int) (O0 + (room : Int) * O1) hdet
 have hden2:=part_den (O0 + (room : Int) * O1) (u0 + room * u1) hub (u1 : Int) O1 (hdet.elim (fun hd => .inr (by first | omega | grind)) (fun hd => .inl (by first | omega | grind)))
 refine ⟨u1p,h.u1m,h.s1,hub,by omega,bound_on K room u0 u1 O0 O1 h.s1 h.s0 hside,hden1,hden2,fun y hy => ?_⟩
 have hfar:=farey O1 (O0 + (room : Int) * O1) y.num u1 (u0 + room * u1) y.den most hdet (by omega) (den_pos y) hy
 have e1 : ((O0 + (room : Int) * O1 : Int) : Rat) = (O0 : Rat) + ((room : Int) : Rat) * (O1 : Rat):=by rw [Rat.intCast_add,Rat.intCast_mul]
 have e2 : (((u0 + room * u1 : Nat) : Int) : Rat) = ((u0 : Int) : Rat) + ((room : Int) : Rat) * ((u1 : Int) : Rat):=by rw [Int.natCast_add,Int.natCast_mul,Rat.intCast_add,Rat.intCast_mul]
 rw [← e1,← e2] at hb
 refine outside2 f _ _ y ?_ ?_
 ·rcases hb with ⟨b1,b2⟩ | ⟨b1,b2⟩
  ·exact .inl ⟨rat_le_part f _ _ u1p b1,part_le_rat f _ _ hub b2⟩
  ·exact .inr ⟨part_le_rat f _ _ u1p b1,rat_le_part f _ _ hub b2⟩
 ·rcases hfar with ⟨b1,b2⟩ | ⟨b1,b2⟩
  ·exact .inl ⟨le_part y _ _ u1p b1,le_part y _ _ hub b2⟩
  ·exact .inr ⟨part_le y _ _ u1p b1,part_le y _ _ hub b2⟩
end Go.Proofs.YteipfplbcbaheaaGreatDoor

namespace Go.Proofs.YteipfplbcbaheaaGreatDoor
open Go.RowKit

/-- the value v is a mark: a whole number over a lower number -/
def MarkAt (w : World) (v : Value) (O : Int) (u : Nat) : Prop:=∃ r x y p,v = .agg #[.bool r,.int .u64 x,.int .u64 y,.pointer p,.int .i64 (u : Int)]∧FracAt w (.agg #[.bool r,.int .u64 x,.int .u64 y,.pointer p]) ((O : Int) : Rat)
theorem MarkAt.but {w w' : World} {v : Value} {O : Int} {u : Nat} (h : MarkAt w v O u) (hb : But [] w w') : MarkAt w' v O u:=by
 obtain ⟨r,x,y,p,e,h⟩:=h
 exact ⟨r,x,y,p,e,h.but hb⟩
theorem MarkAt.over {w w' : World} {v : Value} {O : Int} {u : Nat} (h : MarkAt w v O u) {g : Nat} {s : Bool} (c0 : w.cell? ⟨g,0,none⟩ = some (.bool s)) (hb : But [g] w w') : MarkAt w' v O u:=by
 obtain ⟨r,x,y,p,e,h⟩:=h
 exact ⟨r,x,y,p,e,h.over c0 hb⟩
theorem set5_cell (w : World) (g b j : Nat) (v0 v1 v2 v3 v4 u : Value) (hne : b ≠ g) (hc : w.cell? ⟨b,j,none⟩ = some u) : (((((w.setCell ⟨g,0,none⟩ v0).setCell ⟨g,1,none⟩ v1).setCell ⟨g,2,none⟩ v2).setCell ⟨g,3,none⟩ v3).setCell ⟨g,4,none⟩ v4).cell? ⟨b,j,none⟩ = some u:=by
 rw [World.cell?_setCell_other _ _ _ _ (fun e => hne (Addr.mk.inj e).1.symm)]
 exact set4_cell w g b j v0 v1 v2 v3 u hne hc
theorem but_set4 (w : World) (g : Nat) (v0 v1 v2 v3 : Value) : But [g] w ((((w.setCell ⟨g,0,none⟩ v0).setCell ⟨g,1,none⟩ v1).setCell ⟨g,2,none⟩ v2).setCell ⟨g,3,none⟩ v3) :=
 (((((But.refl [g] w).setCell (.inl (by simp)) _).setCell (.inl (by simp)) _).setCell (.inl (by simp)) _).setCell (.inl (by simp)) _)
theorem but_set5 (w : World) (g : Nat) (v0 v1 v2 v3 v4 : Value) : But [g] w (((((w.setCell ⟨g,0,none⟩ v0).setCell ⟨g,1,none⟩ v1).setCell ⟨g,2,none⟩ v2).setCell ⟨g,3,none⟩ v3).setCell ⟨g,4,none⟩ v4) :=
 (but_set4 w g v0 v1 v2 v3).setCell (.inl (by simp)) _
/-- two new blocks, of any types -/
theorem two_news (w W : World) (A B : Array Value) (s t : TypeId) (hW : W = (w.alloc (.cells A s)).alloc (.cells B t)) :
  (∀ j,W.cell? ⟨w.heap.size,j,none⟩ = A[j]?)∧(∀ j,W.cell? ⟨w.heap.size + 1,j,none⟩ = B[j]?)∧(∀ j,W.frozen? ⟨w.heap.size,j,none⟩ = false)∧(∀ j,W.frozen? ⟨w.heap.size + 1,j,none⟩ = false)∧But [] w W:=by
 subst hW
 refine ⟨fun j => ?_,fun j => ?_,fun j => ?_,fun j => ?_,((But.refl _ _).alloc _).alloc _⟩
 ·have h:=((But.refl [] (w.alloc (.cells A s))).alloc (.cells B t)).cell (p:=⟨w.heap.size,j,none⟩) (by simp) (by simp)
  rw [h,World.cell?_alloc_new]
 ·simp
 ·have h:=((But.refl [] (w.alloc (.cells A s))).alloc (.cells B t)).frozen (p:=⟨w.heap.size,j,none⟩) (by simp) (by simp)
  rw [h]; simp
 ·simp
theorem inv_num_one (u : Nat) (hu : 0 < u) : ((((u : Nat) : Int) : Rat)).num ≠ 0:=by
 rw [(int_num _).1]; omega

set_option maxHeartbeats 8000000 in
set_option maxRecDepth 100000 in
theorem markValue_any (v : Value) (O : Int) (u : Nat) (w : World) (hm : MarkAt w v O u) (hu0 : 0 < u) (hu : u ≤ 1000000) (lO : Len ((O : Int) : Rat) 77) :
  Calls Tryz.prog 114 #[v] w fun e w' => ∃ v',e = .returned v'∧FracAt w' v' ((O : Rat) * (((u : Int) : Rat))⁻¹)∧But [] w w':=by
 obtain ⟨s1,x1,y1,p1,rfl,hf⟩:=hm
 obtain ⟨rb,rp,FU,CU⟩:=whole_at (u : Int) (by omega) (by omega) w
 have hn0:=inv_num_one u hu0
 have lu:=int_len (u : Int) (by omega) (by omega)
 have lu':=len_inv lu hn0
 have WH:=hide CU
 have NG : Hid (∀ W,Calls Tryz.prog 58 #[.agg #[.bool rb,.int .u64 rp,.int .u64 0,.pointer none]] W fun e w' => ∃ v,e = .returned v∧FracAt w' v (((u : Int) : Rat))⁻¹∧But [] W w'):=fun W => fracTurned_any _ _ W (FU W) hn0
 have AD : Hid (∀ (W : World) (v2 : Value),But [] w W→FracAt W v2 (((u : Int) : Rat))⁻¹→Calls Tryz.prog 18 #[.agg #[.bool s1,.int .u64 x1,.int .u64 y1,.pointer p1],v2] W fun e w' => ∃ v,e = .returned v∧FracAt w' v ((O : Rat) * (((u : Int) : Rat))⁻¹)∧But [] W w'):=fun W v2 h1 h2 => fracMul_any _ v2 _ _ W (hf.but h1) h2 (lO.mono (by omega)) (lu'.mono (by omega))
 obtain ⟨d,hd⟩ : ∃ d,d = (O : Rat) * (((u : Int) : Rat))⁻¹:=⟨_,rfl⟩
 rw [← hd] at AD ⊢
 clear lO lu lu' hn0 FU CU hf hd
 obtain ⟨W,hW⟩ : ∃ W,W = (w.alloc (.cells #[.bool s1,.int .u64 x1,.int .u64 y1,.pointer p1,.int .i64 (u : Int)] 145)).alloc (.cells #[.bool false,.int .u64 0,.int .u64 0,.pointer none] 27):=⟨_,rfl⟩
 obtain ⟨tA,tC,-,fz,hB⟩:=two_news w W _ _ _ _ hW
 have a0:=tA 0
 have a1:=tA 1
 have a2:=tA 2
 have a3:=tA 3
 have a4:=tA 4
 have r0:=tC 0
 have r1:=tC 1
 have r2:=tC 2
 have r3:=tC 3
 simp only [List.getElem?_toArray,List.getElem?_cons_zero,List.getElem?_cons_succ] at a0 a1 a2 a3 a4 r0 r1 r2 r3
 clear tA tC
 have HW:=hide hW
 have HB:=hide hB
 clear hW hB
 go_enter Tryz.func114,Tryz.ntmps114
 go_wp2_with fail
 rw [← unhide HW]
 obtain ⟨ga,hga⟩ : ∃ ga,ga = w.heap.size:=⟨_,rfl⟩
 obtain ⟨gr,hgr⟩ : ∃ gr,gr = w.heap.size + 1:=⟨_,rfl⟩
 rw [← hga] at a0 a1 a2 a3 a4
 rw [← hgr] at r0 r1 r2 r3 fz
 rw [← hgr,← hga]
 have HGR : Hid (w.heap.size ≤ gr):=by show _ ≤ _; omega
 have nga : ga ≠ gr:=by omega
 clear hga hgr HW
 refine (unhide WH _).mono ?_
 rintro e w1 ⟨rfl,hb1⟩
 have gl0 : gr < W.heap.size:=lt_of_cell r0
 replace fz : ∀ j,w1.frozen? ⟨gr,j,none⟩ = false:=fun j => (hb1.frozen (p:=⟨gr,j,none⟩) gl0 (by simp)).trans (fz j)
 clear gl0
 replace a0:=hb1.cell_some a0 (by simp)
 replace a1:=hb1.cell_some a1 (by simp)
 replace a2:=hb1.cell_some a2 (by simp)
 replace a3:=hb1.cell_some a3 (by simp)
 replace r0:=hb1.cell_some r0 (by simp)
 replace r1:=hb1.cell_some r1 (by simp)
 replace r2:=hb1.cell_some r2 (by simp)
 replace r3:=hb1.cell_some r3 (by simp)
 replace HB : Hid (But [] w w1):=(unhide HB).trans' hb1
 clear hb1 a4
 obtain ⟨V1,hV1⟩ : ∃ V1,V1 = w1.alloc (.cells #[.bool rb,.int .u64 rp,.int .u64 0,.pointer none] 27):=⟨_,rfl⟩
 have l0 : V1.cell? ⟨w1.heap.size,0,none⟩ = some (.bool rb):=by rw [hV1]; simp
 have l1 : V1.cell? ⟨w1.heap.size,1,none⟩ = some (.int .u64 rp):=by rw [hV1]; simp
 have l2 : V1.cell? ⟨w1.heap.size,2,none⟩ = some (.int .u64 0):=by rw [hV1]; simp
 have l3 : V1.cell? ⟨w1.heap.size,3,none⟩ = some (.pointer none):=by rw [hV1]; simp
 have bV : But [] w1 V1:=by rw [hV1]; exact (But.refl _ _).alloc _
 have hgr1 : gr < w1.heap.size:=lt_of_cell r0
 have fV : ∀ j,V1.frozen? ⟨gr,j,none⟩ = false:=fun j => (bV.frozen (p:=⟨gr,j,none⟩) hgr1 (by simp)).trans (fz j)
 have A0:=bV.cell_some a0 (by simp)
 have A1:=bV.cell_some a1 (by simp)
 have A2:=bV.cell_some a2 (by simp)
 have A3:=bV.cell_some a3 (by simp)
 have R0:=bV.cell_some r0 (by simp)
 have R1:=bV.cell_some r1 (by simp)
 have R2:=bV.cell_some r2 (by simp)
 have R3:=bV.cell_some r3 (by simp)
 replace HB : Hid (But [] w V1):=(unhide HB).trans' bV
 clear bV fz
 go_wp2_with fail
 rw [← hV1]
 have ngl : w1.heap.size ≠ gr:=by omega
 clear hV1 a0 a1 a2 a3 r0 r1 r2 r3 hgr1
 generalize w1.heap.size = gl at *
 have grl : gr < V1.heap.size:=lt_of_cell R0
 go_region_held (fun w' => w'.cell? ⟨ga,0,none⟩ = some (.bool s1)∧w'.cell? ⟨ga,1,none⟩ = some (.int .u64 x1)∧w'.cell? ⟨ga,2,none⟩ = some (.int .u64 y1)∧w'.cell? ⟨ga,3,none⟩ = some (.pointer p1)∧w'.cell? ⟨gl,0,none⟩ = some (.bool rb)∧w'.cell? ⟨gl,1,none⟩ = some (.int .u64 rp)∧w'.cell? ⟨gl,2,none⟩ = some (.int .u64 0)∧w'.cell? ⟨gl,3,none⟩ = some (.pointer none)) (first | (go_keep; done) | exact ⟨set4_cell _ _ _ _ _ _ _ _ _ nga m0,set4_cell _ _ _ _ _ _ _ _ _ nga m1,set4_cell _ _ _ _ _ _ _ _ _ nga m2,set4_cell _ _ _ _ _ _ _ _ _ nga m3,set4_cell _ _ _ _ _ _ _ _ _ ngl n0,set4_cell _ _ _ _ _ _ _ _ _ ngl n1,set4_cell _ _ _ _ _ _ _ _ _ ngl n2,set4_cell _ _ _ _ _ _ _ _ _ ngl n3⟩) (first
  | (go_at_call 58; refine (unhide NG _).mono ?_; rintro e w2 ⟨v1,rfl,hn1,hc1⟩; have B1 : But [] V1 w2:=(by first | exact hc1 | exact (But.refl _ _).drew.trans' hc1); have HN1:=hide hn1; clear hn1 hc1; have k0:=B1.cell_some A0 (by simp); have k1:=B1.cell_some A1 (by simp); have k2:=B1.cell_some A2 (by simp); have k3:=B1.cell_some A3 (by simp); have q0:=B1.cell_some l0 (by simp); have q1:=B1.cell_some l1 (by simp); have q2:=B1.cell_some l2 (by simp); have q3:=B1.cell_some l3 (by simp))
  | (go_at_call 18; refine (unhide AD _ _ (by first | exact (unhide HB).trans' B1 | exact ((unhide HB).trans' B1).trans' (But.refl _ _).drew) (by first | exact unhide HN1 | exact (unhide HN1).but (But.refl _ _).drew)).mono ?_; rintro e w3 ⟨v2,rfl,hn2,hc2⟩; have B2 : But [] V1 w3:=(by first | exact B1.trans' hc2 | exact B1.trans' ((But.refl _ _).drew.trans' hc2)); have HN2:=hide hn2; obtain ⟨x8,y8,p8,rfl,-⟩:=hn2.agg; clear hc2; clear hn2; generalize decide (d.num < 0) = r8 at *; have m0:=B2.cell_some A0 (by simp); have m1:=B2.cell_some A1 (by simp); have m2:=B2.cell_some A2 (by simp); have m3:=B2.cell_some A3 (by simp); have n0:=B2.cell_some l0 (by simp); have n1:=B2.cell_some l1 (by simp); have n2:=B2.cell_some l2 (by simp); have n3:=B2.cell_some l3 (by simp); have u0:=B2.cell_some R0 (by simp); have u1:=B2.cell_some R1 (by simp); have u2:=B2.cell_some R2 (by simp); have u3:=B2.cell_some R3 (by simp); have uf : ∀ j,w3.frozen? ⟨gr,j,none⟩ = false:=fun j => (B2.frozen (p:=⟨gr,j,none⟩) grl (by simp)).trans (fV j)))
 go_wp2
 have hBg:=but_set4 w3 gr (.bool r8) (.int .u64 x8) (.int .u64 y8) (.pointer p8)
 exact bodyPost_ret (v:=.agg #[.bool r8,.int .u64 x8,.int .u64 y8,.pointer p8]) (by simp [results,Tryz.results114,go_sem,u0,u1,u2,u3]) rfl ⟨_,rfl,(unhide HN2).over u0 hBg,((unhide HB).trans' B2).trans hBg (fun x hx => by simp at hx; subst hx; exact .inr (unhide HGR))⟩
end Go.Proofs.YteipfplbcbaheaaGreatDoor

namespace Go.Proofs.YteipfplbcbaheaaGreatDoor
open Go.RowKit

/-- a whole number by a lower one -/
def ratQ (n : Int) (q : Nat) : Rat:=(n : Rat) * (((q : Int) : Rat))⁻¹
theorem ratQ_mul (n : Int) (q : Nat) (hq : 0 < q) : ratQ n q * ((q : Int) : Rat) = (n : Rat):=part_mul n q hq
theorem ratQ_le (m n : Int) (q : Nat) (hq : 0 < q) (h : m ≤ n) : ratQ m q ≤ ratQ n q:=by
 have h1:=rat_le_part (ratQ m q) n q hq (by rw [ratQ_mul m q hq]; exact Rat.intCast_le_intCast.2 h)
 exact h1
theorem ratQ_self (y : Rat) : y = ratQ y.num y.den:=by
 have hq:=den_pos y
 have h1:=den_cast y
 have a1:=rat_le_part y y.num y.den hq (by rw [h1]; exact Rat.le_refl)
 have a2:=part_le_rat y y.num y.den hq (by rw [h1]; exact Rat.le_refl)
 exact Rat.le_antisymm a1 a2
theorem ratQ_den (n : Int) (q : Nat) (hq : 0 < q) : (ratQ n q).den ≤ q:=by
 have hm:=ratQ_mul n q hq
 generalize ratQ n q = x at *
 have hc:=den_cast x
 have h1 : ((x.num * (q : Int) : Int) : Rat) = ((n * (x.den : Int) : Int) : Rat):=by
  rw [Rat.intCast_mul,Rat.intCast_mul,← hc,← hm]
  grind
 have h2 : x.num * (q : Int) = n * (x.den : Int):=Rat.intCast_inj.1 h1
 have hco : Nat.Coprime x.num.natAbs x.den:=x.reduced
 have h3 : x.num.natAbs * q = n.natAbs * x.den:=by
  have:=congrArg Int.natAbs h2
  rw [Int.natAbs_mul,Int.natAbs_mul,Int.natAbs_natCast,Int.natAbs_natCast] at this
  exact this
 exact Nat.le_of_dvd hq (hco.symm.dvd_of_dvd_mul_left ⟨n.natAbs,by rw [h3,Nat.mul_comm]⟩)
theorem fl_lt (g : Rat) : g < ((fl g + 1 : Int) : Rat):=by
 have h:=rest_facts g
 have hd:=den_pos g
 have h5:=Int.emod_lt_of_pos g.num (show (0 : Int) < (g.den : Int) by omega)
 have h6 : (g - ((fl g : Int) : Rat)).num < ((g - ((fl g : Int) : Rat)).den : Int):=by rw [h.1,h.2]; exact h5
 generalize hr : g - ((fl g : Int) : Rat) = r at *
 have h7 : r < 1:=by
  rw [Rat.lt_iff]
  simpa using h6
 rw [Rat.intCast_add,Rat.intCast_one]
 grind
/-- the two whole numbers beside f times q -/
theorem floor_sides (f : Rat) (q : Nat) (hq : 0 < q) : ratQ (fl (f * ((q : Int) : Rat))) q ≤ f∧f < ratQ (fl (f * ((q : Int) : Rat)) + 1) q:=by
 have h1:=fl_le (f * ((q : Int) : Rat))
 have h2:=fl_lt (f * ((q : Int) : Rat))
 generalize fl (f * ((q : Int) : Rat)) = n at *
 refine ⟨part_le_rat f n q hq h1,?_⟩
 have h3:=rat_le_part f (n + 1) q hq (by grind)
 have h4:=ratQ_mul (n + 1) q hq
 have h5 : f ≠ ratQ (n + 1) q:=fun e => by
  rw [e,h4] at h2
  exact absurd h2 (by grind)
 have h6 : f ≤ ratQ (n + 1) q:=h3
 grind
/-- the two candidates of a lower number, against all with it -/
theorem sides_of (f y : Rat) (q : Nat) (hq : 0 < q) (hy : y.den = q) : (y ≤ ratQ (fl (f * ((q : Int) : Rat))) q) ∨ (ratQ (fl (f * ((q : Int) : Rat)) + 1) q ≤ y):=by
 have e:=ratQ_self y
 rw [hy] at e
 rcases Int.lt_or_le (fl (f * ((q : Int) : Rat))) y.num with h | h
 ·right
  have h1:=ratQ_le _ _ q hq (show fl (f * ((q : Int) : Rat)) + 1 ≤ y.num by omega)
  rw [← e] at h1
  exact h1
 ·left
  have h1:=ratQ_le _ _ q hq h
  rw [← e] at h1
  exact h1

/-- how far the search has come: all lower numbers below q; and of q the lesser candidate, if k -/
def Best (f : Rat) (q : Nat) (x : Rat) : Prop:=x.den ≤ q∧∀ y : Rat,y.den ≤ q→Bef f x y
/-- both candidates of a lower number looked at -/
theorem best_step (f x z : Rat) (q : Nat) (h : Best f q x) (a b : Rat) (ha : a = ratQ (fl (f * (((q + 1 : Nat) : Int) : Rat))) (q + 1)) (hb : b = ratQ (fl (f * (((q + 1 : Nat) : Int) : Rat)) + 1) (q + 1))
  (u : Rat) (hu : (dist a f < dist x f∧u = a) ∨ (¬ dist a f < dist x f∧u = x)) (hz : (dist b f < dist u f∧z = b) ∨ (¬ dist b f < dist u f∧z = u)) : Best f (q + 1) z:=by
 obtain ⟨hd,hB⟩:=h
 obtain ⟨s1,s2⟩:=floor_sides f (q + 1) (by omega)
 rw [← ha] at s1
 rw [← hb] at s2
 have da : a.den ≤ q + 1:=by rw [ha]; exact ratQ_den _ _ (by omega)
 have db : b.den ≤ q + 1:=by rw [hb]; exact ratQ_den _ _ (by omega)
 have hnew : ∀ c : Rat,c.den ≤ q + 1→dist c f < dist x f→c.den = q + 1:=fun c hc hlt => by
  rcases Nat.lt_or_ge q c.den with h1 | h1
  ·omega
  ·have:=(hB c h1).le
   exact absurd hlt (by grind)
 have hside : ∀ y : Rat,y.den = q + 1→y ≤ a ∨ b ≤ y:=fun y hy => by
  have:=sides_of f y (q + 1) (by omega) hy
  rw [← ha,← hb] at this
  exact this
 have ca:=dist_cases a f
 have cb:=dist_cases b f
 rcases hu with ⟨h1,rfl⟩ | ⟨h1,rfl⟩ <;> rcases hz with ⟨h2,rfl⟩ | ⟨h2,rfl⟩
 · -- b,nearer than a,which was nearer than x
  have hdb:=hnew z db (by grind)
  refine ⟨by omega,fun y hy => ?_⟩
  rcases Nat.lt_or_ge q y.den with h3 | h3
  ·have hy' : y.den = q + 1:=by omega
   have cy:=dist_cases y f
   rcases hside y hy' with h4 | h4
   ·exact .inl (by grind)
   ·by_cases h5 : dist z f < dist y f
    ·exact .inl h5
    ·exact .inr ⟨by grind,.inr ⟨by omega,h4⟩⟩
  ·have:=(hB y h3).le
   exact .inl (by grind)
 · -- a stays
  have hda:=hnew z da h1
  refine ⟨by omega,fun y hy => ?_⟩
  rcases Nat.lt_or_ge q y.den with h3 | h3
  ·have hy' : y.den = q + 1:=by omega
   have cy:=dist_cases y f
   rcases hside y hy' with h4 | h4
   ·by_cases h5 : dist z f < dist y f
    ·exact .inl h5
    ·exact .inr ⟨by grind,.inr ⟨by omega,by grind⟩⟩
   ·by_cases h5 : dist z f < dist y f
    ·exact .inl h5
    ·exact .inr ⟨by grind,.inr ⟨by omega,by grind⟩⟩
  ·have:=(hB y h3).le
   exact .inl (by grind)
 · -- b,nearer than x,which was as near as a
  have hdb:=hnew z db h2
  refine ⟨by omega,fun y hy => ?_⟩
  rcases Nat.lt_or_ge q y.den with h3 | h3
  ·have hy' : y.den = q + 1:=by omega
   have cy:=dist_cases y f
   rcases hside y hy' with h4 | h4
   ·exact .inl (by grind)
   ·by_cases h5 : dist z f < dist y f
    ·exact .inl h5
    ·exact .inr ⟨by grind,.inr ⟨by omega,h4⟩⟩
  ·have:=(hB y h3).le
   exact .inl (by grind)
 · -- x stays
  refine ⟨by omega,fun y hy => ?_⟩
  rcases Nat.lt_or_ge q y.den with h3 | h3
  ·have hy' : y.den = q + 1:=by omega
   have cy:=dist_cases y f
   have h6 : dist z f ≤ dist y f:=by
    rcases hside y hy' with h4 | h4
    ·grind
    ·grind
   by_cases h5 : dist z f < dist y f
   ·exact .inl h5
   ·exact .inr ⟨by grind,.inl (by omega)⟩
  ·exact hB y h3
/-- the first lower number -/
theorem best_start (f z : Rat) (a b : Rat) (ha : a = ratQ (fl (f * (((1 : Nat) : Int) : Rat))) 1) (hb : b = ratQ (fl (f * (((1 : Nat) : Int) : Rat)) + 1) 1)
  (hz : (dist b f < dist a f∧z = b) ∨ (¬ dist b f < dist a f∧z = a)) : Best f 1 z:=by
 obtain ⟨s1,s2⟩:=floor_sides f 1 (by omega)
 rw [← ha] at s1
 rw [← hb] at s2
 have da : a.den ≤ 1:=by rw [ha]; exact ratQ_den _ _ (by omega)
 have db : b.den ≤ 1:=by rw [hb]; exact ratQ_den _ _ (by omega)
 have ca:=dist_cases a f
 have cb:=dist_cases b f
 have da1:=den_pos a
 have db1:=den_pos b
 have hside : ∀ y : Rat,y.den ≤ 1→y ≤ a ∨ b ≤ y:=fun y hy => by
  have hy1:=den_pos y
  have:=sides_of f y 1 (by omega) (by omega)
  rw [← ha,← hb] at this
  exact this
 rcases hz with ⟨h2,rfl⟩ | ⟨h2,rfl⟩
 ·refine ⟨db,fun y hy => ?_⟩
  have cy:=dist_cases y f
  have hy1:=den_pos y
  rcases hside y hy with h4 | h4
  ·exact .inl (by grind)
  ·by_cases h5 : dist z f < dist y f
   ·exact .inl h5
   ·exact .inr ⟨by grind,.inr ⟨by omega,h4⟩⟩
 ·refine ⟨da,fun y hy => ?_⟩
  have cy:=dist_cases y f
  have hy1:=den_pos y
  rcases hside y hy with h4 | h4
  ·by_cases h5 : dist z f < dist y f
   ·exact .inl h5
   ·exact .inr ⟨by grind,.inr ⟨by omega,by grind⟩⟩
  ·by_cases h5 : dist z f < dist y f
   ·exact .inl h5
   ·exact .inr ⟨by grind,.inr ⟨by omega,by grind⟩⟩
theorem best_same {f x y : Rat} {q : Nat} (hx : x.den ≤ q∧∀ z : Rat,z.den ≤ q→Bef f x z) (hy : Best f q y) : x = y:=(hx.2 y hy.1).same (hy.2 x hx.1)
end Go.Proofs.YteipfplbcbaheaaGreatDoor

namespace Go.Proofs.YteipfplbcbaheaaGreatDoor
open Go.RowKit

/-- the candidate k of the lower number q -/
def candQ (f : Rat) (q k : Nat) : Rat:=ratQ (fl (f * ((q : Int) : Rat)) + (k : Int)) q
/-- how far it has come: k candidates of q looked at -/
def Seen (f : Rat) (q k : Nat) (u : Rat) : Prop :=
 (k = 0∧1 < q∧Best f (q - 1) u) ∨ (k = 1∧((q = 1∧u = candQ f 1 0) ∨ (1 < q∧∃ x,Best f (q - 1) x∧((dist (candQ f q 0) f < dist x f∧u = candQ f q 0) ∨ (¬ dist (candQ f q 0) f < dist x f∧u = x))))) ∨ (k = 2∧Best f q u)
theorem seen_first (f : Rat) : Seen f 1 1 (candQ f 1 0):=.inr (.inl ⟨rfl,.inl ⟨rfl,rfl⟩⟩)
theorem seen_next {f u : Rat} {q : Nat} (h : Seen f q 2 u) (hq : 0 < q) : Seen f (q + 1) 0 u:=by
 rcases h with ⟨h,-⟩ | ⟨h,-⟩ | ⟨-,h⟩
 ·omega
 ·omega
 ·exact .inl ⟨rfl,by omega,by rw [Nat.add_sub_cancel]; exact h⟩
theorem seen_end {f u : Rat} {q : Nat} (h : Seen f (q + 1) 0 u) : Best f q u:=by
 rcases h with ⟨-,-,h⟩ | ⟨h,-⟩ | ⟨h,-⟩
 ·rw [Nat.add_sub_cancel] at h; exact h
 ·omega
 ·omega
theorem seen_step {f u z : Rat} {q k : Nat} (h : Seen f q k u) (hq : 0 < q) (hz : (dist (candQ f q k) f < dist u f∧z = candQ f q k) ∨ (¬ dist (candQ f q k) f < dist u f∧z = u)) (hk : k < 2) : Seen f q (k + 1) z:=by
 rcases h with ⟨rfl,h1,h2⟩ | ⟨rfl,h1⟩ | ⟨h1,-⟩
 ·exact .inr (.inl ⟨rfl,.inr ⟨h1,u,h2,hz⟩⟩)
 ·refine .inr (.inr ⟨rfl,?_⟩)
  rcases h1 with ⟨rfl,rfl⟩ | ⟨h1,x,h2,h3⟩
  ·refine best_start f z (candQ f 1 0) (candQ f 1 1) ?_ rfl hz
   unfold candQ
   rw [Int.natCast_zero,Int.add_zero]
  ·obtain ⟨p,rfl⟩ : ∃ p,q = p + 1:=⟨q - 1,by omega⟩
   rw [Nat.add_sub_cancel] at h2
   refine best_step f x z p h2 (candQ f (p + 1) 0) (candQ f (p + 1) 1) ?_ rfl u h3 hz
   unfold candQ
   rw [Int.natCast_zero,Int.add_zero]
 ·omega
end Go.Proofs.YteipfplbcbaheaaGreatDoor
