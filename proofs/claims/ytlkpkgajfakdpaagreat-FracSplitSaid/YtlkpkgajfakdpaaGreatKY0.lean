/- How long sums of fractions are; a fraction rounded down. -/
import Derived.Test.YtlkpkgajfakdpaaGreatKF6
import Derived.Test.YtlkpkgajfakdpaaGreatKQ1
import Derived.Test.YtlkpkgajfakdpaaGreatKT2
import Derived.Test.YtlkpkgajfakdpaaGreatKYP
import Derived.Test.YtlkpkgajfakdpaaGreatKYR
namespace Go.Proofs.YtlkpkgajfakdpaaGreat
open Go.RowKit

/-- no longer than a sum of n fractions of a word each -/
def Bd (f : Rat) (n : Nat) : Prop := f.den ≤ 18446744073709551616 ^ n ∧ f.num.natAbs ≤ n * 18446744073709551616 ^ n
theorem Bd.len {f : Rat} {n : Nat} (h : Bd f n) (hn : n ≤ 1000) : Len f (n + 1) := by
  have hp : 0 < 18446744073709551616 ^ n := Nat.pow_pos (by omega)
  have e : 18446744073709551616 ^ (n + 1) = 18446744073709551616 ^ n * 18446744073709551616 := Nat.pow_succ ..
  refine len_of (m := n + 1) (n := n + 1) ?_ ?_ _ (Nat.le_refl _) (Nat.le_refl _)
  · refine Nat.lt_of_le_of_lt h.2 ?_
    rw [e, Nat.mul_comm]
    exact Nat.mul_lt_mul_of_pos_left (by omega) hp
  · have := h.1
    rw [e]
    generalize 18446744073709551616 ^ n = P at *
    omega
theorem bd_zero : Bd 0 0 := ⟨by decide, by decide⟩
theorem bd_one {f : Rat} (h : Len f 1) : Bd f 1 := by
  obtain ⟨h1, h2⟩ := h.lt
  unfold Bd
  rw [Nat.one_mul]
  exact ⟨Nat.le_of_lt h2, Nat.le_of_lt h1⟩
theorem bd_add {f g : Rat} {m n : Nat} (h1 : Bd f m) (h2 : Bd g n) : Bd (f + g) (m + n) := by
  obtain ⟨a2, a1⟩ := h1
  obtain ⟨c2, c1⟩ := h2
  obtain ⟨M, s, hM⟩ : ∃ (M : Nat) (s : Bool), f.num * (g.den / Nat.gcd f.den g.den : Nat) + g.num * (f.den / Nat.gcd f.den g.den : Nat) = sgn s M := by
    generalize f.num * (g.den / Nat.gcd f.den g.den : Nat) + g.num * (f.den / Nat.gcd f.den g.den : Nat) = z
    by_cases hz : z < 0
    · exact ⟨z.natAbs, true, by simp [sgn]; omega⟩
    · exact ⟨z.natAbs, false, by simp [sgn]; omega⟩
  obtain ⟨e1, e2⟩ := add_low f g s M _ _ rfl rfl hM
  have hMl : M ≤ (m + n) * (18446744073709551616 ^ m * 18446744073709551616 ^ n) := by
    have h3 : M ≤ f.num.natAbs * (g.den / Nat.gcd f.den g.den) + g.num.natAbs * (f.den / Nat.gcd f.den g.den) := by
      rw [← sgn_abs s M, ← hM]
      refine Nat.le_trans (Int.natAbs_add_le _ _) ?_
      rw [Int.natAbs_mul, Int.natAbs_mul, Int.natAbs_natCast, Int.natAbs_natCast]
      exact Nat.le_refl _
    have h4 : f.num.natAbs * (g.den / Nat.gcd f.den g.den) ≤ m * 18446744073709551616 ^ m * 18446744073709551616 ^ n := Nat.mul_le_mul a1 (Nat.le_trans (Nat.div_le_self _ _) c2)
    have h5 : g.num.natAbs * (f.den / Nat.gcd f.den g.den) ≤ n * 18446744073709551616 ^ n * 18446744073709551616 ^ m := Nat.mul_le_mul c1 (Nat.le_trans (Nat.div_le_self _ _) a2)
    refine Nat.le_trans (Nat.le_trans h3 (Nat.add_le_add h4 h5)) (Nat.le_of_eq ?_)
    generalize 18446744073709551616 ^ m = P
    generalize 18446744073709551616 ^ n = R
    grind
  unfold Bd
  rw [Nat.pow_add]
  refine ⟨?_, ?_⟩
  · rw [e2]; exact Nat.mul_le_mul (Nat.le_trans (Nat.div_le_self _ _) a2) (Nat.le_trans (Nat.div_le_self _ _) c2)
  · rw [e1, sgn_abs]; exact Nat.le_trans (Nat.div_le_self _ _) hMl
theorem bd_tot : ∀ l : List Rat, (∀ f ∈ l, Len f 1) → Bd (tot l) l.length
  | [], _ => bd_zero
  | a :: l, h => by
    have h1 := bd_tot l (fun x hx => h x (by simp [hx]))
    have h2 := bd_add (bd_one (h a (by simp))) h1
    rw [Nat.add_comm] at h2
    exact h2
theorem len_tot (l : List Rat) (h : ∀ f ∈ l, Len f 1) (hn : l.length ≤ 100) : Len (tot l) (l.length + 1) := (bd_tot l h).len (by omega)

theorem pos_den (f : Rat) : (0 : Rat) < ((f.den : Int) : Rat) := by
  have : ((0 : Int) : Rat) < ((f.den : Int) : Rat) := Rat.intCast_lt_intCast.2 (by have := den_pos f; omega)
  simpa using this
theorem fl_le (f : Rat) : ((fl f : Int) : Rat) ≤ f := by
  have hd := pos_den f
  have h1 := den_times f
  have h2 : ((fl f * (f.den : Int) : Int) : Rat) ≤ ((f.num : Int) : Rat) := Rat.intCast_le_intCast.2 (Int.ediv_mul_le _ (by have := den_pos f; omega))
  rw [Rat.intCast_mul, ← h1] at h2
  exact Rat.le_of_mul_le_mul_right h2 hd
theorem lt_fl (f : Rat) : f < ((fl f : Int) : Rat) + 1 := by
  have hd := pos_den f
  have h1 := den_times f
  have h2 : ((f.num : Int) : Rat) < (((fl f + 1) * (f.den : Int) : Int) : Rat) := Rat.intCast_lt_intCast.2 (Int.lt_ediv_add_one_mul_self _ (by have := den_pos f; omega))
  rw [Rat.intCast_mul, ← h1, Rat.intCast_add] at h2
  exact Rat.lt_of_mul_lt_mul_right h2 (Rat.le_of_lt hd)
theorem fl_unique (f : Rat) (z : Int) (h1 : ((z : Int) : Rat) ≤ f) (h2 : f < ((z : Int) : Rat) + 1) : fl f = z := by
  have a1 := fl_le f
  have a2 := lt_fl f
  have e1 : ((fl f : Int) : Rat) < ((z + 1 : Int) : Rat) := by rw [Rat.intCast_add]; show _ < _ + (1 : Rat); grind
  have e2 : ((z : Int) : Rat) < ((fl f + 1 : Int) : Rat) := by rw [Rat.intCast_add]; show _ < _ + (1 : Rat); grind
  have e3 := Rat.intCast_lt_intCast.1 e1
  have e4 := Rat.intCast_lt_intCast.1 e2
  omega
theorem fl_nonneg (f : Rat) (h : 0 ≤ f) : 0 ≤ fl f := by
  have a2 := lt_fl f
  have e : ((0 : Int) : Rat) < ((fl f + 1 : Int) : Rat) := by rw [Rat.intCast_add]; show (0 : Rat) < _ + (1 : Rat); grind
  have := Rat.intCast_lt_intCast.1 e
  omega
theorem fl_mono {f g : Rat} (h : f ≤ g) : fl f ≤ fl g := by
  have a1 := fl_le f
  have a2 := lt_fl g
  have e1 : ((fl f : Int) : Rat) < ((fl g + 1 : Int) : Rat) := by rw [Rat.intCast_add]; show _ < _ + (1 : Rat); grind
  have := Rat.intCast_lt_intCast.1 e1
  omega

/-- below 0, 0 or above 0 -/
def sg (x : Rat) : Int := if x < 0 then -1 else if x = 0 then 0 else 1
theorem sg_neg {x : Rat} (h : x < 0) : sg x = -1 := by unfold sg; rw [if_pos h]
theorem sg_zero : sg 0 = 0 := by unfold sg; rw [if_neg Rat.lt_irrefl, if_pos rfl]
theorem sg_pos {x : Rat} (h : 0 < x) : sg x = 1 := by
  unfold sg
  rw [if_neg (fun h2 => by grind), if_neg (fun e => by rw [e] at h; exact Rat.lt_irrefl h)]
theorem rat_cases (x : Rat) : x < 0 ∨ x = 0 ∨ 0 < x := by
  rcases Rat.le_total (a := x) (b := 0) with h | h
  · rcases Rat.le_iff_lt_or_eq.1 h with h | h
    · exact .inl h
    · exact .inr (.inl h)
  · rcases Rat.le_iff_lt_or_eq.1 h with h | h
    · exact .inr (.inr h)
    · exact .inr (.inl h.symm)
theorem cmpZ_sg (x y : Rat) : cmpZ (x.num * (y.den : Int)) (y.num * (x.den : Int)) = sg (x - y) := by
  rcases rat_cases (x - y) with h | h | h
  · have h1 : x < y := by grind
    rw [sg_neg h, cmpZ_lt ((Rat.lt_iff _ _).1 h1)]
  · have h1 : x = y := by grind
    subst h1
    rw [h, sg_zero]
    unfold cmpZ
    rw [if_neg (by omega), if_pos rfl]
  · have h1 : y < x := by grind
    rw [sg_pos h, cmpZ_gt ((Rat.lt_iff _ _).1 h1)]
theorem sign_sg (x : Rat) : x.num.sign = sg x := by
  rcases rat_cases x with h | h | h
  · have h1 := (Rat.lt_iff _ _).1 h
    simp at h1
    rw [sg_neg h, Int.sign_eq_neg_one_of_neg h1]
  · subst h
    rw [sg_zero]
    rfl
  · have h1 := (Rat.lt_iff _ _).1 h
    simp at h1
    rw [sg_pos h, Int.sign_eq_one_of_pos h1]
theorem sg_mul_pos {x c : Rat} (hc : 0 < c) : sg (x * c) = sg x := by
  rcases rat_cases x with h | h | h
  · rw [sg_neg h, sg_neg]
    have := Rat.mul_lt_mul_of_pos_right h hc
    grind
  · subst h
    rw [Rat.zero_mul]
  · rw [sg_pos h, sg_pos (Rat.mul_pos h hc)]
theorem sg_flip (x : Rat) : sg (-x) = -sg x := by
  rcases rat_cases x with h | h | h
  · rw [sg_neg h, sg_pos (by grind)]; rfl
  · subst h
    rw [show (-0 : Rat) = 0 from by grind, sg_zero]; rfl
  · rw [sg_pos h, sg_neg (by grind)]
theorem int_pos {n : Int} (h : 0 < n) : (0 : Rat) < ((n : Int) : Rat) := by
  have : ((0 : Int) : Rat) < ((n : Int) : Rat) := Rat.intCast_lt_intCast.2 h
  simpa using this
/-- held against so many times another one -/
theorem times_pos (f g : Rat) (n : Int) (h : 0 < n) : sg (f * ((n : Int) : Rat)⁻¹ - g) = sg (f - g * ((n : Int) : Rat)) := by
  have hp := int_pos h
  have hne : ((n : Int) : Rat) ≠ 0 := int_ne n (by omega)
  rw [← sg_mul_pos (x := f * ((n : Int) : Rat)⁻¹ - g) hp]
  congr 1
  have := Rat.inv_mul_cancel _ hne
  grind
theorem times_neg (f g : Rat) (n : Int) (h : n < 0) : -sg (f * ((n : Int) : Rat)⁻¹ - g) = sg (f - g * ((n : Int) : Rat)) := by
  have hne : ((n : Int) : Rat) ≠ 0 := int_ne n (by omega)
  have hp : (0 : Rat) < -((n : Int) : Rat) := by
    have := int_pos (n := -n) (by omega)
    rwa [Rat.intCast_neg] at this
  rw [← sg_flip, ← sg_mul_pos (x := -(f * ((n : Int) : Rat)⁻¹ - g)) hp]
  congr 1
  have := Rat.inv_mul_cancel _ hne
  grind
end Go.Proofs.YtlkpkgajfakdpaaGreat

namespace Go.Proofs.YtlkpkgajfakdpaaGreat
open Go.RowKit

/-- no room beyond what a machine has -/
def Small (v : Value) : Prop := ∀ a n c, v = .slice a n c → c < 9223372036854775808
def opSm0 : Oper := { dst := some 17, op := Op.move (Operand.tmp 0), type := 23, pos := "split.go:48", after := #[], guard := none }
def opSm1 : Oper := { dst := some 18, op := Op.move (Operand.tmp 3), type := 3, pos := "split.go:48", after := #[], guard := none }
def opSm2 : Oper := { dst := some 19, op := Op.slice 23 (Operand.tmp 17) none (some (Operand.tmp 18)) none, type := 23, pos := "split.go:48", after := #[{ on := 0, ground := Ground.data }, { on := 1, ground := Ground.data }], guard := none }
def opSm3 : Oper := { dst := some 20, op := Op.call { callee := Callee.value (Operand.func 14), args := #[Operand.tmp 19], argTypes := #[23] }, type := 33, pos := "split.go:48", after := #[{ on := 2, ground := Ground.data }], guard := none }
def opSm4 : Oper := { dst := some 21, op := Op.move (Operand.tmp 0), type := 23, pos := "split.go:48", after := #[], guard := none }
def opSm5 : Oper := { dst := some 22, op := Op.move (Operand.tmp 3), type := 3, pos := "split.go:48", after := #[], guard := none }
def opSm6 : Oper := { dst := some 23, op := Op.slice 23 (Operand.tmp 21) (some (Operand.tmp 22)) none none, type := 23, pos := "split.go:48", after := #[{ on := 4, ground := Ground.data }, { on := 5, ground := Ground.data }], guard := none }
def opSm7 : Oper := { dst := some 24, op := Op.call { callee := Callee.value (Operand.func 14), args := #[Operand.tmp 23], argTypes := #[23] }, type := 33, pos := "split.go:48", after := #[{ on := 6, ground := Ground.data }, { on := 3, ground := Ground.chain }], guard := none }
def opSm8 : Oper := { dst := some 25, op := Op.call { callee := Callee.value (Operand.func 19), args := #[Operand.tmp 20, Operand.tmp 24], argTypes := #[33, 33] }, type := 33, pos := "split.go:48", after := #[{ on := 3, ground := Ground.data }, { on := 7, ground := Ground.data }, { on := 7, ground := Ground.chain }], guard := none }
def opSm9 : Oper := { dst := none, op := Op.store 33 (Operand.tmp 2) (Operand.tmp 25), type := 0, pos := "split.go:48", after := #[{ on := 8, ground := Ground.data }, { on := 8, ground := Ground.chain }, { on := 0, ground := Ground.phase }, { on := 1, ground := Ground.phase }, { on := 2, ground := Ground.phase }, { on := 3, ground := Ground.phase }, { on := 4, ground := Ground.phase }, { on := 5, ground := Ground.phase }, { on := 6, ground := Ground.phase }, { on := 7, ground := Ground.phase }, { on := 8, ground := Ground.phase }], guard := none }
def opSms : Array Oper := #[opSm0, opSm1, opSm2, opSm3, opSm4, opSm5, opSm6, opSm7, opSm8, opSm9]
def opSmT (i : Nat) : Nat := match i with
  | 0 => 17
  | 1 => 18
  | 2 => 19
  | 3 => 20
  | 4 => 21
  | 5 => 22
  | 6 => 23
  | 7 => 24
  | _ => 25
/-- what each operation's value is -/
def opSmC (b : Nat) (off : Nat) (n : Nat) (c : Nat) (k : Nat) (f : Rat) (g : Rat) (i : Nat) (w : World) (v : Value) : Prop := match i with
  | 0 => v = .slice (some ⟨b, off, none⟩) n c
  | 1 => v = .int .i64 (k : Int)
  | 2 => v = .slice (some ⟨b, off, none⟩) k c
  | 3 => FracAt w v f
  | 4 => v = .slice (some ⟨b, off, none⟩) n c
  | 5 => v = .int .i64 (k : Int)
  | 6 => v = .slice (some ⟨b, off + k * 4, none⟩) (n - k) (c - k)
  | 7 => FracAt w v g
  | _ => FracAt w v (f + g)
theorem opSmC_but {b : Nat} {off : Nat} {n : Nat} {c : Nat} {k : Nat} {f : Rat} {g : Rat} {i : Nat} {w w' : World} {v : Value} (h : opSmC b off n c k f g i w v) (hi : i < 9) (hb : But [] w w') : opSmC b off n c k f g i w' v := by
  have : i = 0 ∨ i = 1 ∨ i = 2 ∨ i = 3 ∨ i = 4 ∨ i = 5 ∨ i = 6 ∨ i = 7 ∨ i = 8 := by omega
  rcases this with rfl | rfl | rfl | rfl | rfl | rfl | rfl | rfl | rfl
  all_goals first | exact h | exact FracAt.but h hb | exact FracsAt.but h hb
theorem opSmT_inj : ∀ i j, i < 9 → j < 9 → opSmT i = opSmT j → i = j := fun i j hi hj => (by decide : ∀ i, i < 9 → ∀ j, j < 9 → opSmT i = opSmT j → i = j) i hi j hj
set_option maxRecDepth 100000 in
theorem sum_region (id : Nat) (Q : Exit → Act → World → Prop) (base : Act) (W0 : World) (b : Nat) (off : Nat) (n : Nat) (c : Nat) (k : Nat) (f : Rat) (g : Rat) (gb : Nat) {sb : Bool} {xb yb : Int} {pb : Option Addr} (hs : 25 < base.tmps.size) (eb : base.eval (.tmp 2) = .pointer (some ⟨gb, 0, none⟩)) (cb : P4 W0 gb sb xb yb pb) (fzb : ∀ j, W0.frozen? ⟨gb, j, none⟩ = false) (e0 : base.eval (.tmp 0) = .slice (some ⟨b, off, none⟩) n c) (e3 : base.eval (.tmp 3) = .int .i64 (k : Int))
    (hk' : k < n) (hnc : n ≤ c) (hc : c < 9223372036854775808)
    (SU : ∀ w, But [] W0 w → Calls Tryz.prog 14 #[.slice (some ⟨b, off, none⟩) k c] w fun e w' => ∃ v, e = .returned v ∧ FracAt w' v f ∧ But [] w w')
    (SV : ∀ w, But [] W0 w → Calls Tryz.prog 14 #[.slice (some ⟨b, off + k * 4, none⟩) (n - k) (c - k)] w fun e w' => ∃ v, e = .returned v ∧ FracAt w' v g ∧ But [] w w')
    (AD : ∀ w v1 v2, FracAt w v1 f → FracAt w v2 g → Calls Tryz.prog 19 #[v1, v2] w fun e w' => ∃ v, e = .returned v ∧ FracAt w' v (f + g) ∧ But [] w w')
    (hQ : ∀ w1 v3 v7 s' x' y' p', But [] W0 w1 → FracAt w1 (.agg #[.bool s', .int .u64 x', .int .u64 y', .pointer p']) (f + g) → Q .normal (putted base [(17, .slice (some ⟨b, off, none⟩) n c), (18, .int .i64 (k : Int)), (19, .slice (some ⟨b, off, none⟩) k c), (20, v3), (21, .slice (some ⟨b, off, none⟩) n c), (22, .int .i64 (k : Int)), (23, .slice (some ⟨b, off + k * 4, none⟩) (n - k) (c - k)), (24, v7), (25, (.agg #[.bool s', .int .u64 x', .int .u64 y', .pointer p']))]) (put4 w1 gb s' x' y' p')) :
    (Code.region id opSms true).wp Tryz.prog Q base W0 := by
  have hdr : ∀ {w}, But [] W0.drew w → But [] W0 w := fun h => (But.refl _ _).drew.trans' h
  have lgb : gb < W0.heap.size := lt_of_cell cb.1
  have hT : ∀ i, i < 9 → opSmT i < base.tmps.size := fun i hi => by
    have h : opSmT i ≤ 25 := by revert i; decide
    omega
  refine region_flow (by kernel_rfl) (low_of (by kernel_rfl)) (fun i o ho => (calm_of (ops := opSms) (by kernel_rfl) i o ho).1)
    (fun _ w => But [] W0.drew w) (opSmC b off n c k f g) opSmT 9 rfl opSmT_inj hT (But.refl _ _)
    (fun i hi => ?_) ?_ (fun a w => ∃ w1 v3 v7 s' x' y' p', a = putted base [(17, .slice (some ⟨b, off, none⟩) n c), (18, .int .i64 (k : Int)), (19, .slice (some ⟨b, off, none⟩) k c), (20, v3), (21, .slice (some ⟨b, off, none⟩) n c), (22, .int .i64 (k : Int)), (23, .slice (some ⟨b, off + k * 4, none⟩) (n - k) (c - k)), (24, v7), (25, (.agg #[.bool s', .int .u64 x', .int .u64 y', .pointer p']))] ∧ w = put4 w1 gb s' x' y' p' ∧ But [] W0 w1 ∧ FracAt w1 (.agg #[.bool s', .int .u64 x', .int .u64 y', .pointer p']) (f + g)) ?_ ?_
  · exact dep_of (ops := opSms) (ps := [(9, 0), (9, 1), (9, 2), (9, 3), (9, 4), (9, 5), (9, 6), (9, 7), (9, 8)]) (by kernel_rfl) 9 i (by
      have : i = 0 ∨ i = 1 ∨ i = 2 ∨ i = 3 ∨ i = 4 ∨ i = 5 ∨ i = 6 ∨ i = 7 ∨ i = 8 := by omega
      rcases this with rfl | rfl | rfl | rfl | rfl | rfl | rfl | rfl | rfl <;> simp)
  · intro dn i o a w K hi ho hdi hH he hdep hK
    have hD := fun j hj => (dep_have (ps := [(2, 0), (2, 1), (3, 2), (6, 4), (6, 5), (7, 3), (7, 6), (8, 3), (8, 7)]) (by kernel_rfl) ho (fun j => dn j = true ∧ opSmC b off n c k f g j w (a.eval (.tmp (opSmT j)))) hdep j hj).2
    have hk : ∀ v w', But [] w w' → opSmC b off n c k f g i w' v → K (a.put (some (opSmT i)) v) w' := fun v w' hb hv => hK v w' (hH.trans' hb) (fun j hj _ u hu => opSmC_but hu hj hb) hv
    have eb' := (he 2 (fun j hj e => absurd e.symm (by revert j; decide))).trans eb
    have e0' := (he 0 (fun j hj e => absurd e.symm (by revert j; decide))).trans e0
    have e3' := (he 3 (fun j hj e => absurd e.symm (by revert j; decide))).trans e3
    have : i = 0 ∨ i = 1 ∨ i = 2 ∨ i = 3 ∨ i = 4 ∨ i = 5 ∨ i = 6 ∨ i = 7 ∨ i = 8 := by omega
    rcases this with rfl | rfl | rfl | rfl | rfl | rfl | rfl | rfl | rfl
    · obtain rfl := Option.some.inj ((show opSms[0]? = some opSm0 from rfl).symm.trans ho)
      exact wp_value (run_mv a w _ _ _ _ _ _ _ e0') (hk _ _ (But.refl _ _) rfl)
    · obtain rfl := Option.some.inj ((show opSms[1]? = some opSm1 from rfl).symm.trans ho)
      exact wp_value (run_mv a w _ _ _ _ _ _ _ e3') (hk _ _ (But.refl _ _) rfl)
    · obtain rfl := Option.some.inj ((show opSms[2]? = some opSm2 from rfl).symm.trans ho)
      exact wp_value (run_sliceTo a w _ _ _ _ _ _ _ b off n c k (by omega) hnc hc (hD 0 (by simp)) (hD 1 (by simp))) (hk _ _ (But.refl _ _) rfl)
    · obtain rfl := Option.some.inj ((show opSms[3]? = some opSm3 from rfl).symm.trans ho)
      exact wp_enter (run_sumF a w _ _ _ _ _ _ _ (hD 2 (by simp))) (R := fun w' v => FracAt w' v (f) ∧ But [] w w') (SU w (hdr hH)) (fun v w' hv => hk v w' hv.2 hv.1)
    · obtain rfl := Option.some.inj ((show opSms[4]? = some opSm4 from rfl).symm.trans ho)
      exact wp_value (run_mv a w _ _ _ _ _ _ _ e0') (hk _ _ (But.refl _ _) rfl)
    · obtain rfl := Option.some.inj ((show opSms[5]? = some opSm5 from rfl).symm.trans ho)
      exact wp_value (run_mv a w _ _ _ _ _ _ _ e3') (hk _ _ (But.refl _ _) rfl)
    · obtain rfl := Option.some.inj ((show opSms[6]? = some opSm6 from rfl).symm.trans ho)
      exact wp_value (run_sliceFrom a w _ _ _ _ _ _ _ b off n c k hk' hnc hc (hD 4 (by simp)) (hD 5 (by simp))) (hk _ _ (But.refl _ _) rfl)
    · obtain rfl := Option.some.inj ((show opSms[7]? = some opSm7 from rfl).symm.trans ho)
      exact wp_enter (run_sumF a w _ _ _ _ _ _ _ (hD 6 (by simp))) (R := fun w' v => FracAt w' v (g) ∧ But [] w w') (SV w (hdr hH)) (fun v w' hv => hk v w' hv.2 hv.1)
    · obtain rfl := Option.some.inj ((show opSms[8]? = some opSm8 from rfl).symm.trans ho)
      exact wp_enter (run_addF a w _ _ _ _ _ _ _ _ _ rfl rfl) (R := fun w' v => FracAt w' v (f + g) ∧ But [] w w') (AD w _ _ (hD 3 (by simp)) (hD 7 (by simp))) (fun v w' hv => hk v w' hv.2 hv.1)
  · intro dn o a w K ho hall h hK
    obtain rfl := Option.some.inj ((show opSms[9]? = some opSm9 from rfl).symm.trans ho)
    have eb' := (h.eval 2 (fun j hj e => absurd e.symm (by revert j; decide))).trans eb
    have cl : FracAt w (a.eval (.tmp 25)) (f + g) := h.has 8 (by omega) (hall 8 (by omega))
    have cl' := cl
    obtain ⟨x', y', p', ev, -⟩ := cl.agg
    rw [ev] at cl'
    have ea := h.puts hT (fun i => match i with
      | 0 => .slice (some ⟨b, off, none⟩) n c
      | 1 => .int .i64 (k : Int)
      | 2 => .slice (some ⟨b, off, none⟩) k c
      | 3 => a.eval (.tmp 20)
      | 4 => .slice (some ⟨b, off, none⟩) n c
      | 5 => .int .i64 (k : Int)
      | 6 => .slice (some ⟨b, off + k * 4, none⟩) (n - k) (c - k)
      | 7 => a.eval (.tmp 24)
      | _ => .agg #[.bool (decide ((f + g).num < 0)), .int .u64 x', .int .u64 y', .pointer p']) (fun i hi => by
      have hc := h.has i hi (hall i hi)
      have : i = 0 ∨ i = 1 ∨ i = 2 ∨ i = 3 ∨ i = 4 ∨ i = 5 ∨ i = 6 ∨ i = 7 ∨ i = 8 := by omega
      rcases this with rfl | rfl | rfl | rfl | rfl | rfl | rfl | rfl | rfl
      all_goals first | exact ev | exact hc | rfl)
    exact wp_skipped (run_store4 a w _ _ _ _ _ gb _ x' y' p' eb' ev (cb.but (hdr h.mem) (by simp)) (fun j => ((hdr h.mem).frozen (p := ⟨gb, j, none⟩) lgb (by simp)).trans (fzb j))) (hK _ _ ⟨w, a.eval (.tmp 20), a.eval (.tmp 24), _, x', y', p', ea, rfl, hdr h.mem, cl'⟩)
  · rintro a w ⟨w1, v3, v7, s', x', y', p', rfl, rfl, h1, h2⟩
    exact hQ  w1 v3 v7 s' x' y' p' h1 h2

set_option maxHeartbeats 4000000 in
set_option maxRecDepth 100000 in
theorem sum_any (n : Nat) : ∀ (fs : List Rat) (v : Value) (w : World), fs.length = n → FracsAt w v fs → (∀ f ∈ fs, Len f 1) → n ≤ 100 → Small v →
    Calls Tryz.prog 14 #[v] w fun e w' => ∃ v', e = .returned v' ∧ FracAt w' v' (tot fs) ∧ But [] w w' := by
  induction n using Nat.strongRecOn with
  | ind n ih =>
    intro fs v w hfn hfs hl hn hsm
    obtain ⟨W, hW⟩ : ∃ W, W = w.alloc (.cells #[.bool false, .int .u64 0, .int .u64 0, .pointer none] 33) := ⟨_, rfl⟩
    have hB : But [] w W := by rw [hW]; exact (But.refl _ _).alloc _
    have cc : P4 W w.heap.size false 0 0 none := by rw [hW]; exact ⟨by simp, by simp, by simp, by simp⟩
    have z4 : ∀ j, W.frozen? ⟨w.heap.size, j, none⟩ = false := fun j => by rw [hW]; simp
    have HB := hide hB
    have CC := hide cc
    have Z4 := hide z4
    have HW := hide hW
    have FIN : Hid (∀ (w2 : World) (s : Bool) (x y : Int) (p : Option Addr), But [] W w2 → FracAt w2 (.agg #[.bool s, .int .u64 x, .int .u64 y, .pointer p]) (tot fs) → FracAt (put4 w2 w.heap.size s x y p) (.agg #[.bool s, .int .u64 x, .int .u64 y, .pointer p]) (tot fs) ∧ But [] w (put4 w2 w.heap.size s x y p) ∧ P4 (put4 w2 w.heap.size s x y p) w.heap.size s x y p) := fun w2 s x y p hb hf => by
      have hP := put4_but w2 w.heap.size s x y p
      have c2 := cc.but hb (by simp)
      exact ⟨hf.over c2.1 hP, (hB.trans' hb).trans hP (fun x hx => by simp at hx; subst hx; exact .inr (Nat.le_refl _)), put4_p4 w2 w.heap.size s x y p c2⟩
    clear hB cc z4 hW
    have lt0 : w.heap.size < W.heap.size := lt_of_cell (unhide CC).1
    rcases hfs.open with ⟨rfl, a, cap, rfl⟩ | ⟨h0, b, off, cap, rfl, hcap, hlie⟩
    · -- none
      obtain rfl : n = 0 := by simpa using hfn.symm
      obtain ⟨r0, r1, r2, r3⟩ := unhide CC
      have fz := unhide Z4
      clear hfs ih hl hsm
      go_enter Tryz.func14, Tryz.ntmps14
      go_wp2_with fail
      rw [← unhide HW]
      clear HW
      generalize w.heap.size = g at *
      go_wp2
      exact bodyPost_ret (v := .agg #[.bool false, .int .u64 0, .int .u64 0, .pointer none]) (by simp [results, Tryz.results14, go_sem, r0, r1, r2, r3]) rfl ⟨_, rfl, zero_at _, unhide HB⟩
    · have hcs : cap < 9223372036854775808 := hsm _ _ _ rfl
      by_cases h1 : n = 1
      · -- one
        subst h1
        obtain ⟨f, rfl⟩ : ∃ f, fs = [f] := List.length_eq_one_iff.1 hfn
        obtain ⟨s, x, y, p, ⟨l0, l1, l2, l3⟩, hf⟩ := hlie 0 f rfl
        rw [Nat.zero_mul, Nat.add_zero] at l0 l1 l2 l3
        have ef : tot [f] = f := by show f + 0 = f; grind
        rw [ef] at FIN ⊢
        have HF := hide hf
        have hlen : [f].length = 1 := rfl
        rw [hlen] at hcap ⊢
        clear hfs ih hl hsm hlie hf h0 hlen ef CC Z4 HB lt0
        have lb : b < w.heap.size := lt_of_cell l0
        go_enter Tryz.func14, Tryz.ntmps14
        go_wp2
        have bA : But [] w (w.alloc (.cells #[.bool s, .int .u64 x, .int .u64 y, .pointer p] 33)) := (But.refl _ _).alloc _
        exact bodyPost_ret (v := .agg #[.bool s, .int .u64 x, .int .u64 y, .pointer p]) (by simp [results, Tryz.results14, go_sem]) rfl ⟨_, rfl, (unhide HF).but bA, bA⟩
      · -- more: by halves
        have hk1 : n / 2 < n := by omega
        have hfs' := hfs
        rw [hfn] at hfs' hcap ⊢
        have tk := FracsAt.take (n := n / 2) (fs := fs) (by rw [hfn]; exact hfs') cap (by omega) (by omega)
        have dp := FracsAt.drop (n := n / 2) (fs := fs) (by rw [hfn]; exact hfs') (n - n / 2) (cap - n / 2) (by omega) (by omega)
        have l1 : (fs.take (n / 2)).length = n / 2 := by rw [List.length_take]; omega
        have l2 : (fs.drop (n / 2)).length = n - n / 2 := by rw [List.length_drop]; omega
        have q1 : ∀ f ∈ fs.take (n / 2), Len f 1 := fun f hf => hl f (List.mem_of_mem_take hf)
        have q2 : ∀ f ∈ fs.drop (n / 2), Len f 1 := fun f hf => hl f (List.mem_of_mem_drop hf)
        have SU := hide (fun W' (h : But [] W W') => ih (n / 2) hk1 (fs.take (n / 2)) _ W' l1 (tk.but ((unhide HB).trans' h)) q1 (by omega) (fun a m c' e => by cases e; exact hcs))
        have SV := hide (fun W' (h : But [] W W') => ih (n - n / 2) (by omega) (fs.drop (n / 2)) _ W' l2 (dp.but ((unhide HB).trans' h)) q2 (by omega) (fun a m c' e => by cases e; omega))
        have e1 := len_tot _ q1 (by omega)
        have e2 := len_tot _ q2 (by omega)
        rw [l1] at e1
        rw [l2] at e2
        have AD := hide (fun W' v1 v2 (h1 : FracAt W' v1 (tot (fs.take (n / 2)))) (h2 : FracAt W' v2 (tot (fs.drop (n / 2)))) => fracAdd_gen (n / 2 + 1) (n - n / 2 + 1) (by omega) v1 v2 _ _ W' h1 h2 e1 e2)
        have ef : tot fs = tot (fs.take (n / 2)) + tot (fs.drop (n / 2)) := by rw [← tot_append, List.take_append_drop]
        rw [ef] at FIN ⊢
        have h0i : ((n : Int) == 0) = false := by simp; omega
        have h1i : ((n : Int) == 1) = false := by simp; omega
        have hdiv : Int.tdiv (n : Int) 2 = ((n / 2 : Nat) : Int) := by rw [Int.tdiv_eq_ediv_of_nonneg (by omega)]; omega
        clear hfs hfs' ih hl hsm hlie tk dp l1 l2 q1 q2 e1 e2 ef
        generalize tot (fs.take (n / 2)) = f at *
        generalize tot (fs.drop (n / 2)) = g' at *
        generalize hkk : n / 2 = k at *
        go_enter Tryz.func14, Tryz.ntmps14
        go_wp2_with fail
        rw [← unhide HW]
        clear HW
        generalize w.heap.size = g at *
        go_wp2
        refine sum_region 7 _ _ W b off n cap k f g' g (by simp) (by simp [Act.eval]) (unhide CC) (unhide Z4) (by simp [Act.eval]) (by simp [Act.eval]) hk1 hcap hcs (unhide SU) (unhide SV) (unhide AD) ?_
        intro w1 v3 v7 s x y p hb1 hf1
        obtain ⟨k1, k2, m0, m1, m2, m3⟩ := unhide FIN w1 s x y p hb1 hf1
        generalize put4 w1 g s x y p = F at *
        simp only [putted, List.foldl_cons, List.foldl_nil, Act.put, List.setIfInBounds_toArray, List.set_cons_zero, List.set_cons_succ]
        go_wp2
        exact bodyPost_ret (v := .agg #[.bool s, .int .u64 x, .int .u64 y, .pointer p]) (by simp [results, Tryz.results14, go_sem, m0, m1, m2, m3]) rfl ⟨_, rfl, k1, k2⟩
end Go.Proofs.YtlkpkgajfakdpaaGreat
