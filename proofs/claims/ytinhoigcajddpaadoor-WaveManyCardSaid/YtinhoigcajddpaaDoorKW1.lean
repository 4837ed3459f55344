/- Products of complex numbers, square roots, powers, as the Go texts of packages wave and tontineref have them. -/
import Derived.Test.YtinhoigcajddpaaDoorProg
import Derived.WalkLawsBesides
import Derived.Laws.Externs
import Derived.Test.YtinhoigcajddpaaDoorKW0
namespace Go.Proofs.YtinhoigcajddpaaDoor
open Go.RowKit

/-- a complex number, no matter which NaNs -/
abbrev CV := Option Nat × Option Nat
def cx (x y : Nat) : CV := (can x, can y)
def cprod (p q : CV) : CV := (fop .sub (fop .mul p.1 q.1) (fop .mul p.2 q.2), fop .add (fop .mul p.1 q.2) (fop .mul p.2 q.1))

set_option maxHeartbeats 2000000 in
set_option maxRecDepth 100000 in
theorem product_any (a b c d : Nat) (w : World) : Calls Tryd.prog 16 #[.complex .f64 a b, .complex .f64 c d] w fun e w' => ∃ x y n, e = .returned (.complex .f64 x y) ∧ w' = w.drewN n ∧ cx x y = cprod (cx a b) (cx c d) := by
  have hm := fun t x y w => run_fl (P := Tryd.prog) w .mul (by simp) t x y
  have hs := fun t x y w => run_fl (P := Tryd.prog) w .sub (by simp) t x y
  have ha := fun t x y w => run_fl (P := Tryd.prog) w .add (by simp) t x y
  go_enter Tryd.func16, Tryd.ntmps16
  go_wp2
  go_ret
  exact ⟨_, _, _, rfl, rfl, by simp [cx, cprod, can_flB]⟩

set_option maxHeartbeats 2000000 in
set_option maxRecDepth 100000 in
theorem refProduct_any (a b c d : Nat) (w : World) : Calls Tryd.prog 12 #[.complex .f64 a b, .complex .f64 c d] w fun e w' => ∃ x y n, e = .returned (.complex .f64 x y) ∧ w' = w.drewN n ∧ cx x y = cprod (cx a b) (cx c d) := by
  have hm := fun t x y w => run_fl (P := Tryd.prog) w .mul (by simp) t x y
  have hs := fun t x y w => run_fl (P := Tryd.prog) w .sub (by simp) t x y
  have ha := fun t x y w => run_fl (P := Tryd.prog) w .add (by simp) t x y
  go_enter Tryd.func12, Tryd.ntmps12
  go_wp2
  go_ret
  exact ⟨_, _, _, rfl, rfl, by simp [cx, cprod, can_flB]⟩

theorem sqrt_entry (x : Nat) (w : World) : (callFunc 30 #[.float .f64 x]).run Tryd.prog w = .ok (.value (.float .f64 (sqB x w))) (w.drewN (sqN x)) := by
  rw [run_callFunc_extern (e := Extern.MathSqrt.sqrt) Tryd.func30 (by kernel_rfl) (by kernel_rfl) (by kernel_rfl) (by kernel_rfl), run_msqrt]
  rfl
set_option maxHeartbeats 2000000 in
set_option maxRecDepth 100000 in
theorem sqrt_any (x : Nat) (w : World) : Calls Tryd.prog 29 #[.float .f64 x] w fun e w' => ∃ y n, e = .returned (.float .f64 y) ∧ w' = w.drewN n ∧ can y = fsqrt (can x) := by
  have hm := fun x w => run_msqrt (P := Tryd.prog) w x
  have he := fun x w => sqrt_entry x w
  go_enter Tryd.func29, Tryd.ntmps29
  go_wp2
  go_ret
  exact ⟨_, _, rfl, rfl, can_sqB _ _⟩
end Go.Proofs.YtinhoigcajddpaaDoor
