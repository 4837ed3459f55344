/- A fraction's whole number as an int, as the Go text of package frac tells it. -/
import Derived.Test.YtlkpkgajfakdpaaGreatKN5
namespace Go.Proofs.YtlkpkgajfakdpaaGreat
open Go.RowKit

set_option maxHeartbeats 2000000 in
set_option maxRecDepth 100000 in
theorem fracInt_small (n : Nat) (hn : n < 9223372036854775808) (w : World) :
    Calls Tryz.prog 34 #[.agg #[.bool false, .int .u64 (n : Int), .int .u64 0, .pointer none]] w fun e w' => e = .returned (.tuple #[.int .i64 (n : Int), .bool true]) ∧ But [] w w' := by
  have hw : IntKind.i64.wrap (n : Int) = (n : Int) := by rw [IntKind.wrap_i64]; omega
  have hc : (n : Int) < 9223372036854775808 := by omega
  go_enter Tryz.func34, Tryz.ntmps34
  go_wp2
  go_ret2
  exact ⟨rfl, (But.refl _ _).alloc _⟩

set_option maxHeartbeats 2000000 in
set_option maxRecDepth 100000 in
theorem fracInt_big (n : Nat) (hn : 9223372036854775808 ≤ n) (w : World) :
    Calls Tryz.prog 34 #[.agg #[.bool false, .int .u64 (n : Int), .int .u64 0, .pointer none]] w fun e w' => e = .returned (.tuple #[.int .i64 0, .bool false]) ∧ But [] w w' := by
  have hc : ¬ (n : Int) < 9223372036854775808 := by omega
  go_enter Tryz.func34, Tryz.ntmps34
  go_wp2
  go_ret2
  exact ⟨rfl, (But.refl _ _).alloc _⟩
end Go.Proofs.YtlkpkgajfakdpaaGreat
