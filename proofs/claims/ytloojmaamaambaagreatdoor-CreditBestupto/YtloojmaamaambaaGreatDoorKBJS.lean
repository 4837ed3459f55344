/- The law CreditBest, whatever came in, as long as it is of no greater bulk than the second statement bears. -/
import Derived.Test.YtloojmaamaambaaGreatDoorKBJR
namespace Go.Proofs.YtloojmaamaambaaGreatDoor
open Go.RowKit

theorem creditBest_any (z1 z2 z3 z6 : Value) (yy u4 v4 u5 v5 : Int) (p1 p2 p3 : List (Int × Int)) (rs : List (List (Int × Int))) (w : World) (h1 : QsAt w z1 p1) (h2 : QsAt w z2 p2) (h3 : QsAt w z3 p3) (hq : QrowsAt w z6 rs) (f1 : ∀ q ∈ p1,Fits q) (f2 : ∀ q ∈ p2,Fits q) (f3 : ∀ q ∈ p3,Fits q) (f4 : Fits (u4,v4)) (f5 : Fits (u5,v5)) (f6 : ∀ r ∈ rs,∀ z ∈ r,Fits z) (hy1 : -9223372036854775808 ≤ yy) (hy2 : yy < 9223372036854775808) (b2 : p2.length ≤ 1048576) (b3 : p3.length ≤ 1048576) (b6 : rs.length + totN rs rs.length ≤ 1048576)
  (htab : Lib.TabIs Tryz.prog w "internal/strconv.uint64pow10" .u64 Lib.pow10Tab) :
  Calls Tryz.prog 8 #[z1,z2,z3,.int .i64 yy,.agg #[.int .i64 u4,.int .i64 v4],.agg #[.int .i64 u5,.int .i64 v5],z6] w fun e w' => e = .returned (.bool true)∧But [] w w':=by
 obtain ⟨a1,c1,rfl,-⟩:=id h1
 obtain ⟨a2,c2,rfl,-⟩:=id h2
 obtain ⟨a3,c3,rfl,-⟩:=id h3
 obtain ⟨a6,c6,rfl,-⟩:=id hq
 have tk : ∀ k,k ≤ rs.length→totN rs k ≤ 2000000:=fun k hk => by
  have:=sgN_up (fun j => (rs[j]?.getD []).length) rs.length k hk
  unfold totN at b6 ⊢
  omega
 by_cases h : 12 < p1.length ∨ p2.length < p1.length ∨ p3.length < p1.length
 ·exact best_short a1 _ c1 a2 _ c2 a3 _ c3 yy u4 v4 u5 v5 a6 _ c6 w h
 by_cases ht : 1 + rs.length + totN rs rs.length ≤ 80
 ·exact best_main a1 _ c1 a2 _ c2 a3 _ c3 yy u4 v4 u5 v5 a6 _ c6 p1 p2 p3 rs w h1 h2 h3 hq rfl rfl rfl rfl (by omega) (by omega) (by omega) (by omega) (by omega) f1 f2 f3 f4 f5 f6 hy1 hy2 ht htab
 ·exact best_much a1 _ c1 a2 _ c2 a3 _ c3 yy u4 v4 u5 v5 a6 _ c6 rs w (by omega) (by omega) (by omega) hq rfl (by omega) tk ht
end Go.Proofs.YtloojmaamaambaaGreatDoor
