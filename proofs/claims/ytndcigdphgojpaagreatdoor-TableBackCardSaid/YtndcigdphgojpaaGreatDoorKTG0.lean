/- The greatest common divisor of two words, as the Go text reckons it. -/
import Derived.Test.YtndcigdphgojpaaGreatDoorProg
import Derived.WalkKit
import Derived.Deep.QuietTactic
import Derived.BigQuiet
namespace Go.Proofs.YtndcigdphgojpaaGreatDoor
open Go.RowKit

set_option maxHeartbeats 400000 in
theorem gcdWords_any (x y : Nat) (w : World) (hx : x < 18446744073709551616) (hy : y < 18446744073709551616) :
  Calls Tryz.prog 52 #[.int .u64 x,.int .u64 y] w fun e w' => e = .returned (.int .u64 (Nat.gcd x y : Nat))∧∃ n,w' = w.drewN n:=by
 go_enter Tryz.func52,Tryz.ntmps52
 go_wp2
 go_loopw [0,1] (fun a b w' => ∃ p q : Nat,a = .int .u64 p∧b = .int .u64 q∧p < 18446744073709551616∧q < 18446744073709551616∧Hid (Nat.gcd p q = Nat.gcd x y)∧∃ n,w' = w.drewN n) (fun _ b _ => (intOf b).toNat)
 case atStart => exact ⟨x,y,rfl,rfl,hx,hy,(rfl : Nat.gcd x y = Nat.gcd x y),0,rfl⟩
 case round =>
  obtain ⟨p,q,rfl,rfl,hp,hq,hg,n,rfl⟩:=hrel
  by_cases h0 : q = 0
  ·subst h0
   go_wp2
   go_ret
   exact ⟨by rw [← hg.out]; simp,n,rfl⟩
  ·have hb : ((q : Int) == 0) = false:=by simp; exact h0
   have hn : ((q : Int) != 0) = true:=by simp; exact h0
   go_wp2
   go_quiet (fail)
   go_roundw
   case rel =>
    refine ⟨_,_,_,_,_,_,_,_,⟨q,p % q,rfl,?_,hq,?_,?_,n + nq,?_⟩,rfl⟩
    ·rw [Int.natCast_emod]
    ·exact Nat.lt_trans (Nat.mod_lt _ (Nat.pos_of_ne_zero h0)) hq
    ·show Nat.gcd q (p % q) = Nat.gcd x y
     rw [← hg.out,Nat.gcd_comm p q,Nat.gcd_rec q p,Nat.gcd_comm]
    ·exact World.drewN_drewN _ _ _
   case measure =>
    simp [intOf]
    have:=Nat.mod_lt p (Nat.pos_of_ne_zero h0)
    omega
end Go.Proofs.YtndcigdphgojpaaGreatDoor
