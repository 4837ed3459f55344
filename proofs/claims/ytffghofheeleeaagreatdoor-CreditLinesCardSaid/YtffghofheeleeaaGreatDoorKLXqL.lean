/- Texts of fractions, of both kinds, are t -/
import Derived.Test.YtffghofheeleeaaGreatDoorKC1
import Derived.Test.YtffghofheeleeaaGreatDoorKHG
namespace Go.Proofs.YtffghofheeleeaaGreatDoor
open Go.RowKit
theorem zpm {a b:ByteArray} (h:a.data.toList=b.data.toList):a=b:=by
 cases a;cases b;simp only[ByteArray.mk.injEq];exact Array.ext' h
theorem zct (a b:ByteArray):(a++b).data.toList=a.data.toList++b.data.toList:=by simp
theorem zpx (x:Rat):zcx (decide (x.num<0)) x.num.natAbs x.den=zij x.num x.den:=by
 apply zpm
 have e:zca x.num=(if decide (x.num<0) then [45] else [])++Lib.decDigits x.num.natAbs:=by
  rw[zca]
  by_cases h:x.num<0
  ·rw[if_pos h,decide_eq_true h];rfl
  ·rw[if_neg h,decide_eq_false h];rfl
 have e2:zca (x.den:Int)=Lib.decDigits x.den:=by rw[zca,if_neg (by omega),Int.natAbs_natCast]
 generalize decide (x.num<0)=r at *
 rw[zcx,zij,zct]
 by_cases hq:x.den=1
 ·rw[if_pos hq,if_pos hq,e]
  cases r <;> simp
 ·rw[if_neg hq,if_neg hq,zct,zct,zct,e,e2]
  cases r <;> simp
theorem zya:zcx false 0 1=⟨#[48]⟩:=by
 rw[zcx]
 have:Lib.decDigits 0=[48]:=by rw[Lib.decDigits,dif_pos (by omega)];rfl
 rw[this]
 apply zpm
 rw[zct];rfl
theorem zuq:Len (0:Rat) 1000000:=⟨by show (wd 18446744073709551616 0).length≤_;rw[zq];simp,Nat.le_trans (aj (B:=18446744073709551616) (by omega) 1 1 (by omega)) (by omega)⟩
theorem zo {f:Rat} {n:Nat} (h:Len f n):zu f (2*n):=by
 have h1:=am (B:=18446744073709551616) (by omega) _ n h.1
 have h2:=am (B:=18446744073709551616) (by omega) _ n h.2
 have e:(18446744073709551616:Nat)^n=4294967296^(2*n):=by rw[Nat.pow_mul]
 rw[e] at h1 h2
 exact⟨aj (by omega) _ _ h1,aj (by omega) _ _ h2⟩
end Go.Proofs.YtffghofheeleeaaGreatDoor
