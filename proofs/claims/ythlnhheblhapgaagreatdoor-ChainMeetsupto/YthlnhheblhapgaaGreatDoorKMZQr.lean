/- Out of ZQ: what needs no more than these -/
import Derived.Test.YthlnhheblhapgaaGreatDoorKMBW
namespace Go.Proofs.YthlnhheblhapgaaGreatDoor
open Go.RowKit
def isN (x:Rat) (M:Nat):Prop:=∃ z:Nat,x=((z:Int):Rat)∧z≤M
theorem isN.mono {x:Rat} {M K:Nat} (h:isN x M) (hk:M≤K):isN x K:=by
 obtain ⟨z,e,hz⟩:=h
 exact ⟨z,e,by omega⟩
theorem isN.add {x y:Rat} {M K:Nat} (h:isN x M) (k:isN y K):isN (x+y) (M+K):=by
 obtain ⟨z,rfl,hz⟩:=h
 obtain ⟨v,rfl,hv⟩:=k
 exact ⟨z+v,by rw [Int.natCast_add,Rat.intCast_add],by omega⟩
theorem isN.mul {x y:Rat} {M K:Nat} (h:isN x M) (k:isN y K):isN (x*y) (M*K):=by
 obtain ⟨z,rfl,hz⟩:=h
 obtain ⟨v,rfl,hv⟩:=k
 exact ⟨z*v,by rw [Int.natCast_mul,Rat.intCast_mul],Nat.mul_le_mul hz hv⟩
theorem isN_zero (M:Nat):isN 0 M:=⟨0,rfl,by omega⟩
theorem isN_one (M:Nat) (h:1≤M):isN 1 M:=⟨1,rfl,h⟩
theorem isN_len {x:Rat} {c:Nat} (h:isN x (18446744073709551616^c)):Len x (c+1):=by
 obtain ⟨z,rfl,hz⟩:=h
 obtain ⟨e1,e2⟩:=int_parts (z:Int)
 have h1:18446744073709551616^c < 18446744073709551616^(c+1):=Nat.pow_lt_pow_right (by omega) (by omega)
 refine ⟨?_,?_⟩
 ·rw [e1,Int.natAbs_natCast]
  exact wd_length_le (by omega) _ _ (by omega)
 ·rw [e2]
  refine wd_length_le (by omega) _ _ ?_
  exact Nat.one_lt_pow (by omega) (by omega)
theorem isN_of {x:Rat} {c:Nat} (h0:0≤x) (hz:∃ z:Int,x=((z:Int):Rat)) (hl:Len x c):isN x (18446744073709551616^c):=by
 obtain ⟨z,rfl⟩:=hz
 have hz0:0≤z:=Rat.intCast_nonneg.1 h0
 obtain ⟨e1,e2⟩:=int_parts z
 have h1:=lt_of_wd_length (B:=18446744073709551616) (by omega) _ c hl.1
 rw [e1] at h1
 refine ⟨z.toNat,by rw [Int.toNat_of_nonneg hz0],by omega⟩
end Go.Proofs.YthlnhheblhapgaaGreatDoor

namespace Go.Proofs.YthlnhheblhapgaaGreatDoor
open Go.RowKit
set_option maxHeartbeats 2000000
theorem pick_gen (a n:Int) (h1:-9223372036854775808≤a) (h2:a<9223372036854775808) (hn:0<n) (hn2:n<9223372036854775808) (w:World) :
  Calls Tryz.prog 8 #[.int .i64 a,.int .i64 n] w fun e w'=>e=.returned (.int .i64 ((((if a<0 then a + 18446744073709551616 else a)%n).toNat:Nat):Int))∧But [] w w':=by
 obtain ⟨u,hu⟩:∃ u:Int,u=if a<0 then a + 18446744073709551616 else a:=⟨_,rfl⟩
 have u1:0≤u∧u < 18446744073709551616:=by rw [hu];split <;> omega
 have e1:IntKind.u64.wrap a=u:=by rw [IntKind.wrap_u64,hu];split <;> omega
 rw [← hu]
 have e2:=Int.emod_nonneg u (show n≠0 by omega)
 have e3:=Int.emod_lt_of_pos u hn
 clear hu
 have e5:u.tmod n=u%n:=Int.tmod_eq_emod_of_nonneg u1.1
 obtain ⟨m,hm⟩:∃ m,m=u%n:=⟨_,rfl⟩
 rw [← hm] at e2 e3 e5 ⊢
 have e4:((m.toNat:Nat):Int)=m:=by omega
 rw [e4]
 have e6:IntKind.i64.wrap m=m:=by rw [IntKind.wrap_i64];omega
 have e7:IntKind.u64.wrap n=n:=by rw [IntKind.wrap_u64];omega
 have e8:IntKind.u64.wrap m=m:=by rw [IntKind.wrap_u64];omega
 have n0:(n==0)=false:=beq_eq_false_iff_ne.2 (by omega)
 have n1:n≠0:=by omega
 clear e4 hm
 go_enter Tryz.func8,Tryz.ntmps8
 go_wp2
 go_ret
 exact ⟨rfl,But.refl _ _⟩
end Go.Proofs.YthlnhheblhapgaaGreatDoor
