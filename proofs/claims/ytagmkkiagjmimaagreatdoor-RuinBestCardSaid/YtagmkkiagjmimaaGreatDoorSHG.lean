/- The order of whole numbers with signs, a -/
import Derived.Test.YtagmkkiagjmimaaGreatDoorSHD
namespace Go.Proofs.YtagmkkiagjmimaaGreatDoor
set_option linter.unusedVariables false
open Go.Proofs.Tryz
open Go.RowKit
set_option maxHeartbeats 4000000
set_option maxRecDepth 100000
def eu (x y:Int):Int:=if x<y then -1 else if x=y then 0 else 1
theorem qdw (x y:Int) (hx:x<0) (hy:y<0):eu x y=-zq x.natAbs y.natAbs:=by(
 unfold eu zq
 by_cases h1:x<y
 ·rw[if_pos h1,if_neg (by omega),if_neg (by omega)]
 ·by_cases h2:x=y
  ·rw[if_neg h1,if_pos h2,if_neg (by omega),if_pos (by omega)];rfl
  ·rw[if_neg h1,if_neg h2,if_pos (by omega)];rfl)
theorem qdu (x y:Int) (hx:0≤x) (hy:0≤y):eu x y=zq x.natAbs y.natAbs:=by(
 unfold eu zq
 by_cases h1:x<y
 ·rw[if_pos h1,if_pos (by omega)]
 ·by_cases h2:x=y
  ·rw[if_neg h1,if_pos h2,if_neg (by omega),if_pos (by omega)]
  ·rw[if_neg h1,if_neg h2,if_neg (by omega),if_neg (by omega)])
theorem zle (m n:Nat):-1≤zq m n∧zq m n≤1:=by
 rcases zbb m n with ⟨-,h⟩|⟨-,h⟩|⟨-,h⟩ <;> omega
theorem zbs (b o b' o':Nat) (x y:Int) (w:World) (hx:za w b o x) (hy:za w b' o' y) (hlx:(wd 4294967296 x.natAbs).length<2147483648) (hly:(wd 4294967296 y.natAbs).length<2147483648) :
   Calls prog 84 #[.pointer (some ⟨b,o,none⟩),.pointer (some ⟨b',o',none⟩)] w fun e w'=>e=.returned (.int .i64 (eu x y))∧∃ q,w'=w.drewN q:=by(
 obtain⟨h0,v0,h1,hv⟩:=hx
 obtain⟨g0,v1,g1,hv'⟩:=hy
 by_cases hxn:x<0 <;> by_cases hyn:y<0
 ·(
 rw[decide_eq_true hxn] at h0
 rw[decide_eq_true hyn] at g0
 have HC:Hid (eu x y=-zq x.natAbs y.natAbs):=qdw x y hxn hyn
 obtain⟨c1,c2⟩:=zle x.natAbs y.natAbs
 go_enter func84,ntmps84
 go_wp2
 go_quiet (fail)
 go_wp2
 obtain⟨W,hW⟩:∃ W,W=w.drewN nq:=⟨_,rfl⟩
 have k0:W.cell? ⟨b,o,none⟩=some (.bool true):=by rw[hW];exact h0
 have k1:W.cell? ⟨b,o+1,none⟩=some v0:=by rw[hW];exact h1
 have l1:W.cell? ⟨b',o' + 1,none⟩=some v1:=by rw[hW];exact g1
 have hva:Sl .u32 W v0 (wd 4294967296 x.natAbs):=by rw[hW];exact hv
 have hvb:Sl .u32 W v1 (wd 4294967296 y.natAbs):=by rw[hW];exact hv'
 rw[← hW]
 have HW:=af hW
 clear hW
 go_quiet ((go_at_call 163;refine Calls.quiet_of (zdl v0 v1 x.natAbs y.natAbs _ ?_ ?_ hlx hly);exact hva;exact hvb))
 generalize zq x.natAbs y.natAbs=cc at *
 go_wp2
 go_ret
 exact⟨by rw[ae HC];rfl,by rw[ae HW];exact dr1 _ _ _⟩)
 ·(
 rw[decide_eq_true hxn] at h0
 rw[decide_eq_false hyn] at g0
 have HC:Hid (eu x y=-1):=by show _=_;unfold eu;rw[if_pos (by omega)]
 go_enter func84,ntmps84
 go_wp2
 go_quiet (fail)
 go_wp2
 go_ret
 exact⟨by rw[ae HC];rfl,_,rfl⟩)
 ·(
 rw[decide_eq_false hxn] at h0
 rw[decide_eq_true hyn] at g0
 have HC:Hid (eu x y=1):=by show _=_;unfold eu;rw[if_neg (by omega),if_neg (by omega)]
 go_enter func84,ntmps84
 go_wp2
 go_quiet (fail)
 go_wp2
 go_ret
 exact⟨by rw[ae HC];rfl,_,rfl⟩)
 ·(
 rw[decide_eq_false hxn] at h0
 rw[decide_eq_false hyn] at g0
 have HC:Hid (eu x y=zq x.natAbs y.natAbs):=qdu x y (by omega) (by omega)
 obtain⟨c1,c2⟩:=zle x.natAbs y.natAbs
 go_enter func84,ntmps84
 go_wp2
 go_quiet (fail)
 go_wp2
 obtain⟨W,hW⟩:∃ W,W=w.drewN nq:=⟨_,rfl⟩
 have k0:W.cell? ⟨b,o,none⟩=some (.bool false):=by rw[hW];exact h0
 have k1:W.cell? ⟨b,o+1,none⟩=some v0:=by rw[hW];exact h1
 have l1:W.cell? ⟨b',o' + 1,none⟩=some v1:=by rw[hW];exact g1
 have hva:Sl .u32 W v0 (wd 4294967296 x.natAbs):=by rw[hW];exact hv
 have hvb:Sl .u32 W v1 (wd 4294967296 y.natAbs):=by rw[hW];exact hv'
 rw[← hW]
 have HW:=af hW
 clear hW
 go_quiet ((go_at_call 163;refine Calls.quiet_of (zdl v0 v1 x.natAbs y.natAbs _ ?_ ?_ hlx hly);exact hva;exact hvb))
 generalize zq x.natAbs y.natAbs=cc at *
 go_wp2
 go_ret
 exact⟨by rw[ae HC];rfl,by rw[ae HW];exact dr1 _ _ _⟩))
theorem zut (x y:Int):-1≤eu x y∧eu x y≤1:=by(
 unfold eu
 split
 ·omega
 ·split <;> omega)
theorem qdv (n:Int):(eu n 1==0)=decide (n=1):=by(
 unfold eu
 by_cases h1:n<1
 ·rw[if_pos h1,decide_eq_false (by omega)];rfl
 ·by_cases h2:n=1
  ·rw[if_neg h1,if_pos h2,decide_eq_true h2];rfl
  ·rw[if_neg h1,if_neg h2,decide_eq_false h2];rfl)
theorem zma (xb:Nat) (x:Int) (nx:Nat) (w:World) (hx:zx w xb x (nx:Int)) (hnx:0<nx) (hnxl:(wd 4294967296 nx).length<8388608) :
   Calls prog 145 #[.pointer (some ⟨xb,0,none⟩)] w fun e w'=>e=.returned (.bool (decide (nx=1)))∧But [] w w':=by(
 have DX:=af (yc xb x nx w hx hnx)
 have one:(wd 4294967296 (1:Int).natAbs).length<2147483648:=by
  have:=ji 1 (by omega)
  simpa using Nat.lt_of_le_of_lt this (by omega)
 have CM:=af (fun W b (h1:za W xb 2 (nx:Int)) (h2:za W b 0 1)=>zbs xb 2 b 0 (nx:Int) 1 W h1 h2 (by rw[Int.natAbs_natCast];omega) one)
 obtain⟨c1,c2⟩:=zut (nx:Int) 1
 have hc:Hid ((eu (nx:Int) 1==0)=decide (nx=1)):=by
  show _=_
  rw[qdv]
  exact decide_eq_decide.2 (by omega)
 generalize eu (nx:Int) 1=cd at CM c1 c2 hc
 clear one
 go_enter func145,ntmps145
 go_wp2_with fail
 refine (ae DX).mono ?_
 rintro e w1 ⟨rfl,hw⟩
 obtain rfl:=hw.symm
 clear hw
 go_wp2_with fail
 refine (si 1 _ (by omega) (by omega)).mono ?_
 rintro e w2 ⟨rfl,B2,I2,S2⟩
 go_wp2_with fail
 refine (ae CM _ _ (hx.low.but B2) I2).mono ?_
 rintro e w3 ⟨rfl,q,rfl⟩
 clear CM DX
 go_wp2
 go_ret
 exact⟨by rw[← ae hc];rfl,B2.drewN _⟩)
end Go.Proofs.YtagmkkiagjmimaaGreatDoor
