/- The order of whole numbers with signs, a -/
import Derived.Test.YteipfplbcbaheaaGreatDoorIHD
namespace Go.Proofs.YteipfplbcbaheaaGreatDoor
open Go.RowKit
set_option maxHeartbeats 4000000
set_option maxRecDepth 100000
def cmpS (x y:Int):Int:=if x<y then -1 else if x=y then 0 else 1
theorem cmpS_neg (x y:Int) (hx:x<0) (hy:y<0):cmpS x y=-cmpN x.natAbs y.natAbs:=by
 unfold cmpS cmpN
 by_cases h1:x<y
 ·rw [if_pos h1,if_neg (by omega),if_neg (by omega)]
 ·by_cases h2:x=y
  ·rw [if_neg h1,if_pos h2,if_neg (by omega),if_pos (by omega)];rfl
  ·rw [if_neg h1,if_neg h2,if_pos (by omega)];rfl
theorem cmpS_pos (x y:Int) (hx:0≤x) (hy:0≤y):cmpS x y=cmpN x.natAbs y.natAbs:=by
 unfold cmpS cmpN
 by_cases h1:x<y
 ·rw [if_pos h1,if_pos (by omega)]
 ·by_cases h2:x=y
  ·rw [if_neg h1,if_pos h2,if_neg (by omega),if_pos (by omega)]
  ·rw [if_neg h1,if_neg h2,if_neg (by omega),if_neg (by omega)]
theorem cmpN_range (m n:Nat):-1≤cmpN m n∧cmpN m n≤1:=by
 rcases cmpN_cases m n with ⟨-,h⟩ | ⟨-,h⟩ | ⟨-,h⟩ <;> omega
theorem intCmpU_any (b o b' o':Nat) (x y:Int) (w:World) (hx:IntAt w b o x) (hy:IntAt w b' o' y) (hlx:(wd 4294967296 x.natAbs).length<2147483648) (hly:(wd 4294967296 y.natAbs).length<2147483648) :
  Calls Tryz.prog 80 #[.pointer (some ⟨b,o,none⟩),.pointer (some ⟨b',o',none⟩)] w fun e w'=>e=.returned (.int .i64 (cmpS x y))∧∃ q,w'=w.drewN q:=by
 obtain ⟨h0,v0,h1,hv⟩:=hx
 obtain ⟨g0,v1,g1,hv'⟩:=hy
 by_cases hxn:x<0 <;> by_cases hyn:y<0
 ·rw [decide_eq_true hxn] at h0
  rw [decide_eq_true hyn] at g0
  have HC:Hid (cmpS x y=-cmpN x.natAbs y.natAbs):=cmpS_neg x y hxn hyn
  obtain ⟨c1,c2⟩:=cmpN_range x.natAbs y.natAbs
  go_enter Tryz.func80,Tryz.ntmps80
  go_wp2
  go_quiet (fail)
  go_wp2
  obtain ⟨W,hW⟩:∃ W,W=w.drewN nq:=⟨_,rfl⟩
  have k0:W.cell? ⟨b,o,none⟩=some (.bool true):=by rw [hW];exact h0
  have k1:W.cell? ⟨b,o+1,none⟩=some v0:=by rw [hW];exact h1
  have l1:W.cell? ⟨b',o' + 1,none⟩=some v1:=by rw [hW];exact g1
  have hva:Sl .u32 W v0 (wd 4294967296 x.natAbs):=by rw [hW];exact hv
  have hvb:Sl .u32 W v1 (wd 4294967296 y.natAbs):=by rw [hW];exact hv'
  rw [← hW]
  have HW:=hide hW
  clear hW
  go_quiet ((go_at_call 145;refine Calls.quiet_of (cmp_any v0 v1 x.natAbs y.natAbs _ ?_ ?_ hlx hly);exact hva;exact hvb))
  generalize cmpN x.natAbs y.natAbs=cc at *
  go_wp2
  go_ret
  exact ⟨by rw [unhide HC];rfl,by rw [unhide HW];exact dr1 _ _ _⟩
 ·rw [decide_eq_true hxn] at h0
  rw [decide_eq_false hyn] at g0
  have HC:Hid (cmpS x y=-1):=by show _=_;unfold cmpS;rw [if_pos (by omega)]
  go_enter Tryz.func80,Tryz.ntmps80
  go_wp2
  go_quiet (fail)
  go_wp2
  go_ret
  exact ⟨by rw [unhide HC];rfl,_,rfl⟩
 ·rw [decide_eq_false hxn] at h0
  rw [decide_eq_true hyn] at g0
  have HC:Hid (cmpS x y=1):=by show _=_;unfold cmpS;rw [if_neg (by omega),if_neg (by omega)]
  go_enter Tryz.func80,Tryz.ntmps80
  go_wp2
  go_quiet (fail)
  go_wp2
  go_ret
  exact ⟨by rw [unhide HC];rfl,_,rfl⟩
 ·rw [decide_eq_false hxn] at h0
  rw [decide_eq_false hyn] at g0
  have HC:Hid (cmpS x y=cmpN x.natAbs y.natAbs):=cmpS_pos x y (by omega) (by omega)
  obtain ⟨c1,c2⟩:=cmpN_range x.natAbs y.natAbs
  go_enter Tryz.func80,Tryz.ntmps80
  go_wp2
  go_quiet (fail)
  go_wp2
  obtain ⟨W,hW⟩:∃ W,W=w.drewN nq:=⟨_,rfl⟩
  have k0:W.cell? ⟨b,o,none⟩=some (.bool false):=by rw [hW];exact h0
  have k1:W.cell? ⟨b,o+1,none⟩=some v0:=by rw [hW];exact h1
  have l1:W.cell? ⟨b',o' + 1,none⟩=some v1:=by rw [hW];exact g1
  have hva:Sl .u32 W v0 (wd 4294967296 x.natAbs):=by rw [hW];exact hv
  have hvb:Sl .u32 W v1 (wd 4294967296 y.natAbs):=by rw [hW];exact hv'
  rw [← hW]
  have HW:=hide hW
  clear hW
  go_quiet ((go_at_call 145;refine Calls.quiet_of (cmp_any v0 v1 x.natAbs y.natAbs _ ?_ ?_ hlx hly);exact hva;exact hvb))
  generalize cmpN x.natAbs y.natAbs=cc at *
  go_wp2
  go_ret
  exact ⟨by rw [unhide HC];rfl,by rw [unhide HW];exact dr1 _ _ _⟩
end Go.Proofs.YteipfplbcbaheaaGreatDoor
