/- Fractions of words, as the Go text of pa -/
import Derived.Deep.RegionHeld
import Derived.Deep.RegionWith
import Derived.Test.YtollloafckcogaaGreatDoorKYG0
namespace Go.Proofs.YtollloafckcogaaGreatDoor
open Go.RowKit
set_option maxHeartbeats 4000000
theorem under_any (s:Bool) (p q:Nat) (hq:q<18446744073709551616) (hq0:0<q) (w:World) :
  Calls Tryz.prog 80 #[.agg #[.bool s,.int .u64 (p:Int),.int .u64 ((q:Int)-1),.pointer none]] w fun e w'=>e=.returned (.int .u64 (q:Int))∧But [] w w':=by
 go_enter Tryz.func80,Tryz.ntmps80
 go_wp2
 go_ret
 exact ⟨rfl,(But.refl _ _).alloc _⟩
theorem size_any (x:Int) (h1:-9223372036854775808≤x) (h2:x<9223372036854775808) (w:World) :
  Calls Tryz.prog 72 #[.int .i64 x] w fun e w'=>e=.returned (.int .u64 (x.natAbs:Nat))∧w'=w:=by
 by_cases hx:x<0
 ·have e1:IntKind.u64.wrap (-IntKind.u64.wrap x)=((x.natAbs:Nat):Int):=by rw [IntKind.wrap_u64,IntKind.wrap_u64];omega
  obtain ⟨n,hn⟩:∃ n:Nat,n=x.natAbs:=⟨_,rfl⟩
  rw [← hn] at e1 ⊢
  clear hn
  go_enter Tryz.func72,Tryz.ntmps72
  go_wp2
  go_ret
  exact ⟨rfl,rfl⟩
 ·obtain ⟨n,rfl⟩:=Int.eq_ofNat_of_zero_le (Int.not_lt.1 hx)
  rw [Int.natAbs_natCast]
  go_enter Tryz.func72,Tryz.ntmps72
  go_wp2
  go_ret
  exact ⟨rfl,rfl⟩
theorem ofWords_any (s:Bool) (p q:Nat) (hp:p<18446744073709551616) (hq:q<18446744073709551616) (hq0:0<q) (r:Bool) (hr:Hid (r=(s && decide (p≠0)))) (w:World) :
  Calls Tryz.prog 74 #[.bool s,.int .u64 (p:Int),.int .u64 (q:Int)] w fun e w'=>e=.returned (.agg #[.bool r,.int .u64 (p:Int),.int .u64 ((q:Int)-1),.pointer none])∧But [] w w':=by
 have e:((p:Int) != 0)=decide (p≠0):=by rw [Bool.eq_iff_iff];simp
 by_cases h0:p=0
 ·subst h0
  have er:Hid (r=false):=by show _=_;rw [unhide hr];simp
  clear hr e
  cases s
  all_goals
   go_enter Tryz.func74,Tryz.ntmps74
   go_wp2
   rw [unhide er]
   exact bodyPost_ret (v:=.agg #[.bool false,.int .u64 ((0:Nat):Int),.int .u64 ((q:Int)-1),.pointer none]) (by simp [results,Tryz.results74,go_sem]) rfl ⟨rfl,(But.refl _ _).alloc _⟩
 ·have e1:((p:Int) != 0)=true:=by rw [e];simp [h0]
  cases s
  ·have er:Hid (r=false):=by show _=_;rw [unhide hr];simp
   clear hr e
   go_enter Tryz.func74,Tryz.ntmps74
   go_wp2
   rw [unhide er]
   exact bodyPost_ret (v:=.agg #[.bool false,.int .u64 (p:Int),.int .u64 ((q:Int)-1),.pointer none]) (by simp [results,Tryz.results74,go_sem]) rfl ⟨rfl,(But.refl _ _).alloc _⟩
  ·have er:Hid (r=true):=by show _=_;rw [unhide hr];simp [h0]
   clear hr e
   go_enter Tryz.func74,Tryz.ntmps74
   go_wp2
   rw [unhide er]
   exact bodyPost_ret (v:=.agg #[.bool true,.int .u64 (p:Int),.int .u64 ((q:Int)-1),.pointer none]) (by simp [results,Tryz.results74,go_sem]) rfl ⟨rfl,(But.refl _ _).alloc _⟩
theorem fracOf_any (x y:Int) (hx1:-9223372036854775808≤x) (hx2:x<9223372036854775808) (hy1:-9223372036854775808≤y) (hy2:y<9223372036854775808) (hy0:y≠0) (w:World) (r:Bool) (p q:Nat) (hr:Hid (r=((decide (x<0) != decide (y<0)) && decide (p≠0)))) (hp:Hid (p=x.natAbs/Nat.gcd x.natAbs y.natAbs)) (hq:Hid (q=y.natAbs/Nat.gcd x.natAbs y.natAbs)) :
  Calls Tryz.prog 34 #[.int .i64 x,.int .i64 y] w fun e w'=>e=.returned (.tuple #[.agg #[.bool r,.int .u64 (p:Int),.int .u64 ((q:Int)-1),.pointer none],.nilIface])∧But [] w w':=by
 have n0:(y==0)=false:=by simp;exact hy0
 obtain ⟨g,hg⟩:∃ g,g=Nat.gcd x.natAbs y.natAbs:=⟨_,rfl⟩
 have hg0:0<g:=by rw [hg];exact Nat.gcd_pos_of_pos_right _ (by omega)
 have hgl:g≤y.natAbs:=by rw [hg];exact Nat.gcd_le_right _ (by omega)
 have hp':p=x.natAbs/g:=by rw [hg];exact unhide hp
 have hq':q=y.natAbs/g:=by rw [hg];exact unhide hq
 have hp64:p<18446744073709551616:=by rw [hp'];exact Nat.lt_of_le_of_lt (Nat.div_le_self _ _) (by omega)
 have hq64:q<18446744073709551616:=by rw [hq'];exact Nat.lt_of_le_of_lt (Nat.div_le_self _ _) (by omega)
 have hq0:0<q:=by rw [hq'];exact Nat.div_pos hgl hg0
 have hgz:((g:Int)==0)=false:=by simp;omega
 have hg64:g<18446744073709551616:=by omega
 obtain ⟨a,ha⟩:∃ a,a=x.natAbs:=⟨_,rfl⟩
 obtain ⟨b,hb⟩:∃ b,b=y.natAbs:=⟨_,rfl⟩
 have ha64:a<18446744073709551616:=by omega
 have hb64:b<18446744073709551616:=by omega
 have d1:(a:Int)/(g:Int)=(p:Int):=by rw [hp',← ha,Int.natCast_ediv]
 have d2:(b:Int)/(g:Int)=(q:Int):=by rw [hq',← hb,Int.natCast_ediv]
 have d3:(a:Int).tdiv (g:Int)=(p:Int):=by rw [Int.tdiv_eq_ediv_of_nonneg (by omega)];exact d1
 have d4:(b:Int).tdiv (g:Int)=(q:Int):=by rw [Int.tdiv_eq_ediv_of_nonneg (by omega)];exact d2
 have d5:IntKind.u64.wrap (p:Int)=(p:Int):=by rw [IntKind.wrap_u64];omega
 have d6:IntKind.u64.wrap (q:Int)=(q:Int):=by rw [IntKind.wrap_u64];omega
 have HA:=hide ha
 have HB:=hide hb
 have HG:=hide hg
 clear hp' hq' ha hb hg hgl
 obtain ⟨s1,hs1⟩:∃ s1,s1=decide (x<0):=⟨_,rfl⟩
 go_enter Tryz.func34,Tryz.ntmps34
 go_wp2_with fail
 refine (size_any x hx1 hx2 _).mono ?_
 rintro e w1 ⟨rfl,hw⟩
 obtain rfl:=hw.symm
 clear hw
 rw [← unhide HA]
 go_wp2_with fail
 refine (size_any y hy1 hy2 _).mono ?_
 rintro e w1 ⟨rfl,hw⟩
 obtain rfl:=hw.symm
 clear hw
 rw [← unhide HB]
 go_wp2_with fail
 refine (gcdWords_any a b _ ha64 hb64).mono ?_
 rintro e w1 ⟨rfl,k,rfl⟩
 rw [show Nat.gcd a b=g from by rw [unhide HA,unhide HB,unhide HG]]
 go_wp2
 have hb0:But [] w ((w.alloc (.cells #[.bool false,.int .u64 0,.int .u64 0,.pointer none] 27)).drewN k):=((But.refl _ _).alloc _).drewN k
 have c0:((w.alloc (.cells #[.bool false,.int .u64 0,.int .u64 0,.pointer none] 27)).drewN k).cell? ⟨w.heap.size,0,none⟩=some (.bool false):=by simp
 have c1:((w.alloc (.cells #[.bool false,.int .u64 0,.int .u64 0,.pointer none] 27)).drewN k).cell? ⟨w.heap.size,1,none⟩=some (.int .u64 0):=by simp
 have c2:((w.alloc (.cells #[.bool false,.int .u64 0,.int .u64 0,.pointer none] 27)).drewN k).cell? ⟨w.heap.size,2,none⟩=some (.int .u64 0):=by simp
 have c3:((w.alloc (.cells #[.bool false,.int .u64 0,.int .u64 0,.pointer none] 27)).drewN k).cell? ⟨w.heap.size,3,none⟩=some (.pointer none):=by simp
 have hf:∀ j,((w.alloc (.cells #[.bool false,.int .u64 0,.int .u64 0,.pointer none] 27)).drewN k).frozen? ⟨w.heap.size,j,none⟩=false:=by intro j;simp
 have hsz:w.heap.size<((w.alloc (.cells #[.bool false,.int .u64 0,.int .u64 0,.pointer none] 27)).drewN k).heap.size:=by simp
 generalize (w.alloc (.cells #[.bool false,.int .u64 0,.int .u64 0,.pointer none] 27)).drewN k=W at *
 obtain ⟨gb,hgb⟩:∃ gb,gb=w.heap.size:=⟨_,rfl⟩
 rw [← hgb] at c0 c1 c2 c3 hf hsz
 rw [← hgb]
 have HGB:=hide hgb
 clear hgb
 go_region_with (go_at_call 74;refine (ofWords_any (decide (x<0) != decide (y<0)) p q hp64 hq64 hq0 r hr _).mono ?_;rintro e w1 ⟨rfl,hb1⟩;have B1:But [] W w1:=(by first | exact hb1 | exact (But.refl _ _).drew.trans' hb1);have k0:=B1.cell_some c0 (by simp);have k1:=B1.cell_some c1 (by simp);have k2:=B1.cell_some c2 (by simp);have k3:=B1.cell_some c3 (by simp);have f0:=(B1.frozen (p:=⟨gb,0,none⟩) hsz (by simp)).trans (hf 0);have f1:=(B1.frozen (p:=⟨gb,1,none⟩) hsz (by simp)).trans (hf 1);have f2:=(B1.frozen (p:=⟨gb,2,none⟩) hsz (by simp)).trans (hf 2);have f3:=(B1.frozen (p:=⟨gb,3,none⟩) hsz (by simp)).trans (hf 3))
 all_goals go_wp2
 all_goals
  have hge:w.heap.size≤gb:=Nat.le_of_eq (unhide HGB).symm
  exact bodyPost_ret (v:=.tuple #[.agg #[.bool r,.int .u64 (p:Int),.int .u64 ((q:Int)-1),.pointer none],.nilIface]) (by simp [results,Tryz.results34,go_sem,k0,k1,k2,k3]) rfl ⟨rfl,(((((hb0.trans' B1).setCell (.inr hge) _).setCell (.inr hge) _).setCell (.inr hge) _).setCell (.inr hge) _)⟩
end Go.Proofs.YtollloafckcogaaGreatDoor
