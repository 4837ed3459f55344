/- Fractions as the Go text of package frac -/
import Derived.Test.YtjlfllhedceigaaGreatDoorRPf
namespace Go.Proofs.YtjlfllhedceigaaGreatDoor
set_option linter.unusedVariables false
open Go.Proofs.Tryz
open Go.RowKit
set_option maxHeartbeats 4000000
set_option maxRecDepth 100000
def am (w:World) (v:Value) (f:Rat):Prop :=
 (f.num.natAbs < 18446744073709551616∧f.den < 18446744073709551616∧v=.agg #[.bool (decide (f.num<0)),.int .u64 (f.num.natAbs:Int),.int .u64 ((f.den:Int)-1),.pointer none]) ∨
 ((18446744073709551616≤f.num.natAbs∨18446744073709551616≤f.den)∧∃ b v1 v2,v=.agg #[.bool (decide (f.num<0)),.int .u64 0,.int .u64 0,.pointer (some ⟨b,0,none⟩)]∧w.cell? ⟨b,0,none⟩=some v1∧w.cell? ⟨b,1,none⟩=some v2∧Sl .u64 w v1 (wd 18446744073709551616 f.num.natAbs)∧Sl .u64 w v2 (wd 18446744073709551616 f.den))
theorem am.but {w w':World} {v:Value} {f:Rat} (h:am w v f) (hb:But [] w w'):am w' v f:=by(
 rcases h with h|⟨h1,b,v1,v2,h2,h3,h4,h5,h6⟩
 ·exact .inl h
 ·exact .inr ⟨h1,b,v1,v2,h2,hb.ag h3 (by simp),hb.ag h4 (by simp),h5.ah hb,h6.ah hb⟩)
def Len (f:Rat) (n:Nat):Prop:=(wd 18446744073709551616 f.num.natAbs).length≤n∧(wd 18446744073709551616 f.den).length≤n
theorem den_pos (f:Rat):0<f.den:=Nat.pos_of_ne_zero f.den_nz
theorem zcr (v:Value) (f:Rat) (w:World) (hf:am w v f) :
   Calls prog 50 #[v] w fun e w'=>∃ v1 v2,e=.returned (.tuple #[v1,v2])∧Sl .u64 w' v1 (wd 18446744073709551616 f.num.natAbs)∧Sl .u64 w' v2 (wd 18446744073709551616 f.den)∧But [] w w':=by(
 rcases hf with ⟨hp,hq,rfl⟩|⟨-,b,v1,v2,rfl,hc0,hc1,hs1,hs2⟩
 ·(
 have hq0:=den_pos f
 generalize decide (f.num<0)=s
 generalize f.num.natAbs=p at *
 generalize f.den=q at *
 go_enter func50,ntmps50
 go_wp2
 obtain⟨W,hW⟩:∃ W,W=w.alloc (.cells #[.bool s,.int .u64 (p:Int),.int .u64 ((q:Int)-1),.pointer none] 27):=⟨_,rfl⟩
 have c0:W.cell? ⟨w.heap.size,0,none⟩=some (.bool s):=by rw[hW];simp
 have c1:W.cell? ⟨w.heap.size,1,none⟩=some (.int .u64 (p:Int)):=by rw[hW];simp
 have c2:W.cell? ⟨w.heap.size,2,none⟩=some (.int .u64 ((q:Int)-1)):=by rw[hW];simp
 have c3:W.cell? ⟨w.heap.size,3,none⟩=some (.pointer none):=by rw[hW];simp
 have hB:But [] w W:=by rw[hW];exact (But.refl _ _).alloc _
 rw[← hW]
 clear hW
 generalize w.heap.size=g at *
 go_region_held (fun w'=>w'.cell? ⟨g,0,none⟩=some (.bool s)∧w'.cell? ⟨g,1,none⟩=some (.int .u64 (p:Int))∧w'.cell? ⟨g,2,none⟩=some (.int .u64 ((q:Int)-1))∧w'.cell? ⟨g,3,none⟩=some (.pointer none)) (go_keep) (first
  | (go_at_call_of 117 (Value.int IntKind.u64 (p:Int));refine (zaa p hp _).mono ?_;rintro e w1 ⟨v1,rfl,hv1,hb1,-⟩;have B1:But [] W w1:=(by first | exact hb1 | exact (But.refl _ _).drew.trans' hb1);have k0:=B1.ag c0 (by simp);have k1:=B1.ag c1 (by simp);have k2:=B1.ag c2 (by simp);have k3:=B1.ag c3 (by simp))
  | (go_at_call 118;refine (zfy s p q hq hq0 _).mono ?_;rintro e w2 ⟨rfl,hb2⟩;have B2:But [] W w2:=B1.trans' hb2;have l0:=B2.ag c0 (by simp);have l1:=B2.ag c1 (by simp);have l2:=B2.ag c2 (by simp);have l3:=B2.ag c3 (by simp))
  | (go_at_call_of 117 (Value.int IntKind.u64 (q:Int));refine (zaa q hq _).mono ?_;rintro e w3 ⟨v3,rfl,hv3,hb3,-⟩;have B3:But [] W w3:=B2.trans' hb3;have m0:=B3.ag c0 (by simp);have m1:=B3.ag c1 (by simp);have m2:=B3.ag c2 (by simp);have m3:=B3.ag c3 (by simp)))
 all_goals go_wp2
 all_goals go_ret2
 all_goals exact⟨v1,v3,rfl,(hv1.ah hb2).ah hb3,hv3,hB.trans' B3⟩)
 ·(
 have hbl:b<w.heap.size:=ai hc0
 have HS:=af (And.intro hs1 hs2)
 clear hs1 hs2
 generalize decide (f.num<0)=s
 go_enter func50,ntmps50
 go_wp2
 obtain⟨W,hW⟩:∃ W,W=w.alloc (.cells #[.bool s,.int .u64 0,.int .u64 0,.pointer (some ⟨b,0,none⟩)] 27):=⟨_,rfl⟩
 have HB:Hid (But [] w W):=by show But _ _ _;rw[hW];exact (But.refl _ _).alloc _
 have c3:W.cell? ⟨w.heap.size,3,none⟩=some (.pointer (some ⟨b,0,none⟩)):=by rw[hW];simp
 have d0:=(ae HB).ag hc0 (by simp)
 have d1:=(ae HB).ag hc1 (by simp)
 rw[← hW]
 clear hW hc0 hc1
 generalize w.heap.size=g at *
 go_quiet (fail)
 go_wp2
 go_ret2
 exact⟨v1,v2,rfl,(ae HS).1.ah ((ae HB).drewN nq),(ae HS).2.ah ((ae HB).drewN nq),(ae HB).drewN nq⟩))
theorem qew (s:Bool) (m:Nat):decide (sgn s m<0)=(s && decide (m≠0)):=by(
 cases s
 ·have h1:¬ ((m:Int)<0):=by omega
  simp[sgn,h1]
 ·(
 by_cases h0:m=0
 ·subst h0;rfl
 ·have h1:-(m:Int)<0:=by omega
  have h2:0<m:=by omega
  simp[sgn,h0,h2]))
end Go.Proofs.YtjlfllhedceigaaGreatDoor
