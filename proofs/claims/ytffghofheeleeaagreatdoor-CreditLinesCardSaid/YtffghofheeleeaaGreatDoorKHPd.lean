/- The quotient of a new fraction of the re -/
import Derived.Test.YtffghofheeleeaaGreatDoorKF10
import Derived.Test.YtffghofheeleeaaGreatDoorKHJr
import Derived.Test.YtffghofheeleeaaGreatDoorKHPc
namespace Go.Proofs.YtffghofheeleeaaGreatDoor
open Go.Proofs.Tryz
open Go.RowKit
set_option maxHeartbeats 4000000
set_option maxRecDepth 100000
set_option linter.unusedVariables false
theorem refDivB_any (xb yb:Nat) (g:Rat) (w:World) (hx:j4 w xb) (hy:za w yb g) (lg:qg g 2000000) (hg0:g.num≠0) :
  Calls prog 59 #[.pointer (some ⟨xb,0,none⟩),.pointer (some ⟨yb,0,none⟩)] w fun e w'=>∃ zb,e=.returned (.pointer (some ⟨zb,0,none⟩))∧But [] w w'∧za w' zb 0∧w.heap.size≤zb:=by
 have hgd:0<g.den:=Nat.pos_of_ne_zero g.den_nz
 have hQ0:(1:Int)*g.num≠0:=by rw[Int.one_mul];exact hg0
 obtain⟨e1,e2⟩:=zcm (0*(g.den:Int)) ((1:Int)*g.num) hQ0 0 (by show (0:Int)*_=_;rw[Int.zero_mul,Int.zero_mul,Int.zero_mul])
 obtain⟨W0,hW0⟩:∃ W0,W0=w.alloc (.cells #[.bool false,.slice none 0 0,.bool false,.slice none 0 0] 103):=⟨_,rfl⟩
 have hs:=zat w 103
 have hbw:But [] w W0:=by rw[hW0];exact (But.refl _ _).alloc _
 rw[← hW0] at hs
 obtain⟨lg1,lg2⟩:=lg
 have QU:=af (quoB_any w.heap.size xb yb g.num g.den W0 hs.1 hs.2 (hx.but hbw) (zt.but hy hbw) hgd (by omega) (by omega) _ _ rfl rfl (by rw[Int.zero_mul];exact Nat.lt_of_le_of_lt (je _ (by decide)) (by omega)) (by rw[Int.one_mul];omega) hQ0 (0:Rat).num ((0:Rat).den:Int) e1 e2)
 obtain⟨s,hss⟩:∃ s,s=g.num.sign:=⟨_,rfl⟩
 have hs0:(s==0)=false:=beq_eq_false_iff_ne.2 (by rw[hss];exact fun h=>hg0 (Int.sign_eq_zero_iff_zero.1 h))
 have SG:=af (zfg yb g.num (g.den:Int) w hy s hss (by omega))
 have HW0:=af hW0
 have HBW:=af hbw
 clear hW0 hbw hs e1 e2 hQ0 lg1 lg2 hx hy hgd hss hg0
 go_enter func59,ntmps59
 go_wp2_with fail
 refine (ae SG).mono ?_
 rintro e w1 ⟨rfl,hw⟩
 obtain rfl:=hw.symm
 clear hw
 go_wp2_with fail
 rw[← ae HW0]
 refine (ae QU).mono ?_
 rintro e w1 ⟨rfl,h1,h2⟩
 have FIN:=af (And.intro ((ae HBW).trans h1 (by simp)) h2)
 clear h1 h2 QU
 go_wp2
 go_ret
 exact⟨w.heap.size,rfl,(ae FIN).1,(ae FIN).2,Nat.le_refl _⟩
theorem refDivS (xb yb:Nat) (f g q:Rat) (w:World) (hx:zdt w xb f) (hy:za w yb g) (lf:qg f 2000000) (lg:qg g 2000000) (hg0:g.num≠0) (hq:q*g=f) :
  Calls prog 59 #[.pointer (some ⟨xb,0,none⟩),.pointer (some ⟨yb,0,none⟩)] w fun e w'=>∃ zb,e=.returned (.pointer (some ⟨zb,0,none⟩))∧za w' zb q∧But [] w w':=by
 rcases hx with h|⟨h0,h⟩
 ·exact refDivQ xb yb f g q w h hy lf lg hg0 hq
 ·have hq0:q=0:=by
   have hne:g≠0:=fun e=>hg0 (by rw[e];rfl)
   rw[h0] at hq
   rcases Rat.mul_eq_zero.1 hq with h | h
   ·exact h
   ·exact absurd h hne
  rw[hq0]
  exact (refDivB_any xb yb g w h hy lg hg0).mono fun e w' ⟨zb,he,hb,hr,_⟩=>⟨zb,he,hr,hb⟩
theorem refDivZ (xb yb:Nat) (g:Rat) (w:World) (hy:za w yb g) (lg:qg g 2000000) (hg0:g.num=0) :
  Calls prog 59 #[.pointer (some ⟨xb,0,none⟩),.pointer (some ⟨yb,0,none⟩)] w fun e w'=>∃ zb,e=.returned (.pointer (some ⟨zb,0,none⟩))∧j4 w' zb∧But [] w w':=by
 have SG:=af (refSignQ yb g w hy 0 (by rw[hg0];rfl) lg)
 clear hy lg hg0
 go_enter func59,ntmps59
 go_wp2_with fail
 refine (ae SG).mono ?_
 rintro e w1 ⟨rfl,hb⟩
 have B1:=af hb
 have bn:=blank_new w1 103
 have bA:But [] w1 (w1.alloc (.cells #[.bool false,.slice none 0 0,.bool false,.slice none 0 0] 103)):=(But.refl _ _).alloc _
 have FIN:=af (And.intro bn ((ae B1).trans' bA))
 clear hb B1 bn bA SG
 go_wp2
 go_ret
 exact⟨_,rfl,(ae FIN).1,(ae FIN).2⟩
def qR (f g:Rat):Rat:=if g.num=0 then 0 else f/g
theorem refDivA (xb yb:Nat) (f g:Rat) (w:World) (hx:zdt w xb f) (hy:za w yb g) (lf:qg f 2000000) (lg:qg g 2000000) :
  Calls prog 59 #[.pointer (some ⟨xb,0,none⟩),.pointer (some ⟨yb,0,none⟩)] w fun e w'=>∃ zb,e=.returned (.pointer (some ⟨zb,0,none⟩))∧zdt w' zb (qR f g)∧But [] w w':=by
 unfold qR
 by_cases hg:g.num=0
 ·rw[if_pos hg]
  exact (refDivZ xb yb g w hy lg hg).mono fun e w' ⟨zb,he,hb,hB⟩=>⟨zb,he,.inr ⟨rfl,hb⟩,hB⟩
 ·rw[if_neg hg]
  exact (refDivS xb yb f g (f/g) w hx hy lf lg hg (Rat.div_mul_cancel (fun e=>hg (by rw[e];rfl)))).mono fun e w' ⟨zb,he,hr,hB⟩=>⟨zb,he,.inl hr,hB⟩
theorem refSubS (xb yb:Nat) (f g:Rat) (w:World) (hx:za w xb f) (hy:zdt w yb g) (lf:qg f 2000000) (lg:qg g 2000000) :
  Calls prog 47 #[.pointer (some ⟨xb,0,none⟩),.pointer (some ⟨yb,0,none⟩)] w fun e w'=>∃ zb,e=.returned (.pointer (some ⟨zb,0,none⟩))∧za w' zb (f-g)∧But [] w w':=by
 rcases hy with h|⟨h0,h⟩
 ·exact refSubQ xb yb f g w hx h lf lg
 ·exact (refSub_blank xb yb f g w h0 hx h lf lg).mono fun e w' ⟨zb,he,hb,hr,_⟩=>⟨zb,he,hr,hb⟩
theorem refCmpQ (xb yb:Nat) (f g:Rat) (w:World) (hx:za w xb f) (hy:za w yb g) (lf:qg f 2000000) (lg:qg g 2000000) :
  Calls prog 48 #[.pointer (some ⟨xb,0,none⟩),.pointer (some ⟨yb,0,none⟩)] w fun e w'=>∃ c,e=.returned (.int .i64 c)∧(c<0↔f<g)∧(0<c↔g<f)∧(c=0↔f=g)∧But [] w w':=by
 have hfd:0<f.den:=Nat.pos_of_ne_zero f.den_nz
 have hgd:0<g.den:=Nat.pos_of_ne_zero g.den_nz
 obtain⟨lf1,lf2⟩:=lf
 obtain⟨lg1,lg2⟩:=lg
 have d1:(wd 4294967296 ((f.den:Nat):Int).natAbs).length≤2000000:=by rw[Int.natAbs_natCast];exact lf2
 have d2:(wd 4294967296 ((g.den:Nat):Int).natAbs).length≤2000000:=by rw[Int.natAbs_natCast];exact lg2
 have p1:=qp f.num (g.den:Int) _ _ lf1 d2
 have p2:=qp g.num (f.den:Int) _ _ lg1 d1
 have l1:=Rat.lt_iff (a:=f) (b:=g)
 have l2:=Rat.lt_iff (a:=g) (b:=f)
 have e0:f=g↔¬ f<g∧¬ g<f:=⟨fun h=>by rw[h];exact⟨Rat.lt_irrefl,Rat.lt_irrefl⟩,fun ⟨h1,h2⟩=>Rat.le_antisymm (Rat.not_lt.1 h2) (Rat.not_lt.1 h1)⟩
 refine (ratCmpU_any xb yb f.num g.num f.den g.den w hx hy hfd hgd (by omega) (by omega) (by omega) (by omega) _ _ rfl rfl (by omega) (by omega)).mono ?_
 rintro e w' ⟨rfl,hb⟩
 refine⟨_,rfl,?_,?_,?_,hb⟩
 ·rw[l1];unfold dx;split
  ·omega
  ·split <;> omega
 ·rw[l2];unfold dx;split
  ·omega
  ·split <;> omega
 ·rw[e0,l1,l2];unfold dx;split
  ·omega
  ·split <;> omega
end Go.Proofs.YtffghofheeleeaaGreatDoor
