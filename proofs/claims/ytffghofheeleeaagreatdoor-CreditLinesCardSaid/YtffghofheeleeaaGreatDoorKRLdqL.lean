/- The reference's sum of a list.  -/
import Derived.Test.YtffghofheeleeaaGreatDoorKHJrqL
import Derived.Test.YtffghofheeleeaaGreatDoorKHPcqL
import Derived.Test.YtffghofheeleeaaGreatDoorKRLbqL
import Derived.Test.YtffghofheeleeaaGreatDoorKRLqqL
namespace Go.Proofs.YtffghofheeleeaaGreatDoor
open Go.Proofs.Tryz
open Go.RowKit
set_option maxHeartbeats 4000000
set_option maxRecDepth 100000
set_option linter.unusedVariables false
def rz (w:World) (b:Nat) (f:Rat):Prop:=za w b f∨(f=0∧qz w b)
theorem rz.but {w w':World} {b:Nat} {f:Rat} (h:rz w b f) (hb:But [] w w'):rz w' b f:=h.elim (fun h=>.inl (h.but hb)) (fun ⟨e,h⟩=>.inr ⟨e,h.but hb⟩)
theorem zbx {F:Nat→Rat} {c:Nat}:∀ n,(∀ i,i<n→zu (F i) c)→zu (sgR F n) (n*(c+1)+1)
 | 0,_=>by
  have:=zu.int (z:=0) (by decide)
  exact⟨by show (wd 4294967296 0).length≤_;rw[zq];simp,by show (wd 4294967296 1).length≤_;exact Nat.le_trans (aj (B:=4294967296) (by omega) 1 1 (by omega)) (by omega)⟩
 | n+1,h=>((zbx n (fun i hi=>h i (by omega))).add (h n (by omega))).mono (by rw[Nat.succ_mul];omega)
theorem zwa (xb yb:Nat) (f g q:Rat) (w:World) (hx:rz w xb f) (hy:za w yb g) (lf:zu f 2000000) (lg:zu g 2000000) (hg0:g.num≠0) (hq:q*g=f) :
  Calls prog 59 #[.pointer (some ⟨xb,0,none⟩),.pointer (some ⟨yb,0,none⟩)] w fun e w'=>∃ zb,e=.returned (.pointer (some ⟨zb,0,none⟩))∧za w' zb q∧But [] w w':=by
 rcases hx with h|⟨h0,h⟩
 ·exact zfn xb yb f g q w h hy lf lg hg0 hq
 ·have hq0:q=0:=by
   have hne:g≠0:=fun e=>hg0 (by rw[e];rfl)
   rw[h0] at hq
   rcases Rat.mul_eq_zero.1 hq with h | h
   ·exact h
   ·exact absurd h hne
  rw[hq0]
  exact (zii xb yb g w h hy lg hg0).mono fun e w' ⟨zb,he,hb,hr,_⟩=>⟨zb,he,hr,hb⟩
theorem qqn (xb yb:Nat) (g:Rat) (w:World) (hy:za w yb g) (lg:zu g 2000000) (hg0:g.num=0) :
  Calls prog 59 #[.pointer (some ⟨xb,0,none⟩),.pointer (some ⟨yb,0,none⟩)] w fun e w'=>∃ zb,e=.returned (.pointer (some ⟨zb,0,none⟩))∧qz w' zb∧But [] w w':=by
 have SG:=af (zih yb g w hy 0 (by rw[hg0];rfl) lg)
 clear hy lg hg0
 go_enter func59,ntmps59
 go_wp2_with fail
 refine (ae SG).mono ?_
 rintro e w1 ⟨rfl,hb⟩
 have B1:=af hb
 have bn:=znu w1 103
 have bA:But [] w1 (w1.alloc (.cells #[.bool false,.slice none 0 0,.bool false,.slice none 0 0] 103)):=(But.refl _ _).alloc _
 have FIN:=af (And.intro bn ((ae B1).trans' bA))
 clear hb B1 bn bA SG
 go_wp2
 go_ret
 exact⟨_,rfl,(ae FIN).1,(ae FIN).2⟩
def qR (f g:Rat):Rat:=if g.num=0 then 0 else f/g
theorem qqo (xb yb:Nat) (f g:Rat) (w:World) (hx:rz w xb f) (hy:za w yb g) (lf:zu f 2000000) (lg:zu g 2000000) :
  Calls prog 59 #[.pointer (some ⟨xb,0,none⟩),.pointer (some ⟨yb,0,none⟩)] w fun e w'=>∃ zb,e=.returned (.pointer (some ⟨zb,0,none⟩))∧rz w' zb (qR f g)∧But [] w w':=by
 unfold qR
 by_cases hg:g.num=0
 ·rw[if_pos hg]
  exact (qqn xb yb g w hy lg hg).mono fun e w' ⟨zb,he,hb,hB⟩=>⟨zb,he,.inr ⟨rfl,hb⟩,hB⟩
 ·rw[if_neg hg]
  exact (zwa xb yb f g (f/g) w hx hy lf lg hg (Rat.div_mul_cancel (fun e=>hg (by rw[e];rfl)))).mono fun e w' ⟨zb,he,hr,hB⟩=>⟨zb,he,.inl hr,hB⟩
theorem qqm (xb yb:Nat) (f g:Rat) (w:World) (hx:za w xb f) (hy:rz w yb g) (lf:zu f 2000000) (lg:zu g 2000000) :
  Calls prog 47 #[.pointer (some ⟨xb,0,none⟩),.pointer (some ⟨yb,0,none⟩)] w fun e w'=>∃ zb,e=.returned (.pointer (some ⟨zb,0,none⟩))∧za w' zb (f-g)∧But [] w w':=by
 rcases hy with h|⟨h0,h⟩
 ·exact zfm xb yb f g w hx h lf lg
 ·exact (zvx xb yb f g w h0 hx h lf lg).mono fun e w' ⟨zb,he,hb,hr,_⟩=>⟨zb,he,hr,hb⟩
theorem qqp (xb yb:Nat) (f g:Rat) (w:World) (hx:za w xb f) (hy:za w yb g) (lf:zu f 2000000) (lg:zu g 2000000) :
  Calls prog 48 #[.pointer (some ⟨xb,0,none⟩),.pointer (some ⟨yb,0,none⟩)] w fun e w'=>∃ c,e=.returned (.int .i64 c)∧(c<0↔f<g)∧(0<c↔g<f)∧(c=0↔f=g)∧But [] w w':=by
 have hfd:0<f.den:=Nat.pos_of_ne_zero f.den_nz
 have hgd:0<g.den:=Nat.pos_of_ne_zero g.den_nz
 obtain⟨lf1,lf2⟩:=lf
 obtain⟨lg1,lg2⟩:=lg
 have d1:(wd 4294967296 ((f.den:Nat):Int).natAbs).length≤2000000:=by rw[Int.natAbs_natCast];exact lf2
 have d2:(wd 4294967296 ((g.den:Nat):Int).natAbs).length≤2000000:=by rw[Int.natAbs_natCast];exact lg2
 have p1:=qy f.num (g.den:Int) _ _ lf1 d2
 have p2:=qy g.num (f.den:Int) _ _ lg1 d1
 have l1:=Rat.lt_iff (a:=f) (b:=g)
 have l2:=Rat.lt_iff (a:=g) (b:=f)
 have e0:f=g↔¬ f<g∧¬ g<f:=⟨fun h=>by rw[h];exact⟨Rat.lt_irrefl,Rat.lt_irrefl⟩,fun ⟨h1,h2⟩=>Rat.le_antisymm (Rat.not_lt.1 h2) (Rat.not_lt.1 h1)⟩
 refine (zyz xb yb f.num g.num f.den g.den w hx hy hfd hgd (by omega) (by omega) (by omega) (by omega) _ _ rfl rfl (by omega) (by omega)).mono ?_
 rintro e w' ⟨rfl,hb⟩
 refine⟨_,rfl,?_,?_,?_,hb⟩
 ·rw[l1];unfold sj;split
  ·omega
  ·split <;> omega
 ·rw[l2];unfold sj;split
  ·omega
  ·split <;> omega
 ·rw[e0,l1,l2];unfold sj;split
  ·omega
  ·split <;> omega
end Go.Proofs.YtffghofheeleeaaGreatDoor
