/- Ratios of package tontinebig as fraction -/
import Derived.Test.YtagmkkiagjmimaaGreatDoorSHA
import Derived.Test.YtagmkkiagjmimaaGreatDoorSHB
import Derived.Test.YtagmkkiagjmimaaGreatDoorSHC
namespace Go.Proofs.YtagmkkiagjmimaaGreatDoor
set_option linter.unusedVariables false
open Go.Proofs.Tryz
open Go.RowKit
set_option maxHeartbeats 4000000
set_option maxRecDepth 100000
def zi (w:World) (b:Nat) (f:Rat):Prop:=zx w b f.num (f.den:Int)
theorem zi.but {w w':World} {b:Nat} {f:Rat} (h:zi w b f) (hb:But [] w w'):zi w' b f:=zx.but h hb
def qw (f:Rat) (n:Nat):Prop:=(wd 4294967296 f.num.natAbs).length≤n∧(wd 4294967296 f.den).length≤n
theorem zee (X Y:Nat):(wd 4294967296 (X*Y)).length≤(wd 4294967296 X).length+(wd 4294967296 Y).length:=by(
 refine aj (by omega) _ _ ?_
 rw[Nat.pow_add]
 have h1:=ak (B:=4294967296) (by omega) X _ (Nat.le_refl _)
 have h2:=ak (B:=4294967296) (by omega) Y _ (Nat.le_refl _)
 rcases Nat.eq_zero_or_pos Y with h | h
 ·subst h;rw[Nat.mul_zero];exact Nat.mul_pos (Nat.pow_pos (by omega)) (Nat.pow_pos (by omega))
 ·exact Nat.lt_of_lt_of_le (Nat.mul_lt_mul_of_pos_right h1 h) (Nat.mul_le_mul_left _ (Nat.le_of_lt h2)))
theorem zdc (p q:Int) (hq:q≠0) (f:Rat) (hf:f.num*q=p*(f.den:Int)):f.num=zch (if q<0 then -p else p) q.natAbs∧(f.den:Int)=zci p q.natAbs:=by(
 have hd0:0<f.den:=Nat.pos_of_ne_zero f.den_nz
 have hn0:0<q.natAbs:=by omega
 have hab:f.num.natAbs*q.natAbs=p.natAbs*f.den:=by
  have:=congrArg Int.natAbs hf
  rw[Int.natAbs_mul,Int.natAbs_mul,Int.natAbs_natCast] at this
  exact this
 have hco:Nat.Coprime f.num.natAbs f.den:=f.reduced
 have hd:f.den ∣ q.natAbs:=hco.symm.dvd_of_dvd_mul_left ⟨p.natAbs,by rw[hab,Nat.mul_comm]⟩
 obtain⟨k,hk⟩:=hd
 have hk0:0<k:=by
  rcases Nat.eq_zero_or_pos k with h | h
  ·rw[h,Nat.mul_zero] at hk;omega
  ·exact h
 have hX:p.natAbs=f.num.natAbs*k:=by
  rw[hk,← Nat.mul_assoc,Nat.mul_right_comm] at hab
  exact (Nat.eq_of_mul_eq_mul_right hd0 hab).symm
 have hg:Nat.gcd p.natAbs q.natAbs=k:=by rw[hX,hk,Nat.gcd_mul_right,hco,Nat.one_mul]
 have e1:p.natAbs/k=f.num.natAbs:=by rw[hX,Nat.mul_div_cancel _ hk0]
 have e2:q.natAbs/k=f.den:=by rw[hk,Nat.mul_div_cancel _ hk0]
 refine⟨?_,by rw[zci,hg,e2]⟩
 have hab2:(if q<0 then -p else p).natAbs=p.natAbs:=by split <;> simp
 rw[zch,hab2,hg,e1]
 by_cases hqn:q<0
 ·(
 rw[if_pos hqn]
 by_cases hpn:-p<0
 ·(
 rw[if_pos hpn]
 have:f.num<0:=by
  rcases Int.lt_or_le f.num 0 with h | h
  ·exact h
  ·exfalso
   have h1:f.num*q≤0:=Int.mul_nonpos_of_nonneg_of_nonpos h (by omega)
   have h2:0<p*(f.den:Int):=Int.mul_pos (by omega) (by omega)
   omega
 omega)
 ·(
 rw[if_neg hpn]
 have:0≤f.num:=by
  rcases Int.lt_or_le f.num 0 with h | h
  ·exfalso
   have h1:0<f.num*q:=Int.mul_pos_of_neg_of_neg h hqn
   have h2:p*(f.den:Int)≤0:=Int.mul_nonpos_of_nonpos_of_nonneg (by omega) (by omega)
   omega
  ·exact h
 omega))
 ·(
 rw[if_neg hqn]
 by_cases hpn:p<0
 ·(
 rw[if_pos hpn]
 have:f.num<0:=by
  rcases Int.lt_or_le f.num 0 with h | h
  ·exact h
  ·exfalso
   have h1:0≤f.num*q:=Int.mul_nonneg h (by omega)
   have h2:p*(f.den:Int)<0:=Int.mul_neg_of_neg_of_pos hpn (by omega)
   omega
 omega)
 ·(
 rw[if_neg hpn]
 have:0≤f.num:=by
  rcases Int.lt_or_le f.num 0 with h | h
  ·exfalso
   have h1:f.num*q<0:=Int.mul_neg_of_neg_of_pos h (by omega)
   have h2:0≤p*(f.den:Int):=Int.mul_nonneg (by omega) (by omega)
   omega
  ·exact h
 omega)))
theorem zko (a b:Int) (f:Rat) (w:World) (ha1:-9223372036854775808≤a) (ha2:a<9223372036854775808) (hb1:-9223372036854775808≤b) (hb2:b<9223372036854775808) (hb0:b≠0) (hf:Hid (f.num*b=a*(f.den:Int))) :
   Calls prog 72 #[.int .i64 a,.int .i64 b] w fun e w'=>∃ zb,e=.returned (.pointer (some ⟨zb,0,none⟩))∧But [] w w'∧zi w' zb f∧w.heap.size≤zb:=by(
 have hbz:(b==0)=false:=beq_eq_false_iff_ne.2 hb0
 have hs:=zaw w 113
 have hbw:But [] w (w.alloc (.cells #[.bool false,.slice none 0 0,.bool false,.slice none 0 0] 113)):=(But.refl _ _).alloc _
 obtain⟨e1,e2⟩:=zdc a b hb0 f (ae hf)
 have HE:=af (And.intro e1 e2)
 obtain⟨W0,hW0⟩:∃ W0,W0=w.alloc (.cells #[.bool false,.slice none 0 0,.bool false,.slice none 0 0] 113):=⟨_,rfl⟩
 rw[← hW0] at hs hbw
 have HW0:=af hW0
 have HS:=af hs
 have HBW:=af hbw
 clear e1 e2 hf hW0 hs hbw
 go_enter func72,ntmps72
 go_wp2_with fail
 rw[← ae HW0]
 refine (si a _ ha1 ha2).mono ?_
 rintro e w1 ⟨rfl,B1,I1,S1⟩
 have K1:=af (And.intro B1 I1)
 clear B1 I1 S1
 go_wp2_with fail
 refine (si b _ hb1 hb2).mono ?_
 rintro e w2 ⟨rfl,B2,I2,S2⟩
 have K2:=af (And.intro ((ae K1).1.trans' B2) (And.intro ((ae K1).2.but B2) I2))
 clear B2 I2 S2 K1
 go_wp2_with fail
 refine (vw w.heap.size W0.heap.size 0 w1.heap.size 0 a b w2 ((ae HS).1.but (ae K2).1 (by simp)) ((ae HS).2.but (ae K2).1 (by simp)) (ae K2).2.1 (ae K2).2.2 (by have:=ji a.natAbs (by omega);omega) (by have:=ji b.natAbs (by omega);omega) hb0 f.num (f.den:Int) (ae HE).1 (ae HE).2).mono ?_
 rintro e w3 ⟨rfl,B3,R3⟩
 have FIN:=af (And.intro (((ae HBW).trans' (ae K2).1).trans B3 (by simp)) R3)
 clear B3 R3
 go_wp2
 go_ret
 exact⟨w.heap.size,rfl,(ae FIN).1,(ae FIN).2,Nat.le_refl _⟩)
theorem zxt (o u:Int) (f:Rat) (w:World) (ho1:-9223372036854775808≤o) (ho2:o<9223372036854775808) (hu1:-9223372036854775808≤u) (hu2:u<9223372036854775808) (hf:Hid (f.num*(if u=0 then 1 else u)=o*(f.den:Int))) :
   Calls prog 14 #[.agg #[.int .i64 o,.int .i64 u]] w fun e w'=>∃ zb,e=.returned (.pointer (some ⟨zb,0,none⟩))∧But [] w w'∧zi w' zb f∧w.heap.size≤zb:=by(
 have bw:But [] w (w.alloc (.cells #[.int .i64 o,.int .i64 u] 23)):=(But.refl _ _).alloc _
 by_cases hu:u=0
 ·(
 subst hu
 have NR:=af (fun W=>zko o 1 f W ho1 ho2 (by omega) (by omega) (by omega) (af (by have:=ae hf;rw[if_pos rfl] at this;exact this)))
 clear hf
 go_enter func14,ntmps14
 go_wp2_with fail
 refine (ae NR _).mono ?_
 rintro e w1 ⟨zb,rfl,h1,h2,h3⟩
 have FIN:=af (And.intro (bw.trans' h1) (And.intro h2 (Nat.le_trans bw.size h3)))
 clear h1 h2 h3
 go_wp2
 go_ret
 exact⟨zb,rfl,(ae FIN).1,(ae FIN).2.1,(ae FIN).2.2⟩)
 ·(
 have NR:=af (fun W=>zko o u f W ho1 ho2 hu1 hu2 hu (af (by have:=ae hf;rw[if_neg hu] at this;exact this)))
 have hub:(u==0)=false:=beq_eq_false_iff_ne.2 hu
 clear hf
 go_enter func14,ntmps14
 go_wp2_with fail
 refine (ae NR _).mono ?_
 rintro e w1 ⟨zb,rfl,h1,h2,h3⟩
 have FIN:=af (And.intro (bw.trans' h1) (And.intro h2 (Nat.le_trans bw.size h3)))
 clear h1 h2 h3
 go_wp2
 go_ret
 exact⟨zb,rfl,(ae FIN).1,(ae FIN).2.1,(ae FIN).2.2⟩))
theorem zkg (xb yb:Nat) (f g:Rat) (w:World) (hx:zi w xb f) (hy:zi w yb g) (lf:qw f 2000000) (lg:qw g 2000000) :
   Calls prog 28 #[.pointer (some ⟨xb,0,none⟩),.pointer (some ⟨yb,0,none⟩)] w fun e w'=>∃ zb,e=.returned (.pointer (some ⟨zb,0,none⟩))∧But [] w w'∧zi w' zb (f*g)∧w.heap.size≤zb:=by(
 have hfd:0<f.den:=Nat.pos_of_ne_zero f.den_nz
 have hgd:0<g.den:=Nat.pos_of_ne_zero g.den_nz
 have hQ0:(f.den:Int)*(g.den:Int)≠0:=Int.mul_ne_zero (by omega) (by omega)
 have hc:=sj f g
 rw[Int.natCast_mul] at hc
 obtain⟨e1,e2⟩:=zdc (f.num*g.num) ((f.den:Int)*(g.den:Int)) hQ0 (f*g) hc
 obtain⟨W0,hW0⟩:∃ W0,W0=w.alloc (.cells #[.bool false,.slice none 0 0,.bool false,.slice none 0 0] 113):=⟨_,rfl⟩
 have hs:=zaw w 113
 have hbw:But [] w W0:=by rw[hW0];exact (But.refl _ _).alloc _
 rw[← hW0] at hs
 have l1:=zee f.num.natAbs g.num.natAbs
 have l2:=zee f.den g.den
 obtain⟨lf1,lf2⟩:=lf
 obtain⟨lg1,lg2⟩:=lg
 have MU:=af (qcp w.heap.size xb yb f.num g.num f.den g.den W0 hs.1 hs.2 (zx.but hx hbw) (zx.but hy hbw) hfd hgd (by omega) (by omega) (by omega) (by omega) _ _ rfl rfl (by rw[Int.natAbs_mul];omega) (by rw[Int.natAbs_mul,Int.natAbs_natCast,Int.natAbs_natCast];omega) hQ0 (f*g).num ((f*g).den:Int) e1 e2)
 have HW0:=af hW0
 have HBW:=af hbw
 clear hW0 hbw hs e1 e2 hc hQ0 l1 l2 lf1 lf2 lg1 lg2 hx hy hfd hgd
 go_enter func28,ntmps28
 go_wp2_with fail
 rw[← ae HW0]
 refine (ae MU).mono ?_
 rintro e w1 ⟨rfl,h1,h2⟩
 have FIN:=af (And.intro ((ae HBW).trans h1 (by simp)) h2)
 clear h1 h2 MU
 go_wp2
 go_ret
 exact⟨w.heap.size,rfl,(ae FIN).1,(ae FIN).2,Nat.le_refl _⟩)
theorem zzn (f g q:Rat) (h:q*g=f):q.num*((f.den:Int)*g.num)=f.num*(g.den:Int)*(q.den:Int):=by(
 have hc:=sj q g
 rw[h,Int.natCast_mul] at hc
 grind)
theorem zqt (xb yb:Nat) (f g q:Rat) (w:World) (hx:zi w xb f) (hy:zi w yb g) (lf:qw f 2000000) (lg:qw g 2000000) (hg0:g.num≠0) (hq:q*g=f) :
   Calls prog 26 #[.pointer (some ⟨xb,0,none⟩),.pointer (some ⟨yb,0,none⟩)] w fun e w'=>∃ zb,e=.returned (.pointer (some ⟨zb,0,none⟩))∧But [] w w'∧zi w' zb q∧w.heap.size≤zb:=by(
 have hfd:0<f.den:=Nat.pos_of_ne_zero f.den_nz
 have hgd:0<g.den:=Nat.pos_of_ne_zero g.den_nz
 have hQ0:(f.den:Int)*g.num≠0:=Int.mul_ne_zero (by omega) hg0
 obtain⟨e1,e2⟩:=zdc (f.num*(g.den:Int)) ((f.den:Int)*g.num) hQ0 q (zzn f g q hq)
 obtain⟨W0,hW0⟩:∃ W0,W0=w.alloc (.cells #[.bool false,.slice none 0 0,.bool false,.slice none 0 0] 113):=⟨_,rfl⟩
 have hs:=zaw w 113
 have hbw:But [] w W0:=by rw[hW0];exact (But.refl _ _).alloc _
 rw[← hW0] at hs
 have l1:=zee f.num.natAbs g.den
 have l2:=zee f.den g.num.natAbs
 obtain⟨lf1,lf2⟩:=lf
 obtain⟨lg1,lg2⟩:=lg
 have QU:=af (qbg w.heap.size xb yb f.num g.num f.den g.den W0 hs.1 hs.2 (zx.but hx hbw) (zx.but hy hbw) hfd hgd (by omega) (by omega) (by omega) (by omega) _ _ rfl rfl (by rw[Int.natAbs_mul,Int.natAbs_natCast];omega) (by rw[Int.natAbs_mul,Int.natAbs_natCast];omega) hQ0 q.num (q.den:Int) e1 e2)
 obtain⟨s,hss⟩:∃ s,s=g.num.sign:=⟨_,rfl⟩
 have hs0:(s==0)=false:=beq_eq_false_iff_ne.2 (by rw[hss];exact fun h=>hg0 (Int.sign_eq_zero_iff_zero.1 h))
 have SG:=af (zdz yb g.num (g.den:Int) w hy s hss (by omega))
 have HW0:=af hW0
 have HBW:=af hbw
 clear hW0 hbw hs e1 e2 hQ0 l1 l2 lf1 lf2 lg1 lg2 hx hy hfd hgd hss hg0 hq
 go_enter func26,ntmps26
 go_wp2_with fail
 refine (ae SG).mono ?_
 rintro e w1 ⟨rfl,hw⟩
 obtain rfl:=hw.symm
 clear hw
 go_wp2_with fail
 rw[← ae HW0]
 refine (ae QU).mono ?_
 rintro e w1 ⟨rfl,h1,h2⟩
 have FIN:=af (And.intro ((ae HBW).trans h1 (by simp)) h2)
 clear h1 h2 QU
 go_wp2
 go_ret
 exact⟨w.heap.size,rfl,(ae FIN).1,(ae FIN).2,Nat.le_refl _⟩)
end Go.Proofs.YtagmkkiagjmimaaGreatDoor
