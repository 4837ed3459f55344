/- Out of HS: what needs no more than these -/
import Derived.Test.YtpfnnhjnakmnoaaGreatDoorKMHD
import Derived.Test.YtpfnnhjnakmnoaaGreatDoorKMHP
namespace Go.Proofs.YtpfnnhjnakmnoaaGreatDoor
open Go.RowKit
theorem lenU_mono {a b:Nat} (h:a≤b):(wd 4294967296 a).length≤(wd 4294967296 b).length:=wd_length_le (by omega) _ _ (Nat.lt_of_le_of_lt h (lt_of_wd_length (by omega) b _ (Nat.le_refl _)))
theorem lenU_add (a b n:Nat) (ha:(wd 4294967296 a).length≤n) (hb:(wd 4294967296 b).length≤n):(wd 4294967296 (a+b)).length≤n+1:=by
 refine wd_length_le (by omega) _ _ ?_
 have h1:=lt_of_wd_length (B:=4294967296) (by omega) a n ha
 have h2:=lt_of_wd_length (B:=4294967296) (by omega) b n hb
 rw [Nat.pow_succ]
 omega
end Go.Proofs.YtpfnnhjnakmnoaaGreatDoor

namespace Go.Proofs.YtpfnnhjnakmnoaaGreatDoor
open Go.RowKit
set_option maxHeartbeats 4000000
set_option maxRecDepth 100000
theorem lenU_int_add (x y:Int) (n:Nat) (hx:(wd 4294967296 x.natAbs).length≤n) (hy:(wd 4294967296 y.natAbs).length≤n):(wd 4294967296 (x+y).natAbs).length≤n+1 :=
 Nat.le_trans (lenU_mono (Int.natAbs_add_le x y)) (lenU_add _ _ n hx hy)
theorem lenU_of (f:Rat) (p q:Int) (n:Nat) (hq:q≠0) (h:f.num*q=p*(f.den:Int)) (hp:(wd 4294967296 p.natAbs).length≤n) (hl:(wd 4294967296 q.natAbs).length≤n):LenU f n:=by
 obtain ⟨e1,e2⟩:=red_rat p q hq f h
 constructor
 ·have h1:f.num.natAbs=p.natAbs/Nat.gcd p.natAbs q.natAbs:=by
   rw [e1,redN_abs]
   split <;> simp
  rw [h1]
  exact Nat.le_trans (lenU_mono (Nat.div_le_self _ _)) hp
 ·have h2:f.den=q.natAbs/Nat.gcd p.natAbs q.natAbs:=by
   have:=e2
   rw [redD] at this
   omega
  rw [h2]
  exact Nat.le_trans (lenU_mono (Nat.div_le_self _ _)) hl
theorem LenU.mono {f:Rat} {m n:Nat} (h:LenU f m) (hmn:m≤n):LenU f n:=⟨Nat.le_trans h.1 hmn,Nat.le_trans h.2 hmn⟩
theorem cross_addU (f g:Rat):(f+g).num*((f.den:Int)*(g.den:Int))=(f.num*(g.den:Int)+g.num*(f.den:Int))*((f+g).den:Int):=by
 have h:=cross_add f g
 grind
theorem lenU_prod (x y:Int) (m n:Nat) (hx:(wd 4294967296 x.natAbs).length≤m) (hy:(wd 4294967296 y.natAbs).length≤n):(wd 4294967296 (x*y).natAbs).length≤m+n:=by
 rw [Int.natAbs_mul]
 have:=lenU_mul x.natAbs y.natAbs
 omega
theorem LenU.mul {f g:Rat} {m n:Nat} (hf:LenU f m) (hg:LenU g n):LenU (f*g) (m+n):=by
 have hfd:0<f.den:=Nat.pos_of_ne_zero f.den_nz
 have hgd:0<g.den:=Nat.pos_of_ne_zero g.den_nz
 have hc:=cross_mul f g
 rw [Int.natCast_mul] at hc
 exact lenU_of _ _ _ _ (Int.mul_ne_zero (by omega) (by omega)) hc (lenU_prod _ _ _ _ hf.1 hg.1) (lenU_prod _ _ _ _ (by rw [Int.natAbs_natCast];exact hf.2) (by rw [Int.natAbs_natCast];exact hg.2))
theorem LenU.add {f g:Rat} {m n:Nat} (hf:LenU f m) (hg:LenU g n):LenU (f+g) (m+n+1):=by
 have hfd:0<f.den:=Nat.pos_of_ne_zero f.den_nz
 have hgd:0<g.den:=Nat.pos_of_ne_zero g.den_nz
 have d1:(wd 4294967296 ((f.den:Nat):Int).natAbs).length≤m:=by rw [Int.natAbs_natCast];exact hf.2
 have d2:(wd 4294967296 ((g.den:Nat):Int).natAbs).length≤n:=by rw [Int.natAbs_natCast];exact hg.2
 refine lenU_of _ _ _ _ (Int.mul_ne_zero (by omega) (by omega)) (cross_addU f g) (lenU_int_add _ _ _ (lenU_prod _ _ _ _ hf.1 d2) ?_) (Nat.le_succ_of_le (lenU_prod _ _ _ _ d1 d2))
 rw [Nat.add_comm m n]
 exact lenU_prod _ _ _ _ hg.1 d1
theorem refAdd_any (xb yb:Nat) (f g:Rat) (w:World) (hx:RatIs w xb f) (hy:RatIs w yb g) (lf:LenU f 2000000) (lg:LenU g 2000000) :
  Calls Tryz.prog 47 #[.pointer (some ⟨xb,0,none⟩),.pointer (some ⟨yb,0,none⟩)] w fun e w'=>∃ zb,e=.returned (.pointer (some ⟨zb,0,none⟩))∧But [] w w'∧RatIs w' zb (f+g)∧w.heap.size≤zb:=by
 have hfd:0<f.den:=Nat.pos_of_ne_zero f.den_nz
 have hgd:0<g.den:=Nat.pos_of_ne_zero g.den_nz
 have hQ0:(f.den:Int)*(g.den:Int)≠0:=Int.mul_ne_zero (by omega) (by omega)
 obtain ⟨e1,e2⟩:=red_rat (f.num*(g.den:Int)+g.num*(f.den:Int)) ((f.den:Int)*(g.den:Int)) hQ0 (f+g) (cross_addU f g)
 obtain ⟨W0,hW0⟩:∃ W0,W0=w.alloc (.cells #[.bool false,.slice none 0 0,.bool false,.slice none 0 0] 82):=⟨_,rfl⟩
 have hs:=ratSlots w 82
 have hbw:But [] w W0:=by rw [hW0];exact (But.refl _ _).alloc _
 rw [← hW0] at hs
 obtain ⟨lf1,lf2⟩:=lf
 obtain ⟨lg1,lg2⟩:=lg
 have d1:(wd 4294967296 ((f.den:Nat):Int).natAbs).length≤2000000:=by rw [Int.natAbs_natCast];exact lf2
 have d2:(wd 4294967296 ((g.den:Nat):Int).natAbs).length≤2000000:=by rw [Int.natAbs_natCast];exact lg2
 have p1:=lenU_prod f.num (g.den:Int) _ _ lf1 d2
 have p2:=lenU_prod g.num (f.den:Int) _ _ lg1 d1
 have p3:=lenU_prod (f.den:Int) (g.den:Int) _ _ d1 d2
 have p4:=lenU_int_add _ _ _ p1 p2
 have MU:=hide (ratAddU_any w.heap.size xb yb f.num g.num f.den g.den W0 hs.1 hs.2 (RatAt.but hx hbw) (RatAt.but hy hbw) hfd hgd (by omega) (by omega) (by omega) (by omega) _ _ _ _ rfl rfl rfl rfl (by omega) (by omega) (by omega) (by omega) hQ0 (f+g).num ((f+g).den:Int) e1 e2)
 have HW0:=hide hW0
 have HBW:=hide hbw
 clear hW0 hbw hs e1 e2 hQ0 p1 p2 p3 p4 d1 d2 lf1 lf2 lg1 lg2 hx hy hfd hgd
 go_enter Tryz.func47,Tryz.ntmps47
 go_wp2_with fail
 rw [← unhide HW0]
 refine (unhide MU).mono ?_
 rintro e w1 ⟨rfl,h1,h2⟩
 have FIN:=hide (And.intro ((unhide HBW).trans h1 (by simp)) h2)
 clear h1 h2 MU
 go_wp2
 go_ret
 exact ⟨w.heap.size,rfl,(unhide FIN).1,(unhide FIN).2,Nat.le_refl _⟩
end Go.Proofs.YtpfnnhjnakmnoaaGreatDoor

namespace Go.Proofs.YtpfnnhjnakmnoaaGreatDoor
open Go.RowKit
theorem lenU_rpow {f:Rat} {m:Nat} (h:LenU f m):∀ n,LenU (rpow f n) (m*n+1)
 | 0=>⟨by show (wd 4294967296 1).length≤_;exact Nat.le_trans (wd_length_le (B:=4294967296) (by omega) 1 1 (by omega)) (by omega),by show (wd 4294967296 1).length≤_;exact Nat.le_trans (wd_length_le (B:=4294967296) (by omega) 1 1 (by omega)) (by omega)⟩
 | n+1=>((lenU_rpow h n).mul h).mono (by rw [Nat.mul_succ];omega)
theorem sign_cases (z:Int):(0<z∧z.sign=1)∨(z=0∧z.sign=0)∨(z<0∧z.sign=-1):=by
 rcases Int.lt_trichotomy z 0 with h | h | h
 ·exact .inr (.inr ⟨h,Int.sign_eq_neg_one_of_neg h⟩)
 ·exact .inr (.inl ⟨h,by rw [h];rfl⟩)
 ·exact .inl ⟨h,Int.sign_eq_one_of_pos h⟩
end Go.Proofs.YtpfnnhjnakmnoaaGreatDoor
