/- Division rounded down, as the Go text of packages tontinebig and tontineref makes it. -/
import Derived.Test.YteipfplbcbaheaaGreatDoorKFW
import Derived.Test.YteipfplbcbaheaaGreatDoorKHJ
import Derived.Test.YteipfplbcbaheaaGreatDoorKHK
import Derived.Test.YteipfplbcbaheaaGreatDoorKHL
import Derived.Test.YteipfplbcbaheaaGreatDoorKHP
import Derived.Test.YteipfplbcbaheaaGreatDoorKPx
namespace Go.Proofs.YteipfplbcbaheaaGreatDoor
open Go.RowKit

theorem lenU_mono {a b : Nat} (h : a ≤ b) : (wd 4294967296 a).length ≤ (wd 4294967296 b).length:=wd_length_le (by omega) _ _ (Nat.lt_of_le_of_lt h (lt_of_wd_length (by omega) b _ (Nat.le_refl _)))
theorem lenU_add (a b n : Nat) (ha : (wd 4294967296 a).length ≤ n) (hb : (wd 4294967296 b).length ≤ n) : (wd 4294967296 (a + b)).length ≤ n + 1:=by
 refine wd_length_le (by omega) _ _ ?_
 have h1:=lt_of_wd_length (B:=4294967296) (by omega) a n ha
 have h2:=lt_of_wd_length (B:=4294967296) (by omega) b n hb
 rw [Nat.pow_succ]
 omega
/-- a number stays where blocks turn that hold a Boolean first -/
theorem IntAt.overs {w w' : World} {b o : Nat} {z : Int} {l : List Nat} (h : IntAt w b o z) (hb : But l w w') (hn : b ∉ l) (hc : ∀ g ∈ l,∃ s,w.cell? ⟨g,0,none⟩ = some (.bool s)) : IntAt w' b o z:=by
 obtain ⟨h0,v,h1,hs⟩:=h
 refine ⟨hb.cell_some h0 hn,v,hb.cell_some h1 hn,?_⟩
 obtain ⟨a,cap,rfl,hcp,hk,hi⟩:=hs
 rcases Nat.eq_zero_or_pos (wd 4294967296 z.natAbs).length with h2 | h2
 ·exact ⟨a,cap,rfl,hcp,fun i hi => by omega,fun b off e h1 => by omega⟩
 ·refine Sl.but (xs:=wd 4294967296 z.natAbs) ⟨a,cap,rfl,hcp,hk,hi⟩ hb (fun b' off cap' n e hm => ?_)
  simp only [Value.slice.injEq] at e
  obtain ⟨rfl,-,-⟩:=e
  obtain ⟨s,hs⟩:=hc b' hm
  exact (hi _ _ rfl h2).ne hs (by simp) rfl
theorem Slot.bool {w : World} {b : Nat} (h : Slot w b 0) : ∃ s,w.cell? ⟨b,0,none⟩ = some (.bool s):=h.c0

theorem floor_parts (x y : Int) (hy : 0 < y) : (0 ≤ x.tmod y→x.tdiv y = x / y∧x.tmod y = x % y)∧(x.tmod y < 0→x.tdiv y - 1 = x / y∧x.tmod y + y = x % y):=by
 have h1:=Int.tmod_add_mul_tdiv x y
 have h2:=Int.tmod_lt_of_pos x hy
 have h3 : -y < x.tmod y:=by
  have:=Int.tmod_lt_of_pos (-x) hy
  rw [Int.neg_tmod] at this
  omega
 constructor
 ·intro h
  have:=(Int.ediv_emod_unique (a:=x) (r:=x.tmod y) (q:=x.tdiv y) hy).2 ⟨h1,h,h2⟩
  exact ⟨this.1.symm,this.2.symm⟩
 ·intro h
  have:=(Int.ediv_emod_unique (a:=x) (r:=x.tmod y + y) (q:=x.tdiv y - 1) hy).2 ⟨by rw [Int.mul_sub]; omega,by omega,by omega⟩
  exact ⟨this.1.symm,this.2.symm⟩

set_option maxHeartbeats 8000000 in
set_option maxRecDepth 100000 in
theorem divMod_any (zb rb b1 o1 b2 o2 : Nat) (x y q r : Int) (w : World) (hz : Slot w zb 0) (hr : Slot w rb 0) (hne : zb ≠ rb) (hx : IntAt w b1 o1 x) (hy : IntAt w b2 o2 y) (hy0 : 0 < y) (hlx : (wd 4294967296 x.natAbs).length < 4000000) (hly : (wd 4294967296 y.natAbs).length < 4000000) (hq : Hid (q = x / y)) (hr' : Hid (r = x % y)) :
  Calls Tryz.prog 87 #[.pointer (some ⟨zb,0,none⟩),.pointer (some ⟨b1,o1,none⟩),.pointer (some ⟨b2,o2,none⟩),.pointer (some ⟨rb,0,none⟩)] w fun e w' => e = .returned (.tuple #[.pointer (some ⟨zb,0,none⟩),.pointer (some ⟨rb,0,none⟩)])∧But [zb,rb] w w'∧IntAt w' zb 0 q∧IntAt w' rb 0 r∧Slot w' zb 0∧Slot w' rb 0:=by
 obtain ⟨fp1,fp2⟩:=floor_parts x y hy0
 have eq1:=tdiv_sgU x y (by omega)
 have et1:=tmod_sgU x y
 obtain ⟨q0,hq0⟩ : ∃ q0,q0 = x.tdiv y:=⟨_,rfl⟩
 obtain ⟨t0,ht0⟩ : ∃ t0,t0 = x.tmod y:=⟨_,rfl⟩
 rw [← hq0] at fp1 fp2 eq1
 rw [← ht0] at fp1 fp2 et1
 have lq : (wd 4294967296 q0.natAbs).length < 4000000:=by
  rw [(sgU_sign _ _ q0 eq1).1]
  exact Nat.lt_of_le_of_lt (lenU_mono (Nat.div_le_self _ _)) hlx
 have lt : (wd 4294967296 t0.natAbs).length < 4000000:=by
  rw [(sgU_sign _ _ t0 et1).1]
  exact Nat.lt_of_le_of_lt (lenU_mono (Nat.mod_le _ _)) hlx
 obtain ⟨W0,hW0⟩ : ∃ W0,W0 = w.alloc (.cells #[.bool false,.slice none 0 0] 91):=⟨_,rfl⟩
 obtain ⟨g,hg⟩ : ∃ g,g = w.heap.size:=⟨_,rfl⟩
 have hs:=slot_new w 91
 rw [← hW0,← hg] at hs
 have hbw : But [] w W0:=by rw [hW0]; exact (But.refl _ _).alloc _
 have ngz : zb ≠ g:=by have:=hz.lt; omega
 have ngr : rb ≠ g:=by have:=hr.lt; omega
 have ST:=hide (set_any g 0 b2 o2 y W0 hs (hy.but hbw) (by omega))
 have K0 : Hid (∀ w1 v,But [] W0 w1→Sl .u32 w1 v (wd 4294967296 y.natAbs)→But [] w (putI w1 g 0 v (decide (y < 0)))∧IntAt (putI w1 g 0 v (decide (y < 0))) g 0 y):=fun w1 v k1 k2 => ⟨(hbw.trans' k1).trans (put_but ..) (by simp [hg]),put_int (hs.but k1 (by simp)) _ _ k2⟩
 have QR:=hide (fun W (h : But [] w W) => quoRemU_any zb rb b1 o1 b2 o2 x y q0 t0 W (hz.but h (by simp)) (hr.but h (by simp)) hne (hx.but h) (hy.but h) (by omega) (by omega) (by omega) (by omega) (by omega) eq1 et1)
 have HS:=hide (And.intro hz hr)
 have HW0:=hide hW0
 clear hW0 hs hbw eq1 et1 hq0 ht0 hx hy
 go_enter Tryz.func87,Tryz.ntmps87
 go_wp2_with fail
 rw [← unhide HW0,← hg]
 have HG:=hide hg
 clear hg
 refine (unhide ST).mono ?_
 rintro e w1 ⟨rfl,w0,v0,k1,k2,hw1⟩
 have K1:=unhide K0 w0 v0 k1 k2
 rw [← hw1] at K1
 obtain ⟨B1,I1⟩:=K1
 have QR1:=hide (unhide QR _ B1)
 have H1:=hide (And.intro B1 (And.intro I1 (And.intro ((unhide HS).1.but B1 (by simp)) ((unhide HS).2.but B1 (by simp)))))
 clear k1 k2 hw1 B1 I1 QR ST K0 HW0
 go_wp2_with fail
 refine (unhide QR1).mono ?_
 rintro e w2 ⟨rfl,B2,IZ,IR,SZ,SR⟩
 have I2 : IntAt w2 g 0 y:=(unhide H1).2.1.overs B2 (by simp; omega) (fun g' hg' => by
  simp at hg'
  rcases hg' with rfl | rfl
  ·exact (unhide H1).2.2.1.bool
  ·exact (unhide H1).2.2.2.bool)
 have BB : But [zb,rb] w w2:=(unhide H1).1.of_nil.trans B2 (fun x hx => .inl hx)
 have c0:=IR.1
 have d0:=I2.1
 have F2:=hide (And.intro BB (And.intro IZ (And.intro IR (And.intro SZ (And.intro SR I2)))))
 clear B2 IZ IR SZ SR I2 BB QR1 H1 HS
 by_cases ht : t0 < 0
 ·rw [decide_eq_true ht] at c0
  rw [decide_eq_false (show ¬ y < 0 by omega)] at d0
  have FQ:=hide (And.intro ((unhide hq).trans (fp2 ht).1.symm) ((unhide hr').trans (fp2 ht).2.symm))
  have l1 : (wd 4294967296 (1 : Int).natAbs).length < 8388608:=by have:=len_le_two 1 (by omega); simpa using Nat.lt_of_le_of_lt this (by omega)
  have l2 : (wd 4294967296 q.natAbs).length < 8388608:=by
   have h1 : q.natAbs ≤ q0.natAbs + 1:=by rw [(unhide FQ).1]; omega
   have h2:=lenU_mono h1
   have h3:=lenU_add q0.natAbs 1 4000000 (by omega) (by have:=len_le_two 1 (by omega); omega)
   omega
  have l3 : (wd 4294967296 r.natAbs).length < 8388608:=by
   have h1 : r.natAbs ≤ y.natAbs:=by
    have e1:=Int.emod_nonneg x (show y ≠ 0 by omega)
    have e2:=Int.emod_lt_of_pos x hy0
    rw [unhide hr']
    omega
   have h2:=lenU_mono h1
   omega
  have SU:=hide (fun (W : World) (g1 : Nat) (hs : Slot W zb 0) (h1 : IntAt W zb 0 q0) (h2 : IntAt W g1 0 1) => intSubU_all zb 0 zb 0 g1 0 q0 1 q W hs h1 h2 (by omega) l1 (by omega) (unhide FQ).1)
  have AD:=hide (fun (W : World) (hs : Slot W rb 0) (h1 : IntAt W rb 0 t0) (h2 : IntAt W g 0 y) => intAddU_all rb 0 rb 0 g 0 t0 y r W hs h1 h2 (by omega) (by omega) (by omega) (unhide FQ).2)
  clear fp1 fp2 lq lt l1 l2 l3 hlx hly hq hr' FQ
  go_wp2_with fail
  refine (newInt_any 1 _ (by omega) (by omega)).mono ?_
  rintro e w3 ⟨rfl,B3,I3,S3⟩
  obtain ⟨g1,hg1⟩ : ∃ g1,g1 = w2.heap.size:=⟨_,rfl⟩
  rw [← hg1]
  rw [← hg1] at I3
  have F3 : Hid (But [zb,rb] w w3∧IntAt w3 zb 0 q0∧IntAt w3 rb 0 t0∧Slot w3 zb 0∧Slot w3 rb 0∧IntAt w3 g 0 y∧IntAt w3 g1 0 1):=by
   obtain ⟨BB,IZ,IR,SZ,SR,I2⟩:=unhide F2
   exact ⟨BB.trans' B3,IZ.but B3,IR.but B3,SZ.but B3 (by simp),SR.but B3 (by simp),I2.but B3,I3⟩
  clear B3 I3 S3 F2 c0 d0 hg1
  go_wp2_with fail
  refine (unhide SU _ g1 (unhide F3).2.2.2.1 (unhide F3).2.1 (unhide F3).2.2.2.2.2.2).mono ?_
  rintro e w5 ⟨rfl,w4,v4,B4,V4,hw5⟩
  have F5 : Hid (But [zb,rb] w w5∧IntAt w5 zb 0 q∧IntAt w5 rb 0 t0∧Slot w5 zb 0∧Slot w5 rb 0∧IntAt w5 g 0 y):=by
   obtain ⟨BB,IZ,IR,SZ,SR,I2,-⟩:=unhide F3
   have SZ4:=SZ.but B4 (by simp)
   obtain ⟨a4,n4,c4,rfl⟩:=V4.slice
   rw [hw5]
   exact ⟨(BB.trans' B4).trans (put_but ..) (by simp),put_int SZ4 _ _ V4,put_int_other SZ4 _ _ (IR.but B4) (.inl (Ne.symm hne)),put_slot SZ4 _ _ _ _,put_slot_other _ _ (SR.but B4 (by simp)) (.inl (Ne.symm hne)),put_int_other SZ4 _ _ (I2.but B4) (.inl (Ne.symm ngz))⟩
  clear B4 V4 hw5 F3 SU
  go_wp2_with fail
  refine (unhide AD _ (unhide F5).2.2.2.2.1 (unhide F5).2.2.1 (unhide F5).2.2.2.2.2).mono ?_
  rintro e w7 ⟨rfl,w6,v6,B6,V6,hw7⟩
  have F7 : Hid (But [zb,rb] w w7∧IntAt w7 zb 0 q∧IntAt w7 rb 0 r∧Slot w7 zb 0∧Slot w7 rb 0):=by
   obtain ⟨BB,IZ,IR,SZ,SR,I2⟩:=unhide F5
   have SR6:=SR.but B6 (by simp)
   obtain ⟨a6,n6,c6,rfl⟩:=V6.slice
   rw [hw7]
   exact ⟨(BB.trans' B6).trans (put_but ..) (by simp),put_int_other SR6 _ _ (IZ.but B6) (.inl hne),put_int SR6 _ _ V6,put_slot_other _ _ (SZ.but B6 (by simp)) (.inl hne),put_slot SR6 _ _ _ _⟩
  clear B6 V6 hw7 F5 AD
  go_wp2
  go_ret2
  exact ⟨rfl,(unhide F7).1,(unhide F7).2.1,(unhide F7).2.2.1,(unhide F7).2.2.2.1,(unhide F7).2.2.2.2⟩
 ·rw [decide_eq_false ht] at c0
  have FQ:=hide (And.intro ((unhide hq).trans (fp1 (by omega)).1.symm) ((unhide hr').trans (fp1 (by omega)).2.symm))
  clear fp1 fp2 lq lt hlx hly hq hr'
  go_wp2
  go_ret2
  refine ⟨rfl,(unhide F2).1,?_,?_,(unhide F2).2.2.2.1,(unhide F2).2.2.2.2.1⟩
  ·rw [(unhide FQ).1]; exact (unhide F2).2.1
  ·rw [(unhide FQ).2]; exact (unhide F2).2.2.1

set_option maxHeartbeats 8000000 in
set_option maxRecDepth 100000 in
theorem refFloor_any (xb : Nat) (f : Rat) (w : World) (hx : RatIs w xb f) (lf : LenU f 3000000) :
  Calls Tryz.prog 30 #[.pointer (some ⟨xb,0,none⟩)] w fun e w' => ∃ zb,e = .returned (.pointer (some ⟨zb,0,none⟩))∧But [] w w'∧IntAt w' zb 0 (fl f)∧w.heap.size ≤ zb:=by
 have hfd : 0 < f.den:=Nat.pos_of_ne_zero f.den_nz
 obtain ⟨lf1,lf2⟩:=lf
 obtain ⟨W0,hW0⟩ : ∃ W0,W0 = (w.alloc (.cells #[.bool false,.slice none 0 0] 91)).alloc (.cells #[.bool false,.slice none 0 0] 91):=⟨_,rfl⟩
 have s0 : Slot W0 w.heap.size 0:=by rw [hW0]; exact (slot_new w _).but ((But.refl [] _).alloc _) (by simp)
 have s1 : Slot W0 (w.heap.size + 1) 0:=by rw [hW0]; exact slot_new' w _ _
 have hbw : But [] w W0:=by rw [hW0]; exact ((But.refl _ _).alloc _).alloc _
 have hx0:=RatIs.but hx hbw
 obtain ⟨g0,hg0⟩ : ∃ g0,g0 = w.heap.size:=⟨_,rfl⟩
 obtain ⟨g1,hg1⟩ : ∃ g1,g1 = w.heap.size + 1:=⟨_,rfl⟩
 rw [← hg0] at s0
 rw [← hg1] at s1
 have NU:=hide (ratNumU_any xb f.num (f.den : Int) W0 hx0)
 have DE:=hide (ratDenomU_any xb f.num f.den W0 hx0 hfd (by omega))
 have DM:=hide (fun (W : World) (g2 : Nat) (h : But [] W0 W) (hd : IntAt W g2 0 (f.den : Int)) => divMod_any g0 g1 xb 0 g2 0 f.num (f.den : Int) (fl f) (f.num % (f.den : Int)) W (s0.but h (by simp)) (s1.but h (by simp)) (by omega) (hx0.up.but h) hd (by omega) (by omega) (by rw [Int.natAbs_natCast]; omega) rfl rfl)
 have HW0:=hide hW0
 have HB:=hide (And.intro hbw (And.intro hg0 hg1))
 clear hW0 s0 s1 hbw hx0 hx lf1 lf2 hfd
 go_enter Tryz.func30,Tryz.ntmps30
 go_wp2_with fail
 rw [← unhide HW0]
 try rw [← hg1]
 try rw [← hg0]
 clear hg0 hg1
 refine (unhide NU).mono ?_
 rintro e w1 ⟨rfl,hw⟩
 obtain rfl:=hw.symm
 clear hw
 go_wp2_with fail
 refine (unhide DE).mono ?_
 rintro e w1 ⟨rfl,B1,I1⟩
 obtain ⟨g2,hg2⟩ : ∃ g2,g2 = W0.heap.size:=⟨_,rfl⟩
 rw [← hg2]
 rw [← hg2] at I1
 have DM1:=hide (unhide DM w1 g2 B1 I1)
 have H1 : Hid (But [] w w1):=(unhide HB).1.trans' B1
 clear B1 I1 hg2 DM DE NU HW0
 go_wp2_with fail
 refine (unhide DM1).mono ?_
 rintro e w2 ⟨rfl,B2,IZ,-,-,-⟩
 have F2 : Hid (But [] w w2∧IntAt w2 g0 0 (fl f)∧w.heap.size ≤ g0):=⟨(unhide H1).trans B2 (fun x hx => by have:=(unhide HB).2; simp at hx; omega),IZ,by have:=(unhide HB).2; omega⟩
 clear B2 IZ DM1 H1
 go_wp2
 go_ret
 exact ⟨g0,rfl,(unhide F2).1,(unhide F2).2.1,(unhide F2).2.2⟩
end Go.Proofs.YteipfplbcbaheaaGreatDoor

namespace Go.Proofs.YteipfplbcbaheaaGreatDoor
open Go.RowKit

theorem lenU_int_add (x y : Int) (n : Nat) (hx : (wd 4294967296 x.natAbs).length ≤ n) (hy : (wd 4294967296 y.natAbs).length ≤ n) : (wd 4294967296 (x + y).natAbs).length ≤ n + 1 :=
 Nat.le_trans (lenU_mono (Int.natAbs_add_le x y)) (lenU_add _ _ n hx hy)
theorem lenU_int_sub (x y : Int) (n : Nat) (hx : (wd 4294967296 x.natAbs).length ≤ n) (hy : (wd 4294967296 y.natAbs).length ≤ n) : (wd 4294967296 (x - y).natAbs).length ≤ n + 1:=by
 rw [Int.sub_eq_add_neg]
 exact lenU_int_add x (-y) n hx (by rw [Int.natAbs_neg]; exact hy)
/-- lowered numbers are no longer -/
theorem lenU_of (f : Rat) (p q : Int) (n : Nat) (hq : q ≠ 0) (h : f.num * q = p * (f.den : Int)) (hp : (wd 4294967296 p.natAbs).length ≤ n) (hl : (wd 4294967296 q.natAbs).length ≤ n) : LenU f n:=by
 obtain ⟨e1,e2⟩:=red_rat p q hq f h
 constructor
 ·have h1 : f.num.natAbs = p.natAbs / Nat.gcd p.natAbs q.natAbs:=by
   rw [e1,redN_abs]
   split <;> simp
  rw [h1]
  exact Nat.le_trans (lenU_mono (Nat.div_le_self _ _)) hp
 ·have h2 : f.den = q.natAbs / Nat.gcd p.natAbs q.natAbs:=by
   have:=e2
   rw [redD] at this
   omega
  rw [h2]
  exact Nat.le_trans (lenU_mono (Nat.div_le_self _ _)) hl
theorem LenU.mono {f : Rat} {m n : Nat} (h : LenU f m) (hmn : m ≤ n) : LenU f n:=⟨Nat.le_trans h.1 hmn,Nat.le_trans h.2 hmn⟩
theorem cross_subU (f g : Rat) : (f - g).num * ((f.den : Int) * (g.den : Int)) = (f.num * (g.den : Int) - g.num * (f.den : Int)) * ((f - g).den : Int):=by
 have h:=cross_add f (-g)
 rw [← Rat.sub_eq_add_neg] at h
 simp only [Rat.neg_num,Rat.neg_den] at h
 grind
theorem lenU_prod (x y : Int) (m n : Nat) (hx : (wd 4294967296 x.natAbs).length ≤ m) (hy : (wd 4294967296 y.natAbs).length ≤ n) : (wd 4294967296 (x * y).natAbs).length ≤ m + n:=by
 rw [Int.natAbs_mul]
 have:=lenU_mul x.natAbs y.natAbs
 omega
theorem LenU.mul {f g : Rat} {m n : Nat} (hf : LenU f m) (hg : LenU g n) : LenU (f * g) (m + n):=by
 have hfd : 0 < f.den:=Nat.pos_of_ne_zero f.den_nz
 have hgd : 0 < g.den:=Nat.pos_of_ne_zero g.den_nz
 have hc:=cross_mul f g
 rw [Int.natCast_mul] at hc
 exact lenU_of _ _ _ _ (Int.mul_ne_zero (by omega) (by omega)) hc (lenU_prod _ _ _ _ hf.1 hg.1) (lenU_prod _ _ _ _ (by rw [Int.natAbs_natCast]; exact hf.2) (by rw [Int.natAbs_natCast]; exact hg.2))
theorem LenU.sub {f g : Rat} {m n : Nat} (hf : LenU f m) (hg : LenU g n) : LenU (f - g) (m + n + 1):=by
 have hfd : 0 < f.den:=Nat.pos_of_ne_zero f.den_nz
 have hgd : 0 < g.den:=Nat.pos_of_ne_zero g.den_nz
 have d1 : (wd 4294967296 ((f.den : Nat) : Int).natAbs).length ≤ m:=by rw [Int.natAbs_natCast]; exact hf.2
 have d2 : (wd 4294967296 ((g.den : Nat) : Int).natAbs).length ≤ n:=by rw [Int.natAbs_natCast]; exact hg.2
 refine lenU_of _ _ _ _ (Int.mul_ne_zero (by omega) (by omega)) (cross_subU f g) (lenU_int_sub _ _ _ (lenU_prod _ _ _ _ hf.1 d2) ?_) (Nat.le_succ_of_le (lenU_prod _ _ _ _ d1 d2))
 rw [Nat.add_comm m n]
 exact lenU_prod _ _ _ _ hg.1 d1
set_option maxHeartbeats 4000000 in
set_option maxRecDepth 100000 in
theorem refSub_any (xb yb : Nat) (f g : Rat) (w : World) (hx : RatIs w xb f) (hy : RatIs w yb g) (lf : LenU f 2000000) (lg : LenU g 2000000) :
  Calls Tryz.prog 17 #[.pointer (some ⟨xb,0,none⟩),.pointer (some ⟨yb,0,none⟩)] w fun e w' => ∃ zb,e = .returned (.pointer (some ⟨zb,0,none⟩))∧But [] w w'∧RatIs w' zb (f - g)∧w.heap.size ≤ zb:=by
 have hfd : 0 < f.den:=Nat.pos_of_ne_zero f.den_nz
 have hgd : 0 < g.den:=Nat.pos_of_ne_zero g.den_nz
 have hQ0 : (f.den : Int) * (g.den : Int) ≠ 0:=Int.mul_ne_zero (by omega) (by omega)
 obtain ⟨e1,e2⟩:=red_rat (f.num * (g.den : Int) - g.num * (f.den : Int)) ((f.den : Int) * (g.den : Int)) hQ0 (f - g) (cross_subU f g)
 obtain ⟨W0,hW0⟩ : ∃ W0,W0 = w.alloc (.cells #[.bool false,.slice none 0 0,.bool false,.slice none 0 0] 93):=⟨_,rfl⟩
 have hs:=ratSlots w 93
 have hbw : But [] w W0:=by rw [hW0]; exact (But.refl _ _).alloc _
 rw [← hW0] at hs
 obtain ⟨lf1,lf2⟩:=lf
 obtain ⟨lg1,lg2⟩:=lg
 have d1 : (wd 4294967296 ((f.den : Nat) : Int).natAbs).length ≤ 2000000:=by rw [Int.natAbs_natCast]; exact lf2
 have d2 : (wd 4294967296 ((g.den : Nat) : Int).natAbs).length ≤ 2000000:=by rw [Int.natAbs_natCast]; exact lg2
 have p1:=lenU_prod f.num (g.den : Int) _ _ lf1 d2
 have p2:=lenU_prod g.num (f.den : Int) _ _ lg1 d1
 have p3:=lenU_prod (f.den : Int) (g.den : Int) _ _ d1 d2
 have p4:=lenU_int_sub _ _ _ p1 p2
 have MU:=hide (ratSubU_any w.heap.size xb yb f.num g.num f.den g.den W0 hs.1 hs.2 (RatAt.but hx hbw) (RatAt.but hy hbw) hfd hgd (by omega) (by omega) (by omega) (by omega) _ _ _ _ rfl rfl rfl rfl (by omega) (by omega) (by omega) (by omega) hQ0 (f - g).num ((f - g).den : Int) e1 e2)
 have HW0:=hide hW0
 have HBW:=hide hbw
 clear hW0 hbw hs e1 e2 hQ0 p1 p2 p3 p4 d1 d2 lf1 lf2 lg1 lg2 hx hy hfd hgd
 go_enter Tryz.func17,Tryz.ntmps17
 go_wp2_with fail
 rw [← unhide HW0]
 refine (unhide MU).mono ?_
 rintro e w1 ⟨rfl,h1,h2⟩
 have FIN:=hide (And.intro ((unhide HBW).trans h1 (by simp)) h2)
 clear h1 h2 MU
 go_wp2
 go_ret
 exact ⟨w.heap.size,rfl,(unhide FIN).1,(unhide FIN).2,Nat.le_refl _⟩

end Go.Proofs.YteipfplbcbaheaaGreatDoor

namespace Go.Proofs.YteipfplbcbaheaaGreatDoor
open Go.RowKit

theorem lenU_fl (g : Rat) : (wd 4294967296 (fl g).natAbs).length ≤ (wd 4294967296 g.num.natAbs).length:=by
 refine lenU_mono ?_
 unfold fl
 have hd : 0 < g.den:=Nat.pos_of_ne_zero g.den_nz
 have h1:=Int.mul_ediv_add_emod g.num (g.den : Int)
 have h2:=Int.emod_nonneg g.num (show (g.den : Int) ≠ 0 by omega)
 have h3:=Int.emod_lt_of_pos g.num (show (0 : Int) < (g.den : Int) by omega)
 generalize g.num / (g.den : Int) = n at *
 generalize g.num % (g.den : Int) = r at *
 generalize g.num = p at *
 rcases Int.lt_or_le n 0 with h | h
 ·have h4 : (g.den : Int) * (n + 1) ≤ 0:=Int.mul_nonpos_of_nonneg_of_nonpos (by omega) (by omega)
  have h5 : (g.den : Int) * (n + 1) ≤ n + 1:=by
   have:=Int.mul_le_mul_of_nonpos_right (show (1 : Int) ≤ (g.den : Int) by omega) (show n + 1 ≤ 0 by omega)
   omega
  rw [Int.mul_add,Int.mul_one] at h5
  omega
 ·have h4 : n ≤ (g.den : Int) * n:=by
   have:=Int.mul_le_mul_of_nonneg_right (show (1 : Int) ≤ (g.den : Int) by omega) h
   omega
  omega
theorem LenU.int (z : Int) (n : Nat) (h : (wd 4294967296 z.natAbs).length ≤ n) (hn : 1 ≤ n) : LenU ((z : Int) : Rat) n:=by
 obtain ⟨i1,i2⟩:=int_num z
 refine ⟨by rw [i1]; exact h,?_⟩
 rw [i2]
 exact Nat.le_trans (wd_length_le (B:=4294967296) (by omega) 1 1 (by omega)) hn
theorem cand_cross (f : Rat) (q k : Nat) (hq : 0 < q) : (candQ f q k).num * (q : Int) = (fl (f * ((q : Int) : Rat)) + (k : Int)) * ((candQ f q k).den : Int):=by
 have hm:=ratQ_mul (fl (f * ((q : Int) : Rat)) + (k : Int)) q hq
 show (candQ f q k).num * (q : Int) = _
 unfold candQ
 generalize fl (f * ((q : Int) : Rat)) + (k : Int) = n at *
 generalize ratQ n q = x at *
 have hc:=den_cast x
 have h1 : ((x.num * (q : Int) : Int) : Rat) = ((n * (x.den : Int) : Int) : Rat):=by
  rw [Rat.intCast_mul,Rat.intCast_mul,← hc,← hm]
  grind
 exact Rat.intCast_inj.1 h1
theorem lenU_cand (f : Rat) (q k : Nat) (hf : LenU f 2) (hq : 0 < q) (hq2 : q ≤ 1000000) (hk : k < 2) : (wd 4294967296 (fl (f * ((q : Int) : Rat))).natAbs).length ≤ 3∧(wd 4294967296 (fl (f * ((q : Int) : Rat)) + (k : Int)).natAbs).length ≤ 4∧LenU (candQ f q k) 4:=by
 have lq : (wd 4294967296 ((q : Nat) : Int).natAbs).length ≤ 1:=by rw [Int.natAbs_natCast]; exact wd_length_le (by omega) q 1 (by omega)
 have l1:=(LenU.mul hf (LenU.int (q : Int) 1 lq (Nat.le_refl _))).1
 have l2:=Nat.le_trans (lenU_fl (f * ((q : Int) : Rat))) l1
 have l3 : (wd 4294967296 (fl (f * ((q : Int) : Rat)) + (k : Int)).natAbs).length ≤ 4:=lenU_int_add _ _ 3 l2 (by rw [Int.natAbs_natCast]; exact Nat.le_trans (wd_length_le (B:=4294967296) (by omega) k 1 (by omega)) (by omega))
 exact ⟨l2,l3,lenU_of _ _ _ _ (by omega) (cand_cross f q k hq) l3 (by omega)⟩
theorem dist_num (x f : Rat) : (dist x f).num = ((x - f).num.natAbs : Int)∧(dist x f).den = (x - f).den:=by
 obtain ⟨h1,h2,h3⟩:=absR_facts (x - f)
 refine ⟨?_,h2⟩
 have h4:=of_decide_eq_false h3
 show (absR (x - f)).num = _
 omega
theorem LenU.dist {x f : Rat} {n : Nat} (h : LenU (x - f) n) : LenU (dist x f) n:=by
 obtain ⟨h1,h2⟩:=dist_num x f
 exact ⟨by rw [h1,Int.natAbs_natCast]; exact h.1,by rw [h2]; exact h.2⟩

/-- best and far, as far as the search has come -/
def NearSt (f : Rat) (q k : Nat) (b d : Value) (w : World) : Prop :=
 (k = 0∧q = 1∧b = .pointer none∧d = .pointer none) ∨ ∃ u ub db,b = .pointer (some ⟨ub,0,none⟩)∧d = .pointer (some ⟨db,0,none⟩)∧RatIs w ub u∧RatIs w db (dist u f)∧LenU u 4∧Seen f q k u
theorem NearSt.but {f : Rat} {q k : Nat} {b d : Value} {w w' : World} (h : NearSt f q k b d w) (hb : But [] w w') : NearSt f q k b d w':=by
 rcases h with h | ⟨u,ub,db,h1,h2,h3,h4,h5⟩
 ·exact .inl h
 ·exact .inr ⟨u,ub,db,h1,h2,h3.but hb,h4.but hb,h5⟩
theorem NearSt.next {f : Rat} {q : Nat} {b d : Value} {w : World} (h : NearSt f q 2 b d w) (hq : 0 < q) : NearSt f (q + 1) 0 b d w:=by
 rcases h with ⟨h,-⟩ | ⟨u,ub,db,h1,h2,h3,h4,h5,h6⟩
 ·omega
 ·exact .inr ⟨u,ub,db,h1,h2,h3,h4,h5,seen_next h6 hq⟩

set_option maxHeartbeats 16000000 in
set_option maxRecDepth 100000 in
theorem refNear_any (ab : Nat) (f : Rat) (most : Nat) (w : World) (ha : RatIs w ab f) (lf : LenU f 2) (hm0 : 0 < most) (hm : most ≤ 300) :
  Calls Tryz.prog 48 #[.pointer (some ⟨ab,0,none⟩),.int .i64 (most : Int)] w fun e w' => ∃ zb x,e = .returned (.pointer (some ⟨zb,0,none⟩))∧But [] w w'∧RatIs w' zb x∧Best f most x∧LenU x 4:=by
 have hfd : 0 < f.den:=Nat.pos_of_ne_zero f.den_nz
 have HA:=hide ha
 have HL:=hide lf
 clear ha lf
 go_enter Tryz.func48,Tryz.ntmps48
 go_wp2
 go_loopw [5,6,7] (fun b d q wr => ∃ n : Nat,0 < n∧n ≤ most + 1∧q = .int .i64 (n : Int)∧Hid (But [] w wr∧NearSt f n 0 b d wr)) (fun _ _ q _ => most + 1 - (intOf q).toNat)
 case atStart => exact ⟨1,by omega,by omega,rfl,But.refl _ _,.inl ⟨rfl,rfl,rfl,rfl⟩⟩
 case round =>
  obtain ⟨n,hn0,hn1,rfl,HI⟩:=hrel
  rename World => wr
  by_cases hlt : n ≤ most
  ·have lq : (wd 4294967296 ((n : Nat) : Int).natAbs).length ≤ 1:=by rw [Int.natAbs_natCast]; exact wd_length_le (by omega) n 1 (by omega)
   have LC:=hide (fun k hk => lenU_cand f n k (unhide HL) hn0 (by omega) hk)
   have IN:=hide (refInt_any (n : Int) wr (by omega) (by omega))
   have MU : Hid (∀ W ib,But [] wr W→RatAt W ib (n : Int) 1→Calls Tryz.prog 19 #[.pointer (some ⟨ab,0,none⟩),.pointer (some ⟨ib,0,none⟩)] W fun e w' => ∃ zb,e = .returned (.pointer (some ⟨zb,0,none⟩))∧But [] W w'∧RatIs w' zb (f * ((n : Int) : Rat))∧W.heap.size ≤ zb):=fun W ib hb hi => refMul_any ab ib f ((n : Int) : Rat) W ((unhide HA).but ((unhide HI).1.trans' hb)) (by unfold RatIs; rw [(int_num (n : Int)).1,(int_num (n : Int)).2]; exact hi) ((unhide HL).mono (by omega)) (LenU.int _ _ (by omega) (by omega))
   have FL : Hid (∀ W zb,RatIs W zb (f * ((n : Int) : Rat))→Calls Tryz.prog 30 #[.pointer (some ⟨zb,0,none⟩)] W fun e w' => ∃ zb,e = .returned (.pointer (some ⟨zb,0,none⟩))∧But [] W w'∧IntAt w' zb 0 (fl (f * ((n : Int) : Rat)))∧W.heap.size ≤ zb):=fun W zb h => refFloor_any zb _ W h ((LenU.mul (unhide HL) (LenU.int (n : Int) 1 lq (Nat.le_refl _))).mono (by omega))
   have LQ:=hide lq
   clear lq
   go_wp2_with fail
   refine (unhide IN).mono ?_
   rintro e w1 ⟨ib,rfl,B1,I1⟩
   have M1:=hide (unhide MU w1 ib B1 I1)
   have HB1:=hide B1
   clear B1 I1 MU IN
   go_wp2_with fail
   refine (unhide M1).mono ?_
   rintro e w2 ⟨mb,rfl,B2,R2,-⟩
   have F1:=hide (unhide FL w2 mb R2)
   have HB2:=hide ((unhide HB1).trans' B2)
   clear B2 R2 FL M1 HB1
   go_wp2_with fail
   refine (unhide F1).mono ?_
   rintro e w3 ⟨nb,rfl,B3,I3,-⟩
   obtain ⟨N,hN⟩ : ∃ N,N = fl (f * ((n : Int) : Rat)):=⟨_,rfl⟩
   rw [← hN] at I3
   have K3:=hide (And.intro ((unhide HI).1.trans' ((unhide HB2).trans' B3)) (And.intro ((unhide HI).2.but ((unhide HB2).trans' B3)) I3))
   have HN:=hide hN
   clear B3 I3 HB2 F1 hN HI
   go_wp2
   go_loopw [5,6,9] (fun b d k wq => ∃ j : Nat,j ≤ 2∧k = .int .i64 (j : Int)∧Hid (But [] w3 wq∧NearSt f n j b d wq)) (fun _ _ k _ => 2 - (intOf k).toNat)
   case atStart => exact ⟨0,by omega,rfl,But.refl _ _,(unhide K3).2.1⟩
   case round =>
    obtain ⟨j,hj,rfl,HJ⟩:=hrel
    rename World => wq
    by_cases hlj : j < 2
    ·obtain ⟨W0,hW0⟩ : ∃ W0,W0 = (wq.alloc (.cells #[.bool false,.slice none 0 0,.bool false,.slice none 0 0] 93)).alloc (.cells #[.bool false,.slice none 0 0] 91):=⟨_,rfl⟩
     obtain ⟨g0,hg0⟩ : ∃ g0,g0 = wq.heap.size:=⟨_,rfl⟩
     obtain ⟨g1,hg1⟩ : ∃ g1,g1 = wq.heap.size + 1:=⟨_,rfl⟩
     have s0 : Slot W0 g0 0∧Slot W0 g0 2:=by
      rw [hW0,hg0]
      exact ⟨(ratSlots wq _).1.but ((But.refl [] _).alloc _) (by simp),(ratSlots wq _).2.but ((But.refl [] _).alloc _) (by simp)⟩
     have s1 : Slot W0 g1 0:=by rw [hW0,hg1]; exact slot_new' wq _ _
     have bw : But [] wq W0:=by rw [hW0]; exact ((But.refl _ _).alloc _).alloc _
     have hz0 : W0.heap.size = wq.heap.size + 2:=by rw [hW0]; simp
     have KI : IntAt W0 nb 0 N:=((unhide K3).2.2.but (unhide HJ).1).but bw
     have hnb:=((unhide K3).2.2.but (unhide HJ).1).lt
     have ne1 : g1 ≠ nb:=by omega
     have LC1:=unhide LC j hlj
     rw [← unhide HN] at LC1
     have NK:=hide (newInt_any (j : Int) W0 (by omega) (by omega))
     have AD : Hid (∀ W kb,But [] W0 W→W0.heap.size ≤ kb→IntAt W kb 0 (j : Int)→Calls Tryz.prog 93 #[.pointer (some ⟨g1,0,none⟩),.pointer (some ⟨nb,0,none⟩),.pointer (some ⟨kb,0,none⟩)] W fun e w' => e = .returned (.pointer (some ⟨g1,0,none⟩))∧But [g1] W w'∧IntAt w' g1 0 (N + (j : Int))∧Slot w' g0 0∧Slot w' g0 2):=fun W kb hb hkb hk => (intAddU_all g1 0 nb 0 kb 0 N (j : Int) (N + (j : Int)) W (s1.but hb (by simp)) (KI.but hb) hk (by omega) (by rw [Int.natAbs_natCast]; have:=wd_length_le (B:=4294967296) (by omega) j 1 (by omega); omega) (by omega) rfl).mono (fun e w' h => by
      obtain ⟨h1,w1,v,h2,h3,rfl⟩:=h
      have hs:=(s1.but hb (by simp)).but h2 (by simp)
      exact ⟨h1,(But.of_nil h2).trans (put_but ..) (by simp),put_int hs _ _ h3,put_slot_other _ _ ((s0.1.but hb (by simp)).but h2 (by simp)) (.inl (by omega)),put_slot_other _ _ ((s0.2.but hb (by simp)).but h2 (by simp)) (.inl (by omega))⟩)
     obtain ⟨e1,e2⟩:=red_rat (N + (j : Int)) (n : Int) (by omega) (candQ f n j) (by rw [unhide HN]; exact cand_cross f n j hn0)
     have SF : Hid (∀ W qb,Slot W g0 0→Slot W g0 2→IntAt W g1 0 (N + (j : Int))→IntAt W qb 0 (n : Int)→Calls Tryz.prog 110 #[.pointer (some ⟨g0,0,none⟩),.pointer (some ⟨g1,0,none⟩),.pointer (some ⟨qb,0,none⟩)] W fun e w' => e = .returned (.pointer (some ⟨g0,0,none⟩))∧But [g0] W w'∧RatIs w' g0 (candQ f n j)):=fun W qb h0 h2 h1 hq => setFracU_any g0 g1 0 qb 0 (N + (j : Int)) (n : Int) W h0 h2 h1 hq (by omega) (by have:=unhide LQ; omega) (by omega) _ _ e1 e2
     have SB : Hid (∀ W,RatIs W g0 (candQ f n j)→RatIs W ab f→Calls Tryz.prog 17 #[.pointer (some ⟨g0,0,none⟩),.pointer (some ⟨ab,0,none⟩)] W fun e w' => ∃ zb,e = .returned (.pointer (some ⟨zb,0,none⟩))∧But [] W w'∧RatIs w' zb (candQ f n j - f)∧W.heap.size ≤ zb):=fun W h1 h2 => refSub_any g0 ab _ f W h1 h2 (LC1.2.2.mono (by omega)) ((unhide HL).mono (by omega))
     have LS:=LC1.2.2.sub (unhide HL)
     have AB : Hid (∀ W zb sb,Slot W zb 0→Slot W zb 2→RatIs W sb (candQ f n j - f)→Calls Tryz.prog 116 #[.pointer (some ⟨zb,0,none⟩),.pointer (some ⟨sb,0,none⟩)] W fun e w' => e = .returned (.pointer (some ⟨zb,0,none⟩))∧But [zb] W w'∧RatIs w' zb (dist (candQ f n j) f)):=fun W zb sb h0 h2 hs => ratAbsU_any zb sb _ _ W h0 h2 hs (LS.mono (by omega)) (dist_num _ _).1 (dist_num _ _).2
     have LD:=hide (And.intro LC1.2.2 LS.dist)
     have HW0:=hide hW0
     have HZ:=hide (And.intro bw (And.intro hz0 (And.intro hg0 hg1)))
     clear hW0 s0 s1 KI ne1 LC1 e1 e2 LS bw hz0 hnb
     go_wp2_with fail
     rw [← unhide HW0]
     try rw [← hg1]
     try rw [← hg0]
     clear hg0 hg1
     refine (unhide NK).mono ?_
     rintro e w4 ⟨rfl,B4,I4,-⟩
     obtain ⟨kb,hkb⟩ : ∃ kb,kb = W0.heap.size:=⟨_,rfl⟩
     rw [← hkb]
     rw [← hkb] at I4
     have AD1:=hide (unhide AD w4 kb B4 (by omega) I4)
     have H4:=hide (And.intro B4 hkb)
     clear B4 I4 hkb AD NK
     go_wp2_with fail
     refine (unhide AD1).mono ?_
     rintro e w5 ⟨rfl,B5,I5,S50,S52⟩
     have H5 : Hid (But [g1] W0 w5∧IntAt w5 g1 0 (N + (j : Int))∧Slot w5 g0 0∧Slot w5 g0 2):=⟨(unhide H4).1.of_nil.trans B5 (fun x hx => .inl hx),I5,S50,S52⟩
     clear B5 I5 S50 S52 AD1
     go_wp2_with fail
     refine (newInt_any (n : Int) _ (by omega) (by omega)).mono ?_
     rintro e w6 ⟨rfl,B6,I6,-⟩
     obtain ⟨qb,hqb⟩ : ∃ qb,qb = w5.heap.size:=⟨_,rfl⟩
     rw [← hqb]
     rw [← hqb] at I6
     have SF1:=hide (unhide SF w6 qb ((unhide H5).2.2.1.but B6 (by simp)) ((unhide H5).2.2.2.but B6 (by simp)) ((unhide H5).2.1.but B6) I6)
     have H6 : Hid (But [g1] W0 w6):=(unhide H5).1.trans' B6
     clear B6 I6 hqb H5 SF H4
     go_wp2_with fail
     refine (unhide SF1).mono ?_
     rintro e w7 ⟨rfl,B7,R7⟩
     have B7w : But [] wq w7:=by
      obtain ⟨bw,hz0,hg0,hg1⟩:=unhide HZ
      exact (bw.trans (unhide H6) (fun x hx => by simp at hx; omega)).trans B7 (fun x hx => by simp at hx; omega)
     have H7 : Hid (But [] wq w7∧RatIs w7 g0 (candQ f n j)):=⟨B7w,R7⟩
     clear B7 R7 B7w SF1 H6
     obtain ⟨W8,hW8⟩ : ∃ W8,W8 = w7.alloc (.cells #[.bool false,.slice none 0 0,.bool false,.slice none 0 0] 93):=⟨_,rfl⟩
     obtain ⟨g3,hg3⟩ : ∃ g3,g3 = w7.heap.size:=⟨_,rfl⟩
     have s8:=ratSlots w7 93
     rw [← hW8,← hg3] at s8
     have b8 : But [] w7 W8:=by rw [hW8]; exact (But.refl _ _).alloc _
     have SB1:=hide (unhide SB W8 ((unhide H7).2.but b8) ((unhide HA).but ((((unhide K3).1.trans' (unhide HJ).1).trans' (unhide H7).1).trans' b8)))
     have H8:=hide (And.intro s8 (And.intro b8 hg3))
     have HW8:=hide hW8
     clear s8 b8 hW8 SB
     go_wp2_with fail
     rw [← unhide HW8]
     try rw [← hg3]
     clear hg3
     refine (unhide SB1).mono ?_
     rintro e w9 ⟨sb,rfl,B9,R9,-⟩
     have AB1:=hide (unhide AB w9 g3 sb ((unhide H8).1.1.but B9 (by simp)) ((unhide H8).1.2.but B9 (by simp)) R9)
     have H9:=hide B9
     clear B9 R9 SB1 AB
     go_wp2_with fail
     refine (unhide AB1).mono ?_
     rintro e w10 ⟨rfl,B10,R10⟩
     have HA0 : Hid (But [] wq w10∧RatIs w10 g0 (candQ f n j)∧RatIs w10 g3 (dist (candQ f n j) f)):=by
      obtain ⟨h1,h2⟩:=unhide H7
      obtain ⟨s8,b8,hg3⟩:=unhide H8
      have b79 : But [] w7 w9:=b8.trans' (unhide H9)
      have b710 : But [] w7 w10:=b79.trans B10 (fun x hx => by simp at hx; omega)
      exact ⟨h1.trans' b710,h2.but b710,R10⟩
     clear B10 R10 AB1 H7 H8 H9 HW8 HW0 HZ
     have HNS:=(unhide HJ).2.but (unhide HA0).1
     have HBQ : Hid (But [] w3 w10):=(unhide HJ).1.trans' (unhide HA0).1
     rcases HNS with ⟨hj0,hn1',rfl,rfl⟩ | ⟨u,ub,db,rfl,rfl,h3,h4,h5,h6⟩
     ·have SF1 : Hid (Seen f n (j + 1) (candQ f n j)):=by show Seen _ _ _ _; rw [hj0,hn1']; exact seen_first f
      clear hj0 hn1'
      go_wp2
      refine ⟨⟨j + 1,by omega,by go_num,unhide HBQ,.inr ⟨_,g0,g3,rfl,rfl,(unhide HA0).2.1,(unhide HA0).2.2,(unhide LD).1,unhide SF1⟩⟩,?_⟩
      simp [intOf]; omega
     ·have hud : 0 < (dist u f).den:=Nat.pos_of_ne_zero (dist u f).den_nz
      have hcd : 0 < (dist (candQ f n j) f).den:=Nat.pos_of_ne_zero (dist (candQ f n j) f).den_nz
      have lu:=(h5.sub (unhide HL)).dist
      have lc:=(unhide LD).2
      have p1:=lenU_prod (dist (candQ f n j) f).num ((dist u f).den : Int) 7 7 lc.1 (by rw [Int.natAbs_natCast]; exact lu.2)
      have p2:=lenU_prod (dist u f).num ((dist (candQ f n j) f).den : Int) 7 7 lu.1 (by rw [Int.natAbs_natCast]; exact lc.2)
      have CM:=hide (ratCmpU_any g3 db (dist (candQ f n j) f).num (dist u f).num (dist (candQ f n j) f).den (dist u f).den w10 (unhide HA0).2.2 h4 hcd hud (by have:=lc.1; omega) (by have:=lu.1; omega) (by have:=lc.2; omega) (by have:=lu.2; omega) _ _ rfl rfl (by omega) (by omega))
      obtain ⟨r,hr⟩ : ∃ r,r = cmpS ((dist (candQ f n j) f).num * ((dist u f).den : Int)) ((dist u f).num * ((dist (candQ f n j) f).den : Int)):=⟨_,rfl⟩
      rw [← hr] at CM
      have HR : Hid (r < 0 ↔ dist (candQ f n j) f < dist u f):=by
       show _ ↔ _
       rw [Rat.lt_iff,hr]
       unfold cmpS
       constructor
       ·intro h
        split at h
        ·assumption
        ·split at h <;> omega
       ·intro h
        rw [if_pos h]
        omega
      have ST:=hide (fun z hz => seen_step (z:=z) h6 hn0 hz hlj)
      have HU:=hide (And.intro h3 (And.intro h4 h5))
      clear h3 h4 h5 h6 lu lc p1 p2 hr hud hcd
      go_wp2_with fail
      refine (unhide CM).mono ?_
      rintro e w11 ⟨rfl,B11⟩
      have HB11:=hide B11
      clear B11 CM
      by_cases hrn : r < 0
      ·go_wp2
       refine ⟨⟨j + 1,by omega,by go_num,(unhide HBQ).trans' (unhide HB11),.inr ⟨_,g0,g3,rfl,rfl,(unhide HA0).2.1.but (unhide HB11),(unhide HA0).2.2.but (unhide HB11),(unhide LD).1,unhide ST _ (.inl ⟨(unhide HR).1 hrn,rfl⟩)⟩⟩,?_⟩
       simp [intOf]; omega
      ·go_wp2
       refine ⟨⟨j + 1,by omega,by go_num,(unhide HBQ).trans' (unhide HB11),.inr ⟨u,ub,db,rfl,rfl,(unhide HU).1.but (unhide HB11),(unhide HU).2.1.but (unhide HB11),(unhide HU).2.2,unhide ST _ (.inr ⟨fun h => by have:=(unhide HR).2 h; omega,rfl⟩)⟩⟩,?_⟩
       simp [intOf]; omega
    ·have hj2 : j = 2:=by omega
     subst hj2
     go_wp2
     refine ⟨⟨n + 1,by omega,by omega,by go_num,(unhide K3).1.trans' (unhide HJ).1,(unhide HJ).2.next hn0⟩,?_⟩
     simp [intOf]; omega
  ·have hn2 : n = most + 1:=by omega
   subst hn2
   have hNS:=(unhide HI).2
   rcases hNS with ⟨-,h,-⟩ | ⟨u,ub,db,rfl,rfl,h3,h4,h5,h6⟩
   ·omega
   ·have FIN:=hide (And.intro (unhide HI).1 (And.intro h3 (And.intro (seen_end h6) h5)))
    clear h3 h4 h5 h6 HI
    go_wp2
    go_ret
    exact ⟨ub,u,rfl,(unhide FIN).1,(unhide FIN).2.1,(unhide FIN).2.2.1,(unhide FIN).2.2.2⟩
end Go.Proofs.YteipfplbcbaheaaGreatDoor
